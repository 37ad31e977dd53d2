/- Part 5 of the walks and facts. -/
import Derived.Test.YtiahdbibeleakaaGreatDoorCt4
import Derived.Lib.SliceRun
set_option maxHeartbeats 16000000
set_option maxRecDepth 100000
set_option linter.unusedSimpArgs false
set_option linter.unusedVariables false
/- Numbers modulo a prime are the powers of one of them: shown by the factors of the prime without 1.
   2^255 - 19 is a prime, and each number modulo it but 0 is a power of 2. The order of the base point is a prime. -/
namespace Go.Proofs.YtiahdbibeleakaaGreatDoor.Mon
def IsP (p : Nat) : Prop := 1 < p ∧ ∀ d, d ∣ p → d = 1 ∨ d = p
def pmf (m : Nat) : Nat → Nat → Nat → Nat
 | 0, _, _ => 1 % m
 | f + 1, a, e => pmf m f (a * a % m) (e / 2) * a ^ (e % 2) % m
theorem pmf_eq (m : Nat) : ∀ (f a e : Nat), e < 2 ^ f → pmf m f a e = a ^ e % m
 | 0, a, e, h => by
  have : e = 0 := by simp at h; exact h
  subst this
  rfl
 | f + 1, a, e, h => by
  have h2 : e / 2 < 2 ^ f := by rw [Nat.pow_succ] at h; omega
  unfold pmf
  rw [pmf_eq m f _ _ h2, ← Nat.pow_mod, Nat.mod_mul_mod, ← Nat.pow_two, ← Nat.pow_mul, ← Nat.pow_add, show 2 * (e / 2) + e % 2 = e by omega]
theorem one_pow_mod {n x : Nat} (hn : 1 < n) (h : x % n = 1) (k : Nat) : x ^ k % n = 1 := by
 rw [Nat.pow_mod, h, Nat.one_pow, Nat.mod_eq_of_lt hn]
theorem mul_one_mod {n x y : Nat} (h : x % n = 1) : x * y % n = y % n := by
 rw [Nat.mul_mod, h, Nat.one_mul, Nat.mod_mod]
theorem pow_gcd {n g : Nat} (hn : 1 < n) (d e : Nat) : g ^ d % n = 1 → g ^ e % n = 1 → g ^ Nat.gcd d e % n = 1 := by
 induction d, e using Nat.gcd.induction with
 | H0 e => intro _ h; rwa [Nat.gcd_zero_left]
 | H1 d e _ ih =>
  intro h1 h2
  rw [Nat.gcd_rec]
  refine ih ?_ h1
  have e1 : g ^ e = (g ^ d) ^ (e / d) * g ^ (e % d) := by rw [← Nat.pow_mul, ← Nat.pow_add, Nat.div_add_mod]
  rw [e1, mul_one_mod (one_pow_mod hn h1 _)] at h2
  exact h2
def prod : List Nat → Nat
 | [] => 1
 | x :: l => x * prod l
theorem prod_coprime {m : Nat} : ∀ (l : List Nat), (∀ x ∈ l, Nat.Coprime x m) → Nat.Coprime (prod l) m
 | [], _ => Nat.coprime_one_left m
 | x :: l, h => Nat.Coprime.mul_left (h x (List.mem_cons_self)) (prod_coprime l fun y hy => h y (List.mem_cons_of_mem _ hy))
theorem divides_part {d N : Nat} (l : List Nat) (hl : ∀ x ∈ l, IsP x) (hN : prod l = N) (hd : d ∣ N) (hne : d ≠ N) : ∃ x ∈ l, d ∣ N / x := by
 obtain ⟨m, hm⟩ := hd
 by_cases h : ∃ x ∈ l, x ∣ m
 ·obtain ⟨x, hx, y, hy⟩ := h
  refine ⟨x, hx, y, ?_⟩
  have hx0 : 0 < x := by have := (hl x hx).1; omega
  rw [hm, hy, Nat.mul_left_comm, Nat.mul_div_cancel_left _ hx0]
 ·exfalso
  have hc : ∀ x ∈ l, Nat.Coprime x m := fun x hx => by
   rcases (hl x hx).2 _ (Nat.gcd_dvd_left x m) with h1 | h1
   ·exact h1
   ·exact absurd ⟨x, hx, h1 ▸ Nat.gcd_dvd_right x m⟩ h
  have hp := prod_coprime l hc
  rw [hN] at hp
  have : m ∣ Nat.gcd N m := Nat.dvd_gcd ⟨d, by rw [hm, Nat.mul_comm]⟩ (Nat.dvd_refl m)
  rw [hp] at this
  have m1 : m = 1 := Nat.dvd_one.1 this
  rw [m1, Nat.mul_one] at hm
  exact hne hm.symm
theorem pigeon : ∀ (n : Nat) (f : Nat → Nat), (∀ i, i < n → f i < n) → (∀ i j, i < n → j < n → f i = f j → i = j) → ∀ y, y < n → ∃ i, i < n ∧ f i = y
 | 0, _, _, _, y, hy => by omega
 | n + 1, f, hf, hi, y, hy => by
  by_cases hl : ∃ i, i < n ∧ f i = n
  ·obtain ⟨i0, hi0, he0⟩ := hl
   have hfn : f n < n := by
    have h1 := hf n (by omega)
    have h2 : f n ≠ n := fun h => by
     have := hi n i0 (by omega) (by omega) (h.trans he0.symm)
     omega
    omega
   have ih := pigeon n (fun i => if i = i0 then f n else f i) (fun i h => by
    by_cases e : i = i0
    ·simp only [e, if_true]; exact hfn
    ·simp only [e, if_false]
     have h1 := hf i (by omega)
     have h2 : f i ≠ n := fun h3 => e (hi i i0 (by omega) (by omega) (h3.trans he0.symm))
     omega) (fun i j h1 h2 h3 => by
    by_cases e1 : i = i0
    ·by_cases e2 : j = i0
     ·omega
     ·simp only [e1, e2, if_true, if_false] at h3
      have := hi n j (by omega) (by omega) h3
      omega
    ·by_cases e2 : j = i0
     ·simp only [e1, e2, if_true, if_false] at h3
      have := hi i n (by omega) (by omega) h3
      omega
     ·simp only [e1, e2, if_false] at h3
      exact hi i j (by omega) (by omega) h3)
   by_cases hyn : y = n
   ·exact ⟨i0, by omega, by omega⟩
   ·obtain ⟨i, h1, h2⟩ := ih y (by omega)
    by_cases e : i = i0
    ·simp only [e, if_true] at h2
     exact ⟨n, by omega, h2⟩
    ·simp only [e, if_false] at h2
     exact ⟨i, by omega, h2⟩
  ·have ih := pigeon n f (fun i h => by
    have h1 := hf i (by omega)
    have h2 : f i ≠ n := fun h3 => hl ⟨i, h, h3⟩
    omega) (fun i j h1 h2 h3 => hi i j (by omega) (by omega) h3)
   by_cases hfn : f n = n
   ·by_cases hyn : y = n
    ·exact ⟨n, by omega, by omega⟩
    ·obtain ⟨i, h1, h2⟩ := ih y (by omega)
     exact ⟨i, by omega, h2⟩
   ·obtain ⟨i, h1, h2⟩ := ih (f n) (by have := hf n (by omega); omega)
    have := hi i n (by omega) (by omega) h2
    omega
structure Gen (n g : Nat) : Prop where
 gt : 1 < n
 per : g ^ (n - 1) % n = 1
 all : ∀ a, 0 < a → a < n → ∃ i, g ^ i % n = a
theorem gen_of {n g : Nat} (hn : 1 < n) (l : List Nat) (hl : ∀ x ∈ l, IsP x) (hN : prod l = n - 1) (hg : g ^ (n - 1) % n = 1) (ho : ∀ x ∈ l, g ^ ((n - 1) / x) % n ≠ 1) : Gen n g := by
 have hord : ∀ k, 0 < k → k < n - 1 → g ^ k % n ≠ 1 := by
  intro k h0 hk he
  have h1 := pow_gcd hn k (n - 1) he hg
  have h2 : Nat.gcd k (n - 1) ∣ n - 1 := Nat.gcd_dvd_right _ _
  have h3 : Nat.gcd k (n - 1) ≤ k := Nat.le_of_dvd h0 (Nat.gcd_dvd_left _ _)
  obtain ⟨x, hx, y, hy⟩ := divides_part l hl hN h2 (by omega)
  refine ho x hx ?_
  rw [hy, Nat.pow_mul]
  exact one_pow_mod hn h1 y
 have hinj : ∀ i j, i < j → j < n - 1 → g ^ i % n ≠ g ^ j % n := by
  intro i j hij hj he
  refine hord (j - i) (by omega) (by omega) ?_
  have e1 : g ^ i * g ^ (n - 1 - i) % n = 1 := by rw [← Nat.pow_add, show i + (n - 1 - i) = n - 1 by omega, hg]
  have e2 : g ^ j * g ^ (n - 1 - i) % n = g ^ (j - i) % n := by
   rw [← Nat.pow_add, show j + (n - 1 - i) = (n - 1) + (j - i) by omega, Nat.pow_add, mul_one_mod hg]
  rw [← e2, Nat.mul_mod, ← he, ← Nat.mul_mod, e1]
 have hpos : ∀ i, i < n - 1 → 0 < g ^ i % n := by
  intro i hi
  apply Nat.pos_of_ne_zero
  intro h0
  have e1 : g ^ i * g ^ (n - 1 - i) % n = 1 := by rw [← Nat.pow_add, show i + (n - 1 - i) = n - 1 by omega, hg]
  rw [Nat.mul_mod, h0, Nat.zero_mul, Nat.zero_mod] at e1
  cases e1
 refine ⟨hn, hg, fun a h0 ha => ?_⟩
 obtain ⟨i, h1, h2⟩ := pigeon (n - 1) (fun i => g ^ i % n - 1) (fun i hi => by
  have := hpos i hi
  have := Nat.mod_lt (g ^ i) (show 0 < n by omega)
  show g ^ i % n - 1 < n - 1
  omega) (fun i j hi hj he => by
  have h1 := hpos i hi
  have h2 := hpos j hj
  have he2 : g ^ i % n - 1 = g ^ j % n - 1 := he
  have he' : g ^ i % n = g ^ j % n := by omega
  by_cases e : i = j
  ·exact e
  ·exfalso
   by_cases hlt : i < j
   ·exact hinj i j hlt hj he'
   ·exact hinj j i (by omega) hi he'.symm) (a - 1) (by omega)
 refine ⟨i, ?_⟩
 have := hpos i h1
 have h3 : g ^ i % n - 1 = a - 1 := h2
 omega
theorem Gen.isP {n g : Nat} (h : Gen n g) : IsP n := by
 obtain ⟨hn, hg, ha⟩ := h
 refine ⟨hn, fun d hd => ?_⟩
 by_cases e : d = n
 ·exact .inr e
 ·left
  have hle := Nat.le_of_dvd (by omega) hd
  have h0 : 0 < d := Nat.pos_of_ne_zero fun h => by
   subst h
   have := Nat.eq_zero_of_zero_dvd hd
   omega
  obtain ⟨i, hi⟩ := ha d h0 (by omega)
  have e1 : g ^ i * g ^ ((n - 1) * (i + 1) - i) % n = 1 := by
   have h2 : i ≤ (n - 1) * (i + 1) := by
    have : 1 * (i + 1) ≤ (n - 1) * (i + 1) := Nat.mul_le_mul_right _ (by omega)
    omega
   rw [← Nat.pow_add, show i + ((n - 1) * (i + 1) - i) = (n - 1) * (i + 1) by omega, Nat.pow_mul]
   exact one_pow_mod hn hg _
  have e2 : d ∣ g ^ i * g ^ ((n - 1) * (i + 1) - i) := by
   refine Nat.dvd_trans ?_ (Nat.dvd_mul_right _ _)
   rw [← Nat.div_add_mod (g ^ i) n, hi]
   exact (Nat.dvd_add_right (Nat.dvd_trans hd (Nat.dvd_mul_right _ _))).2 (Nat.dvd_refl d)
  have e3 : d ∣ 1 := by
   rw [← e1]
   exact (Nat.dvd_mod_iff hd).2 e2
  exact Nat.dvd_one.1 e3
theorem gen_by {n g : Nat} (f : Nat) (l : List Nat) (hn : 1 < n) (hl : ∀ x ∈ l, IsP x) (hN : prod l = n - 1) (hf : n - 1 < 2 ^ f) (hg : pmf n f g (n - 1) = 1) (ho : (l.all fun x => !Nat.beq (pmf n f g ((n - 1) / x)) 1) = true) : Gen n g := by
 refine gen_of hn l hl hN (by rw [← pmf_eq n f g _ hf]; exact hg) fun x hx he => ?_
 have h := List.all_eq_true.1 ho x hx
 rw [pmf_eq n f g _ (Nat.lt_of_le_of_lt (Nat.div_le_self _ _) hf), he] at h
 cases h
theorem isP2 : IsP 2 := ⟨by decide, fun d h => by
 have := Nat.le_of_dvd (by decide) h
 have : d ≠ 0 := fun e => by subst e; have := Nat.eq_zero_of_zero_dvd h; omega
 omega⟩
theorem all_nil {Q : Nat → Prop} : ∀ x ∈ ([] : List Nat), Q x := fun _ h => by cases h
theorem all_cons {Q : Nat → Prop} {a : Nat} {l : List Nat} (h : Q a) (hl : ∀ x ∈ l, Q x) : ∀ x ∈ a :: l, Q x := fun x hx => by
 rcases List.mem_cons.1 hx with e | e
 ·rw [e]; exact h
 ·exact hl x e
theorem pr {n : Nat} (g f : Nat) (l : List Nat) (hl : ∀ x ∈ l, IsP x) (hn : 1 < n := by decide +kernel) (hN : prod l = n - 1 := by decide +kernel) (hf : n - 1 < 2 ^ f := by decide +kernel) (hg : pmf n f g (n - 1) = 1 := by decide +kernel) (ho : (l.all fun x => !Nat.beq (pmf n f g ((n - 1) / x)) 1) = true := by decide +kernel) : Gen n g := gen_by f l hn hl hN hf hg ho
theorem k_ {x : Nat} {l : List Nat} (h : IsP x) (t : ∀ y ∈ l, IsP y) : ∀ y ∈ x :: l, IsP y := all_cons h t
theorem pq1 : IsP 3 := (pr 2 2 [2] (k_ isP2 all_nil)).isP
theorem pq2 : IsP 17 := (pr 3 5 [2, 2, 2, 2] (k_ isP2 (k_ isP2 (k_ isP2 (k_ isP2 all_nil))))).isP
theorem pq3 : IsP 7 := (pr 3 3 [2, 3] (k_ isP2 (k_ pq1 all_nil))).isP
theorem pq4 : IsP 239 := (pr 7 8 [2, 7, 17] (k_ isP2 (k_ pq3 (k_ pq2 all_nil)))).isP
theorem pq5 : IsP 479 := (pr 13 9 [2, 239] (k_ isP2 (k_ pq4 all_nil))).isP
theorem pq6 : IsP 32573 := (pr 2 15 [2, 2, 17, 479] (k_ isP2 (k_ isP2 (k_ pq2 (k_ pq5 all_nil))))).isP
theorem pq7 : IsP 65147 := (pr 2 16 [2, 32573] (k_ isP2 (k_ pq6 all_nil))).isP
theorem pq8 : IsP 5 := (pr 2 3 [2, 2] (k_ isP2 (k_ isP2 all_nil))).isP
theorem pq9 : IsP 11 := (pr 2 4 [2, 5] (k_ isP2 (k_ pq8 all_nil))).isP
theorem pq10 : IsP 353 := (pr 3 9 [2, 2, 2, 2, 2, 11] (k_ isP2 (k_ isP2 (k_ isP2 (k_ isP2 (k_ isP2 (k_ pq9 all_nil))))))).isP
theorem pq11 : IsP 29 := (pr 2 5 [2, 2, 7] (k_ isP2 (k_ isP2 (k_ pq3 all_nil)))).isP
theorem pq12 : IsP 59 := (pr 2 6 [2, 29] (k_ isP2 (k_ pq11 all_nil))).isP
theorem pq13 : IsP 487 := (pr 3 9 [2, 3, 3, 3, 3, 3] (k_ isP2 (k_ pq1 (k_ pq1 (k_ pq1 (k_ pq1 (k_ pq1 all_nil))))))).isP
theorem pq14 : IsP 57467 := (pr 2 16 [2, 59, 487] (k_ isP2 (k_ pq12 (k_ pq13 all_nil)))).isP
theorem pq15 : IsP 13 := (pr 2 4 [2, 2, 3] (k_ isP2 (k_ isP2 (k_ pq1 all_nil)))).isP
theorem pq16 : IsP 131 := (pr 2 8 [2, 5, 13] (k_ isP2 (k_ pq8 (k_ pq15 all_nil)))).isP
theorem pq17 : IsP 132049 := (pr 26 18 [2, 2, 2, 2, 3, 3, 7, 131] (k_ isP2 (k_ isP2 (k_ isP2 (k_ isP2 (k_ pq1 (k_ pq1 (k_ pq3 (k_ pq16 all_nil))))))))).isP
theorem pq18 : IsP 43 := (pr 3 6 [2, 3, 7] (k_ isP2 (k_ pq1 (k_ pq3 all_nil)))).isP
theorem pq19 : IsP 23 := (pr 5 5 [2, 11] (k_ isP2 (k_ pq9 all_nil))).isP
theorem pq20 : IsP 3727 := (pr 3 12 [2, 3, 3, 3, 3, 23] (k_ isP2 (k_ pq1 (k_ pq1 (k_ pq1 (k_ pq1 (k_ pq19 all_nil))))))).isP
theorem pq21 : IsP 1923133 := (pr 2 21 [2, 2, 3, 43, 3727] (k_ isP2 (k_ isP2 (k_ pq1 (k_ pq18 (k_ pq20 all_nil)))))).isP
theorem pq22 : IsP 31 := (pr 3 5 [2, 3, 5] (k_ isP2 (k_ pq1 (k_ pq8 all_nil)))).isP
theorem pq23 : IsP 53 := (pr 2 6 [2, 2, 13] (k_ isP2 (k_ isP2 (k_ pq15 all_nil)))).isP
theorem pq24 : IsP 107 := (pr 2 7 [2, 53] (k_ isP2 (k_ pq23 all_nil))).isP
theorem pq25 : IsP 37 := (pr 2 6 [2, 2, 3, 3] (k_ isP2 (k_ isP2 (k_ pq1 (k_ pq1 all_nil))))).isP
theorem pq26 : IsP 223 := (pr 3 8 [2, 3, 37] (k_ isP2 (k_ pq1 (k_ pq25 all_nil)))).isP
theorem pq27 : IsP 173 := (pr 2 8 [2, 2, 43] (k_ isP2 (k_ isP2 (k_ pq18 all_nil)))).isP
theorem pq28 : IsP 4153 := (pr 5 13 [2, 2, 2, 3, 173] (k_ isP2 (k_ isP2 (k_ isP2 (k_ pq1 (k_ pq27 all_nil)))))).isP
theorem pq29 : IsP 41 := (pr 6 6 [2, 2, 2, 5] (k_ isP2 (k_ isP2 (k_ isP2 (k_ pq8 all_nil))))).isP
theorem pq30 : IsP 1723 := (pr 3 11 [2, 3, 7, 41] (k_ isP2 (k_ pq1 (k_ pq3 (k_ pq29 all_nil))))).isP
theorem pq31 : IsP 430751 := (pr 17 19 [2, 5, 5, 5, 1723] (k_ isP2 (k_ pq8 (k_ pq8 (k_ pq8 (k_ pq30 all_nil)))))).isP
theorem pq32 : IsP 31757755568855353 := (pr 10 55 [2, 2, 2, 3, 31, 107, 223, 4153, 430751] (k_ isP2 (k_ isP2 (k_ isP2 (k_ pq1 (k_ pq22 (k_ pq24 (k_ pq26 (k_ pq28 (k_ pq31 all_nil)))))))))).isP
theorem pq33 : IsP 19 := (pr 2 5 [2, 3, 3] (k_ isP2 (k_ pq1 (k_ pq1 all_nil)))).isP
theorem pq34 : IsP 83 := (pr 2 7 [2, 41] (k_ isP2 (k_ pq29 all_nil))).isP
theorem pq35 : IsP 9463 := (pr 3 14 [2, 3, 19, 83] (k_ isP2 (k_ pq1 (k_ pq33 (k_ pq34 all_nil))))).isP
theorem pq36 : IsP 37853 := (pr 2 16 [2, 2, 9463] (k_ isP2 (k_ isP2 (k_ pq35 all_nil)))).isP
theorem pq37 : IsP 75707 := (pr 2 17 [2, 37853] (k_ isP2 (k_ pq36 all_nil))).isP
theorem pq38 : IsP 47 := (pr 5 6 [2, 23] (k_ isP2 (k_ pq19 all_nil))).isP
theorem pq39 : IsP 127 := (pr 3 7 [2, 3, 3, 7] (k_ isP2 (k_ pq1 (k_ pq1 (k_ pq3 all_nil))))).isP
theorem pq40 : IsP 103 := (pr 5 7 [2, 3, 17] (k_ isP2 (k_ pq1 (k_ pq2 all_nil)))).isP
theorem pq41 : IsP 991 := (pr 6 10 [2, 3, 3, 5, 11] (k_ isP2 (k_ pq1 (k_ pq1 (k_ pq8 (k_ pq9 all_nil)))))).isP
theorem pq42 : IsP 8574133 := (pr 2 24 [2, 2, 3, 7, 103, 991] (k_ isP2 (k_ isP2 (k_ pq1 (k_ pq3 (k_ pq40 (k_ pq41 all_nil))))))).isP
theorem pq43 : IsP 1919519569386763 := (pr 2 51 [2, 3, 7, 19, 47, 47, 127, 8574133] (k_ isP2 (k_ pq1 (k_ pq3 (k_ pq33 (k_ pq38 (k_ pq38 (k_ pq39 (k_ pq42 all_nil))))))))).isP
theorem pq44 : IsP 2437 := (pr 2 12 [2, 2, 3, 7, 29] (k_ isP2 (k_ isP2 (k_ pq1 (k_ pq3 (k_ pq11 all_nil)))))).isP
theorem pq45 : IsP 97 := (pr 5 7 [2, 2, 2, 2, 2, 3] (k_ isP2 (k_ isP2 (k_ isP2 (k_ isP2 (k_ isP2 (k_ pq1 all_nil))))))).isP
theorem pq46 : IsP 419 := (pr 2 9 [2, 11, 19] (k_ isP2 (k_ pq9 (k_ pq33 all_nil)))).isP
theorem pq47 : IsP 569003 := (pr 2 20 [2, 7, 97, 419] (k_ isP2 (k_ pq3 (k_ pq45 (k_ pq46 all_nil))))).isP
theorem pq48 : IsP 2773320623 := (pr 5 32 [2, 2437, 569003] (k_ isP2 (k_ pq44 (k_ pq47 all_nil)))).isP
theorem pq49 : IsP 72106336199 := (pr 7 37 [2, 13, 2773320623] (k_ isP2 (k_ pq15 (k_ pq48 all_nil)))).isP
theorem pq50 : IsP 75445702479781427272750846543864801 := (pr 7 116 [2, 2, 2, 2, 2, 3, 3, 5, 5, 75707, 1919519569386763, 72106336199] (k_ isP2 (k_ isP2 (k_ isP2 (k_ isP2 (k_ isP2 (k_ pq1 (k_ pq1 (k_ pq8 (k_ pq8 (k_ pq37 (k_ pq43 (k_ pq49 all_nil))))))))))))).isP
theorem pq51 : IsP 74058212732561358302231226437062788676166966415465897661863160754340907 := (pr 2 236 [2, 3, 353, 57467, 132049, 1923133, 31757755568855353, 75445702479781427272750846543864801] (k_ isP2 (k_ pq1 (k_ pq10 (k_ pq14 (k_ pq17 (k_ pq21 (k_ pq32 (k_ pq50 all_nil))))))))).isP
theorem pq52 : IsP 34123 := (pr 2 16 [2, 3, 11, 11, 47] (k_ isP2 (k_ pq1 (k_ pq9 (k_ pq9 (k_ pq38 all_nil)))))).isP
theorem pq53 : IsP 409477 := (pr 2 19 [2, 2, 3, 34123] (k_ isP2 (k_ isP2 (k_ pq1 (k_ pq52 all_nil))))).isP
theorem pq54 : IsP 14741173 := (pr 2 24 [2, 2, 3, 3, 409477] (k_ isP2 (k_ isP2 (k_ pq1 (k_ pq1 (k_ pq53 all_nil)))))).isP
theorem pq55 : IsP 58964693 := (pr 2 26 [2, 2, 14741173] (k_ isP2 (k_ isP2 (k_ pq54 all_nil)))).isP
theorem pq56 : IsP 30703 := (pr 3 15 [2, 3, 7, 17, 43] (k_ isP2 (k_ pq1 (k_ pq3 (k_ pq2 (k_ pq18 all_nil)))))).isP
theorem pq57 : IsP 79 := (pr 3 7 [2, 3, 13] (k_ isP2 (k_ pq1 (k_ pq15 all_nil)))).isP
theorem pq58 : IsP 41081 := (pr 3 16 [2, 2, 2, 5, 13, 79] (k_ isP2 (k_ isP2 (k_ isP2 (k_ pq8 (k_ pq15 (k_ pq57 all_nil))))))).isP
theorem pq59 : IsP 82163 := (pr 2 17 [2, 41081] (k_ isP2 (k_ pq58 all_nil))).isP
theorem pq60 : IsP 17231 := (pr 13 15 [2, 5, 1723] (k_ isP2 (k_ pq8 (k_ pq30 all_nil)))).isP
theorem pq61 : IsP 137849 := (pr 3 18 [2, 2, 2, 17231] (k_ isP2 (k_ isP2 (k_ isP2 (k_ pq60 all_nil))))).isP
theorem pq62 : IsP 67 := (pr 2 7 [2, 3, 11] (k_ isP2 (k_ pq1 (k_ pq9 all_nil)))).isP
theorem pq63 : IsP 22111 := (pr 6 15 [2, 3, 5, 11, 67] (k_ isP2 (k_ pq1 (k_ pq8 (k_ pq9 (k_ pq62 all_nil)))))).isP
theorem pq64 : IsP 132667 := (pr 5 18 [2, 3, 22111] (k_ isP2 (k_ pq1 (k_ pq63 all_nil)))).isP
theorem pq65 : IsP 3044861653679985063343 := (pr 5 72 [2, 3, 11, 30703, 82163, 137849, 132667] (k_ isP2 (k_ pq1 (k_ pq9 (k_ pq56 (k_ pq59 (k_ pq61 (k_ pq64 all_nil)))))))).isP
theorem pq66 : IsP 198211423230930754013084525763697 := (pr 5 108 [2, 2, 2, 2, 3, 23, 58964693, 3044861653679985063343] (k_ isP2 (k_ isP2 (k_ isP2 (k_ isP2 (k_ pq1 (k_ pq19 (k_ pq55 (k_ pq65 all_nil))))))))).isP
theorem pq67 : IsP 269 := (pr 2 9 [2, 2, 67] (k_ isP2 (k_ isP2 (k_ pq62 all_nil)))).isP
theorem pq68 : IsP 73 := (pr 5 7 [2, 2, 2, 3, 3] (k_ isP2 (k_ isP2 (k_ isP2 (k_ pq1 (k_ pq1 all_nil)))))).isP
theorem pq69 : IsP 307 := (pr 5 9 [2, 3, 3, 17] (k_ isP2 (k_ pq1 (k_ pq1 (k_ pq2 all_nil))))).isP
theorem pq70 : IsP 113 := (pr 3 7 [2, 2, 2, 2, 7] (k_ isP2 (k_ isP2 (k_ isP2 (k_ isP2 (k_ pq3 all_nil)))))).isP
theorem pq71 : IsP 2939 := (pr 2 12 [2, 13, 113] (k_ isP2 (k_ pq15 (k_ pq70 all_nil)))).isP
theorem pq72 : IsP 5879 := (pr 11 13 [2, 2939] (k_ isP2 (k_ pq71 all_nil))).isP
theorem pq73 : IsP 292386187 := (pr 2 29 [2, 3, 3, 3, 3, 307, 5879] (k_ isP2 (k_ pq1 (k_ pq1 (k_ pq1 (k_ pq1 (k_ pq69 (k_ pq72 all_nil)))))))).isP
theorem pq74 : IsP 213441916511 := (pr 13 38 [2, 5, 73, 292386187] (k_ isP2 (k_ pq8 (k_ pq68 (k_ pq73 all_nil))))).isP
theorem pq75 : IsP 1361 := (pr 3 11 [2, 2, 2, 2, 5, 17] (k_ isP2 (k_ isP2 (k_ isP2 (k_ isP2 (k_ pq8 (k_ pq2 all_nil))))))).isP
theorem pq76 : IsP 2851 := (pr 2 12 [2, 3, 5, 5, 19] (k_ isP2 (k_ pq1 (k_ pq8 (k_ pq8 (k_ pq33 all_nil)))))).isP
theorem pq77 : IsP 2551 := (pr 6 12 [2, 3, 5, 5, 17] (k_ isP2 (k_ pq1 (k_ pq8 (k_ pq8 (k_ pq2 all_nil)))))).isP
theorem pq78 : IsP 1224481 := (pr 13 21 [2, 2, 2, 2, 2, 3, 5, 2551] (k_ isP2 (k_ isP2 (k_ isP2 (k_ isP2 (k_ isP2 (k_ pq1 (k_ pq8 (k_ pq77 all_nil))))))))).isP
theorem pq79 : IsP 3797 := (pr 2 12 [2, 2, 13, 73] (k_ isP2 (k_ isP2 (k_ pq15 (k_ pq68 all_nil))))).isP
theorem pq80 : IsP 531581 := (pr 2 20 [2, 2, 5, 7, 3797] (k_ isP2 (k_ isP2 (k_ pq8 (k_ pq3 (k_ pq79 all_nil)))))).isP
theorem pq81 : IsP 1257559732178653 := (pr 2 51 [2, 2, 3, 7, 23, 1224481, 531581] (k_ isP2 (k_ isP2 (k_ pq1 (k_ pq3 (k_ pq19 (k_ pq78 (k_ pq80 all_nil)))))))).isP
theorem pq82 : IsP 4434155615661930479 := (pr 17 62 [2, 41, 43, 1257559732178653] (k_ isP2 (k_ pq29 (k_ pq18 (k_ pq81 all_nil))))).isP
theorem pq83 : IsP 172054593956031949258510691 := (pr 2 88 [2, 5, 1361, 2851, 4434155615661930479] (k_ isP2 (k_ pq8 (k_ pq75 (k_ pq76 (k_ pq82 all_nil)))))).isP
theorem pq84 : IsP 19757330305831588566944191468367130476339 := (pr 2 134 [2, 269, 213441916511, 172054593956031949258510691] (k_ isP2 (k_ pq67 (k_ pq74 (k_ pq83 all_nil))))).isP
theorem pq85 : IsP 276602624281642239937218680557139826668747 := (pr 2 138 [2, 7, 19757330305831588566944191468367130476339] (k_ isP2 (k_ pq3 (k_ pq84 all_nil)))).isP
theorem genP : Gen 57896044618658097711785492504343953926634992332820282019728792003956564819949 2 := pr 2 255 [2, 2, 3, 65147, 74058212732561358302231226437062788676166966415465897661863160754340907] (k_ isP2 (k_ isP2 (k_ pq1 (k_ pq7 (k_ pq51 all_nil)))))
theorem isL : IsP 7237005577332262213973186563042994240857116359379907606001950938285454250989 := (pr 2 253 [2, 2, 3, 11, 198211423230930754013084525763697, 276602624281642239937218680557139826668747] (k_ isP2 (k_ isP2 (k_ pq1 (k_ pq9 (k_ pq66 (k_ pq85 all_nil))))))).isP
abbrev Fq := Fin pN
theorem genQ : Gen pN 2 := genP
theorem primeP : IsP pN := genQ.isP
theorem dvd_or {a b : Nat} (h : pN ∣ a * b) : pN ∣ a ∨ pN ∣ b := by
 by_cases ha : pN ∣ a
 ·exact .inl ha
 ·right
  have hg : Nat.Coprime pN a := by
   rcases primeP.2 _ (Nat.gcd_dvd_left pN a) with h1 | h1
   ·exact h1
   ·exact absurd (h1 ▸ Nat.gcd_dvd_right pN a) ha
  exact Nat.Coprime.dvd_of_dvd_mul_left hg h
theorem fq_zero {a : Fq} (h : pN ∣ a.val) : a = 0 := by
 apply Fin.ext
 have h1 := Nat.mod_eq_zero_of_dvd h
 rw [Nat.mod_eq_of_lt a.isLt] at h1
 rw [h1]
 rfl
theorem fq_mul {a b : Fq} (h : a * b = 0) : a = 0 ∨ b = 0 := by
 have h1 : a.val * b.val % pN = 0 := by
  have := congrArg Fin.val h
  rw [Fin.val_mul] at this
  exact this
 rcases dvd_or (Nat.dvd_of_mod_eq_zero h1) with h2 | h2
 ·exact .inl (fq_zero h2)
 ·exact .inr (fq_zero h2)
theorem fq_ne {a b : Fq} (ha : a ≠ 0) (hb : b ≠ 0) : a * b ≠ 0 := fun h => by
 rcases fq_mul h with h | h
 ·exact ha h
 ·exact hb h
theorem fermatN {a : Nat} (h0 : 0 < a) (h1 : a < pN) : a ^ (pN - 1) % pN = 1 := by
 obtain ⟨i, hi⟩ := genQ.all a h0 h1
 rw [← hi, ← Nat.pow_mod, ← Nat.pow_mul, Nat.mul_comm, Nat.pow_mul]
 exact one_pow_mod genQ.gt genQ.per i
def finv (a : Fq) : Fq := ⟨pmf pN 255 a.val (pN - 2) % pN, Nat.mod_lt _ (by decide)⟩
theorem finv_mul {a : Fq} (h : a ≠ 0) : a * finv a = 1 := by
 have h0 : 0 < a.val := by
  refine Nat.pos_of_ne_zero fun e => h ?_
  apply Fin.ext
  rw [e]
  rfl
 apply Fin.ext
 rw [Fin.val_mul]
 show a.val * (pmf pN 255 a.val (pN - 2) % pN) % pN = 1
 rw [pmf_eq pN 255 a.val _ (by decide), Nat.mod_mod, Nat.mul_mod_mod]
 have e : a.val * a.val ^ (pN - 2) = a.val ^ (pN - 1) := by
  rw [show pN - 1 = (pN - 2) + 1 by decide, Nat.pow_succ, Nat.mul_comm]
 rw [e]
 exact fermatN h0 a.isLt
def dE : Fq := 37095705934669439343138083508754565189542113879843219016388785533085940283555
def iE : Fq := 19681161376707505956807079304988542015446066515923890162744021073123829784752
theorem iE_sq : iE * iE = -1 := by decide +kernel
theorem dE_half : pmf pN 255 dE.val ((pN - 1) / 2) = pN - 1 := by decide +kernel
theorem not_sq (z : Fq) : z * z ≠ dE := by
 intro h
 have h1 : z.val * z.val % pN = dE.val := by
  have := congrArg Fin.val h
  rwa [Fin.val_mul] at this
 have h2 := dE_half
 rw [pmf_eq pN 255 _ _ (by decide), ← h1, ← Nat.pow_mod, ← Nat.pow_two, ← Nat.pow_mul, show 2 * ((pN - 1) / 2) = pN - 1 by decide] at h2
 by_cases hz : z.val = 0
 ·rw [hz, Nat.zero_pow (by decide)] at h2
  revert h2
  decide
 ·rw [fermatN (Nat.pos_of_ne_zero hz) z.isLt] at h2
  revert h2
  decide
theorem two_ne : (2 : Fq) ≠ 0 := by decide +kernel
theorem one_ne : (1 : Fq) ≠ 0 := by decide +kernel
def On (x y : Fq) : Prop := y * y - x * x = 1 + dE * (x * x * (y * y))
theorem sq_key {i d x1 y1 x2 y2 e : Fq} (hi : i * i = -1) (he : e * e = 1) (h1 : y1 * y1 - x1 * x1 = 1 + d * (x1 * x1 * (y1 * y1))) (h2 : y2 * y2 - x2 * x2 = 1 + d * (x2 * x2 * (y2 * y2))) (h : d * (x1 * x2 * (y1 * y2)) = e) :
  (i * (i * x1 + e * y1)) * (i * (i * x1 + e * y1)) = d * ((i * x1 * y1 * (i * x2 + y2)) * (i * x1 * y1 * (i * x2 + y2))) := by
 grind
theorem fq_cancel {a b c : Fq} (hc : c ≠ 0) (h : a * c = b * c) : a = b := by
 have h1 : (a - b) * c = 0 := by clear hc; grind
 rcases fq_mul h1 with h2 | h2
 ·clear h h1 hc
  grind
 ·exact absurd h2 hc
theorem no_root {A B : Fq} (h : A * A = dE * (B * B)) : B = 0 := by
 refine Classical.byContradiction fun hB => ?_
 have hi := finv_mul hB
 refine not_sq (A * finv B) ?_
 generalize finv B = c at hi ⊢
 grind
theorem nn (e : Fq) : -e * -e = e * e := by grind
theorem z4 {d x1 y1 x2 y2 : Fq} (h : x1 = 0) : d * (x1 * x2 * (y1 * y2)) = 0 := by rw [h]; grind
theorem z5 {d x1 y1 x2 y2 : Fq} (h : y1 = 0) : d * (x1 * x2 * (y1 * y2)) = 0 := by rw [h]; grind
theorem z6 {d x1 y1 x2 y2 : Fq} (h : y2 = 0) : d * (x1 * x2 * (y1 * y2)) = 0 := by rw [h]; grind
theorem z7 {i x y : Fq} (h1 : i * x + y = 0) (h2 : i * x + -y = 0) : 2 * y = 0 := by grind
theorem n1 (d x1 y1 x2 y2 : Fq) : d * (x1 * x2 * (y1 * -y2)) = -(d * (x1 * x2 * (y1 * y2))) := by grind
theorem n2 {d x y : Fq} (h : y * y - x * x = 1 + d * (x * x * (y * y))) : -y * -y - x * x = 1 + d * (x * x * (-y * -y)) := by rw [nn]; exact h
theorem n3 {a : Fq} (h : 1 + a = 0) : a = -1 := by grind
theorem n4 {a : Fq} (h : 1 - a = 0) : a = 1 := by grind
theorem n5 : (-1 : Fq) * -1 = 1 := by grind
theorem n6 : (1 : Fq) * 1 = 1 := by grind
theorem zz : (0 : Fq) * 0 = 0 := by grind
theorem den_ne {x1 y1 x2 y2 e : Fq} (h1 : On x1 y1) (h2 : On x2 y2) (he : e * e = 1) : dE * (x1 * x2 * (y1 * y2)) ≠ e := by
 intro h
 unfold On at h1 h2
 have k1 := no_root (sq_key iE_sq he h1 h2 h)
 have k2 := no_root (sq_key (i := iE) (e := -e) (y2 := -y2) iE_sq (by rw [nn]; exact he) h1 (n2 h2) (by rw [n1, h]))
 have he0 : e ≠ 0 := fun e0 => one_ne (by rw [← he, e0]; exact zz)
 have hx1 : x1 ≠ 0 := fun e0 => he0 (by rw [← h]; exact z4 e0)
 have hy1 : y1 ≠ 0 := fun e0 => he0 (by rw [← h]; exact z5 e0)
 have hy2 : y2 ≠ 0 := fun e0 => he0 (by rw [← h]; exact z6 e0)
 have hi : iE ≠ 0 := by decide +kernel
 have hw : iE * x1 * y1 ≠ 0 := fq_ne (fq_ne hi hx1) hy1
 rcases fq_mul k1 with h3 | h3
 ·exact hw h3
 ·rcases fq_mul k2 with h4 | h4
  ·exact hw h4
  ·rcases fq_mul (z7 h3 h4) with h5 | h5
   ·exact two_ne h5
   ·exact hy2 h5
theorem den_plus {x1 y1 x2 y2 : Fq} (h1 : On x1 y1) (h2 : On x2 y2) : 1 + dE * (x1 * x2 * (y1 * y2)) ≠ 0 := fun h => den_ne (e := -1) h1 h2 n5 (n3 h)
theorem den_minus {x1 y1 x2 y2 : Fq} (h1 : On x1 y1) (h2 : On x2 y2) : 1 - dE * (x1 * x2 * (y1 * y2)) ≠ 0 := fun h => den_ne (e := 1) h1 h2 n6 (n4 h)
structure Pt where
 x : Fq
 y : Fq
 on : On x y
theorem Pt.ext {p q : Pt} (hx : p.x = q.x) (hy : p.y = q.y) : p = q := by
 cases p
 cases q
 simp only at hx hy
 subst hx
 subst hy
 rfl
theorem on_key {d x1 y1 x2 y2 X Y : Fq} (h1 : y1 * y1 - x1 * x1 = 1 + d * (x1 * x1 * (y1 * y1))) (h2 : y2 * y2 - x2 * x2 = 1 + d * (x2 * x2 * (y2 * y2))) (hX : X * (1 + d * (x1 * x2 * (y1 * y2))) = x1 * y2 + y1 * x2) (hY : Y * (1 - d * (x1 * x2 * (y1 * y2))) = y1 * y2 + x1 * x2) :
  (Y * Y - X * X) * ((1 + d * (x1 * x2 * (y1 * y2))) * (1 - d * (x1 * x2 * (y1 * y2))) * ((1 + d * (x1 * x2 * (y1 * y2))) * (1 - d * (x1 * x2 * (y1 * y2))))) = (1 + d * (X * X * (Y * Y))) * ((1 + d * (x1 * x2 * (y1 * y2))) * (1 - d * (x1 * x2 * (y1 * y2))) * ((1 + d * (x1 * x2 * (y1 * y2))) * (1 - d * (x1 * x2 * (y1 * y2))))) := by
 have a : (X * (1 + d * (x1 * x2 * (y1 * y2)))) * (X * (1 + d * (x1 * x2 * (y1 * y2)))) = (x1 * y2 + y1 * x2) * (x1 * y2 + y1 * x2) := by rw [hX]
 have b : (Y * (1 - d * (x1 * x2 * (y1 * y2)))) * (Y * (1 - d * (x1 * x2 * (y1 * y2)))) = (y1 * y2 + x1 * x2) * (y1 * y2 + x1 * x2) := by rw [hY]
 have key : (y1 * y2 + x1 * x2) * (y1 * y2 + x1 * x2) * ((1 + d * (x1 * x2 * (y1 * y2))) * (1 + d * (x1 * x2 * (y1 * y2)))) - (x1 * y2 + y1 * x2) * (x1 * y2 + y1 * x2) * ((1 - d * (x1 * x2 * (y1 * y2))) * (1 - d * (x1 * x2 * (y1 * y2)))) = (1 + d * (x1 * x2 * (y1 * y2))) * (1 - d * (x1 * x2 * (y1 * y2))) * ((1 + d * (x1 * x2 * (y1 * y2))) * (1 - d * (x1 * x2 * (y1 * y2)))) + d * ((x1 * y2 + y1 * x2) * (x1 * y2 + y1 * x2) * ((y1 * y2 + x1 * x2) * (y1 * y2 + x1 * x2))) := by
  clear hX hY a b
  grind
 rw [← a, ← b] at key
 clear hX hY a b h1 h2
 generalize 1 + d * (x1 * x2 * (y1 * y2)) = u at *
 generalize 1 - d * (x1 * x2 * (y1 * y2)) = v at *
 grind
def sx (p q : Pt) : Fq := (p.x * q.y + p.y * q.x) * finv (1 + dE * (p.x * q.x * (p.y * q.y)))
def sy (p q : Pt) : Fq := (p.y * q.y + p.x * q.x) * finv (1 - dE * (p.x * q.x * (p.y * q.y)))
theorem div_mul {a c : Fq} (hc : c ≠ 0) : a * finv c * c = a := by
 have h := finv_mul hc
 generalize finv c = b at *
 clear hc
 grind
theorem sx_mul (p q : Pt) : sx p q * (1 + dE * (p.x * q.x * (p.y * q.y))) = p.x * q.y + p.y * q.x := div_mul (den_plus p.on q.on)
theorem sy_mul (p q : Pt) : sy p q * (1 - dE * (p.x * q.x * (p.y * q.y))) = p.y * q.y + p.x * q.x := div_mul (den_minus p.on q.on)
theorem s_on (p q : Pt) : On (sx p q) (sy p q) := by
 have h := on_key p.on q.on (sx_mul p q) (sy_mul p q)
 have h1 := den_plus p.on q.on
 have h2 := den_minus p.on q.on
 exact fq_cancel (fq_ne (fq_ne h1 h2) (fq_ne h1 h2)) h
def Pt.add (p q : Pt) : Pt := ⟨sx p q, sy p q, s_on p q⟩
def zeroP : Pt := ⟨0, 1, by unfold On; decide +kernel⟩
theorem neg_on {x y : Fq} (h : On x y) : On (-x) y := by
 unfold On at *
 rw [nn]
 exact h
def Pt.neg (p : Pt) : Pt := ⟨-p.x, p.y, neg_on p.on⟩
theorem add_eq {p q r : Pt} (h1 : r.x * (1 + dE * (p.x * q.x * (p.y * q.y))) = p.x * q.y + p.y * q.x) (h2 : r.y * (1 - dE * (p.x * q.x * (p.y * q.y))) = p.y * q.y + p.x * q.x) : p.add q = r :=
 Pt.ext (fq_cancel (den_plus p.on q.on) ((sx_mul p q).trans h1.symm)) (fq_cancel (den_minus p.on q.on) ((sy_mul p q).trans h2.symm))
theorem c1 (d a b c e X : Fq) (h : X * (1 + d * (a * c * (b * e))) = a * e + b * c) : X * (1 + d * (c * a * (e * b))) = c * b + e * a := by grind
theorem c2 (d a b c e X : Fq) (h : X * (1 - d * (a * c * (b * e))) = b * e + a * c) : X * (1 - d * (c * a * (e * b))) = e * b + c * a := by grind
theorem add_comm' (p q : Pt) : p.add q = q.add p := (add_eq (c1 _ _ _ _ _ _ (sx_mul p q)) (c2 _ _ _ _ _ _ (sy_mul p q))).symm
theorem c3 (d a b : Fq) : a * (1 + d * (a * 0 * (b * 1))) = a * 1 + b * 0 := by grind
theorem c4 (d a b : Fq) : b * (1 - d * (a * 0 * (b * 1))) = b * 1 + a * 0 := by grind
theorem add_zero' (p : Pt) : p.add zeroP = p := add_eq (c3 _ _ _) (c4 _ _ _)
theorem c5 (d a b : Fq) : 0 * (1 + d * (a * -a * (b * b))) = a * b + b * -a := by grind
theorem c6 {d a b : Fq} (h : b * b - a * a = 1 + d * (a * a * (b * b))) : 1 * (1 - d * (a * -a * (b * b))) = b * b + a * -a := by grind
theorem add_neg' (p : Pt) : p.add p.neg = zeroP := add_eq (c5 _ _ _) (c6 p.on)
theorem as_x {d x1 y1 x2 y2 x3 y3 : Fq} (e1 : y1 * y1 - x1 * x1 = 1 + d * (x1 * x1 * (y1 * y1))) (e2 : y2 * y2 - x2 * x2 = 1 + d * (x2 * x2 * (y2 * y2))) (e3 : y3 * y3 - x3 * x3 = 1 + d * (x3 * x3 * (y3 * y3))) :
  ((x1 * y2 + y1 * x2) * (1 - d * (x1 * x2 * (y1 * y2))) * y3 + (y1 * y2 + x1 * x2) * (1 + d * (x1 * x2 * (y1 * y2))) * x3) * ((1 + d * (x2 * x3 * (y2 * y3))) * (1 - d * (x2 * x3 * (y2 * y3))) + d * ((x2 * y3 + y2 * x3) * (y2 * y3 + x2 * x3) * (x1 * y1)))
  = ((x2 * y3 + y2 * x3) * (1 - d * (x2 * x3 * (y2 * y3))) * y1 + (y2 * y3 + x2 * x3) * (1 + d * (x2 * x3 * (y2 * y3))) * x1) * ((1 + d * (x1 * x2 * (y1 * y2))) * (1 - d * (x1 * x2 * (y1 * y2))) + d * ((x1 * y2 + y1 * x2) * (y1 * y2 + x1 * x2) * (x3 * y3))) := by
 grind
theorem as_y {d x1 y1 x2 y2 x3 y3 : Fq} (e1 : y1 * y1 - x1 * x1 = 1 + d * (x1 * x1 * (y1 * y1))) (e2 : y2 * y2 - x2 * x2 = 1 + d * (x2 * x2 * (y2 * y2))) (e3 : y3 * y3 - x3 * x3 = 1 + d * (x3 * x3 * (y3 * y3))) :
  ((y1 * y2 + x1 * x2) * (1 + d * (x1 * x2 * (y1 * y2))) * y3 + (x1 * y2 + y1 * x2) * (1 - d * (x1 * x2 * (y1 * y2))) * x3) * ((1 + d * (x2 * x3 * (y2 * y3))) * (1 - d * (x2 * x3 * (y2 * y3))) - d * ((x2 * y3 + y2 * x3) * (y2 * y3 + x2 * x3) * (x1 * y1)))
  = ((y2 * y3 + x2 * x3) * (1 + d * (x2 * x3 * (y2 * y3))) * y1 + (x2 * y3 + y2 * x3) * (1 - d * (x2 * x3 * (y2 * y3))) * x1) * ((1 + d * (x1 * x2 * (y1 * y2))) * (1 - d * (x1 * x2 * (y1 * y2))) - d * ((x1 * y2 + y1 * x2) * (y1 * y2 + x1 * x2) * (x3 * y3))) := by
 grind
theorem up_x {d A B u v X Y L x3 y3 : Fq} (hX : X * u = A) (hY : Y * v = B) (hL : L * (1 + d * (X * x3 * (Y * y3))) = X * y3 + Y * x3) : L * (u * v + d * (A * B * (x3 * y3))) = A * v * y3 + B * u * x3 := by
 subst hX
 subst hY
 grind
theorem up_y {d A B u v X Y L x3 y3 : Fq} (hX : X * u = A) (hY : Y * v = B) (hL : L * (1 - d * (X * x3 * (Y * y3))) = Y * y3 + X * x3) : L * (u * v - d * (A * B * (x3 * y3))) = B * u * y3 + A * v * x3 := by
 subst hX
 subst hY
 grind
theorem up_d {d A B u v X Y x3 y3 : Fq} (hX : X * u = A) (hY : Y * v = B) : (1 + d * (X * x3 * (Y * y3))) * (u * v) = u * v + d * (A * B * (x3 * y3)) := by
 subst hX
 subst hY
 grind
theorem up_e {d A B u v X Y x3 y3 : Fq} (hX : X * u = A) (hY : Y * v = B) : (1 - d * (X * x3 * (Y * y3))) * (u * v) = u * v - d * (A * B * (x3 * y3)) := by
 subst hX
 subst hY
 grind
theorem cross {L M N K D E : Fq} (h1 : L * D = N) (h2 : M * E = K) (h3 : N * E = K * D) (hD : D ≠ 0) (hE : E ≠ 0) : L = M := by
 refine fq_cancel (fq_ne hD hE) ?_
 subst h1
 subst h2
 clear hD hE
 grind
theorem add_assoc' (p q r : Pt) : (p.add q).add r = p.add (q.add r) := by
 have a1 := sx_mul p q
 have a2 := sy_mul p q
 have b1 := sx_mul q r
 have b2 := sy_mul q r
 have d1 := fq_ne (den_plus (p.add q).on r.on) (fq_ne (den_plus p.on q.on) (den_minus p.on q.on))
 have d2 := fq_ne (den_plus (q.add r).on p.on) (fq_ne (den_plus q.on r.on) (den_minus q.on r.on))
 have f1 := fq_ne (den_minus (p.add q).on r.on) (fq_ne (den_plus p.on q.on) (den_minus p.on q.on))
 have f2 := fq_ne (den_minus (q.add r).on p.on) (fq_ne (den_plus q.on r.on) (den_minus q.on r.on))
 rw [show (p.add q).x = sx p q from rfl, show (p.add q).y = sy p q from rfl, up_d a1 a2] at d1
 rw [show (q.add r).x = sx q r from rfl, show (q.add r).y = sy q r from rfl, up_d b1 b2] at d2
 rw [show (p.add q).x = sx p q from rfl, show (p.add q).y = sy p q from rfl, up_e a1 a2] at f1
 rw [show (q.add r).x = sx q r from rfl, show (q.add r).y = sy q r from rfl, up_e b1 b2] at f2
 rw [add_comm' p (q.add r)]
 refine Pt.ext ?_ ?_
 ·exact cross (up_x a1 a2 (sx_mul (p.add q) r)) (up_x b1 b2 (sx_mul (q.add r) p)) (as_x p.on q.on r.on) d1 d2
 ·exact cross (up_y a1 a2 (sy_mul (p.add q) r)) (up_y b1 b2 (sy_mul (q.add r) p)) (as_y p.on q.on r.on) f1 f2
def Pt.mul (p : Pt) : Nat → Pt
 | 0 => zeroP
 | n + 1 => (p.mul n).add p
theorem mul_add' (p : Pt) (m : Nat) : ∀ n, p.mul (m + n) = (p.mul m).add (p.mul n)
 | 0 => (add_zero' _).symm
 | n + 1 => by
  show (p.mul (m + n)).add p = (p.mul m).add ((p.mul n).add p)
  rw [mul_add' p m n, add_assoc']
theorem zero_mul' : ∀ n, zeroP.mul n = zeroP
 | 0 => rfl
 | n + 1 => by
  show (zeroP.mul n).add zeroP = zeroP
  rw [add_zero', zero_mul' n]
theorem mul_mul' (p : Pt) (m : Nat) : ∀ n, p.mul (m * n) = (p.mul m).mul n
 | 0 => rfl
 | n + 1 => by
  show p.mul (m * n + m) = ((p.mul m).mul n).add (p.mul m)
  rw [mul_add', mul_mul' p m n]
def toF (a : Int) : Fq := ⟨(a % Pm).toNat, by have := pmod a; have := pN_P; omega⟩
theorem toF_val (a : Int) : (((toF a).val : Nat) : Int) = a % Pm := by
 show (((a % Pm).toNat : Nat) : Int) = a % Pm
 have := pmod a
 omega
theorem fq_int {a b : Fq} (h : ((a.val : Nat) : Int) = ((b.val : Nat) : Int)) : a = b := Fin.ext (by omega)
theorem toF_mod (a : Int) : toF (a % Pm) = toF a := by
 refine fq_int ?_
 rw [toF_val, toF_val, Int.emod_emod_of_dvd _ (Int.dvd_refl _)]
theorem toF_add (a b : Int) : toF (a + b) = toF a + toF b := by
 refine fq_int ?_
 rw [toF_val, Fin.val_add, Int.natCast_emod, Int.natCast_add, toF_val, toF_val, pN_P, ← Int.add_emod]
theorem toF_mul (a b : Int) : toF (a * b) = toF a * toF b := by
 refine fq_int ?_
 rw [toF_val, Fin.val_mul, Int.natCast_emod, Int.natCast_mul, toF_val, toF_val, pN_P, ← Int.mul_emod]
theorem toF_sub (a b : Int) : toF (a - b) = toF a - toF b := by
 have h := toF_add (a - b) b
 rw [show a - b + b = a by omega] at h
 rw [h]
 generalize toF (a - b) = u
 generalize toF b = v
 grind
theorem toF_inj {a b : Int} (ha : 0 ≤ a ∧ a < Pm) (hb : 0 ≤ b ∧ b < Pm) (h : toF a = toF b) : a = b := by
 have h2 := congrArg (fun x : Fq => ((x.val : Nat) : Int)) h
 simp only [toF_val] at h2
 rwa [Int.emod_eq_of_lt ha.1 ha.2, Int.emod_eq_of_lt hb.1 hb.2] at h2
theorem toF_zero : toF 0 = 0 := by decide +kernel
theorem toF_one : toF 1 = 1 := by decide +kernel
def hlf : Fq := finv 2
theorem hlf_two : 2 * hlf = 1 := finv_mul two_ne
theorem proj {X Z Y : Fq} (h : X * (1 - Y) = Z * (1 + Y)) (hne : ¬ (X = 0 ∧ Z = 0)) : ∃ l, l ≠ 0 ∧ X = l * (1 + Y) ∧ Z = l * (1 - Y) := by
 have hh := hlf_two
 have e1 : X = (X + Z) * hlf * (1 + Y) := by
  clear hne
  generalize hlf = t at *
  grind
 have e2 : Z = (X + Z) * hlf * (1 - Y) := by
  clear hne e1
  generalize hlf = t at *
  grind
 refine ⟨(X + Z) * hlf, fun h0 => hne ?_, e1, e2⟩
 rw [h0] at e1 e2
 clear h hne h0 hh
 exact ⟨by grind, by grind⟩
theorem dbl_id {d a x y Y l : Fq} (hd : d * (a + 1) = -a) (h : y * y - x * x = 1 + d * (x * x * (y * y))) (hY : Y * (1 - d * (x * x * (y * y))) = y * y + x * x) :
  (((l * (1 + y) + l * (1 - y)) * (l * (1 + y) + l * (1 - y))) * ((l * (1 + y) - l * (1 - y)) * (l * (1 + y) - l * (1 - y))) * (1 - Y)) * (1 - d * (x * x * (y * y)))
  = (((l * (1 + y) + l * (1 - y)) * (l * (1 + y) + l * (1 - y)) - (l * (1 + y) - l * (1 - y)) * (l * (1 + y) - l * (1 - y))) * ((l * (1 + y) + l * (1 - y)) * (l * (1 + y) + l * (1 - y)) + a * ((l * (1 + y) + l * (1 - y)) * (l * (1 + y) + l * (1 - y)) - (l * (1 + y) - l * (1 - y)) * (l * (1 + y) - l * (1 - y)))) * (1 + Y)) * (1 - d * (x * x * (y * y))) := by
 have e1 : (1 - Y) * (1 - d * (x * x * (y * y))) = 2 - 2 * (y * y) := by grind
 have e2 : (1 + Y) * (1 - d * (x * x * (y * y))) = 2 + 2 * (x * x) := by grind
 have e3 : y * y = (1 + a * (1 - y * y)) * (1 + x * x) := by
  clear e1 e2 hY
  grind
 have f1 : (l * (1 + y) + l * (1 - y)) = 2 * l := by grind
 have f2 : (l * (1 + y) - l * (1 - y)) = 2 * l * y := by grind
 rw [f1, f2]
 generalize 1 - d * (x * x * (y * y)) = v at *
 clear h hd hY f1 f2
 have g1 : 2 * l * (2 * l) * (2 * l * y * (2 * l * y)) * (1 - Y) * v = 16 * (l * l * (l * l)) * (y * y) * ((1 - Y) * v) := by grind
 have g2 : (2 * l * (2 * l) - 2 * l * y * (2 * l * y)) * (2 * l * (2 * l) + a * (2 * l * (2 * l) - 2 * l * y * (2 * l * y))) * (1 + Y) * v = 16 * (l * l * (l * l)) * (1 - y * y) * (1 + a * (1 - y * y)) * ((1 + Y) * v) := by grind
 rw [g1, g2, e1, e2]
 clear g1 g2 e1 e2
 have g3 : 16 * (l * l * (l * l)) * (1 - y * y) * (1 + a * (1 - y * y)) * (2 + 2 * (x * x)) = 32 * (l * l * (l * l)) * (1 - y * y) * ((1 + a * (1 - y * y)) * (1 + x * x)) := by
  clear e3
  grind
 rw [g3, ← e3]
 clear e3 g3
 grind
theorem add_id {d xp yp xq yq : Fq} (h1 : yp * yp - xp * xp = 1 + d * (xp * xp * (yp * yp))) (h2 : yq * yq - xq * xq = 1 + d * (xq * xq * (yq * yq))) :
  (yp + yq) * (yp + yq) * ((1 - d * (xp * xq * (yp * yq)) - (yp * yq + xp * xq)) * (1 + d * (xp * xq * (yp * yq)) - (yp * yq - xp * xq)))
  = (yq - yp) * (yq - yp) * ((1 - d * (xp * xq * (yp * yq)) + (yp * yq + xp * xq)) * (1 + d * (xp * xq * (yp * yq)) + (yp * yq - xp * xq))) := by
 grind
theorem sq_zero {a : Fq} (h : a * a = 0) : a = 0 := by
 rcases fq_mul h with h | h <;> exact h
theorem kst : dE * (toF 121665 + 1) = -toF 121665 := by decide +kernel
theorem kst_ne : toF 121665 + 1 ≠ 0 := by decide +kernel
theorem tm1 (l y : Fq) : (l * (1 + y) + l * (1 - y)) = 2 * l := by grind
theorem tm2 (l y : Fq) : (l * (1 + y) - l * (1 - y)) = 2 * l * y := by grind
theorem tm3 (l a : Fq) : (2 * l * (2 * l) - 2 * l * 0 * (2 * l * 0)) * (2 * l * (2 * l) + a * (2 * l * (2 * l) - 2 * l * 0 * (2 * l * 0))) = (2 * l * (2 * l)) * (2 * l * (2 * l)) * (a + 1) := by grind
theorem dbl_nz {a l y : Fq} (hl : l ≠ 0) (ha : a + 1 ≠ 0) : ¬ ((l * (1 + y) + l * (1 - y)) * (l * (1 + y) + l * (1 - y)) * ((l * (1 + y) - l * (1 - y)) * (l * (1 + y) - l * (1 - y))) = 0 ∧ ((l * (1 + y) + l * (1 - y)) * (l * (1 + y) + l * (1 - y)) - (l * (1 + y) - l * (1 - y)) * (l * (1 + y) - l * (1 - y))) * ((l * (1 + y) + l * (1 - y)) * (l * (1 + y) + l * (1 - y)) + a * ((l * (1 + y) + l * (1 - y)) * (l * (1 + y) + l * (1 - y)) - (l * (1 + y) - l * (1 - y)) * (l * (1 + y) - l * (1 - y)))) = 0) := by
 rw [tm1, tm2]
 intro ⟨h1, h2⟩
 have h2l := fq_ne two_ne hl
 have hy : y = 0 := by
  rcases fq_mul h1 with h | h
  ·exact absurd (sq_zero h) h2l
  ·rcases fq_mul (sq_zero h) with h | h
   ·exact absurd h h2l
   ·exact h
 rw [hy, tm3] at h2
 exact fq_ne (fq_ne (fq_ne h2l h2l) (fq_ne h2l h2l)) ha h2
theorem tm4 {A B C D u v X S yD : Fq} (hS1 : A = u * (1 - S)) (hS2 : B = u * (1 + S)) (hD1 : C = v * (1 - yD)) (hD2 : D = v * (1 + yD)) (hX : X * (1 - yD) = 1 + yD) {s t : Fq} (h : s * (A * C) = t * (B * D)) : s * (1 - S) * (u * v * (1 - yD)) = X * t * (1 + S) * (u * v * (1 - yD)) := by
 rw [← hX] at hD2
 rw [hS1, hS2, hD1, hD2] at h
 clear hS1 hS2 hD1 hD2 hX
 grind
theorem tm5 {u S t : Fq} (h : S * u = t) : u - t = u * (1 - S) := by grind
theorem tm6 {u S t : Fq} (h : S * u = t) : u + t = u * (1 + S) := by grind
theorem tm7 {k l yp yq S X : Fq} (h : (yp + yq) * (yp + yq) * (1 - S) = X * ((yq - yp) * (yq - yp)) * (1 + S)) :
  (2 * k * yq * (2 * l) + 2 * k * (2 * l * yp)) * (2 * k * yq * (2 * l) + 2 * k * (2 * l * yp)) * (1 - S) = X * ((2 * k * yq * (2 * l) - 2 * k * (2 * l * yp)) * (2 * k * yq * (2 * l) - 2 * k * (2 * l * yp))) * (1 + S) := by
 have e1 : (2 * k * yq * (2 * l) + 2 * k * (2 * l * yp)) * (2 * k * yq * (2 * l) + 2 * k * (2 * l * yp)) * (1 - S) = 16 * (k * k * (l * l)) * ((yp + yq) * (yp + yq) * (1 - S)) := by
  clear h
  grind
 have e2 : X * ((2 * k * yq * (2 * l) - 2 * k * (2 * l * yp)) * (2 * k * yq * (2 * l) - 2 * k * (2 * l * yp))) * (1 + S) = 16 * (k * k * (l * l)) * (X * ((yq - yp) * (yq - yp)) * (1 + S)) := by
  clear h e1
  grind
 rw [e1, e2, h]
theorem tm8 (k l yp yq : Fq) : 2 * k * yq * (2 * l) + 2 * k * (2 * l * yp) = 2 * k * (2 * l) * (yp + yq) := by grind
theorem tm9 (k l yp yq : Fq) : 2 * k * yq * (2 * l) - 2 * k * (2 * l * yp) = 2 * k * (2 * l) * (yq - yp) := by grind
theorem tm10 {yp yq : Fq} (h1 : yp + yq = 0) (h2 : yq - yp = 0) : 2 * yp = 0 ∧ 2 * yq = 0 := by
 constructor <;> grind
theorem u4a (z : Fq) : z * 0 = 0 := by grind
theorem u0a {u v z : Fq} (h : z - u = v + z) : u + v = 0 := by grind
theorem u1a {d u : Fq} (h : (0 : Fq) * 0 - u = 1 + d * (u * (0 * 0))) : u + 1 = 0 := by
 rw [zz, u4a, u4a] at h
 exact u0a h
theorem u2a {d u v : Fq} (h : v * (1 + d * (u * (0 * 0))) = 0 * 0 - u) : v + u = 0 := by grind
theorem u3a {u v w z : Fq} (h1 : u * u + 1 = 0) (h2 : w * w + 1 = 0) (h3 : v + u * w = 0) : (1 - v) * (1 + v) = z * 0 := by grind
theorem tm11 {d xp xq yD : Fq} (h1 : (0 : Fq) * 0 - xp * xp = 1 + d * (xp * xp * (0 * 0))) (h2 : (0 : Fq) * 0 - xq * xq = 1 + d * (xq * xq * (0 * 0))) (hD : yD * (1 + d * (xp * xq * (0 * 0))) = 0 * 0 - xp * xq) : (1 - yD) * (1 + yD) = 0 :=
 (u3a (z := d) (u1a h1) (u1a h2) (u2a hD)).trans (u4a d)
theorem u5a {w z t : Fq} (hi : z * t = 1) : w = t * (w * z) := by grind
theorem u6a (z t : Fq) : z * t = t * z := by grind
theorem add_nz {k l X yD : Fq} {p r : Pt} (hk : k ≠ 0) (hl : l ≠ 0) (hX0 : X ≠ 0) (hX : X * (1 - yD) = 1 + yD) (hD1 : 1 - yD ≠ 0) (hD : yD * (1 + dE * (p.x * r.x * (p.y * r.y))) = p.y * r.y - p.x * r.x) :
  ¬ ((2 * k * r.y * (2 * l) + 2 * k * (2 * l * p.y)) * (2 * k * r.y * (2 * l) + 2 * k * (2 * l * p.y)) = 0 ∧ X * ((2 * k * r.y * (2 * l) - 2 * k * (2 * l * p.y)) * (2 * k * r.y * (2 * l) - 2 * k * (2 * l * p.y))) = 0) := by
 rw [tm8, tm9]
 intro ⟨h1, h2⟩
 have hkl := fq_ne (fq_ne two_ne hk) (fq_ne two_ne hl)
 have a1 : p.y + r.y = 0 := by
  rcases fq_mul (sq_zero h1) with h | h
  ·exact absurd h hkl
  ·exact h
 have a2 : r.y - p.y = 0 := by
  rcases fq_mul h2 with h | h
  ·exact absurd h hX0
  ·rcases fq_mul (sq_zero h) with h | h
   ·exact absurd h hkl
   ·exact h
 obtain ⟨b1, b2⟩ := tm10 a1 a2
 have c1 : p.y = 0 := by
  rcases fq_mul b1 with h | h
  ·exact absurd h two_ne
  ·exact h
 have c2 : r.y = 0 := by
  rcases fq_mul b2 with h | h
  ·exact absurd h two_ne
  ·exact h
 have o1 := p.on
 have o2 := r.on
 unfold On at o1 o2
 rw [c1] at o1 hD
 rw [c2] at o2 hD
 rcases fq_mul (tm11 o1 o2 hD) with h | h
 ·exact hD1 h
 ·rw [h] at hX
  rcases fq_mul hX with h | h
  ·exact hX0 h
  ·exact hD1 h
def Tl (X Z : Int) (y : Fq) : Prop := ∃ l, l ≠ 0 ∧ toF X = l * (1 + y) ∧ toF Z = l * (1 - y)
theorem step_tl {X1 : Int} {q : RS} {p r : Pt} {yD : Fq} (hp : Tl q.x2 q.z2 p.y) (hr : Tl q.x3 q.z3 r.y) (hX0 : toF X1 ≠ 0) (hX : toF X1 * (1 - yD) = 1 + yD) (hD1 : 1 - yD ≠ 0) (hD : yD * (1 + dE * (p.x * r.x * (p.y * r.y))) = p.y * r.y - p.x * r.x) :
  Tl (rstep X1 q).x2 (rstep X1 q).z2 (p.add p).y ∧ Tl (rstep X1 q).x3 (rstep X1 q).z3 (p.add r).y := by
 obtain ⟨l, hl, e1, e2⟩ := hp
 obtain ⟨k, hk, e3, e4⟩ := hr
 refine ⟨?_, ?_⟩
 ·show ∃ l, l ≠ 0 ∧ toF (rstep X1 q).x2 = l * (1 + sy p p) ∧ toF (rstep X1 q).z2 = l * (1 - sy p p)
  have E1 : toF (rstep X1 q).x2 = (l * (1 + p.y) + l * (1 - p.y)) * (l * (1 + p.y) + l * (1 - p.y)) * ((l * (1 + p.y) - l * (1 - p.y)) * (l * (1 + p.y) - l * (1 - p.y))) := by
   simp only [rstep, toF_mod, toF_mul, toF_add, toF_sub, e1, e2]
  have E2 : toF (rstep X1 q).z2 = ((l * (1 + p.y) + l * (1 - p.y)) * (l * (1 + p.y) + l * (1 - p.y)) - (l * (1 + p.y) - l * (1 - p.y)) * (l * (1 + p.y) - l * (1 - p.y))) * ((l * (1 + p.y) + l * (1 - p.y)) * (l * (1 + p.y) + l * (1 - p.y)) + toF 121665 * ((l * (1 + p.y) + l * (1 - p.y)) * (l * (1 + p.y) + l * (1 - p.y)) - (l * (1 + p.y) - l * (1 - p.y)) * (l * (1 + p.y) - l * (1 - p.y)))) := by
   simp only [rstep, toF_mod, toF_mul, toF_add, toF_sub, e1, e2]
  rw [E1, E2]
  exact proj (fq_cancel (den_minus p.on p.on) (dbl_id kst p.on (sy_mul p p))) (dbl_nz hl kst_ne)
 ·show ∃ l, l ≠ 0 ∧ toF (rstep X1 q).x3 = l * (1 + sy p r) ∧ toF (rstep X1 q).z3 = l * (1 - sy p r)
  have E1 : toF (rstep X1 q).x3 = (2 * k * r.y * (2 * l) + 2 * k * (2 * l * p.y)) * (2 * k * r.y * (2 * l) + 2 * k * (2 * l * p.y)) := by
   simp only [rstep, toF_mod, toF_mul, toF_add, toF_sub, e1, e2, e3, e4, tm1, tm2]
  have E2 : toF (rstep X1 q).z3 = toF X1 * ((2 * k * r.y * (2 * l) - 2 * k * (2 * l * p.y)) * (2 * k * r.y * (2 * l) - 2 * k * (2 * l * p.y))) := by
   simp only [rstep, toF_mod, toF_mul, toF_add, toF_sub, e1, e2, e3, e4, tm1, tm2]
  rw [E1, E2]
  refine proj (tm7 ?_) (add_nz hk hl hX0 hX hD1 hD)
  have hS := sy_mul p r
  refine fq_cancel (fq_ne (fq_ne (den_minus p.on r.on) (den_plus p.on r.on)) hD1) ?_
  exact tm4 (tm5 hS) (tm6 hS) (tm5 hD) (tm6 hD) hX (add_id p.on r.on)
theorem diff_y {p P : Pt} : P.y * (1 + dE * (p.x * (p.add P).x * (p.y * (p.add P).y))) = p.y * (p.add P).y - p.x * (p.add P).x := by
 have e : (p.add P).add p.neg = P := by rw [add_comm' p P, add_assoc', add_neg', add_zero']
 have h := sy_mul (p.add P) p.neg
 have hy : sy (p.add P) p.neg = P.y := congrArg Pt.y e
 rw [hy] at h
 rw [show p.neg.x = -p.x from rfl, show p.neg.y = p.y from rfl] at h
 generalize (p.add P).x = a at *
 generalize (p.add P).y = b at *
 generalize P.y = c at *
 clear e hy
 generalize p.x = u at *
 generalize p.y = v at *
 grind
def nk (K : Yb) : Nat → Nat
 | 0 => 0
 | k + 1 => 2 * nk K k + (bit K (254 - k)).toNat
theorem hlf_ne : hlf ≠ 0 := by decide +kernel
theorem l1a : toF 1 = hlf * (1 + 1) := by decide +kernel
theorem l0a : toF 0 = hlf * (1 - 1) := by decide +kernel
theorem tl0 : Tl 1 0 1 := ⟨hlf, hlf_ne, l1a, l0a⟩
theorem lad_tl (K : Yb) {X1 : Int} {P : Pt} (hX0 : toF X1 ≠ 0) (hX : toF X1 * (1 - P.y) = 1 + P.y) (hD1 : 1 - P.y ≠ 0) :
  ∀ k, Tl (rladF K X1 k).x2 (rladF K X1 k).z2 (P.mul (nk K k)).y ∧ Tl (rladF K X1 k).x3 (rladF K X1 k).z3 (P.mul (nk K k + 1)).y
 | 0 => by
  refine ⟨tl0, ?_⟩
  ·have e : P.mul (0 + 1) = P := by
    show zeroP.add P = P
    rw [add_comm', add_zero']
   show Tl X1 1 (P.mul (0 + 1)).y
   rw [e]
   have hi := finv_mul hD1
   refine ⟨finv (1 - P.y), fun h => ?_, ?_, ?_⟩
   ·rw [h] at hi
    exact one_ne (hi.symm.trans (u4a _))
   ·rw [← hX]
    exact u5a hi
   ·rw [toF_one]
    exact hi.symm.trans (u6a _ _)
 | k + 1 => by
  obtain ⟨h1, h2⟩ := lad_tl K hX0 hX hD1 k
  have hn : P.mul (nk K k + 1) = (P.mul (nk K k)).add P := rfl
  unfold rladF
  rcases bit_two K (254 - k) with hb | hb
  ·rw [if_pos hb]
   have e1 : nk K (k + 1) = nk K k + nk K k := by
    show 2 * nk K k + (bit K (254 - k)).toNat = _
    rw [hb]
    show 2 * nk K k + 0 = _
    omega
   have e2 : nk K (k + 1) + 1 = nk K k + (nk K k + 1) := by omega
   rw [e2, mul_add', e1, mul_add']
   exact step_tl h1 h2 hX0 hX hD1 (by rw [hn]; exact diff_y)
  ·rw [if_neg (by rw [hb]; decide)]
   have e1 : nk K (k + 1) = nk K k + 1 + nk K k := by
    show 2 * nk K k + (bit K (254 - k)).toNat = _
    rw [hb]
    show 2 * nk K k + 1 = _
    omega
   have e2 : nk K (k + 1) + 1 = nk K k + 1 + (nk K k + 1) := by omega
   rw [e2, mul_add', e1, mul_add']
   have hd : P.y * (1 + dE * ((P.mul (nk K k + 1)).x * (P.mul (nk K k)).x * ((P.mul (nk K k + 1)).y * (P.mul (nk K k)).y))) = (P.mul (nk K k + 1)).y * (P.mul (nk K k)).y - (P.mul (nk K k + 1)).x * (P.mul (nk K k)).x := by
    have h := diff_y (p := P.mul (nk K k)) (P := P)
    rw [← hn] at h
    generalize (P.mul (nk K k + 1)).x = a at *
    generalize (P.mul (nk K k + 1)).y = b at *
    generalize (P.mul (nk K k)).x = u at *
    generalize (P.mul (nk K k)).y = v at *
    generalize P.y = c at *
    clear hX hD1 h1 h2 hn
    grind
   have h3 := step_tl (q := (rladF K X1 k).swap) h2 h1 hX0 hX hD1 hd
   exact ⟨h3.2, h3.1⟩
def baseP : Pt := ⟨42783823269122696939284341094755422415180979639778424813682678720006717057747, 46316835694926478169428394003475163141307993866256225615783033603165251855960, by unfold On; decide +kernel⟩
theorem nine_base : toF 9 * (1 - baseP.y) = 1 + baseP.y := by decide +kernel
theorem nine_ne : toF 9 ≠ 0 := by decide +kernel
theorem base_ne : 1 - baseP.y ≠ 0 := by decide +kernel
theorem y_one {P : Pt} (h : 1 - P.y = 0) : P = zeroP := by
 have hy : P.y = 1 := n4 h
 have ho := P.on
 unfold On at ho
 rw [hy] at ho
 have e : (dE + 1) * (P.x * P.x) = 0 := by
  generalize P.x = u at *
  generalize dE = d at *
  clear hy h
  grind
 have hd : dE + 1 ≠ 0 := by decide +kernel
 have hx : P.x = 0 := by
  rcases fq_mul e with h1 | h1
  ·exact absurd h1 hd
  ·exact sq_zero h1
 exact Pt.ext hx hy
theorem y_minus {P : Pt} (h : 1 + P.y = 0) : P.add P = zeroP := by
 have hy : P.y = -1 := n3 h
 have ho := P.on
 unfold On at ho
 rw [hy] at ho
 have e : (dE + 1) * (P.x * P.x) = 0 := by
  generalize P.x = u at *
  generalize dE = d at *
  clear hy h
  grind
 have hd : dE + 1 ≠ 0 := by decide +kernel
 have hx : P.x = 0 := by
  rcases fq_mul e with h1 | h1
  ·exact absurd h1 hd
  ·exact sq_zero h1
 refine add_eq ?_ ?_
 ·rw [hx, hy]
  decide +kernel
 ·rw [hx, hy]
  decide +kernel
def oB : ByteArray := lebytes 7237005577332262213973186563042994240857116359379907606001950938285454250989
def oN : Nat := 7237005577332262213973186563042994240857116359379907606001950938285454250989
theorem oB_n : nk oB 255 = oN := by decide +kernel
theorem oB_z : (rladF oB 9 255).z2 = 0 := by decide +kernel
theorem ord_zero : baseP.mul oN = zeroP := by
 obtain ⟨l, hl, _, h2⟩ := (lad_tl oB nine_ne nine_base base_ne 255).1
 rw [oB_z, oB_n, toF_zero] at h2
 rcases fq_mul h2.symm with h | h
 ·exact absurd h hl
 ·exact y_one h
theorem base_nz : baseP ≠ zeroP := fun h => base_ne (by rw [h]; decide +kernel)
theorem isO : IsP oN := isL
theorem ord_dvd {k : Nat} (h : baseP.mul k = zeroP) : oN ∣ k := by
 have hg : baseP.mul (Nat.gcd oN k) = zeroP := by
  have key : ∀ (m n : Nat), baseP.mul m = zeroP → baseP.mul n = zeroP → baseP.mul (Nat.gcd m n) = zeroP := by
   intro m n
   induction m, n using Nat.gcd.induction with
   | H0 n => intro _ hn; rwa [Nat.gcd_zero_left]
   | H1 m n hm ih =>
    intro h1 h2
    rw [Nat.gcd_rec]
    refine ih ?_ h1
    have e : n = m * (n / m) + n % m := (Nat.div_add_mod n m).symm
    have h3 : baseP.mul n = (baseP.mul (m * (n / m))).add (baseP.mul (n % m)) := by
     conv => lhs; rw [e]
     rw [mul_add']
    rw [mul_mul', h1, zero_mul', add_comm', add_zero'] at h3
    rw [← h3]
    exact h2
  exact key oN k ord_zero h
 rcases isO.2 _ (Nat.gcd_dvd_left oN k) with h1 | h1
 ·exfalso
  rw [h1] at hg
  refine base_nz ?_
  have e : baseP.mul 1 = baseP := by
   show zeroP.add baseP = baseP
   rw [add_comm', add_zero']
  exact e.symm.trans hg
 ·have := Nat.gcd_dvd_right oN k
  rwa [h1] at this
theorem isO_mul {a b : Nat} (h : oN ∣ a * b) : oN ∣ a ∨ oN ∣ b := by
 by_cases ha : oN ∣ a
 ·exact .inl ha
 ·right
  have hg : Nat.Coprime oN a := by
   rcases isO.2 _ (Nat.gcd_dvd_left oN a) with h1 | h1
   ·exact h1
   ·exact absurd (h1 ▸ Nat.gcd_dvd_right oN a) ha
  exact Nat.Coprime.dvd_of_dvd_mul_left hg h
structure Tells (V : Int) (k : Nat) : Prop where
 bd : 0 ≤ V ∧ V < Pm
 nz : ¬ oN ∣ k
 eq : toF V * (1 - (baseP.mul k).y) = 1 + (baseP.mul k).y
theorem two_o : ¬ oN ∣ 2 := by decide
theorem mul_y {k : Nat} (h : ¬ oN ∣ k) : 1 - (baseP.mul k).y ≠ 0 ∧ 1 + (baseP.mul k).y ≠ 0 := by
 refine ⟨fun h1 => h (ord_dvd (y_one h1)), fun h1 => ?_⟩
 have h2 := y_minus h1
 rw [← mul_add'] at h2
 have h3 := ord_dvd h2
 rw [← Nat.two_mul] at h3
 rcases isO_mul h3 with h4 | h4
 ·exact two_o h4
 ·exact h h4
theorem Tells.ne {V : Int} {k : Nat} (h : Tells V k) : toF V ≠ 0 := fun h0 => by
 have h1 := h.eq
 rw [h0] at h1
 refine (mul_y h.nz).2 ?_
 rw [← h1, u6a, u4a]
theorem Tells.ne0 {V : Int} {k : Nat} (h : Tells V k) : V ≠ 0 := fun h0 => h.ne (by rw [h0]; exact toF_zero)
theorem Tells.one {V W : Int} {k : Nat} (h : Tells V k) (g : Tells W k) : V = W :=
 toF_inj h.bd g.bd (fq_cancel (mul_y h.nz).1 (h.eq.trans g.eq.symm))
theorem tells9 : Tells 9 1 := by
 have e : baseP.mul 1 = baseP := by
  show zeroP.add baseP = baseP
  rw [add_comm', add_zero']
 refine ⟨⟨by decide, by decide⟩, by decide, ?_⟩
 rw [e]
 exact nine_base
theorem toF_cg {a b : Int} (h : Cg a b) : toF a = toF b := by
 rw [← toF_mod a, ← toF_mod b, h.emod]
theorem pow_up (z : Int) (n m : Nat) (h : m = n + 1) : toF z * toF (z ^ n) = toF (z ^ m) := by
 subst h
 rw [← toF_mul, Int.pow_succ, Int.mul_comm]
theorem pw_inv {z : Int} (h : toF z ≠ 0) : toF z * toF (pwm z (xbit 255 21) 255) = 1 := by
 rw [toF_cg (pwm_pow z (xbit 255 21) 255), ex255]
 have hv : 0 < (toF z).val := Nat.pos_of_ne_zero fun e => h (Fin.ext (by rw [e]; rfl))
 have hf := fermatN hv (toF z).isLt
 have e1 : toF z * toF (z ^ (2 ^ 255 - 21)) = toF (z ^ (2 ^ 255 - 20)) := pow_up z (2 ^ 255 - 21) (2 ^ 255 - 20) (by decide)
 rw [e1]
 refine fq_int ?_
 rw [toF_val]
 have hz : Cg z (((toF z).val : Nat) : Int) := by
  rw [toF_val]
  exact em z
 rw [(hz.pow _).emod, ← Int.natCast_pow, ← pN_P, ← Int.natCast_emod, show (2 ^ 255 - 20 : Nat) = pN - 1 by decide, hf]
 rfl
theorem q1a {l t u v : Fq} (h : l * v * t = 1) : l * u * t * v = u := by grind
theorem Tells.lad {V : Int} {m : Nat} (h : Tells V m) (K : Yb) (hk : ¬ oN ∣ m * nk K 255) : Tells (shV K V) (m * nk K 255) := by
 refine ⟨shV_bd K V, hk, ?_⟩
 obtain ⟨l, hl, e1, e2⟩ := (lad_tl K h.ne h.eq (mul_y h.nz).1 255).1
 rw [← mul_mul'] at e1 e2
 have hz : toF (rladF K V 255).z2 ≠ 0 := by
  rw [e2]
  exact fq_ne hl (mul_y hk).1
 have hi := pw_inv hz
 unfold shV
 rw [toF_mod, toF_mul, e1]
 rw [e2] at hi
 exact q1a hi
open Go.RowKit
theorem leb_size (N : Int) : (lebytes N).size = 32 := by
 unfold lebytes
 rw [bs_size]
 rfl
theorem val_leb {W : Int} (hW : 0 ≤ W ∧ W < Pm) : val (mkS (lebytes W)) % Pm = W := by rw [leb_rb hW]; exact mk_leb hW
theorem sS_ne {V : Int} (h : V ≠ 0) : sS V = lebytes V := by unfold sS; rw [if_neg h]
theorem sC_ne {V : Int} (h : V ≠ 0) : sC V = 0 := by unfold sC; rw [if_neg h]
open Go.RowKit
def bsF (f : NI) : ByteArray := bs ((List.range 32).map f)
theorem bsF_bt {f : NI} (hf : ∀ i, i < 32 → 0 ≤ f i ∧ f i < 256) {i : Nat} (hi : i < 32) : bt (bsF f) i = f i :=
 bt_bs _ _ _ (by simp [hi]) (hf i hi).1 (hf i hi).2
open Go.RowKit
theorem cl_bt (s : Yb) {i : Nat} (hi : i < 32) : bt (clS s) i = clF s i := bsF_bt (fun i _ => clF_bd s i) hi
theorem cl_low {x : Int} (h0 : 0 ≤ x) (h1 : x < 256) : bits .and .u8 x 248 % 8 = 0 ∧ bits .or .u8 (bits .and .u8 x 127) 64 / 64 % 2 = 1 := by
 obtain ⟨X, rfl⟩ := Int.eq_ofNat_of_zero_le h0
 have hX : X < 256 := by omega
 have h : ∀ n : Fin 256, bits .and .u8 ((n.val : Nat) : Int) 248 % 8 = 0 ∧ bits .or .u8 (bits .and .u8 ((n.val : Nat) : Int) 127) 64 / 64 % 2 = 1 := by decide +kernel
 exact h ⟨X, hX⟩
theorem cl_254 (s : Yb) : bit (clS s) 254 = 1 := by
 show bt (clS s) 31 / 2 ^ 6 % 2 = 1
 rw [cl_bt s (by omega), show clF s 31 = bits .or .u8 (bits .and .u8 (bt s 31) 127) 64 by simp [clF, upd]]
 exact (cl_low (bt_bd s 31).1 (bt_bd s 31).2).2
theorem cl_012 (s : Yb) : bit (clS s) 0 = 0 ∧ bit (clS s) 1 = 0 ∧ bit (clS s) 2 = 0 := by
 have h := (cl_low (bt_bd s 0).1 (bt_bd s 0).2).1
 have e : bt (clS s) 0 = bits .and .u8 (bt s 0) 248 := by
  rw [cl_bt s (by omega)]
  simp [clF, upd]
 refine ⟨?_, ?_, ?_⟩
 ·show bt (clS s) 0 / 2 ^ 0 % 2 = 0
  rw [e]
  simp only [Int.pow_zero]
  omega
 ·show bt (clS s) 0 / 2 ^ 1 % 2 = 0
  rw [e, show (2 : Int) ^ 1 = 2 by decide]
  omega
 ·show bt (clS s) 0 / 2 ^ 2 % 2 = 0
  rw [e, show (2 : Int) ^ 2 = 4 by decide]
  omega
theorem nk_lt (K : Yb) : ∀ k, nk K k < 2 ^ k
 | 0 => by
  show 0 < 2 ^ 0
  decide
 | k + 1 => by
  have ih := nk_lt K k
  show 2 * nk K k + (bit K (254 - k)).toNat < _
  rw [Nat.pow_succ]
  rcases bit_two K (254 - k) with h | h <;> rw [h]
  ·show 2 * nk K k + 0 < _
   omega
  ·show 2 * nk K k + 1 < _
   omega
theorem nk_ge (K : Yb) (h : bit K 254 = 1) : ∀ k, 2 ^ k ≤ nk K (k + 1)
 | 0 => by
  show 1 ≤ 2 * 0 + (bit K 254).toNat
  rw [h]
  decide
 | k + 1 => by
  have ih := nk_ge K h k
  show _ ≤ 2 * nk K (k + 1) + (bit K (254 - (k + 1))).toNat
  rw [Nat.pow_succ]
  omega
theorem cl_n (s : Yb) : nk (clS s) 255 = 8 * nk (clS s) 252 := by
 obtain ⟨h0, h1, h2⟩ := cl_012 s
 show 2 * (2 * (2 * nk (clS s) 252 + (bit (clS s) 2).toNat) + (bit (clS s) 1).toNat) + (bit (clS s) 0).toNat = _
 rw [h0, h1, h2]
 show 2 * (2 * (2 * nk (clS s) 252 + 0) + 0) + 0 = _
 omega
theorem cl_nd (s : Yb) : ¬ oN ∣ nk (clS s) 255 := by
 rw [cl_n]
 intro h
 rcases isO_mul h with h1 | h1
 ·revert h1
  decide
 ·have h2 := nk_lt (clS s) 252
  have h3 : 2 ^ 251 ≤ nk (clS s) 252 := nk_ge (clS s) (cl_254 s) 251
  have h6 : 0 < nk (clS s) 252 := Nat.lt_of_lt_of_le (by decide) h3
  have h4 : oN ≤ nk (clS s) 252 := Nat.le_of_dvd h6 h1
  have h5 : (2 : Nat) ^ 252 < oN := by decide
  exact absurd (Nat.lt_of_le_of_lt h4 h2) (Nat.lt_asymm h5)
theorem nd_mul {a b : Nat} (ha : ¬ oN ∣ a) (hb : ¬ oN ∣ b) : ¬ oN ∣ a * b := fun h => by
 rcases isO_mul h with h | h
 ·exact ha h
 ·exact hb h
theorem Tells.cl {V : Int} {m : Nat} (h : Tells V m) (s : Yb) : Tells (shV (clS s) V) (m * nk (clS s) 255) := h.lad _ (nd_mul h.nz (cl_nd s))
theorem Tells.swap {V : Int} {m : Nat} (h : Tells V m) (a b : Yb) : shV (clS a) (shV (clS b) V) = shV (clS b) (shV (clS a) V) := by
 have h1 := (h.cl b).cl a
 have h2 := (h.cl a).cl b
 rw [Nat.mul_assoc, Nat.mul_comm (nk (clS a) 255), ← Nat.mul_assoc] at h2
 exact h1.one h2
end Go.Proofs.YtiahdbibeleakaaGreatDoor.Mon
namespace Go.Proofs.YtiahdbibeleakaaGreatDoor
open Go.RowKit
theorem l_same0 {m : Mon.E5} (hm : m.Ok) (h : m.n % Mon.Pm = 0) (w : World) : Cs 94 #[.agg (av 5 (w64 m.f)), .agg (av 5 (w64 (fun _ => 0)))] w (.bool true) := by
 have := Mon.same_any m Mon.zeroE w hm Mon.zeroE_ok
 rw [Mon.zeroE_n, h] at this
 exact this
theorem l_sameN {m : Mon.E5} (hm : m.Ok) (h : ¬ m.n % Mon.Pm = 0) (w : World) : Cs 94 #[.agg (av 5 (w64 m.f)), .agg (av 5 (w64 (fun _ => 0)))] w (.bool false) := by
 have := Mon.same_any m Mon.zeroE w hm Mon.zeroE_ok
 rw [Mon.zeroE_n, show (0 : Int) % Mon.Pm = 0 from rfl, show (m.n % Mon.Pm == 0) = false by simpa using h] at this
 exact this
theorem l_shared (s p : Yb) (hs : s.size = 32) (hp : p.size = 32) (w : World) (hL : Laid w)  : Cs 63 #[.string s, .string p] w (.tuple #[.string (Mon.shS s p), .int .i64 (Mon.shC s p)]) := by
 go_enter Tryz.func63, Tryz.ntmps63
 have M := Mem.start hL
 refine sq <| sR <| rV 1 ?_
 refine pD M 12 (.tuple #[.string (Mon.clS s), .int .i64 0]) (fun w M => Mon.clamp_yes s w hs) fun u1 M => ?_
 refine rV 5 <| nT <| wp_seq <| sq <| cF ?_
 refine wp_skip <| au_then <| sR <| rV 1 ?_
 refine pD M 20 (.tuple #[.agg (av 5 (w64 (Mon.ofF (Mon.mkS p)).f)), .int .i64 0]) (fun w M => l_coord p hp w M.laid) fun u2 M => ?_
 refine rV 3 ?_
 refine pN M 8 (.cells (av 5 (w64 (fun _ => 0))) 143) fun g1 u3 M => ?_
 refine ZG M 0 5 (w64 (Mon.ofF (Mon.mkS p)).f) fun u4 M => ?_
 refine rV 1 <| nT <| wp_seq <| sq <| cF ?_
 refine wp_skip <| au_then <| sR <| rV 1 ?_
 refine pB M 27 0 ?_
 refine pC M 28 93 #[.string (Mon.clS s), .agg (av 5 (w64 (Mon.ofF (Mon.mkS p)).f))] (.agg (av 5 (w64 (Mon.shE s p).f))) (fun w M => l_times (Mon.clS s) (Mon.ofF (Mon.mkS p)) (Mon.clS_size s) (Mon.ofF_ok _) w M.laid) fun u5 M => ?_
 refine pN M 9 (.cells (av 5 (w64 (fun _ => 0))) 143) fun g2 u6 M => ?_
 refine ZG M 1 5 (w64 (Mon.shE s p).f) fun u7 M => ?_
 refine nT <| wp_seq <| sR ?_
 refine pB M 29 1 ?_
 refine rV 1 ?_
 by_cases c0 : ((Mon.shE s p).n % Mon.Pm) = 0
 ·refine pD M 31 (.bool true) (fun w M => l_same0 (Mon.shE_ok s p) c0 w) fun u8 M => ?_
  refine nT <| cT <| sq <| wp_ret <| au_then_ret ?_
  have e0 : (Mon.shS s p) = ⟨#[]⟩ := by first | (simp only [Mon.shS, if_pos c0]; done) | simp [Mon.shS, c0]
  have e1 : (Mon.shC s p) = 30 := by first | (simp only [Mon.shC, if_pos c0]; done) | simp [Mon.shC, c0]
  exact bX (.tuple #[.string ⟨#[]⟩, .int .i64 30]) ⟨by rw [e0, e1], below_grown M.old⟩
 ·refine pD M 31 (.bool false) (fun w M => l_sameN (Mon.shE_ok s p) c0 w) fun u8 M => ?_
  refine nT <| cF <| wp_skip <| au_then <| sR ?_
  refine pB M 32 1 ?_
  refine pD M 33 (.string (Mon.lebytes ((Mon.shE s p).n % Mon.Pm))) (fun w M => Mon.bytes_any (Mon.shE s p) w (Mon.shE_ok s p)) fun u9 M => ?_
  refine rV 2 <| nT <| wp_ret ?_
  have e0 : (Mon.shS s p) = (Mon.lebytes ((Mon.shE s p).n % Mon.Pm)) := by first | (simp only [Mon.shS, if_neg c0]; done) | simp [Mon.shS, c0]
  have e1 : (Mon.shC s p) = 0 := by first | (simp only [Mon.shC, if_neg c0]; done) | simp [Mon.shC, c0]
  exact bX (.tuple #[.string (Mon.lebytes ((Mon.shE s p).n % Mon.Pm)), .int .i64 0]) ⟨by rw [e0, e1], below_grown M.old⟩
theorem Mon.shL (s p : Yb) (w : World) (hL : Laid w) (V : Int) (hs : s.size = 32) (hp : p.size = 32) (hV : Mon.shV (Mon.clS s) (Mon.val (Mon.mkS p) % Mon.Pm) = V) : Cs 63 #[.string s, .string p] w (.tuple #[.string (Mon.sS V), .int .i64 (Mon.sC V)]) := by
 have h := l_shared s p hs hp w hL
 rwa [Mon.shS_V, Mon.shC_V, hV] at h
theorem l_public (s S : Yb) (c : Int) (H : ∀ w, Laid w → Cs 63 #[.string s, .string Mon.nineS] w (.tuple #[.string S, .int .i64 c])) (w : World) (hL : Laid w)  : Cs 64 #[.string s] w (.tuple #[.string S, .int .i64 c]) := by
 go_enter Tryz.func64, Tryz.ntmps64
 have M := Mem.start hL
 refine sq <| sR <| rV 1 ?_
 refine pD M 5 (.agg (av 5 (w64 (Mon.smallF 9).f))) (fun w M => Mon.small_any 9 w (by decide) (by decide)) fun u1 M => ?_
 refine pD M 6 (.string Mon.nineS) (fun w M => Mon.bytes_any (Mon.smallF 9) w (Mon.smallF_ok (by decide) (by decide))) fun u2 M => ?_
 refine pD M 7 (.tuple #[.string S, .int .i64 c]) (fun w M => H w M.laid) fun u3 M => ?_
 refine rV 4 <| nT <| wp_ret ?_
 exact b1 M
theorem pub_tellsL (s : Yb) (hs : s.size = 32) (w : World) (hL : Laid w) : Cs 64 #[.string s] w (.tuple #[.string (Mon.lebytes (Mon.shV (Mon.clS s) 9)), .int .i64 0]) := by
 have h1 := l_public s _ _ (fun w hL => Mon.shL s Mon.nineS w hL (Mon.shV (Mon.clS s) 9) hs Mon.nineS_size (by rw [Mon.v9])) w hL
 rwa [Mon.sS_ne (Mon.tells9.cl s).ne0, Mon.sC_ne (Mon.tells9.cl s).ne0] at h1
open Go.RowKit
def ls (l : List Value) : Nat → Value := fun i => l.getD i undef
theorem getD_app (l : List Value) (j : Nat) : l.getD j undef = l[j]?.getD undef := by simp
theorem put_ls (l : List Value) (k : Nat) (v : Value) (l' : List Value) (h : l.set k v = l') {n : Nat} (j : Nat) (hj : j < n) (hl : n ≤ l.length := by exact Nat.le_of_ble_eq_true rfl) : (if j = k then v else ls l j) = ls l' j := by
 subst h
 unfold ls
 rw [getD_app, getD_app, List.getElem?_set]
 by_cases e : k = j
 ·subst e
  rw [if_pos rfl, if_pos rfl, if_pos (by omega)]
  rfl
 ·rw [if_neg (fun h => e h.symm), if_neg e]
theorem one_ls (l : List Value) (h : l.all (·.oneCell') = true) {n : Nat} (hn : n ≤ l.length := by exact Nat.le_of_ble_eq_true rfl) (j : Nat) (hj : j < n) : (ls l j).oneCell' = true := by
 unfold ls
 rw [getD_app, List.getElem?_eq_getElem (by omega)]
 exact List.all_eq_true.1 h _ (List.getElem_mem _)
theorem seq_pos {a b : Yb} (h : a = b) : (a.toList == b.toList) = true := by rw [h, beq_self_eq_true]
theorem seq_neg {a b : Yb} (h : ¬ a = b) : (a.toList == b.toList) = false := by
 rw [beq_eq_false_iff_ne]
 intro e
 rw [ByteArray.toList_eq, ByteArray.toList_eq] at e
 exact h (ByteArray.ext (Array.toList_inj.1 e))
theorem call_val {P : Program} {f : FuncId} {args : Array Value} {w : World} {v v' : Value} {X : World → Prop} (h : Calls P f args w fun e w' => e = .returned v ∧ X w') (hv : v = v') : Calls P f args w fun e w' => e = .returned v' ∧ X w' := hv ▸ h
theorem ro_below1 {w w' : World} {g : Nat} {Z : Obj} (h : Grw w w' [g]) (h0 : w.heap[g]? = some Z) (h1 : w'.heap[g]? = some Z) : Below w.heap.size w w' := ⟨h.os, h.tape, h.output, h.size, fun k hk => by
 by_cases e : k = g
 ·subst e
  rw [h0, h1]
 ·exact h.block k hk (by simpa using e)⟩
theorem results_t3 {P : Program} {fn : Func} {p q r : Tmp} (h : fn.results = #[.tmp p, .tmp q, .tmp r]) (tmps : Array Value) (w : World) (v u x : Value) (hp : tmps.getD p undef = v) (hq : tmps.getD q undef = u) (hr : tmps.getD r undef = x) : (results fn tmps).run P w = .ok (.tuple #[v, u, x]) w := by
 subst hp hq hr
 simp [results, h]
theorem results_tct {P : Program} {fn : Func} {p q r : Tmp} {ty : TypeId} (h : fn.results = #[.tmp p, .cell q ty, .tmp r]) (tmps : Array Value) (w : World) (g : Nat) (t : TypeId) (cs : Array Value) (fr : Nat × Nat) (d : TypeDesc) (v x : Value) (hp : tmps.getD p undef = v) (hq : tmps.getD q undef = .pointer (some ⟨g, 0, none⟩)) (hr : tmps.getD r undef = x) (hg : w.heap[g]? = some (.cells cs t fr))
  (hu : P.underlying ty = some d) (hd : (match d with | .struct _ | .array _ _ => true | _ => false) = true) (hi : (P.info? ty).map (·.size) = some cs.size) : (results fn tmps).run P w = .ok (.tuple #[v, .agg cs, x]) w := by
 subst hp hr
 have hp' : tmps[q]?.getD undef = .pointer (some ⟨g, 0, none⟩) := by simpa using hq
 simp [results, h, hp', asAddr, run_loadVar_row w g t ty cs fr d hg hu hd hi]
theorem inz61 : (Tryz.prog.info? 61).map (·.size) = some 5 := by kernel_rfl
theorem inz87 : (Tryz.prog.info? 87).map (·.size) = some 4 := by kernel_rfl
structure St where
 h : ByteArray
 c : ByteArray
 k : ByteArray
 e : Int
def stL (s : St) (R : List Value) : Nat → Value := ls (.string s.h :: .string s.c :: .string s.k :: .int .i64 s.e :: R)
theorem put_st0 (s : St) (R : List Value) (x : Yb) (j : Nat) : (if j = 0 then .string x else stL s R j) = stL ⟨x, s.c, s.k, s.e⟩ R j := by
 rcases j with _ | _ | _ | _ | j <;> first | rfl | (rw [if_neg (by omega)]; rfl)
theorem put_st1 (s : St) (R : List Value) (x : Yb) (j : Nat) : (if j = 1 then .string x else stL s R j) = stL ⟨s.h, x, s.k, s.e⟩ R j := by
 rcases j with _ | _ | _ | _ | j <;> first | rfl | (rw [if_neg (by omega)]; rfl)
theorem put_st2 (s : St) (R : List Value) (x : Yb) (j : Nat) : (if j = 2 then .string x else stL s R j) = stL ⟨s.h, s.c, x, s.e⟩ R j := by
 rcases j with _ | _ | _ | _ | j <;> first | rfl | (rw [if_neg (by omega)]; rfl)
theorem put_st3 (s : St) (R : List Value) (x : Int) (j : Nat) : (if j = 3 then .int .i64 x else stL s R j) = stL ⟨s.h, s.c, s.k, x⟩ R j := by
 rcases j with _ | _ | _ | _ | j <;> first | rfl | (rw [if_neg (by omega)]; rfl)
theorem part_st (s : St) (R : List Value) (j : Nat) (h : j < 4) : stL s R (0 + j) = stL s [] j := by
 rcases j with _ | _ | _ | _ | j <;> first | rfl | omega
theorem one_st (s : St) (j : Nat) (h : j < 4) : (stL s [] j).oneCell' = true := by
 rcases j with _ | _ | _ | _ | j <;> first | rfl | omega
def Bh (t : Yb) : ByteArray := Bla.blV 32 Bla.strE t
theorem Bh_size (t : Yb) : (Bh t).size = 32 := Bla.bl_size t
theorem c_Bh (t : Yb) (w : World) (hL : Laid w) : Cs 62 #[.string t] w (.string (Bh t)) := Bla.c_of t w hL
def nameS : ByteArray := ⟨#[78, 111, 105, 115, 101, 95, 73, 75, 95, 50, 53, 53, 49, 57, 95, 67, 104, 97, 67, 104, 97, 80, 111, 108, 121, 95, 66, 76, 65, 75, 69, 50, 115]⟩
def shN (x y : Yb) : Int := Mon.shV (Mon.clS x) (Mon.val (Mon.mkS y) % Mon.Pm)
def puV (x : Yb) : ByteArray := Mon.lebytes (Mon.shV (Mon.clS x) 9)
theorem puV_size (x : Yb) : (puV x).size = 32 := Mon.leb_size _
def nxA (c t : Yb) : ByteArray := Bla.txt c t 0
def nxB (c t : Yb) : ByteArray := Bla.txt c t 1
def n0 : ByteArray := nS 0
def mixF (s : St) (t : Yb) : St := ⟨Bh (s.h ++ t), s.c, s.k, s.e⟩
def beginF (pr pu : Yb) (s : St) : St := mixF (mixF ⟨Bh nameS, Bh nameS, s.k, s.e⟩ pr) pu
def pubF (s : St) (x : Yb) : ByteArray := if s.e = 0 then puV x else ⟨#[]⟩
def addF (s : St) (x y : Yb) : St := if s.e = 0 then (if shN x y = 0 then ⟨s.h, s.c, s.k, 30⟩ else ⟨s.h, nxA s.c (Mon.lebytes (shN x y)), nxB s.c (Mon.lebytes (shN x y)), s.e⟩) else s
def sealV (s : St) (t : Yb) : ByteArray := if s.e = 0 then sealS s.k n0 s.h t else ⟨#[]⟩
def sealF (s : St) (t : Yb) : St := if s.e = 0 then mixF ⟨s.h, s.c, s.k, 0⟩ (sealS s.k n0 s.h t) else s
def openV (s : St) (t : Yb) : ByteArray := if s.e = 0 then (if tgX s.k n0 s.h t = t.extract (t.size - 16) t.size then opS s.k n0 t else ⟨#[]⟩) else ⟨#[]⟩
def openF (s : St) (t : Yb) : St := if s.e = 0 then (if tgX s.k n0 s.h t = t.extract (t.size - 16) t.size then mixF ⟨s.h, s.c, s.k, 0⟩ t else mixF ⟨s.h, s.c, s.k, 100⟩ t) else s
theorem st_eq {a b : St} (h1 : a.h = b.h) (h2 : a.c = b.c) (h3 : a.k = b.k) (h4 : a.e = b.e) : a = b := by
 cases a; cases b
 simp only at h1 h2 h3 h4
 subst h1 h2 h3 h4
 rfl
theorem c_shZ (x y : Yb) (hx : x.size = 32) (hy : y.size = 32) (h : shN x y = 0) (w : World) (hL : Laid w) : Cs 63 #[.string x, .string y] w (.tuple #[.string ⟨#[]⟩, .int .i64 30]) := Mon.shL x y w hL 0 hx hy h
theorem c_shN (x y : Yb) (hx : x.size = 32) (hy : y.size = 32) (h : ¬ shN x y = 0) (w : World) (hL : Laid w) : Cs 63 #[.string x, .string y] w (.tuple #[.string (Mon.lebytes (shN x y)), .int .i64 0]) := by
 have h1 := Mon.shL x y w hL (shN x y) hx hy rfl
 rwa [Mon.sS_ne h, Mon.sC_ne h] at h1
theorem nxA_size (c t : Yb) : (nxA c t).size = 32 := Bla.tg_size _ _ _
theorem nxB_size (c t : Yb) : (nxB c t).size = 32 := Bla.tg_size _ _ _
theorem n0_size : n0.size = 12 := nS_size 0
theorem sf_seal {k h t : Yb} (hk : k.size = 32) (hh : h.size = 32) (ht : t.size ≤ 65536) : sf k n0 h t 0 = 0 := sf_ok ⟨hk, n0_size⟩ (by omega) (by omega) (Nat.zero_le _)
theorem sf_open {k h t : Yb} (hk : k.size = 32) (hh : h.size = 32) (ht : t.size ≤ 65536) (h6 : 16 ≤ t.size) : sf k n0 h t 16 = 0 := sf_ok ⟨hk, n0_size⟩ (by omega) (by omega) h6
def endF (s : St) : St := ⟨s.h, s.c, ⟨#[]⟩, s.e⟩
abbrev zb : ByteArray := ⟨#[]⟩
abbrev sQ (l : List ByteArray) : Nat → Value := ls (l.map .string)
abbrev zq (n : Nat) : Nat → Value := ls (List.replicate n (.string ⟨#[]⟩))
section
variable {P : Program} {ops : Array Oper} {rest : List Oper} {o : Oper} {a : Act} {w : World} {c : Ctx} {L : List Blk} {Q : Exit → Act → World → Prop}
theorem ZL (M : Mem c L w) (i n : Nat) (F' : NV) {g T : Nat} {F : NV} (h : ∀ w2, Mem c (L.set i ⟨g, .cells (av n F') T⟩) w2 → PL P ops Q rest a w2) {ty : TypeId} {x y : Operand} (hw : Region.wanted o (yielded ops a.tmps) = true := by first | exact want_no rfl | kernel_rfl) (hd : o.dst = none := by exact rfl) (ho : o.op = .store ty x y := by exact rfl) (hi : L[i]? = some ⟨g, .cells (av n F) T⟩ := by exact rfl) (h1 : ∀ j, j < n → (F' j).oneCell' = true := by exact one_ls _ rfl) (hx : Ev a x (.pointer (some ⟨g, 0, none⟩)) := by exact ⟨by kernel_rfl⟩) (hy : Ev a y (.agg (av n F')) := by exact ⟨by kernel_rfl⟩) (hz : (P.info? ty).map (·.size) = some n := by kernel_rfl) : PL P ops Q (o :: rest) a w := pl_put M hw hd ty x y ho i g 0 hx.out n T F hi n F' F' hy.out hz (by omega) h1 (fun j hj => by rw [if_pos (by omega), Nat.sub_zero]) h
theorem btct {fn : Func} {Φ : Ending → World → Prop} {p q r : Tmp} {t1 : TypeId} (h : fn.results = #[.tmp p, .cell q t1, .tmp r]) (M : Mem c L w) (x0 : Value) (i1 n1 : Nat) (F1 : NV) (x2 : Value) (hX : Φ (.returned (.tuple #[x0, .agg (av n1 F1), x2])) w) {g1 T1 : Nat} (hp0 : Ep a p x0 := by exact ⟨by kernel_rfl⟩) (hi1 : L[i1]? = some ⟨g1, .cells (av n1 F1) T1⟩ := by exact rfl) (hp1 : Ep a q (.pointer (some ⟨g1, 0, none⟩)) := by exact ⟨by kernel_rfl⟩) (hu1 : (P.underlying t1).map TypeDesc.isRow = some true := by kernel_rfl) (hz1 : (P.info? t1).map (·.size) = some n1 := by kernel_rfl) (hp2 : Ep a r x2 := by exact ⟨by kernel_rfl⟩) (hd : a.defers = [] := by kernel_rfl) : bodyPost P fn Φ .ret a w := by
 obtain ⟨d1, e1, f1⟩ := isRow_of hu1
 exact bodyPost_ret (results_tct h _ _ g1 T1 (av n1 F1) (0, 0) _ _ _ hp0.out hp1.out hp2.out (M.get i1 hi1) e1 (by revert f1; cases d1 <;> intro f <;> first | rfl | cases f) (by rw [av_size]; exact hz1)) hd hX
end
open Go.RowKit
theorem c_mixS (g n T : Nat) (hn : 4 ≤ n) (s : St) (R : List Value) (t : Yb) (hs : s.h.size + t.size < 1000000) (w : World) (hL : Laid w)  (hg : w.heap[g]? = some (.cells (av n (stL s R)) T)) (h0 : 2 < g) : Calls Tryz.prog 37 #[.pointer (some ⟨g, 0, none⟩), .string t] w fun r w' => r = .returned (.tuple #[]) ∧ Grw w w' [g] ∧ w'.heap[g]? = some (.cells (av n (stL (mixF s t) R)) T) := by
 go_enter Tryz.func37, Tryz.ntmps37
 have M := Mem.startp hL hg h0
 refine rg_lit ?_
 refine rV 4 <| ZE M 8 0 0 <| rV 1 ?_
 refine pH 10 (.string (s.h ++ t)) (run_cat 9 9 _ _ rfl s.h t (by kernel_rfl) (by kernel_rfl) (by (try simp only [ByteArray.size_append, ByteArray.size_extract]); omega)) ?_
 refine ZC M 11 (fun w M => c_Bh (s.h ++ t) w M.laid) fun u1 M => ?_
 refine rV 2 ?_
 refine pP M 0 rfl 0 (.string (Bh (s.h ++ t))) (stL ⟨(Bh (s.h ++ t)), s.c, s.k, s.e⟩ R) (by omega) (fun j _ => put_st0 _ _ _ j) fun u2 M => ?_
 refine pl_nil ?_
 have e0 : mixF s t = ⟨(Bh (s.h ++ t)), s.c, s.k, s.e⟩ := rfl
 exact bodyPost_end (v := .tuple #[]) (results_none Tryz.results37 _ _) (by kernel_rfl) ⟨rfl, M.old, by rw [e0]; exact M.get 0 rfl⟩
theorem c_begin (g n T : Nat) (hn : 4 ≤ n) (s : St) (R : List Value) (pr pu : Yb) (hp : pr.size ≤ 5000) (hq : pu.size ≤ 5000) (w : World) (hL : Laid w)  (hg : w.heap[g]? = some (.cells (av n (stL s R)) T)) (h0 : 2 < g) : Calls Tryz.prog 31 #[.pointer (some ⟨g, 0, none⟩), .string pr, .string pu] w fun r w' => r = .returned (.tuple #[]) ∧ Grw w w' [g] ∧ w'.heap[g]? = some (.cells (av n (stL (beginF pr pu s) R)) T) := by
 go_enter Tryz.func31, Tryz.ntmps31
 have M := Mem.startp hL hg h0
 refine sR <| rV 1 ?_
 refine ZC M 7 (fun w M => c_Bh nameS w M.laid) fun u1 M => ?_
 refine rV 2 ?_
 refine pP M 0 rfl 0 (.string (Bh nameS)) (stL ⟨(Bh nameS), s.c, s.k, s.e⟩ R) (by omega) (fun j _ => put_st0 _ _ _ j) fun u2 M => ?_
 refine nT <| sR <| rV 4 <| ZE M 14 0 0 <| rV 2 ?_
 refine pP M 0 rfl 1 (.string (Bh nameS)) (stL ⟨(Bh nameS), (Bh nameS), s.k, s.e⟩ R) (by omega) (fun j _ => put_st1 _ _ _ j) fun u3 M => ?_
 refine nT <| sR <| rV 2 ?_
 refine ZY M 19 0 (.tuple #[]) (.cells (av n (stL (mixF ⟨(Bh nameS), (Bh nameS), s.k, s.e⟩ pr) R)) T) (fun w M => c_mixS g n T (by omega) ⟨(Bh nameS), (Bh nameS), s.k, s.e⟩ R pr (by show (Bh _).size + _ < _; rw [Bh_size]; omega) w M.laid (M.get 0 rfl) (M.ne0 0 rfl)) fun u4 M => ?_
 refine nT ?_
 refine rg_lit ?_
 refine rV 2 ?_
 refine ZY M 22 0 (.tuple #[]) (.cells (av n (stL (mixF (mixF ⟨(Bh nameS), (Bh nameS), s.k, s.e⟩ pr) pu) R)) T) (fun w M => c_mixS g n T (by omega) (mixF ⟨(Bh nameS), (Bh nameS), s.k, s.e⟩ pr) R pu (by show (Bh _).size + _ < _; rw [Bh_size]; omega) w M.laid (M.get 0 rfl) (M.ne0 0 rfl)) fun u5 M => ?_
 refine pl_nil ?_
 have e0 : beginF pr pu s = (mixF (mixF ⟨(Bh nameS), (Bh nameS), s.k, s.e⟩ pr) pu) := rfl
 exact bodyPost_end (v := .tuple #[]) (results_none Tryz.results31 _ _) (by kernel_rfl) ⟨rfl, M.old, by rw [e0]; exact M.get 0 rfl⟩
theorem c_made (g n T : Nat) (hn : 4 ≤ n) (s : St) (R : List Value) (hs : s.h.size = 32) (w : World) (hL : Laid w)  (hg : w.heap[g]? = some (.cells (av n (stL s R)) T)) (h0 : 2 < g) : Cs 39 #[.pointer (some ⟨g, 0, none⟩)] w (.bool true) := by
 go_enter Tryz.func39, Tryz.ntmps39
 have M := Mem.startp hL hg h0
 refine sq <| sR <| rV 3 <| ZE M 6 0 0 ?_
 by_cases c0 : s.h = (⟨#[]⟩ : Yb)
 ·exact absurd hs (by rw [c0]; decide)
 ·refine zJ 7 (.bool true) (.bool (!(s.h.toList == (⟨#[]⟩ : Yb).toList))) (by rw [seq_neg c0]; rfl) ?_
  refine rV 1 <| nT <| wp_ret ?_
  exact bX (.bool true) ⟨rfl, ro_below1 M.old hg (M.get 0 rfl)⟩
theorem c_public (g n T : Nat) (hn : 4 ≤ n) (s : St) (R : List Value) (x : Yb) (hx : x.size = 32) (w : World) (hL : Laid w)  (hg : w.heap[g]? = some (.cells (av n (stL s R)) T)) (h0 : 2 < g) : Calls Tryz.prog 35 #[.pointer (some ⟨g, 0, none⟩), .string x] w fun r w' => r = .returned (.string (pubF s x)) ∧ Grw w w' [g] ∧ w'.heap[g]? = some (.cells (av n (stL (s) R)) T) := by
 go_enter Tryz.func35, Tryz.ntmps35
 have M := Mem.startp hL hg h0
 refine sq <| wp_seq <| sR <| rV 3 <| ZE M 8 0 3 ?_
 by_cases c0 : s.e = 0
 ·refine wT 9 c0 ?_
  refine nT <| cT ?_
  refine rg_lit ?_
  refine rV 2 ?_
  refine pD M 13 (.tuple #[.string (puV x), .int .i64 0]) (fun w M => pub_tellsL x hx w M.laid) fun u1 M => ?_
  refine rV 6 ?_
  refine pP M 0 rfl 3 (.int .i64 0) (stL ⟨s.h, s.c, s.k, 0⟩ R) (by omega) (fun j _ => put_st3 _ _ _ j) fun u2 M => ?_
  refine nT <| sq <| wp_ret ?_
  have e0 : s = ⟨s.h, s.c, s.k, 0⟩ := st_eq rfl rfl rfl c0
  have e1 : (pubF s x) = (puV x) := by simp only [pubF, if_pos c0]
  exact bX (.string (puV x)) ⟨by rw [e1], M.old, by rw [e0]; exact M.get 0 rfl⟩
 ·refine wF 9 c0 ?_
  refine nT <| cF <| wp_skip <| au_then <| sq ?_
  refine wp_ret ?_
  have e1 : (pubF s x) = ⟨#[]⟩ := by simp only [pubF, if_neg c0]
  exact bX (.string zb) ⟨by rw [e1], M.old, M.get 0 rfl⟩
theorem pubF_le (s : St) (x : Yb) : (pubF s x).size ≤ 32 := by
 unfold pubF
 split
 ·rw [puV_size]; exact Nat.le_refl _
 ·exact Nat.zero_le _
theorem c_show (g n T : Nat) (hn : 4 ≤ n) (s : St) (R : List Value) (x : Yb) (hx : x.size = 32) (hs : s.h.size ≤ 32) (w : World) (hL : Laid w)  (hg : w.heap[g]? = some (.cells (av n (stL s R)) T)) (h0 : 2 < g) : Calls Tryz.prog 32 #[.pointer (some ⟨g, 0, none⟩), .string x] w fun r w' => r = .returned (.string (pubF s x)) ∧ Grw w w' [g] ∧ w'.heap[g]? = some (.cells (av n (stL (mixF s (pubF s x)) R)) T) := by
 go_enter Tryz.func32, Tryz.ntmps32
 have M := Mem.startp hL hg h0
 refine sq <| sR <| rV 2 ?_
 refine ZY M 8 0 (.string (pubF s x)) (.cells (av n (stL s R)) T) (fun w M => c_public g n T (by omega) s R x (hx) w M.laid (M.get 0 rfl) (M.ne0 0 rfl)) fun u1 M => ?_
 refine rV 1 <| nT <| sR <| rV 2 ?_
 refine ZY M 11 0 (.tuple #[]) (.cells (av n (stL (mixF s (pubF s x)) R)) T) (fun w M => c_mixS g n T (by omega) s R (pubF s x) (by have := pubF_le s x; omega) w M.laid (M.get 0 rfl) (M.ne0 0 rfl)) fun u2 M => ?_
 refine nT <| sq <| wp_ret ?_
 have e0 : mixF s (pubF s x) = (mixF s (pubF s x)) := rfl
 exact bX (.string (pubF s x)) ⟨rfl, M.old, by rw [e0]; exact M.get 0 rfl⟩
theorem c_next (g n T : Nat) (hn : 4 ≤ n) (s : St) (R : List Value) (t : Yb) (ht : t.size < 10000) (w : World) (hL : Laid w)  (hg : w.heap[g]? = some (.cells (av n (stL s R)) T)) (h0 : 2 < g) : Cs 40 #[.pointer (some ⟨g, 0, none⟩), .string t] w (.tuple #[.string (nxA s.c t), .string (nxB s.c t)]) := by
 go_enter Tryz.func40, Tryz.ntmps40
 have M := Mem.startp hL hg h0
 refine sq <| sR <| rV 3 <| ZE M 12 0 1 <| rV 1 ?_
 refine pl_calln M (want_no rfl) (some 14) rfl 65 #[.string s.c, .string t, .int .i64 2] (fun g1 => .tuple #[.slice (some ⟨g1, 0, none⟩) 2 2, .int .i64 0]) (.cells (av 2 (Bla.ws (Bla.txt s.c t))) 9) (fun _ => by kernel_rfl) (fun w M => Bla.c_ch s.c t ht 2 (by decide) (by decide) w M.laid) fun g1 u1 M => ?_
 refine rV 5 <| nT <| wp_seq ?_
 refine rgh M [⟨g, .cells (av n (stL s R)) T⟩, ⟨g1, .cells (av 2 (Bla.ws (Bla.txt s.c t))) 9⟩] 7 fun u2 M => ?_
 refine qV M 0 17 (.slice (some ⟨g1, 0, none⟩) 2 2) ?_
 refine qV M 1 18 (.pointer (some ⟨g1, 0, none⟩)) ?_
 refine qE M 2 19 1 0 ?_
 refine qV M 3 20 (.slice (some ⟨g1, 0, none⟩) 2 2) ?_
 refine qV M 4 21 (.pointer (some ⟨g1, 1, none⟩)) ?_
 refine qE M 5 22 1 1 ?_
 refine qV M 6 4 (.string (nxA s.c t)) ?_
 refine qZ ?_
 refine rV 1 <| nT <| au_then <| wp_ret ?_
 exact bX (.tuple #[.string (nxA s.c t), .string (nxB s.c t)]) ⟨rfl, ro_below1 M.old hg (M.get 0 rfl)⟩
theorem c_add (g n T : Nat) (hn : 4 ≤ n) (s : St) (R : List Value) (x y : Yb) (hx : x.size = 32) (hy : s.e = 0 → y.size = 32) (w : World) (hL : Laid w)  (hg : w.heap[g]? = some (.cells (av n (stL s R)) T)) (h0 : 2 < g) : Calls Tryz.prog 33 #[.pointer (some ⟨g, 0, none⟩), .string x, .string y] w fun r w' => r = .returned (.tuple #[]) ∧ Grw w w' [g] ∧ w'.heap[g]? = some (.cells (av n (stL (addF s x y) R)) T) := by
 go_enter Tryz.func33, Tryz.ntmps33
 have M := Mem.startp hL hg h0
 refine wp_seq <| sR <| rV 3 <| ZE M 11 0 3 ?_
 by_cases c0 : s.e = 0
 ·refine wD 12 c0 ?_
  refine nT <| cF <| wp_skip <| au_then <| sR ?_
  refine rV 2 ?_
  by_cases c1 : shN x y = 0
  ·refine ZC M 16 (fun w M => c_shZ x y hx (hy c0) c1 w M.laid) fun u1 M => ?_
   refine rV 5 <| nT <| wp_seq <| sq <| cT ?_
   refine sR <| rV 4 ?_
   refine pP M 0 rfl 3 (.int .i64 30) (stL ⟨s.h, s.c, s.k, 30⟩ R) (by omega) (fun j _ => put_st3 _ _ _ j) fun u2 M => ?_
   refine nT <| wp_ret <| au_then_ret ?_
   have e0 : addF s x y = ⟨s.h, s.c, s.k, 30⟩ := by simp only [addF, if_pos c0, if_pos c1]
   exact bodyPost_ret (v := .tuple #[]) (results_none Tryz.results33 _ _) (by kernel_rfl) ⟨rfl, M.old, by rw [e0]; exact M.get 0 rfl⟩
  ·refine ZC M 16 (fun w M => c_shN x y hx (hy c0) c1 w M.laid) fun u1 M => ?_
   refine rV 5 <| nT <| wp_seq <| sq <| cF ?_
   refine wp_skip <| au_then ?_
   refine rg_lit ?_
   refine rV 4 ?_
   refine ZC M 30 (fun w M => c_next g n T (by omega) s R (Mon.lebytes (shN x y)) (by rw [Mon.leb_size]; decide) w M.laid (M.get 0 rfl) (M.ne0 0 rfl)) fun u2 M => ?_
   refine rV 5 ?_
   refine pP M 0 rfl 1 (.string (nxA s.c (Mon.lebytes (shN x y)))) (stL ⟨s.h, (nxA s.c (Mon.lebytes (shN x y))), s.k, s.e⟩ R) (by omega) (fun j _ => put_st1 _ _ _ j) fun u3 M => ?_
   refine rV 2 ?_
   refine pP M 0 rfl 2 (.string (nxB s.c (Mon.lebytes (shN x y)))) (stL ⟨s.h, (nxA s.c (Mon.lebytes (shN x y))), (nxB s.c (Mon.lebytes (shN x y))), s.e⟩ R) (by omega) (fun j _ => put_st2 _ _ _ j) fun u4 M => ?_
   refine pl_nil ?_
   have e0 : addF s x y = ⟨s.h, (nxA s.c (Mon.lebytes (shN x y))), (nxB s.c (Mon.lebytes (shN x y))), s.e⟩ := by simp only [addF, if_pos c0, if_neg c1]
   exact bodyPost_end (v := .tuple #[]) (results_none Tryz.results33 _ _) (by kernel_rfl) ⟨rfl, M.old, by rw [e0]; exact M.get 0 rfl⟩
 ·refine wU 12 c0 ?_
  refine nT <| cT <| wp_ret <| au_then_ret ?_
  have e0 : addF s x y = s := by simp only [addF, if_neg c0]
  exact bodyPost_ret (v := .tuple #[]) (results_none Tryz.results33 _ _) (by kernel_rfl) ⟨rfl, M.old, by rw [e0]; exact M.get 0 rfl⟩
theorem c_seal (g n T : Nat) (hn : 4 ≤ n) (s : St) (R : List Value) (t : Yb) (hs : s.h.size = 32) (hk : s.e = 0 → s.k.size = 32) (ht : t.size ≤ 5000) (w : World) (hL : Laid w)  (hg : w.heap[g]? = some (.cells (av n (stL s R)) T)) (h0 : 2 < g) : Calls Tryz.prog 34 #[.pointer (some ⟨g, 0, none⟩), .string t] w fun r w' => r = .returned (.string (sealV s t)) ∧ Grw w w' [g] ∧ w'.heap[g]? = some (.cells (av n (stL (sealF s t) R)) T) := by
 go_enter Tryz.func34, Tryz.ntmps34
 have M := Mem.startp hL hg h0
 refine sq <| wp_seq <| sR <| rV 3 <| ZE M 8 0 3 ?_
 by_cases c0 : s.e = 0
 ·refine wT 9 c0 ?_
  refine nT <| cT <| wp_seq ?_
  refine rgh M [⟨g, .cells (av n (stL s R)) T⟩] 18 fun u1 M => ?_
  refine qV M 0 11 (.pointer (some ⟨g, 0, none⟩)) ?_
  refine qV M 1 12 (.pointer (some ⟨g, 0, none⟩)) ?_
  refine qV M 2 13 (.pointer (some ⟨g, 0, none⟩)) ?_
  refine qV M 3 14 (.pointer (some ⟨g, 2, none⟩)) ?_
  refine qE M 4 15 0 2 ?_
  refine qV M 6 17 (.pointer (some ⟨g, 0, none⟩)) ?_
  refine qV M 7 18 (.pointer (some ⟨g, 0, none⟩)) ?_
  refine qV M 8 19 (.pointer (some ⟨g, 0, none⟩)) ?_
  refine qE M 9 20 0 0 ?_
  refine qV M 10 21 (.string t) ?_
  refine qO 5 ?_
  refine ZC M 16 (fun w M => c_Nonce 0 w M.laid) fun u2 M => ?_
  refine nT ?_
  refine ⟨M, ?_⟩
  refine qO 11 ?_
  refine pC M 22 46 #[.string s.k, .string n0, .string s.h, .string t] (.tuple #[.string (sealS s.k n0 s.h t), .int .i64 0]) (fun w M => c_SealA _ _ _ t (sf_seal (hk c0) hs (by omega)) w M.laid) fun u3 M => ?_
  refine nT ?_
  refine ⟨M, ?_⟩
  refine qV M 12 10 (.tuple #[.string (sealS s.k n0 s.h t), .int .i64 0]) ?_
  refine qV M 13 23 (.string (sealS s.k n0 s.h t)) ?_
  refine qV M 14 24 (.int .i64 0) ?_
  refine qV M 15 4 (.string (sealS s.k n0 s.h t)) ?_
  refine qV M 16 25 (.pointer (some ⟨g, 0, none⟩)) ?_
  refine qV M 17 26 (.pointer (some ⟨g, 3, none⟩)) ?_
  refine qZ ?_
  refine pP M 0 rfl 3 (.int .i64 0) (stL ⟨s.h, s.c, s.k, 0⟩ R) (by omega) (fun j _ => put_st3 _ _ _ j) fun u4 M => ?_
  refine nT <| au_then ?_
  refine rg_lit ?_
  refine rV 2 ?_
  refine ZY M 29 0 (.tuple #[]) (.cells (av n (stL (mixF ⟨s.h, s.c, s.k, 0⟩ (sealS s.k n0 s.h t)) R)) T) (fun w M => c_mixS g n T (by omega) ⟨s.h, s.c, s.k, 0⟩ R (sealS s.k n0 s.h t) (by show s.h.size + _ < _; rw [sealS_size]; omega) w M.laid (M.get 0 rfl) (M.ne0 0 rfl)) fun u5 M => ?_
  refine nT <| sq <| wp_ret ?_
  have e0 : sealF s t = (mixF ⟨s.h, s.c, s.k, 0⟩ (sealS s.k n0 s.h t)) := by simp only [sealF, if_pos c0]
  have e1 : (sealV s t) = (sealS s.k n0 s.h t) := by simp only [sealV, if_pos c0]
  exact bX (.string (sealS s.k n0 s.h t)) ⟨by rw [e1], M.old, by rw [e0]; exact M.get 0 rfl⟩
 ·refine wF 9 c0 ?_
  refine nT <| cF <| wp_skip <| au_then <| sq ?_
  refine wp_ret ?_
  have e0 : sealF s t = s := by simp only [sealF, if_neg c0]
  have e1 : (sealV s t) = ⟨#[]⟩ := by simp only [sealV, if_neg c0]
  exact bX (.string zb) ⟨by rw [e1], M.old, by rw [e0]; exact M.get 0 rfl⟩
theorem c_open (g n T : Nat) (hn : 4 ≤ n) (s : St) (R : List Value) (t : Yb) (hs : s.h.size = 32) (hk : s.e = 0 → s.k.size = 32) (ht : t.size ≤ 5000) (h6 : 16 ≤ t.size) (w : World) (hL : Laid w)  (hg : w.heap[g]? = some (.cells (av n (stL s R)) T)) (h0 : 2 < g) : Calls Tryz.prog 38 #[.pointer (some ⟨g, 0, none⟩), .string t] w fun r w' => r = .returned (.string (openV s t)) ∧ Grw w w' [g] ∧ w'.heap[g]? = some (.cells (av n (stL (openF s t) R)) T) := by
 go_enter Tryz.func38, Tryz.ntmps38
 have M := Mem.startp hL hg h0
 refine sq <| wp_seq <| sR <| rV 3 <| ZE M 8 0 3 ?_
 by_cases c0 : s.e = 0
 ·refine wT 9 c0 ?_
  refine nT <| cT <| wp_seq ?_
  refine rgh M [⟨g, .cells (av n (stL s R)) T⟩] 18 fun u1 M => ?_
  refine qV M 0 11 (.pointer (some ⟨g, 0, none⟩)) ?_
  refine qV M 1 12 (.pointer (some ⟨g, 0, none⟩)) ?_
  refine qV M 2 13 (.pointer (some ⟨g, 0, none⟩)) ?_
  refine qV M 3 14 (.pointer (some ⟨g, 2, none⟩)) ?_
  refine qE M 4 15 0 2 ?_
  refine qV M 6 17 (.pointer (some ⟨g, 0, none⟩)) ?_
  refine qV M 7 18 (.pointer (some ⟨g, 0, none⟩)) ?_
  refine qV M 8 19 (.pointer (some ⟨g, 0, none⟩)) ?_
  refine qE M 9 20 0 0 ?_
  refine qV M 10 21 (.string t) ?_
  refine qO 5 ?_
  refine ZC M 16 (fun w M => c_Nonce 0 w M.laid) fun u2 M => ?_
  refine nT ?_
  refine ⟨M, ?_⟩
  refine qO 11 ?_
  by_cases c1 : tgX s.k n0 s.h t = t.extract (t.size - 16) t.size
  ·refine pC M 22 49 #[.string s.k, .string n0, .string s.h, .string t] (.tuple #[.string (opS s.k n0 t), .int .i64 0]) (fun w M => c_OpenA _ _ _ t (sf_open (hk c0) hs (by omega) h6) c1 w M.laid) fun u3 M => ?_
   refine nT ?_
   refine ⟨M, ?_⟩
   refine qV M 12 10 (.tuple #[.string (opS s.k n0 t), .int .i64 0]) ?_
   refine qV M 13 23 (.string (opS s.k n0 t)) ?_
   refine qV M 14 24 (.int .i64 0) ?_
   refine qV M 15 4 (.string (opS s.k n0 t)) ?_
   refine qV M 16 25 (.pointer (some ⟨g, 0, none⟩)) ?_
   refine qV M 17 26 (.pointer (some ⟨g, 3, none⟩)) ?_
   refine qZ ?_
   refine pP M 0 rfl 3 (.int .i64 0) (stL ⟨s.h, s.c, s.k, 0⟩ R) (by omega) (fun j _ => put_st3 _ _ _ j) fun u4 M => ?_
   refine nT <| au_then ?_
   refine rg_lit ?_
   refine rV 2 ?_
   refine ZY M 29 0 (.tuple #[]) (.cells (av n (stL (mixF ⟨s.h, s.c, s.k, 0⟩ t) R)) T) (fun w M => c_mixS g n T (by omega) ⟨s.h, s.c, s.k, 0⟩ R t (by show s.h.size + t.size < _; omega) w M.laid (M.get 0 rfl) (M.ne0 0 rfl)) fun u5 M => ?_
   refine nT <| sq <| wp_ret ?_
   have e0 : openF s t = (mixF ⟨s.h, s.c, s.k, 0⟩ t) := by simp only [openF, if_pos c0, if_pos c1]
   have e1 : (openV s t) = (opS s.k n0 t) := by simp only [openV, if_pos c0, if_pos c1]
   exact bX (.string (opS s.k n0 t)) ⟨by rw [e1], M.old, by rw [e0]; exact M.get 0 rfl⟩
  ·refine pC M 22 49 #[.string s.k, .string n0, .string s.h, .string t] (.tuple #[.string zb, .int .i64 100]) (fun w M => c_OpenB _ _ _ t (sf_open (hk c0) hs (by omega) h6) c1 w M.laid) fun u3 M => ?_
   refine nT ?_
   refine ⟨M, ?_⟩
   refine qV M 12 10 (.tuple #[.string zb, .int .i64 100]) ?_
   refine qV M 13 23 (.string zb) ?_
   refine qV M 14 24 (.int .i64 100) ?_
   refine qV M 15 4 (.string zb) ?_
   refine qV M 16 25 (.pointer (some ⟨g, 0, none⟩)) ?_
   refine qV M 17 26 (.pointer (some ⟨g, 3, none⟩)) ?_
   refine qZ ?_
   refine pP M 0 rfl 3 (.int .i64 100) (stL ⟨s.h, s.c, s.k, 100⟩ R) (by omega) (fun j _ => put_st3 _ _ _ j) fun u4 M => ?_
   refine nT <| au_then ?_
   refine rg_lit ?_
   refine rV 2 ?_
   refine ZY M 29 0 (.tuple #[]) (.cells (av n (stL (mixF ⟨s.h, s.c, s.k, 100⟩ t) R)) T) (fun w M => c_mixS g n T (by omega) ⟨s.h, s.c, s.k, 100⟩ R t (by show s.h.size + t.size < _; omega) w M.laid (M.get 0 rfl) (M.ne0 0 rfl)) fun u5 M => ?_
   refine nT <| sq <| wp_ret ?_
   have e0 : openF s t = (mixF ⟨s.h, s.c, s.k, 100⟩ t) := by simp only [openF, if_pos c0, if_neg c1]
   have e1 : (openV s t) = ⟨#[]⟩ := by simp only [openV, if_pos c0, if_neg c1]
   exact bX (.string zb) ⟨by rw [e1], M.old, by rw [e0]; exact M.get 0 rfl⟩
 ·refine wF 9 c0 ?_
  refine nT <| cF <| wp_skip <| au_then <| sq ?_
  refine wp_ret ?_
  have e0 : openF s t = s := by simp only [openF, if_neg c0]
  have e1 : (openV s t) = ⟨#[]⟩ := by simp only [openV, if_neg c0]
  exact bX (.string zb) ⟨by rw [e1], M.old, by rw [e0]; exact M.get 0 rfl⟩
theorem c_end (g n T : Nat) (hn : 4 ≤ n) (s : St) (R : List Value)  (w : World) (hL : Laid w)  (hg : w.heap[g]? = some (.cells (av n (stL s R)) T)) (h0 : 2 < g) : Calls Tryz.prog 36 #[.pointer (some ⟨g, 0, none⟩)] w fun r w' => r = .returned (.int .i64 s.e) ∧ Grw w w' [g] ∧ w'.heap[g]? = some (.cells (av n (stL (endF s) R)) T) := by
 go_enter Tryz.func36, Tryz.ntmps36
 have M := Mem.startp hL hg h0
 refine sq <| sR <| rV 3 ?_
 refine pP M 0 rfl 2 (.string zb) (stL ⟨s.h, s.c, ⟨#[]⟩, s.e⟩ R) (by omega) (fun j _ => put_st2 _ _ _ j) fun u1 M => ?_
 refine nT <| sR <| rV 3 <| ZE M 9 0 3 <| rV 1 ?_
 refine nT <| wp_ret ?_
 have e0 : endF s = ⟨s.h, s.c, ⟨#[]⟩, s.e⟩ := rfl
 exact bX (.int .i64 s.e) ⟨rfl, M.old, by rw [e0]; exact M.get 0 rfl⟩
open Go.RowKit
def z0 : St := ⟨⟨#[]⟩, ⟨#[]⟩, ⟨#[]⟩, 0⟩
def adN (s : St) (V : Int) : St := ⟨s.h, nxA s.c (Mon.lebytes V), nxB s.c (Mon.lebytes V), 0⟩
abbrev tagOk (s : St) (t : Yb) : Prop := tgX s.k n0 s.h t = t.extract (t.size - 16) t.size
theorem mixF_e {s : St} {t : Yb} {n : Int} (h : s.e = n) : (mixF s t).e = n := by
 unfold mixF
 exact h
theorem mixF_h (s : St) (t : Yb) : (mixF s t).h.size = 32 := Bh_size _
theorem beginF_h (pr pu : Yb) (s : St) : (beginF pr pu s).h.size = 32 := mixF_h _ _
theorem addF_h (s : St) (x y : Yb) : (addF s x y).h = s.h := by
 unfold addF
 split
 ·split <;> rfl
 ·rfl
theorem addF_k {s : St} {x y : Yb} (h : (addF s x y).e = 0) : (addF s x y).k.size = 32 := by
 unfold addF at h ⊢
 split
 ·rename_i h0
  rw [if_pos h0] at h
  split
  ·rename_i h1
   rw [if_pos h1] at h
   cases h
  ·exact nxB_size _ _
 ·rename_i h0
  rw [if_neg h0] at h
  exact absurd h h0
theorem addF_ok {s : St} {x y : Yb} (h : s.e = 0) (hn : ¬ shN x y = 0) : addF s x y = adN s (shN x y) := by
 unfold addF adN
 rw [if_pos h, if_neg hn, h]
theorem addF_z {s : St} {x y : Yb} (h : s.e = 0) (hn : shN x y = 0) : (addF s x y).e = 30 := by
 unfold addF
 rw [if_pos h, if_pos hn]
theorem addF_no {s : St} {x y : Yb} (h : ¬ s.e = 0) : addF s x y = s := if_neg h
theorem sealF_ok {s : St} {t : Yb} (h : s.e = 0) : sealF s t = mixF s (sealS s.k n0 s.h t) := by
 unfold sealF
 rw [if_pos h, st_eq (a := ⟨s.h, s.c, s.k, 0⟩) (b := s) rfl rfl rfl h.symm]
theorem sealF_h {s : St} {t : Yb} (h : s.h.size = 32) : (sealF s t).h.size = 32 := by
 unfold sealF
 split
 ·exact mixF_h _ _
 ·exact h
theorem sealF_e (s : St) (t : Yb) : (sealF s t).e = s.e := by
 unfold sealF
 split
 ·rename_i h
  exact h.symm
 ·rfl
theorem openF_ok {s : St} {t : Yb} (h : s.e = 0) (ht : tagOk s t) : openF s t = mixF s t := by
 unfold openF
 rw [if_pos h, if_pos ht, st_eq (a := ⟨s.h, s.c, s.k, 0⟩) (b := s) rfl rfl rfl h.symm]
theorem openF_bad {s : St} {t : Yb} (h : s.e = 0) (ht : ¬ tagOk s t) : (openF s t).e = 100 := by
 unfold openF
 rw [if_pos h, if_neg ht]
 rfl
theorem openF_no {s : St} {t : Yb} (h : ¬ s.e = 0) : openF s t = s := if_neg h
theorem openF_h {s : St} {t : Yb} (h : s.h.size = 32) : (openF s t).h.size = 32 := by
 unfold openF
 split
 ·split <;> exact mixF_h _ _
 ·exact h
theorem openV_ok {s : St} {t : Yb} (h : s.e = 0) (ht : tagOk s t) : openV s t = opS s.k n0 t := by
 unfold openV
 rw [if_pos h, if_pos ht]
theorem opS_size (k n t : Yb) : (opS k n t).size = t.size - 16 := by
 unfold opS
 rw [tn_size, cx_size]
theorem openV_size {s : St} {t : Yb} (h : (openF s t).e = 0) : (openV s t).size = t.size - 16 := by
 by_cases h0 : s.e = 0
 ·by_cases h1 : tagOk s t
  ·rw [openV_ok h0 h1, opS_size]
  ·rw [openF_bad h0 h1] at h
   cases h
 ·rw [openF_no h0] at h
  exact absurd h h0
theorem sealV_le (s : St) (t : Yb) : (sealV s t).size ≤ t.size + 16 := by
 unfold sealV
 split
 ·rw [sealS_size]; exact Nat.le_refl _
 ·exact Nat.zero_le _
theorem pubF_ok {s : St} {x : Yb} (h : s.e = 0) : pubF s x = puV x := if_pos h
def bS0 (b pr : Yb) : St := beginF pr b z0
def bS1 (b e pr : Yb) : St := mixF (bS0 b pr) (pubF (bS0 b pr) e)
def bS2 (b e pr : Yb) : St := addF (bS1 b e pr) e b
def bS3 (a b e pr : Yb) : St := sealF (bS2 b e pr) (pubF (bS2 b e pr) a)
def bS4 (a b e pr : Yb) : St := addF (bS3 a b e pr) a b
def bS5 (a b e pr pl : Yb) : St := sealF (bS4 a b e pr) pl
def bMs (a b e pr pl : Yb) : ByteArray := pubF (bS0 b pr) e ++ sealV (bS2 b e pr) (pubF (bS2 b e pr) a) ++ sealV (bS4 a b e pr) pl
def bgE (a b e pr pl : Yb) : Int := if (a.size : Int) = 32 then (if (b.size : Int) = 32 then (if (e.size : Int) = 32 then (if 4096 < (pr.size : Int) then 4 else if 4096 < (pl.size : Int) then 4 else (bS5 a b e pr pl).e) else 2) else 2) else 2
def tS1 (b e pr : Yb) : St := mixF (bS0 b pr) (puV e)
def tS2 (b e pr : Yb) : St := adN (tS1 b e pr) (shN e b)
def tX1 (a b e pr : Yb) : ByteArray := sealS (tS2 b e pr).k n0 (tS2 b e pr).h (puV a)
def tS3 (a b e pr : Yb) : St := mixF (tS2 b e pr) (tX1 a b e pr)
def tS4 (a b e pr : Yb) : St := adN (tS3 a b e pr) (shN a b)
def tX2 (a b e pr pl : Yb) : ByteArray := sealS (tS4 a b e pr).k n0 (tS4 a b e pr).h pl
def tS5 (a b e pr pl : Yb) : St := mixF (tS4 a b e pr) (tX2 a b e pr pl)
def tMs (a b e pr pl : Yb) : ByteArray := puV e ++ tX1 a b e pr ++ tX2 a b e pr pl
theorem bS2_t {b e pr : Yb} (h : ¬ shN e b = 0) : bS2 b e pr = tS2 b e pr := addF_ok rfl h
theorem bS3_t {a b e pr : Yb} (h : ¬ shN e b = 0) : bS3 a b e pr = tS3 a b e pr := by
 unfold bS3
 rw [bS2_t h]
 exact sealF_ok rfl
theorem bS4_t {a b e pr : Yb} (h : ¬ shN e b = 0) (h2 : ¬ shN a b = 0) : bS4 a b e pr = tS4 a b e pr := by
 unfold bS4
 rw [bS3_t h]
 exact addF_ok rfl h2
theorem bS5_t {a b e pr pl : Yb} (h : ¬ shN e b = 0) (h2 : ¬ shN a b = 0) : bS5 a b e pr pl = tS5 a b e pr pl := by
 unfold bS5
 rw [bS4_t h h2]
 exact sealF_ok rfl
theorem bMs_t {a b e pr pl : Yb} (h : ¬ shN e b = 0) (h2 : ¬ shN a b = 0) : bMs a b e pr pl = tMs a b e pr pl := by
 unfold bMs
 rw [bS4_t h h2, bS2_t h]
 rfl
theorem bS5_e (a b e pr pl : Yb) : (bS5 a b e pr pl).e = if shN e b = 0 then 30 else if shN a b = 0 then 30 else 0 := by
 unfold bS5
 rw [sealF_e]
 by_cases h : shN e b = 0
 ·have h1 : (bS2 b e pr).e = 30 := addF_z rfl h
  have h2 : (bS3 a b e pr).e = 30 := by unfold bS3; rw [sealF_e, h1]
  have h3 : bS4 a b e pr = bS3 a b e pr := addF_no (by rw [h2]; decide)
  rw [h3, h2, if_pos h]
 ·rw [if_neg h]
  by_cases h2 : shN a b = 0
  ·rw [if_pos h2]
   unfold bS4
   rw [bS3_t h]
   exact addF_z rfl h2
  ·rw [if_neg h2, bS4_t h h2]
   rfl
def rE (m : Yb) : ByteArray := m.extract 0 32
def rC1 (m : Yb) : ByteArray := m.extract 32 80
def rC2 (m : Yb) : ByteArray := m.extract 80 m.size
def rS0 (b pr : Yb) : St := beginF pr (pubF z0 b) z0
def rS1 (b pr m : Yb) : St := mixF (rS0 b pr) (rE m)
def rS2 (b pr m : Yb) : St := addF (rS1 b pr m) b (rE m)
def rF (b pr m : Yb) : ByteArray := openV (rS2 b pr m) (rC1 m)
def rS3 (b pr m : Yb) : St := openF (rS2 b pr m) (rC1 m)
def rS4 (b pr m : Yb) : St := addF (rS3 b pr m) b (rF b pr m)
def rP (b pr m : Yb) : ByteArray := openV (rS4 b pr m) (rC2 m)
def rS5 (b pr m : Yb) : St := openF (rS4 b pr m) (rC2 m)
def rdE (b pr m : Yb) : Int := if (b.size : Int) = 32 then (if 4096 < (pr.size : Int) then 4 else if 4192 < (m.size : Int) then 4 else if (m.size : Int) < 96 then 7 else (rS5 b pr m).e) else 2
def uS2 (b pr m : Yb) : St := adN (rS1 b pr m) (shN b (rE m))
def uF (b pr m : Yb) : ByteArray := opS (uS2 b pr m).k n0 (rC1 m)
def uS3 (b pr m : Yb) : St := mixF (uS2 b pr m) (rC1 m)
def uS4 (b pr m : Yb) : St := adN (uS3 b pr m) (shN b (uF b pr m))
def uP (b pr m : Yb) : ByteArray := opS (uS4 b pr m).k n0 (rC2 m)
def uS5 (b pr m : Yb) : St := mixF (uS4 b pr m) (rC2 m)
theorem rS2_u {b pr m : Yb} (h : ¬ shN b (rE m) = 0) : rS2 b pr m = uS2 b pr m := addF_ok rfl h
theorem rS3_u {b pr m : Yb} (h : ¬ shN b (rE m) = 0) (h1 : tagOk (uS2 b pr m) (rC1 m)) : rS3 b pr m = uS3 b pr m := by
 unfold rS3
 rw [rS2_u h]
 exact openF_ok rfl h1
theorem rF_u {b pr m : Yb} (h : ¬ shN b (rE m) = 0) (h1 : tagOk (uS2 b pr m) (rC1 m)) : rF b pr m = uF b pr m := by
 unfold rF
 rw [rS2_u h]
 exact openV_ok rfl h1
theorem rS4_u {b pr m : Yb} (h : ¬ shN b (rE m) = 0) (h1 : tagOk (uS2 b pr m) (rC1 m)) (h2 : ¬ shN b (uF b pr m) = 0) : rS4 b pr m = uS4 b pr m := by
 unfold rS4
 rw [rS3_u h h1, rF_u h h1]
 exact addF_ok rfl h2
theorem rS5_u {b pr m : Yb} (h : ¬ shN b (rE m) = 0) (h1 : tagOk (uS2 b pr m) (rC1 m)) (h2 : ¬ shN b (uF b pr m) = 0) (h3 : tagOk (uS4 b pr m) (rC2 m)) : rS5 b pr m = uS5 b pr m := by
 unfold rS5
 rw [rS4_u h h1 h2]
 exact openF_ok rfl h3
theorem rP_u {b pr m : Yb} (h : ¬ shN b (rE m) = 0) (h1 : tagOk (uS2 b pr m) (rC1 m)) (h2 : ¬ shN b (uF b pr m) = 0) (h3 : tagOk (uS4 b pr m) (rC2 m)) : rP b pr m = uP b pr m := by
 unfold rP
 rw [rS4_u h h1 h2]
 exact openV_ok rfl h3
theorem rS5_e (b pr m : Yb) : (rS5 b pr m).e = if shN b (rE m) = 0 then 30 else if tagOk (uS2 b pr m) (rC1 m) then (if shN b (uF b pr m) = 0 then 30 else if tagOk (uS4 b pr m) (rC2 m) then 0 else 100) else 100 := by
 have no : ∀ {n : Int}, n ≠ 0 → (rS3 b pr m).e = n → (rS5 b pr m).e = n := fun hn h => by
  have h4 : rS4 b pr m = rS3 b pr m := addF_no (by rw [h]; exact hn)
  unfold rS5
  rw [h4, openF_no (by rw [h]; exact hn), h]
 by_cases h : shN b (rE m) = 0
 ·rw [if_pos h]
  have h2 : (rS2 b pr m).e = 30 := addF_z rfl h
  exact no (by decide) (by unfold rS3; rw [openF_no (by rw [h2]; decide), h2])
 ·rw [if_neg h]
  by_cases h1 : tagOk (uS2 b pr m) (rC1 m)
  ·rw [if_pos h1]
   by_cases h2 : shN b (uF b pr m) = 0
   ·rw [if_pos h2]
    have h4 : (rS4 b pr m).e = 30 := by
     unfold rS4
     rw [rS3_u h h1, rF_u h h1]
     exact addF_z rfl h2
    unfold rS5
    rw [openF_no (by rw [h4]; decide), h4]
   ·rw [if_neg h2]
    by_cases h3 : tagOk (uS4 b pr m) (rC2 m)
    ·rw [if_pos h3, rS5_u h h1 h2 h3]
     rfl
    ·rw [if_neg h3]
     unfold rS5
     rw [rS4_u h h1 h2]
     exact openF_bad rfl h3
  ·rw [if_neg h1]
   refine no (by decide) ?_
   unfold rS3
   rw [rS2_u h]
   exact openF_bad rfl h1
def aS1 (s : St) (e : Yb) : St := mixF s (pubF s e)
def aS2 (s : St) (x e : Yb) : St := addF (aS1 s e) e x
def aS3 (s : St) (f x e : Yb) : St := addF (aS2 s x e) e f
def aS4 (s : St) (f x e pl : Yb) : St := sealF (aS3 s f x e) pl
def aRp (s : St) (f x e pl : Yb) : ByteArray := pubF s e ++ sealV (aS3 s f x e) pl
def anE (s : St) (f x e pl : Yb) : Int := if (e.size : Int) = 32 then (if 4096 < (pl.size : Int) then 4 else (aS4 s f x e pl).e) else 2
def vS2 (s : St) (x e : Yb) : St := adN (mixF s (puV e)) (shN e x)
def vS3 (s : St) (f x e : Yb) : St := adN (vS2 s x e) (shN e f)
def vX (s : St) (f x e pl : Yb) : ByteArray := sealS (vS3 s f x e).k n0 (vS3 s f x e).h pl
def vS4 (s : St) (f x e pl : Yb) : St := mixF (vS3 s f x e) (vX s f x e pl)
def vRp (s : St) (f x e pl : Yb) : ByteArray := puV e ++ vX s f x e pl
theorem aS2_v {s : St} {x e : Yb} (h0 : s.e = 0) (h : ¬ shN e x = 0) : aS2 s x e = vS2 s x e := by
 unfold aS2 aS1
 rw [pubF_ok h0]
 exact addF_ok (mixF_e h0) h
theorem aS3_v {s : St} {f x e : Yb} (h0 : s.e = 0) (h : ¬ shN e x = 0) (h1 : ¬ shN e f = 0) : aS3 s f x e = vS3 s f x e := by
 unfold aS3
 rw [aS2_v h0 h]
 exact addF_ok rfl h1
theorem aS4_v {s : St} {f x e pl : Yb} (h0 : s.e = 0) (h : ¬ shN e x = 0) (h1 : ¬ shN e f = 0) : aS4 s f x e pl = vS4 s f x e pl := by
 unfold aS4
 rw [aS3_v h0 h h1]
 exact sealF_ok rfl
theorem aRp_v {s : St} {f x e pl : Yb} (h0 : s.e = 0) (h : ¬ shN e x = 0) (h1 : ¬ shN e f = 0) : aRp s f x e pl = vRp s f x e pl := by
 unfold aRp
 rw [aS3_v h0 h h1, pubF_ok h0]
 rfl
theorem aS4_e {s : St} (f x e pl : Yb) (h0 : s.e = 0) : (aS4 s f x e pl).e = if shN e x = 0 then 30 else if shN e f = 0 then 30 else 0 := by
 unfold aS4
 rw [sealF_e]
 by_cases h : shN e x = 0
 ·have h1 : (aS2 s x e).e = 30 := addF_z (mixF_e h0) h
  have h3 : aS3 s f x e = aS2 s x e := addF_no (by rw [h1]; decide)
  rw [h3, h1, if_pos h]
 ·rw [if_neg h]
  by_cases h2 : shN e f = 0
  ·rw [if_pos h2]
   unfold aS3
   rw [aS2_v h0 h]
   exact addF_z rfl h2
  ·rw [if_neg h2, aS3_v h0 h h2]
   rfl
def fC (r : Yb) : ByteArray := r.extract 32 r.size
def fS1 (s : St) (r : Yb) : St := mixF s (rE r)
def fS2 (s : St) (e r : Yb) : St := addF (fS1 s r) e (rE r)
def fS3 (s : St) (a e r : Yb) : St := addF (fS2 s e r) a (rE r)
def fP (s : St) (a e r : Yb) : ByteArray := openV (fS3 s a e r) (fC r)
def fS4 (s : St) (a e r : Yb) : St := openF (fS3 s a e r) (fC r)
def fiE (s : St) (a e r : Yb) : Int := if 4144 < (r.size : Int) then 4 else if (r.size : Int) < 48 then 7 else (fS4 s a e r).e
def gS2 (s : St) (e r : Yb) : St := adN (fS1 s r) (shN e (rE r))
def gS3 (s : St) (a e r : Yb) : St := adN (gS2 s e r) (shN a (rE r))
def gP (s : St) (a e r : Yb) : ByteArray := opS (gS3 s a e r).k n0 (fC r)
def gS4 (s : St) (a e r : Yb) : St := mixF (gS3 s a e r) (fC r)
theorem fS2_g {s : St} {e r : Yb} (h0 : s.e = 0) (h : ¬ shN e (rE r) = 0) : fS2 s e r = gS2 s e r := addF_ok (mixF_e h0) h
theorem fS3_g {s : St} {a e r : Yb} (h0 : s.e = 0) (h : ¬ shN e (rE r) = 0) (h1 : ¬ shN a (rE r) = 0) : fS3 s a e r = gS3 s a e r := by
 unfold fS3
 rw [fS2_g h0 h]
 exact addF_ok rfl h1
theorem fS4_g {s : St} {a e r : Yb} (h0 : s.e = 0) (h : ¬ shN e (rE r) = 0) (h1 : ¬ shN a (rE r) = 0) (h2 : tagOk (gS3 s a e r) (fC r)) : fS4 s a e r = gS4 s a e r := by
 unfold fS4
 rw [fS3_g h0 h h1]
 exact openF_ok rfl h2
theorem fP_g {s : St} {a e r : Yb} (h0 : s.e = 0) (h : ¬ shN e (rE r) = 0) (h1 : ¬ shN a (rE r) = 0) (h2 : tagOk (gS3 s a e r) (fC r)) : fP s a e r = gP s a e r := by
 unfold fP
 rw [fS3_g h0 h h1]
 exact openV_ok rfl h2
theorem fS4_e {s : St} (a e r : Yb) (h0 : s.e = 0) : (fS4 s a e r).e = if shN e (rE r) = 0 then 30 else if shN a (rE r) = 0 then 30 else if tagOk (gS3 s a e r) (fC r) then 0 else 100 := by
 have no : ∀ {n : Int}, n ≠ 0 → (fS3 s a e r).e = n → (fS4 s a e r).e = n := fun hn h => by
  unfold fS4
  rw [openF_no (by rw [h]; exact hn), h]
 by_cases h : shN e (rE r) = 0
 ·have h1 : (fS2 s e r).e = 30 := addF_z (mixF_e h0) h
  rw [if_pos h]
  exact no (by decide) (by unfold fS3; rw [addF_no (by rw [h1]; decide), h1])
 ·rw [if_neg h]
  by_cases h1 : shN a (rE r) = 0
  ·rw [if_pos h1]
   refine no (by decide) ?_
   unfold fS3
   rw [fS2_g h0 h]
   exact addF_z rfl h1
  ·rw [if_neg h1]
   by_cases h2 : tagOk (gS3 s a e r) (fC r)
   ·rw [if_pos h2, fS4_g h0 h h1 h2]
    rfl
   ·rw [if_neg h2]
    unfold fS4
    rw [fS3_g h0 h h1]
    exact openF_bad rfl h2
open Go.RowKit
theorem Mem.geAt {w : World} {L : List Blk} {W : World} (M : Mem ⟨w, []⟩ L W) (i : Nat) {b : Blk} (hi : L[i]? = some b) : w.heap.size ≤ b.g := (M.ge b (List.mem_of_getElem? hi)).resolve_right (by simp)
theorem bS2_h (b e pr : Yb) : (bS2 b e pr).h.size = 32 := by
 unfold bS2
 rw [addF_h]
 exact mixF_h _ _
theorem bS3_h (a b e pr : Yb) : (bS3 a b e pr).h.size = 32 := sealF_h (bS2_h b e pr)
theorem bS4_h (a b e pr : Yb) : (bS4 a b e pr).h.size = 32 := by
 unfold bS4
 rw [addF_h]
 exact bS3_h _ _ _ _
theorem rS2_h (b pr m : Yb) : (rS2 b pr m).h.size = 32 := by
 unfold rS2
 rw [addF_h]
 exact mixF_h _ _
theorem rS3_h (b pr m : Yb) : (rS3 b pr m).h.size = 32 := openF_h (rS2_h b pr m)
theorem rS4_h (b pr m : Yb) : (rS4 b pr m).h.size = 32 := by
 unfold rS4
 rw [addF_h]
 exact rS3_h _ _ _
theorem rC1_size {m : Yb} (h : 96 ≤ m.size) : (rC1 m).size = 48 := by
 unfold rC1
 rw [ByteArray.size_extract]
 omega
theorem rC2_size {m : Yb} (h : 96 ≤ m.size) : (rC2 m).size = m.size - 80 := by
 unfold rC2
 rw [ByteArray.size_extract]
 omega
theorem rE_size {m : Yb} (h : 32 ≤ m.size) : (rE m).size = 32 := by
 unfold rE
 rw [ByteArray.size_extract]
 omega
theorem rF_size {b pr m : Yb} (hm : 96 ≤ m.size) (h : (rS3 b pr m).e = 0) : (rF b pr m).size = 32 := by
 unfold rF
 rw [openV_size h, rC1_size hm]
theorem c_Begin (sa ob ep pr pl : Yb) (w : World) (hL : Laid w) : Calls Tryz.prog 16 #[.string sa, .string ob, .string ep, .string pr, .string pl] w fun r w' => Below w.heap.size w w' ∧ ((bgE sa ob ep pr pl ≠ 0 ∧ r = .returned (.tuple #[.pointer none, .string zb, .int .i64 (bgE sa ob ep pr pl)])) ∨ (bgE sa ob ep pr pl = 0 ∧ ∃ g, r = .returned (.tuple #[.pointer (some ⟨g, 0, none⟩), .string (bMs sa ob ep pr pl), .int .i64 0]) ∧ w.heap.size ≤ g ∧ w'.heap[g]? = some (.cells (av 7 (stL (endF (bS5 sa ob ep pr pl)) [.string sa, .string ep, .string ob])) 89))) := by
 go_enter Tryz.func16, Tryz.ntmps16
 have M := Mem.start hL
 refine sq <| wp_seq ?_
 refine wp_block ?_
 refine wp_seq <| sR <| rV 2 ?_
 by_cases c0 : (sa.size : Int) = 32
 ·refine wD 19 c0 ?_
  refine rV 1 <| nT <| cF <| sR <| rV 2 ?_
  by_cases c1 : (ob.size : Int) = 32
  ·refine wD 22 c1 ?_
   refine rV 1 <| nT <| cF ?_
   refine rg_lit ?_
   refine rV 2 ?_
   by_cases c2 : (ep.size : Int) = 32
   ·refine wD 25 c2 ?_
    refine rV 1 <| nT <| cF <| wp_seq <| sR ?_
    refine rV 2 ?_
    by_cases c3 : 4096 < (pr.size : Int)
    ·refine wT 29 c3 ?_
     refine rV 1 <| nT <| cT <| wp_skip <| au_then ?_
     refine cT <| sq <| wp_ret ?_
     refine au_block_ret ?_
     refine au_then_ret ?_
     have e0 : bgE sa ob ep pr pl = 4 := by simp only [bgE, if_pos c0, if_pos c1, if_pos c2, if_pos c3]
     exact bX (.tuple #[.pointer none, .string zb, .int .i64 4]) ⟨below_grown M.old, .inl ⟨by rw [e0]; decide, by rw [e0]⟩⟩
    ·refine wF 29 c3 ?_
     refine rV 1 <| nT <| cF ?_
     refine rg_lit ?_
     refine rV 2 ?_
     by_cases c4 : 4096 < (pl.size : Int)
     ·refine wT 32 c4 ?_
      refine rV 1 <| nT <| cT <| sq <| wp_ret ?_
      refine au_block_ret ?_
      refine au_then_ret ?_
      have e0 : bgE sa ob ep pr pl = 4 := by simp only [bgE, if_pos c0, if_pos c1, if_pos c2, if_neg c3, if_pos c4]
      exact bX (.tuple #[.pointer none, .string zb, .int .i64 4]) ⟨below_grown M.old, .inl ⟨by rw [e0]; decide, by rw [e0]⟩⟩
     ·refine wF 32 c4 ?_
      refine rV 1 <| nT <| cF <| wp_skip ?_
      refine au_block ?_
      refine au_then <| sR <| rV 4 ?_
      refine pN M 37 (.cells (av 7 (stL ⟨⟨#[]⟩, ⟨#[]⟩, ⟨#[]⟩, 0⟩ [.string sa, .string ep, .string ob])) 89) fun g1 u1 M => ?_
      refine rV 1 <| nT <| sR <| rV 5 ?_
      refine ZY M 43 0 (.tuple #[]) (.cells (av 7 (stL (bS0 ob pr) [.string sa, .string ep, .string ob])) 89) (fun w M => c_begin g1 7 89 (by omega) ⟨⟨#[]⟩, ⟨#[]⟩, ⟨#[]⟩, 0⟩ [.string sa, .string ep, .string ob] pr ob (by omega) (by omega) w M.laid (M.get 0 rfl) (M.ne0 0 rfl)) fun u2 M => ?_
      refine nT <| sR <| rV 4 ?_
      refine ZY M 48 0 (.string (pubF (bS0 ob pr) ep)) (.cells (av 7 (stL (bS1 ob ep pr) [.string sa, .string ep, .string ob])) 89) (fun w M => c_show g1 7 89 (by omega) (bS0 ob pr) [.string sa, .string ep, .string ob] ep (by omega) (Nat.le_of_eq (beginF_h _ _ _)) w M.laid (M.get 0 rfl) (M.ne0 0 rfl)) fun u3 M => ?_
      refine rV 1 <| nT <| sR <| rV 5 ?_
      refine ZY M 54 0 (.tuple #[]) (.cells (av 7 (stL (bS2 ob ep pr) [.string sa, .string ep, .string ob])) 89) (fun w M => c_add g1 7 89 (by omega) (bS1 ob ep pr) [.string sa, .string ep, .string ob] ep ob (by omega) (fun _ => by omega) w M.laid (M.get 0 rfl) (M.ne0 0 rfl)) fun u4 M => ?_
      refine nT <| wp_seq ?_
      refine rgh M [] 11 fun u5 M => ?_
      have qM := M.drop (.cons _ (.slnil))
      refine qV qM 0 55 (.string (pubF (bS0 ob pr) ep)) ?_
      refine qV qM 1 56 (.pointer (some ⟨g1, 0, none⟩)) ?_
      refine qV qM 2 57 (.pointer (some ⟨g1, 0, none⟩)) ?_
      refine qV qM 3 58 (.pointer (some ⟨g1, 0, none⟩)) ?_
      refine qV qM 4 59 (.pointer (some ⟨g1, 0, none⟩)) ?_
      refine qV qM 5 60 (.pointer (some ⟨g1, 0, none⟩)) ?_
      refine qV qM 6 61 (.pointer (some ⟨g1, 0, none⟩)) ?_
      refine qV qM 7 62 (.string sa) ?_
      refine qO 8 ?_
      refine ZY M 63 0 (.string (pubF (bS2 ob ep pr) sa)) (.cells (av 7 (stL (bS2 ob ep pr) [.string sa, .string ep, .string ob])) 89) (fun w M => c_public g1 7 89 (by omega) (bS2 ob ep pr) [.string sa, .string ep, .string ob] sa (by omega) w M.laid (M.get 0 rfl) (M.ne0 0 rfl)) fun u6 M => ?_
      refine nT ?_
      refine ⟨(M.drop (.cons _ (.slnil))), ?_⟩
      refine qO 9 ?_
      refine ZY M 64 0 (.string (sealV (bS2 ob ep pr) (pubF (bS2 ob ep pr) sa))) (.cells (av 7 (stL (bS3 sa ob ep pr) [.string sa, .string ep, .string ob])) 89) (fun w M => c_seal g1 7 89 (by omega) (bS2 ob ep pr) [.string sa, .string ep, .string ob] (pubF (bS2 ob ep pr) sa) (bS2_h _ _ _) (fun h => addF_k h) (Nat.le_trans (pubF_le _ _) (by decide)) w M.laid (M.get 0 rfl) (M.ne0 0 rfl)) fun u7 M => ?_
      refine nT ?_
      refine ⟨(M.drop (.cons _ (.slnil))), ?_⟩
      refine qH (M.drop (.cons _ (.slnil))) 10 65 (.string ((pubF (bS0 ob pr) ep) ++ (sealV (bS2 ob ep pr) (pubF (bS2 ob ep pr) sa)))) (fun w _ => (run_cat 9 9 _ _ rfl (pubF (bS0 ob pr) ep) (sealV (bS2 ob ep pr) (pubF (bS2 ob ep pr) sa)) (by kernel_rfl) (by kernel_rfl) (by have h1 := pubF_le (bS0 ob pr) ep; have h2 := sealV_le (bS2 ob ep pr) (pubF (bS2 ob ep pr) sa); have h3 := pubF_le (bS2 ob ep pr) sa; have h4 := sealV_le (bS4 sa ob ep pr) pl; (try simp only [ByteArray.size_append]); omega)) w) ?_
      refine qZ ?_
      refine rV 1 <| nT <| au_then <| sR <| rV 5 ?_
      refine ZY M 71 0 (.tuple #[]) (.cells (av 7 (stL (bS4 sa ob ep pr) [.string sa, .string ep, .string ob])) 89) (fun w M => c_add g1 7 89 (by omega) (bS3 sa ob ep pr) [.string sa, .string ep, .string ob] sa ob (by omega) (fun _ => by omega) w M.laid (M.get 0 rfl) (M.ne0 0 rfl)) fun u8 M => ?_
      refine nT <| sR <| rV 5 ?_
      refine ZY M 77 0 (.string (sealV (bS4 sa ob ep pr) pl)) (.cells (av 7 (stL (bS5 sa ob ep pr pl) [.string sa, .string ep, .string ob])) 89) (fun w M => c_seal g1 7 89 (by omega) (bS4 sa ob ep pr) [.string sa, .string ep, .string ob] pl (bS4_h _ _ _ _) (fun h => addF_k h) (by omega) w M.laid (M.get 0 rfl) (M.ne0 0 rfl)) fun u9 M => ?_
      refine pH 78 (.string (((pubF (bS0 ob pr) ep) ++ (sealV (bS2 ob ep pr) (pubF (bS2 ob ep pr) sa))) ++ (sealV (bS4 sa ob ep pr) pl))) (run_cat 9 9 _ _ rfl ((pubF (bS0 ob pr) ep) ++ (sealV (bS2 ob ep pr) (pubF (bS2 ob ep pr) sa))) (sealV (bS4 sa ob ep pr) pl) (by kernel_rfl) (by kernel_rfl) (by have h1 := pubF_le (bS0 ob pr) ep; have h2 := sealV_le (bS2 ob ep pr) (pubF (bS2 ob ep pr) sa); have h3 := pubF_le (bS2 ob ep pr) sa; have h4 := sealV_le (bS4 sa ob ep pr) pl; (try simp only [ByteArray.size_append]); omega)) ?_
      refine rV 1 <| nT <| wp_seq <| sR <| rV 3 ?_
      refine ZY M 82 0 (.int .i64 (bS5 sa ob ep pr pl).e) (.cells (av 7 (stL (endF (bS5 sa ob ep pr pl)) [.string sa, .string ep, .string ob])) 89) (fun w M => c_end g1 7 89 (by omega) (bS5 sa ob ep pr pl) [.string sa, .string ep, .string ob] w M.laid (M.get 0 rfl) (M.ne0 0 rfl)) fun u10 M => ?_
      refine rV 1 <| nT <| sR <| rV 1 ?_
      by_cases c5 : ((bS5 sa ob ep pr pl).e) = 0
      ·refine wD 84 c5 ?_
       refine nT <| cF <| wp_skip <| au_then <| sq ?_
       refine wp_ret ?_
       have e0 : bgE sa ob ep pr pl = 0 := by simp only [bgE, if_pos c0, if_pos c1, if_pos c2, if_neg c3, if_neg c4, if_pos c5, c5]
       exact bX (.tuple #[.pointer (some ⟨g1, 0, none⟩), .string (((pubF (bS0 ob pr) ep) ++ (sealV (bS2 ob ep pr) (pubF (bS2 ob ep pr) sa))) ++ (sealV (bS4 sa ob ep pr) pl)), .int .i64 0]) ⟨below_grown M.old, .inr ⟨e0, g1, rfl, M.geAt 0 rfl, M.get 0 rfl⟩⟩
      ·refine wU 84 c5 ?_
       refine nT <| cT <| sq <| wp_ret <| au_then_ret ?_
       have e0 : bgE sa ob ep pr pl = (bS5 sa ob ep pr pl).e := by simp only [bgE, if_pos c0, if_pos c1, if_pos c2, if_neg c3, if_neg c4, if_neg c5]
       exact bX (.tuple #[.pointer none, .string zb, .int .i64 (bS5 sa ob ep pr pl).e]) ⟨below_grown M.old, .inl ⟨by rw [e0]; exact c5, by rw [e0]⟩⟩
   ·refine wU 25 c2 ?_
    refine rV 1 <| nT <| cT <| sq <| wp_ret ?_
    refine au_block_ret ?_
    refine au_then_ret ?_
    have e0 : bgE sa ob ep pr pl = 2 := by simp only [bgE, if_pos c0, if_pos c1, if_neg c2]
    exact bX (.tuple #[.pointer none, .string zb, .int .i64 2]) ⟨below_grown M.old, .inl ⟨by rw [e0]; decide, by rw [e0]⟩⟩
  ·refine wU 22 c1 ?_
   refine rV 1 <| nT <| cT <| wp_skip <| au_then ?_
   refine cT <| sq <| wp_ret ?_
   refine au_block_ret ?_
   refine au_then_ret ?_
   have e0 : bgE sa ob ep pr pl = 2 := by simp only [bgE, if_pos c0, if_neg c1]
   exact bX (.tuple #[.pointer none, .string zb, .int .i64 2]) ⟨below_grown M.old, .inl ⟨by rw [e0]; decide, by rw [e0]⟩⟩
 ·refine wU 19 c0 ?_
  refine rV 1 <| nT <| cT <| wp_skip <| au_then ?_
  refine cT <| sq <| wp_ret ?_
  refine au_block_ret ?_
  refine au_then_ret ?_
  have e0 : bgE sa ob ep pr pl = 2 := by simp only [bgE, if_neg c0]
  exact bX (.tuple #[.pointer none, .string zb, .int .i64 2]) ⟨below_grown M.old, .inl ⟨by rw [e0]; decide, by rw [e0]⟩⟩
theorem c_Read (sb pr m : Yb) (w : World) (hL : Laid w) : Calls Tryz.prog 17 #[.string sb, .string pr, .string m] w fun r w' => Below w.heap.size w w' ∧ ((rdE sb pr m ≠ 0 ∧ r = .returned (.tuple #[.pointer none, .agg (av 5 (zq 5)), .int .i64 (rdE sb pr m)])) ∨ (rdE sb pr m = 0 ∧ ∃ g, r = .returned (.tuple #[.pointer (some ⟨g, 0, none⟩), .agg (av 5 (sQ [rF sb pr m, rP sb pr m, zb, zb, zb])), .int .i64 0]) ∧ w.heap.size ≤ g ∧ w'.heap[g]? = some (.cells (av 6 (stL (endF (rS5 sb pr m)) [.string (rF sb pr m), .string (rE m)])) 94))) := by
 go_enter Tryz.func17, Tryz.ntmps17
 have M := Mem.start hL
 refine sR <| rV 1 ?_
 refine pN M 7 (.cells (av 5 (zq 5)) 61) fun g1 u1 M => ?_
 refine rV 1 <| nT <| wp_seq ?_
 refine wp_block ?_
 refine sR <| rV 2 ?_
 by_cases c0 : (sb.size : Int) = 32
 ·refine wD 15 c0 ?_
  refine rV 1 <| nT <| cF <| wp_seq <| sR ?_
  refine rV 2 ?_
  by_cases c1 : 4096 < (pr.size : Int)
  ·refine wT 20 c1 ?_
   refine rV 1 <| nT <| cT <| wp_skip <| au_then ?_
   refine cT <| sR <| rV 2 ?_
   refine ZL M 0 5 (zq 5) fun u2 M => ?_
   refine rV 1 <| nT <| wp_ret ?_
   refine au_block_ret ?_
   refine au_then_ret ?_
   have e0 : rdE sb pr m = 4 := by simp only [rdE, if_pos c0, if_pos c1]
   exact btct Tryz.results17 M (.pointer none) 0 5 (zq 5) (.int .i64 4) ⟨below_grown M.old, .inl ⟨by rw [e0]; decide, by rw [e0]⟩⟩
  ·refine wF 20 c1 ?_
   refine rV 1 <| nT <| cF ?_
   refine rg_lit ?_
   refine rV 2 ?_
   by_cases c2 : 4192 < (m.size : Int)
   ·refine wT 23 c2 ?_
    refine rV 1 <| nT <| cT <| sR <| rV 2 ?_
    refine ZL M 0 5 (zq 5) fun u2 M => ?_
    refine rV 1 <| nT <| wp_ret ?_
    refine au_block_ret ?_
    refine au_then_ret ?_
    have e0 : rdE sb pr m = 4 := by simp only [rdE, if_pos c0, if_neg c1, if_pos c2]
    exact btct Tryz.results17 M (.pointer none) 0 5 (zq 5) (.int .i64 4) ⟨below_grown M.old, .inl ⟨by rw [e0]; decide, by rw [e0]⟩⟩
   ·refine wF 23 c2 ?_
    refine rV 1 <| nT <| cF <| sR <| rV 2 ?_
    by_cases c3 : (m.size : Int) < 96
    ·refine wT 28 c3 ?_
     refine rV 1 <| nT <| cT <| sR <| rV 2 ?_
     refine ZL M 0 5 (zq 5) fun u2 M => ?_
     refine rV 1 <| nT <| wp_ret ?_
     refine au_block_ret ?_
     refine au_then_ret ?_
     have e0 : rdE sb pr m = 7 := by simp only [rdE, if_pos c0, if_neg c1, if_neg c2, if_pos c3]
     exact btct Tryz.results17 M (.pointer none) 0 5 (zq 5) (.int .i64 7) ⟨below_grown M.old, .inl ⟨by rw [e0]; decide, by rw [e0]⟩⟩
    ·refine wF 28 c3 ?_
     refine rV 1 <| nT <| cF <| wp_skip ?_
     refine au_block ?_
     refine au_then <| sR <| rV 1 ?_
     refine pH 31 (.string (rE m)) (run_strh 9 Tryz.underlying9 _ _ rfl m (by kernel_rfl) .i64 32 (by kernel_rfl) (by omega) _ rfl) ?_
     refine rV 1 ?_
     refine pN M 33 (.cells (av 6 (stL ⟨⟨#[]⟩, ⟨#[]⟩, ⟨#[]⟩, 0⟩ [.string zb, .string (rE m)])) 94) fun g2 u2 M => ?_
     refine rV 1 <| nT <| wp_seq ?_
     refine rgh M [⟨g1, .cells (av 5 (zq 5)) 61⟩] 9 fun u3 M => ?_
     have qM := M.drop (.cons_cons _ (.cons _ (.slnil)))
     refine qV qM 0 34 (.pointer (some ⟨g2, 0, none⟩)) ?_
     refine qV qM 1 35 (.pointer (some ⟨g2, 0, none⟩)) ?_
     refine qV qM 2 36 (.pointer (some ⟨g2, 0, none⟩)) ?_
     refine qV qM 3 37 (.string pr) ?_
     refine qV qM 4 38 (.pointer (some ⟨g2, 0, none⟩)) ?_
     refine qV qM 5 39 (.pointer (some ⟨g2, 0, none⟩)) ?_
     refine qV qM 6 40 (.pointer (some ⟨g2, 0, none⟩)) ?_
     refine qV qM 7 41 (.string sb) ?_
     refine qO 8 ?_
     refine ZY M 42 1 (.string (pubF ⟨⟨#[]⟩, ⟨#[]⟩, ⟨#[]⟩, 0⟩ sb)) (.cells (av 6 (stL ⟨⟨#[]⟩, ⟨#[]⟩, ⟨#[]⟩, 0⟩ [.string zb, .string (rE m)])) 94) (fun w M => c_public g2 6 94 (by omega) ⟨⟨#[]⟩, ⟨#[]⟩, ⟨#[]⟩, 0⟩ [.string zb, .string (rE m)] sb (by omega) w M.laid (M.get 1 rfl) (M.ne0 1 rfl)) fun u4 M => ?_
     refine nT ?_
     refine ⟨(M.drop (.cons_cons _ (.cons _ (.slnil)))), ?_⟩
     refine qZ ?_
     refine ZY M 43 1 (.tuple #[]) (.cells (av 6 (stL (rS0 sb pr) [.string zb, .string (rE m)])) 94) (fun w M => c_begin g2 6 94 (by omega) ⟨⟨#[]⟩, ⟨#[]⟩, ⟨#[]⟩, 0⟩ [.string zb, .string (rE m)] pr (pubF ⟨⟨#[]⟩, ⟨#[]⟩, ⟨#[]⟩, 0⟩ sb) (by omega) (Nat.le_trans (pubF_le _ _) (by decide)) w M.laid (M.get 1 rfl) (M.ne0 1 rfl)) fun u5 M => ?_
     refine nT <| au_then <| wp_seq ?_
     refine rgh M [⟨g1, .cells (av 5 (zq 5)) 61⟩, ⟨g2, .cells (av 6 (stL (rS0 sb pr) [.string zb, .string (rE m)])) 94⟩] 7 fun u6 M => ?_
     refine qV M 0 44 (.pointer (some ⟨g2, 0, none⟩)) ?_
     refine qV M 1 45 (.pointer (some ⟨g2, 0, none⟩)) ?_
     refine qV M 2 46 (.pointer (some ⟨g2, 0, none⟩)) ?_
     refine qV M 3 47 (.pointer (some ⟨g2, 0, none⟩)) ?_
     refine qV M 4 48 (.pointer (some ⟨g2, 0, none⟩)) ?_
     refine qV M 5 49 (.pointer (some ⟨g2, 5, none⟩)) ?_
     refine qE M 6 50 1 5 ?_
     refine qZ ?_
     refine ZY M 51 1 (.tuple #[]) (.cells (av 6 (stL (rS1 sb pr m) [.string zb, .string (rE m)])) 94) (fun w M => c_mixS g2 6 94 (by omega) (rS0 sb pr) [.string zb, .string (rE m)] (rE m) (by rw [show (rS0 sb pr).h.size = 32 from beginF_h _ _ _, rE_size (by omega)]; decide) w M.laid (M.get 1 rfl) (M.ne0 1 rfl)) fun u7 M => ?_
     refine nT <| au_then <| wp_seq ?_
     refine rgh M [⟨g1, .cells (av 5 (zq 5)) 61⟩, ⟨g2, .cells (av 6 (stL (rS1 sb pr m) [.string zb, .string (rE m)])) 94⟩] 8 fun u8 M => ?_
     refine qV M 0 52 (.pointer (some ⟨g2, 0, none⟩)) ?_
     refine qV M 1 53 (.pointer (some ⟨g2, 0, none⟩)) ?_
     refine qV M 2 54 (.pointer (some ⟨g2, 0, none⟩)) ?_
     refine qV M 3 55 (.string sb) ?_
     refine qV M 4 56 (.pointer (some ⟨g2, 0, none⟩)) ?_
     refine qV M 5 57 (.pointer (some ⟨g2, 0, none⟩)) ?_
     refine qV M 6 58 (.pointer (some ⟨g2, 5, none⟩)) ?_
     refine qE M 7 59 1 5 ?_
     refine qZ ?_
     refine ZY M 60 1 (.tuple #[]) (.cells (av 6 (stL (rS2 sb pr m) [.string zb, .string (rE m)])) 94) (fun w M => c_add g2 6 94 (by omega) (rS1 sb pr m) [.string zb, .string (rE m)] sb (rE m) (by omega) (fun _ => rE_size (by omega)) w M.laid (M.get 1 rfl) (M.ne0 1 rfl)) fun u9 M => ?_
     refine nT <| au_then <| wp_seq ?_
     refine rgh M [⟨g1, .cells (av 5 (zq 5)) 61⟩] 9 fun u10 M => ?_
     have qM := M.drop (.cons_cons _ (.cons _ (.slnil)))
     refine qV qM 0 61 (.pointer (some ⟨g2, 0, none⟩)) ?_
     refine qV qM 1 62 (.pointer (some ⟨g2, 0, none⟩)) ?_
     refine qV qM 2 63 (.pointer (some ⟨g2, 0, none⟩)) ?_
     refine qV qM 3 64 (.pointer (some ⟨g2, 0, none⟩)) ?_
     refine qV qM 4 65 (.string m) ?_
     refine qH qM 5 66 (.string (rC1 m)) (fun w _ => (run_strlh 9 Tryz.underlying9 _ _ _ rfl m (by kernel_rfl) .i64 .i64 32 80 (by kernel_rfl) (by kernel_rfl) (by omega) (by omega)) w) ?_
     refine qO 6 ?_
     refine ZY M 67 1 (.string (rF sb pr m)) (.cells (av 6 (stL (rS3 sb pr m) [.string zb, .string (rE m)])) 94) (fun w M => c_open g2 6 94 (by omega) (rS2 sb pr m) [.string zb, .string (rE m)] (rC1 m) (rS2_h _ _ _) (fun h => addF_k h) (by rw [rC1_size (by omega)]; omega) (by rw [rC1_size (by omega)]; omega) w M.laid (M.get 1 rfl) (M.ne0 1 rfl)) fun u11 M => ?_
     refine nT ?_
     refine ⟨(M.drop (.cons_cons _ (.cons _ (.slnil)))), ?_⟩
     have qM := M.drop (.cons_cons _ (.cons _ (.slnil)))
     refine qV qM 7 68 (.pointer (some ⟨g2, 0, none⟩)) ?_
     refine qV qM 8 69 (.pointer (some ⟨g2, 4, none⟩)) ?_
     refine qZ ?_
     refine pP M 1 rfl 4 (.string (rF sb pr m)) (stL (rS3 sb pr m) [.string (rF sb pr m), .string (rE m)]) (by decide) (put_ls _ 4 _ _ rfl) fun u12 M => ?_
     refine nT <| au_then <| wp_seq ?_
     refine rgh M [⟨g1, .cells (av 5 (zq 5)) 61⟩, ⟨g2, .cells (av 6 (stL (rS3 sb pr m) [.string (rF sb pr m), .string (rE m)])) 94⟩] 8 fun u13 M => ?_
     refine qV M 0 70 (.pointer (some ⟨g2, 0, none⟩)) ?_
     refine qV M 1 71 (.pointer (some ⟨g2, 0, none⟩)) ?_
     refine qV M 2 72 (.pointer (some ⟨g2, 0, none⟩)) ?_
     refine qV M 3 73 (.string sb) ?_
     refine qV M 4 74 (.pointer (some ⟨g2, 0, none⟩)) ?_
     refine qV M 5 75 (.pointer (some ⟨g2, 0, none⟩)) ?_
     refine qV M 6 76 (.pointer (some ⟨g2, 4, none⟩)) ?_
     refine qE M 7 77 1 4 ?_
     refine qZ ?_
     refine ZY M 78 1 (.tuple #[]) (.cells (av 6 (stL (rS4 sb pr m) [.string (rF sb pr m), .string (rE m)])) 94) (fun w M => c_add g2 6 94 (by omega) (rS3 sb pr m) [.string (rF sb pr m), .string (rE m)] sb (rF sb pr m) (by omega) (fun h => rF_size (by omega) h) w M.laid (M.get 1 rfl) (M.ne0 1 rfl)) fun u14 M => ?_
     refine nT <| au_then <| wp_seq ?_
     refine rgh M [⟨g1, .cells (av 5 (zq 5)) 61⟩] 6 fun u15 M => ?_
     have qM := M.drop (.cons_cons _ (.cons _ (.slnil)))
     refine qV qM 0 79 (.pointer (some ⟨g2, 0, none⟩)) ?_
     refine qV qM 1 80 (.pointer (some ⟨g2, 0, none⟩)) ?_
     refine qV qM 2 81 (.pointer (some ⟨g2, 0, none⟩)) ?_
     refine qV qM 3 82 (.string m) ?_
     refine qH qM 4 83 (.string (rC2 m)) (fun w _ => (run_strl 9 Tryz.underlying9 _ _ rfl m (by kernel_rfl) .i64 80 (by kernel_rfl) (by omega) _ rfl) w) ?_
     refine qO 5 ?_
     refine ZY M 84 1 (.string (rP sb pr m)) (.cells (av 6 (stL (rS5 sb pr m) [.string (rF sb pr m), .string (rE m)])) 94) (fun w M => c_open g2 6 94 (by omega) (rS4 sb pr m) [.string (rF sb pr m), .string (rE m)] (rC2 m) (rS4_h _ _ _) (fun h => addF_k h) (by rw [rC2_size (by omega)]; omega) (by rw [rC2_size (by omega)]; omega) w M.laid (M.get 1 rfl) (M.ne0 1 rfl)) fun u16 M => ?_
     refine nT ?_
     refine ⟨(M.drop (.cons_cons _ (.cons _ (.slnil)))), ?_⟩
     refine qZ ?_
     refine rV 1 <| nT <| au_then <| wp_seq <| sR ?_
     refine rV 3 ?_
     refine ZY M 88 1 (.int .i64 (rS5 sb pr m).e) (.cells (av 6 (stL (endF (rS5 sb pr m)) [.string (rF sb pr m), .string (rE m)])) 94) (fun w M => c_end g2 6 94 (by omega) (rS5 sb pr m) [.string (rF sb pr m), .string (rE m)] w M.laid (M.get 1 rfl) (M.ne0 1 rfl)) fun u17 M => ?_
     refine rV 1 <| nT <| sR <| rV 1 ?_
     by_cases c4 : ((rS5 sb pr m).e) = 0
     ·refine wD 90 c4 ?_
      refine nT <| cF <| wp_skip <| au_then <| wp_seq ?_
      refine rgh M [⟨g2, .cells (av 6 (stL (endF (rS5 sb pr m)) [.string (rF sb pr m), .string (rE m)])) 94⟩] 9 fun u18 M => ?_
      have qM := M.drop (.cons _ (.cons_cons _ (.slnil)))
      refine qV qM 0 93 (.pointer (some ⟨g2, 0, none⟩)) ?_
      refine qV qM 1 94 (.pointer (some ⟨g2, 0, none⟩)) ?_
      refine qV qM 2 95 (.pointer (some ⟨g2, 0, none⟩)) ?_
      refine qV qM 3 96 (.pointer (some ⟨g2, 4, none⟩)) ?_
      refine qE qM 4 97 0 4 ?_
      refine qV qM 5 98 (.string (rP sb pr m)) ?_
      refine qV qM 6 99 (.agg (av 5 (sQ [rF sb pr m, rP sb pr m, zb, zb, zb]))) ?_
      refine qV qM 7 6 (.pointer (some ⟨g2, 0, none⟩)) ?_
      refine qO 8 ?_
      refine ZL M 0 5 (sQ [rF sb pr m, rP sb pr m, zb, zb, zb]) fun u19 M => ?_
      refine nT ?_
      refine ⟨(M.drop (.cons _ (.cons_cons _ (.slnil)))), ?_⟩
      refine qZ ?_
      refine rV 1 <| nT <| au_then <| wp_ret ?_
      have e0 : rdE sb pr m = 0 := by simp only [rdE, if_pos c0, if_neg c1, if_neg c2, if_neg c3, if_pos c4, c4]
      exact btct Tryz.results17 M (.pointer (some ⟨g2, 0, none⟩)) 0 5 (sQ [rF sb pr m, rP sb pr m, zb, zb, zb]) (.int .i64 0) ⟨below_grown M.old, .inr ⟨e0, g2, rfl, M.geAt 1 rfl, M.get 1 rfl⟩⟩
     ·refine wU 90 c4 ?_
      refine nT <| cT <| sR <| rV 3 ?_
      refine ZL M 0 5 (zq 5) fun u18 M => ?_
      refine rV 1 <| nT <| wp_ret <| au_then_ret ?_
      have e0 : rdE sb pr m = (rS5 sb pr m).e := by simp only [rdE, if_pos c0, if_neg c1, if_neg c2, if_neg c3, if_neg c4]
      exact btct Tryz.results17 M (.pointer none) 0 5 (zq 5) (.int .i64 (rS5 sb pr m).e) ⟨below_grown M.old, .inl ⟨by rw [e0]; exact c4, by rw [e0]⟩⟩
 ·refine wU 15 c0 ?_
  refine rV 1 <| nT <| cT <| sR <| rV 2 ?_
  refine ZL M 0 5 (zq 5) fun u2 M => ?_
  refine rV 1 <| nT <| wp_ret ?_
  refine au_block_ret ?_
  refine au_then_ret ?_
  have e0 : rdE sb pr m = 2 := by simp only [rdE, if_neg c0]
  exact btct Tryz.results17 M (.pointer none) 0 5 (zq 5) (.int .i64 2) ⟨below_grown M.old, .inl ⟨by rw [e0]; decide, by rw [e0]⟩⟩
open Go.RowKit
theorem aS3_h (s : St) (f x e : Yb) : (aS3 s f x e).h.size = 32 := by
 unfold aS3 aS2
 rw [addF_h, addF_h]
 exact mixF_h _ _
theorem fS3_h (s : St) (a e r : Yb) : (fS3 s a e r).h.size = 32 := by
 unfold fS3 fS2
 rw [addF_h, addF_h]
 exact mixF_h _ _
theorem fC_size {r : Yb} (h : 48 ≤ r.size) : (fC r).size = r.size - 32 := by
 unfold fC
 rw [ByteArray.size_extract]
 omega
theorem c_Answer (g : Nat) (s : St) (f x ep pl : Yb) (hs : s.h.size = 32) (hf : f.size = 32) (hx : x.size = 32) (w : World) (hL : Laid w)  (hg : w.heap[g]? = some (.cells (av 6 (stL s [.string f, .string x])) 94)) (h0 : 2 < g) : Calls Tryz.prog 18 #[.pointer (some ⟨g, 0, none⟩), .string ep, .string pl] w fun r w' => Below w.heap.size w w' ∧ ((anE s f x ep pl ≠ 0 ∧ r = .returned (.tuple #[.string zb, .agg (av 5 (zq 5)), .int .i64 (anE s f x ep pl)])) ∨ (anE s f x ep pl = 0 ∧ r = .returned (.tuple #[.string (aRp s f x ep pl), .agg (av 5 (sQ [f, zb, nxB (aS4 s f x ep pl).c ⟨#[]⟩, nxA (aS4 s f x ep pl).c ⟨#[]⟩, (aS4 s f x ep pl).h])), .int .i64 0]))) := by
 go_enter Tryz.func18, Tryz.ntmps18
 have M := Mem.startp hL hg h0
 refine sR <| rV 1 ?_
 refine pN M 7 (.cells (av 5 (zq 5)) 61) fun g1 u1 M => ?_
 refine rV 1 <| nT <| wp_seq ?_
 refine wp_block ?_
 refine sR <| rV 6 ?_
 refine pl_call M (by kernel_rfl) (some 21) rfl 39 #[.pointer (some ⟨g, 0, none⟩)] (.bool true) (fun _ => by kernel_rfl) (fun w M => c_made g 6 94 (by omega) s [.string f, .string x] hs w M.laid (M.get 0 rfl) (M.ne0 0 rfl)) fun u2 M => ?_
 refine rV 3 <| nT <| cF <| sR <| rV 2 ?_
 by_cases c0 : (ep.size : Int) = 32
 ·refine wD 28 c0 ?_
  refine rV 1 <| nT <| cF <| sR <| rV 2 ?_
  by_cases c1 : 4096 < (pl.size : Int)
  ·refine wT 33 c1 ?_
   refine rV 1 <| nT <| cT <| sR <| rV 2 ?_
   refine ZL M 1 5 (zq 5) fun u3 M => ?_
   refine rV 1 <| nT <| wp_ret ?_
   refine au_block_ret ?_
   refine au_then_ret ?_
   have e0 : anE s f x ep pl = 4 := by simp only [anE, if_pos c0, if_pos c1]
   exact btct Tryz.results18 M (.string zb) 1 5 (zq 5) (.int .i64 4) ⟨ro_below1 M.old hg (M.get 0 rfl), .inl ⟨by rw [e0]; decide, by rw [e0]⟩⟩
  ·refine wF 33 c1 ?_
   refine rV 1 <| nT <| cF <| wp_skip ?_
   refine au_block ?_
   refine au_then <| sR <| rV 3 ?_
   refine pl_load M (want_no rfl) (some 38) rfl 87 _ rfl 0 g 0 (by kernel_rfl) 6 94 (stL s [.string f, .string x]) rfl 4 (stL s []) (part_st _ _) (by omega) _ Tryz.underlying87 rfl inz87 ?_
   refine pN M 9 (.cells (av 4 (stL ⟨⟨#[]⟩, ⟨#[]⟩, ⟨#[]⟩, 0⟩ [])) 87) fun g2 u3 M => ?_
   refine pl_put M (want_no rfl) rfl 87 _ _ rfl 2 g2 0 (by kernel_rfl) 4 87 (stL ⟨⟨#[]⟩, ⟨#[]⟩, ⟨#[]⟩, 0⟩ []) rfl 4 (stL s []) (stL s []) (by kernel_rfl) inz87 (by decide) (one_st _) (fun j hj => by rw [if_pos (by omega), Nat.sub_zero]) fun u4 M => ?_
   refine nT <| sR <| rV 1 ?_
   refine ZY M 40 2 (.string (pubF s ep)) (.cells (av 4 (stL (aS1 s ep) [])) 87) (fun w M => c_show g2 4 87 (by omega) s [] ep (by omega) (Nat.le_of_eq (hs)) w M.laid (M.get 2 rfl) (M.ne0 2 rfl)) fun u5 M => ?_
   refine rV 1 <| nT <| sR <| rV 4 <| ZE M 45 0 5 ?_
   refine ZY M 46 2 (.tuple #[]) (.cells (av 4 (stL (aS2 s x ep) [])) 87) (fun w M => c_add g2 4 87 (by omega) (aS1 s ep) [] ep x (by omega) (fun _ => by omega) w M.laid (M.get 2 rfl) (M.ne0 2 rfl)) fun u6 M => ?_
   refine nT <| sR <| rV 4 <| ZE M 51 0 4 ?_
   refine ZY M 52 2 (.tuple #[]) (.cells (av 4 (stL (aS3 s f x ep) [])) 87) (fun w M => c_add g2 4 87 (by omega) (aS2 s x ep) [] ep f (by omega) (fun _ => by omega) w M.laid (M.get 2 rfl) (M.ne0 2 rfl)) fun u7 M => ?_
   refine nT <| sR <| rV 2 ?_
   refine ZY M 55 2 (.string (sealV (aS3 s f x ep) pl)) (.cells (av 4 (stL (aS4 s f x ep pl) [])) 87) (fun w M => c_seal g2 4 87 (by omega) (aS3 s f x ep) [] pl (aS3_h _ _ _ _) (fun h => addF_k h) (by omega) w M.laid (M.get 2 rfl) (M.ne0 2 rfl)) fun u8 M => ?_
   refine pH 56 (.string ((pubF s ep) ++ (sealV (aS3 s f x ep) pl))) (run_cat 9 9 _ _ rfl (pubF s ep) (sealV (aS3 s f x ep) pl) (by kernel_rfl) (by kernel_rfl) (by have h1 := pubF_le s ep; have h2 := sealV_le (aS3 s f x ep) pl; (try simp only [ByteArray.size_append]); omega)) ?_
   refine rV 1 <| nT <| sR ?_
   refine ZC M 58 (fun w M => c_next g2 4 87 (by omega) (aS4 s f x ep pl) [] ⟨#[]⟩ (by decide) w M.laid (M.get 2 rfl) (M.ne0 2 rfl)) fun u9 M => ?_
   refine rV 5 <| nT <| wp_seq <| sR ?_
   refine ZY M 61 2 (.int .i64 (aS4 s f x ep pl).e) (.cells (av 4 (stL (endF (aS4 s f x ep pl)) [])) 87) (fun w M => c_end g2 4 87 (by omega) (aS4 s f x ep pl) [] w M.laid (M.get 2 rfl) (M.ne0 2 rfl)) fun u10 M => ?_
   refine rV 1 <| nT <| sR <| rV 1 ?_
   by_cases c2 : ((aS4 s f x ep pl).e) = 0
   ·refine wD 63 c2 ?_
    refine nT <| cF <| wp_skip <| au_then <| wp_seq ?_
    refine rgh M [⟨g, .cells (av 6 (stL s [.string f, .string x])) 94⟩, ⟨g2, .cells (av 4 (stL (endF (aS4 s f x ep pl)) [])) 87⟩] 12 fun u11 M => ?_
    have qM := M.drop (.cons_cons _ (.cons _ (.cons_cons _ (.slnil))))
    refine qV qM 0 66 (.string ((pubF s ep) ++ (sealV (aS3 s f x ep) pl))) ?_
    refine qV qM 1 67 (.pointer (some ⟨g, 0, none⟩)) ?_
    refine qV qM 2 68 (.pointer (some ⟨g, 0, none⟩)) ?_
    refine qV qM 3 69 (.pointer (some ⟨g, 4, none⟩)) ?_
    refine qE qM 4 70 0 4 ?_
    refine qV qM 5 71 (.string (nxB ((aS4 s f x ep pl).c) ⟨#[]⟩)) ?_
    refine qV qM 6 72 (.string (nxA ((aS4 s f x ep pl).c) ⟨#[]⟩)) ?_
    refine qV qM 7 73 (.pointer (some ⟨g2, 0, none⟩)) ?_
    refine qE qM 8 74 1 0 ?_
    refine qV qM 9 75 (.agg (av 5 (sQ [f, zb, nxB ((aS4 s f x ep pl).c) ⟨#[]⟩, nxA ((aS4 s f x ep pl).c) ⟨#[]⟩, (endF (aS4 s f x ep pl)).h]))) ?_
    refine qV qM 10 6 (.string ((pubF s ep) ++ (sealV (aS3 s f x ep) pl))) ?_
    refine qO 11 ?_
    refine ZL M 1 5 (sQ [f, zb, nxB ((aS4 s f x ep pl).c) ⟨#[]⟩, nxA ((aS4 s f x ep pl).c) ⟨#[]⟩, (endF (aS4 s f x ep pl)).h]) fun u12 M => ?_
    refine nT ?_
    refine ⟨(M.drop (.cons_cons _ (.cons _ (.cons_cons _ (.slnil))))), ?_⟩
    refine qZ ?_
    refine rV 1 <| nT <| au_then <| wp_ret ?_
    have e0 : anE s f x ep pl = 0 := by simp only [anE, if_pos c0, if_neg c1, if_pos c2, c2]
    exact btct Tryz.results18 M (.string ((pubF s ep) ++ (sealV (aS3 s f x ep) pl))) 1 5 (sQ [f, zb, nxB ((aS4 s f x ep pl).c) ⟨#[]⟩, nxA ((aS4 s f x ep pl).c) ⟨#[]⟩, (endF (aS4 s f x ep pl)).h]) (.int .i64 0) ⟨ro_below1 M.old hg (M.get 0 rfl), .inr ⟨e0, rfl⟩⟩
   ·refine wU 63 c2 ?_
    refine nT <| cT <| sR <| rV 3 ?_
    refine ZL M 1 5 (zq 5) fun u11 M => ?_
    refine rV 1 <| nT <| wp_ret <| au_then_ret ?_
    have e0 : anE s f x ep pl = (aS4 s f x ep pl).e := by simp only [anE, if_pos c0, if_neg c1, if_neg c2]
    exact btct Tryz.results18 M (.string zb) 1 5 (zq 5) (.int .i64 (aS4 s f x ep pl).e) ⟨ro_below1 M.old hg (M.get 0 rfl), .inl ⟨by rw [e0]; exact c2, by rw [e0]⟩⟩
 ·refine wU 28 c0 ?_
  refine rV 1 <| nT <| cT <| sR <| rV 2 ?_
  refine ZL M 1 5 (zq 5) fun u3 M => ?_
  refine rV 1 <| nT <| wp_ret ?_
  refine au_block_ret ?_
  refine au_then_ret ?_
  have e0 : anE s f x ep pl = 2 := by simp only [anE, if_neg c0]
  exact btct Tryz.results18 M (.string zb) 1 5 (zq 5) (.int .i64 2) ⟨ro_below1 M.old hg (M.get 0 rfl), .inl ⟨by rw [e0]; decide, by rw [e0]⟩⟩
theorem c_Finish (g : Nat) (s : St) (sa ep ob rp : Yb) (hs : s.h.size = 32) (ha : sa.size = 32) (hp : ep.size = 32) (w : World) (hL : Laid w)  (hg : w.heap[g]? = some (.cells (av 7 (stL s [.string sa, .string ep, .string ob])) 89)) (h0 : 2 < g) : Calls Tryz.prog 19 #[.pointer (some ⟨g, 0, none⟩), .string rp] w fun r w' => Below w.heap.size w w' ∧ ((fiE s sa ep rp ≠ 0 ∧ r = .returned (.tuple #[.agg (av 5 (zq 5)), .int .i64 (fiE s sa ep rp)])) ∨ (fiE s sa ep rp = 0 ∧ r = .returned (.tuple #[.agg (av 5 (sQ [ob, fP s sa ep rp, nxA (fS4 s sa ep rp).c ⟨#[]⟩, nxB (fS4 s sa ep rp).c ⟨#[]⟩, (fS4 s sa ep rp).h])), .int .i64 0]))) := by
 go_enter Tryz.func19, Tryz.ntmps19
 have M := Mem.startp hL hg h0
 refine sR ?_
 refine pN M 4 (.cells (av 5 (zq 5)) 61) fun g1 u1 M => ?_
 refine rV 1 <| nT <| wp_seq ?_
 refine wp_block ?_
 refine sR <| rV 6 ?_
 refine pl_call M (by kernel_rfl) (some 19) rfl 39 #[.pointer (some ⟨g, 0, none⟩)] (.bool true) (fun _ => by kernel_rfl) (fun w M => c_made g 7 89 (by omega) s [.string sa, .string ep, .string ob] hs w M.laid (M.get 0 rfl) (M.ne0 0 rfl)) fun u2 M => ?_
 refine rV 3 <| nT <| cF <| sR <| rV 2 ?_
 by_cases c0 : 4144 < (rp.size : Int)
 ·refine wT 26 c0 ?_
  refine rV 1 <| nT <| cT <| sR <| rV 1 ?_
  refine ZL M 1 5 (zq 5) fun u3 M => ?_
  refine rV 1 <| nT <| wp_ret ?_
  refine au_block_ret ?_
  refine au_then_ret ?_
  have e0 : fiE s sa ep rp = 4 := by simp only [fiE, if_pos c0]
  exact bct Tryz.results19 M 1 5 (zq 5) (.int .i64 4) ⟨ro_below1 M.old hg (M.get 0 rfl), .inl ⟨by rw [e0]; decide, by rw [e0]⟩⟩
 ·refine wF 26 c0 ?_
  refine rV 1 <| nT <| cF <| sR <| rV 2 ?_
  by_cases c1 : (rp.size : Int) < 48
  ·refine wT 31 c1 ?_
   refine rV 1 <| nT <| cT <| sR <| rV 1 ?_
   refine ZL M 1 5 (zq 5) fun u3 M => ?_
   refine rV 1 <| nT <| wp_ret ?_
   refine au_block_ret ?_
   refine au_then_ret ?_
   have e0 : fiE s sa ep rp = 7 := by simp only [fiE, if_neg c0, if_pos c1]
   exact bct Tryz.results19 M 1 5 (zq 5) (.int .i64 7) ⟨ro_below1 M.old hg (M.get 0 rfl), .inl ⟨by rw [e0]; decide, by rw [e0]⟩⟩
  ·refine wF 31 c1 ?_
   refine rV 1 <| nT <| cF <| wp_skip ?_
   refine au_block ?_
   refine au_then <| sR <| rV 1 ?_
   refine pH 34 (.string (rE rp)) (run_strh 9 Tryz.underlying9 _ _ rfl rp (by kernel_rfl) .i64 32 (by kernel_rfl) (by omega) _ rfl) ?_
   refine rV 1 <| nT <| sR <| rV 3 ?_
   refine pl_load M (want_no rfl) (some 38) rfl 87 _ rfl 0 g 0 (by kernel_rfl) 7 89 (stL s [.string sa, .string ep, .string ob]) rfl 4 (stL s []) (part_st _ _) (by omega) _ Tryz.underlying87 rfl inz87 ?_
   refine pN M 7 (.cells (av 4 (stL ⟨⟨#[]⟩, ⟨#[]⟩, ⟨#[]⟩, 0⟩ [])) 87) fun g2 u3 M => ?_
   refine pl_put M (want_no rfl) rfl 87 _ _ rfl 2 g2 0 (by kernel_rfl) 4 87 (stL ⟨⟨#[]⟩, ⟨#[]⟩, ⟨#[]⟩, 0⟩ []) rfl 4 (stL s []) (stL s []) (by kernel_rfl) inz87 (by decide) (one_st _) (fun j hj => by rw [if_pos (by omega), Nat.sub_zero]) fun u4 M => ?_
   refine nT <| sR <| rV 1 ?_
   refine ZY M 40 2 (.tuple #[]) (.cells (av 4 (stL (fS1 s rp) [])) 87) (fun w M => c_mixS g2 4 87 (by omega) s [] (rE rp) (by rw [hs, rE_size (by omega)]; decide) w M.laid (M.get 2 rfl) (M.ne0 2 rfl)) fun u5 M => ?_
   refine nT <| sR <| rV 3 <| ZE M 44 0 5 <| rV 1 ?_
   refine ZY M 46 2 (.tuple #[]) (.cells (av 4 (stL (fS2 s ep rp) [])) 87) (fun w M => c_add g2 4 87 (by omega) (fS1 s rp) [] ep (rE rp) (by omega) (fun _ => rE_size (by omega)) w M.laid (M.get 2 rfl) (M.ne0 2 rfl)) fun u6 M => ?_
   refine nT <| sR <| rV 3 <| ZE M 50 0 4 <| rV 1 ?_
   refine ZY M 52 2 (.tuple #[]) (.cells (av 4 (stL (fS3 s sa ep rp) [])) 87) (fun w M => c_add g2 4 87 (by omega) (fS2 s ep rp) [] sa (rE rp) (by omega) (fun _ => rE_size (by omega)) w M.laid (M.get 2 rfl) (M.ne0 2 rfl)) fun u7 M => ?_
   refine nT <| sR <| rV 1 ?_
   refine pH 54 (.string (fC rp)) (run_strl 9 Tryz.underlying9 _ _ rfl rp (by kernel_rfl) .i64 32 (by kernel_rfl) (by omega) _ rfl) ?_
   refine ZY M 55 2 (.string (fP s sa ep rp)) (.cells (av 4 (stL (fS4 s sa ep rp) [])) 87) (fun w M => c_open g2 4 87 (by omega) (fS3 s sa ep rp) [] (fC rp) (fS3_h _ _ _ _) (fun h => addF_k h) (by rw [fC_size (by omega)]; omega) (by rw [fC_size (by omega)]; omega) w M.laid (M.get 2 rfl) (M.ne0 2 rfl)) fun u8 M => ?_
   refine rV 1 <| nT <| sR ?_
   refine ZC M 57 (fun w M => c_next g2 4 87 (by omega) (fS4 s sa ep rp) [] ⟨#[]⟩ (by decide) w M.laid (M.get 2 rfl) (M.ne0 2 rfl)) fun u9 M => ?_
   refine rV 5 <| nT <| wp_seq <| sR ?_
   refine ZY M 60 2 (.int .i64 (fS4 s sa ep rp).e) (.cells (av 4 (stL (endF (fS4 s sa ep rp)) [])) 87) (fun w M => c_end g2 4 87 (by omega) (fS4 s sa ep rp) [] w M.laid (M.get 2 rfl) (M.ne0 2 rfl)) fun u10 M => ?_
   refine rV 1 <| nT <| sR <| rV 1 ?_
   by_cases c2 : ((fS4 s sa ep rp).e) = 0
   ·refine wD 62 c2 ?_
    refine nT <| cF <| wp_skip <| au_then <| wp_seq ?_
    refine rgh M [⟨g, .cells (av 7 (stL s [.string sa, .string ep, .string ob])) 89⟩, ⟨g2, .cells (av 4 (stL (endF (fS4 s sa ep rp)) [])) 87⟩] 11 fun u11 M => ?_
    have qM := M.drop (.cons_cons _ (.cons _ (.cons_cons _ (.slnil))))
    refine qV qM 0 65 (.pointer (some ⟨g, 0, none⟩)) ?_
    refine qV qM 1 66 (.pointer (some ⟨g, 0, none⟩)) ?_
    refine qV qM 2 67 (.pointer (some ⟨g, 6, none⟩)) ?_
    refine qE qM 3 68 0 6 ?_
    refine qV qM 4 69 (.string (fP s sa ep rp)) ?_
    refine qV qM 5 70 (.string (nxA ((fS4 s sa ep rp).c) ⟨#[]⟩)) ?_
    refine qV qM 6 71 (.string (nxB ((fS4 s sa ep rp).c) ⟨#[]⟩)) ?_
    refine qV qM 7 72 (.pointer (some ⟨g2, 0, none⟩)) ?_
    refine qE qM 8 73 1 0 ?_
    refine qV qM 9 74 (.agg (av 5 (sQ [ob, fP s sa ep rp, nxA ((fS4 s sa ep rp).c) ⟨#[]⟩, nxB ((fS4 s sa ep rp).c) ⟨#[]⟩, (endF (fS4 s sa ep rp)).h]))) ?_
    refine qO 10 ?_
    refine ZL M 1 5 (sQ [ob, fP s sa ep rp, nxA ((fS4 s sa ep rp).c) ⟨#[]⟩, nxB ((fS4 s sa ep rp).c) ⟨#[]⟩, (endF (fS4 s sa ep rp)).h]) fun u12 M => ?_
    refine nT ?_
    refine ⟨(M.drop (.cons_cons _ (.cons _ (.cons_cons _ (.slnil))))), ?_⟩
    refine qZ ?_
    refine rV 1 <| nT <| au_then <| wp_ret ?_
    have e0 : fiE s sa ep rp = 0 := by simp only [fiE, if_neg c0, if_neg c1, if_pos c2, c2]
    exact bct Tryz.results19 M 1 5 (sQ [ob, fP s sa ep rp, nxA ((fS4 s sa ep rp).c) ⟨#[]⟩, nxB ((fS4 s sa ep rp).c) ⟨#[]⟩, (endF (fS4 s sa ep rp)).h]) (.int .i64 0) ⟨ro_below1 M.old hg (M.get 0 rfl), .inr ⟨e0, rfl⟩⟩
   ·refine wU 62 c2 ?_
    refine nT <| cT <| sR <| rV 2 ?_
    refine ZL M 1 5 (zq 5) fun u11 M => ?_
    refine rV 1 <| nT <| wp_ret <| au_then_ret ?_
    have e0 : fiE s sa ep rp = (fS4 s sa ep rp).e := by simp only [fiE, if_neg c0, if_neg c1, if_neg c2]
    exact bct Tryz.results19 M 1 5 (zq 5) (.int .i64 (fS4 s sa ep rp).e) ⟨ro_below1 M.old hg (M.get 0 rfl), .inl ⟨by rw [e0]; exact c2, by rw [e0]⟩⟩
open Go.RowKit
theorem val_pu (y : Yb) : Mon.val (Mon.mkS (puV y)) % Mon.Pm = Mon.shV (Mon.clS y) 9 := Mon.val_leb (Mon.tells9.cl y).bd
theorem sh_pu (x y : Yb) : shN x (puV y) = Mon.shV (Mon.clS x) (Mon.shV (Mon.clS y) 9) := by
 unfold shN
 rw [val_pu]
theorem sh_swap (x y : Yb) : shN x (puV y) = shN y (puV x) := by
 rw [sh_pu, sh_pu]
 exact Mon.tells9.swap x y
theorem sh_ne (x y : Yb) : ¬ shN x (puV y) = 0 := by
 rw [sh_pu]
 exact ((Mon.tells9.cl y).cl x).ne0
theorem ext_mid (x y z : Yb) {i j : Nat} (hi : x.size = i) (hj : x.size + y.size = j) : (x ++ y ++ z).extract i j = y := by
 subst hi hj
 rw [Bla.ba_app, Bla.ba_app, Bla.ba_none (A := x) (by omega), Bla.ba_none (A := z) (by rw [ByteArray.size_append]; omega), Nat.sub_self, Nat.add_sub_cancel_left, Bla.ba_whole (Nat.le_refl _)]
 exact (congrArg (· ++ _) ByteArray.empty_append).trans ByteArray.append_empty
section
variable (a b e pr pl : Yb)
theorem tX1_size : (tX1 a b e pr).size = 48 := by
 unfold tX1
 rw [sealS_size, puV_size]
theorem tX2_size : (tX2 a b e pr pl).size = pl.size + 16 := sealS_size _ _ _ _
theorem tMs_size : (tMs a b e pr pl).size = pl.size + 96 := by
 unfold tMs
 rw [ByteArray.size_append, ByteArray.size_append, puV_size, tX1_size, tX2_size]
 omega
theorem tMs_E : rE (tMs a b e pr pl) = puV e := by
 unfold rE tMs
 rw [ByteArray.append_assoc]
 have h := ext_left (puV e) (tX1 a b e pr ++ tX2 a b e pr pl)
 rwa [puV_size] at h
theorem tMs_1 : rC1 (tMs a b e pr pl) = tX1 a b e pr := by
 unfold rC1 tMs
 exact ext_mid _ _ _ (puV_size e) (by rw [puV_size, tX1_size])
theorem tMs_2 : rC2 (tMs a b e pr pl) = tX2 a b e pr pl := by
 unfold rC2 tMs
 have h := ext_right (puV e ++ tX1 a b e pr) (tX2 a b e pr pl)
 rwa [ByteArray.size_append, puV_size, tX1_size] at h
theorem seal_tag (s : St) (t : Yb) : tagOk s (sealS s.k n0 s.h t) := seal_tg _ _ _ _
theorem uS2_t : uS2 b pr (tMs a (puV b) e pr pl) = tS2 (puV b) e pr := by
 unfold uS2 rS1
 rw [tMs_E, sh_swap b e]
 rfl
theorem uS2_tag : tagOk (uS2 b pr (tMs a (puV b) e pr pl)) (rC1 (tMs a (puV b) e pr pl)) := by
 rw [uS2_t, tMs_1]
 exact seal_tag _ _
theorem uF_t : uF b pr (tMs a (puV b) e pr pl) = puV a := by
 unfold uF
 rw [uS2_t, tMs_1]
 exact seal_op _ _ _ _
theorem uS4_t : uS4 b pr (tMs a (puV b) e pr pl) = tS4 a (puV b) e pr := by
 unfold uS4 uS3
 rw [uF_t, uS2_t, tMs_1, sh_swap b a]
 rfl
theorem uS4_tag : tagOk (uS4 b pr (tMs a (puV b) e pr pl)) (rC2 (tMs a (puV b) e pr pl)) := by
 rw [uS4_t, tMs_2]
 exact seal_tag _ _
theorem uP_t : uP b pr (tMs a (puV b) e pr pl) = pl := by
 unfold uP
 rw [uS4_t, tMs_2]
 exact seal_op _ _ _ _
theorem uS5_t : uS5 b pr (tMs a (puV b) e pr pl) = tS5 a (puV b) e pr pl := by
 unfold uS5
 rw [uS4_t, tMs_2]
 rfl
theorem rE_ne : ¬ shN b (rE (tMs a (puV b) e pr pl)) = 0 := by
 rw [tMs_E]
 exact sh_ne _ _
theorem uF_ne : ¬ shN b (uF b pr (tMs a (puV b) e pr pl)) = 0 := by
 rw [uF_t]
 exact sh_ne _ _
theorem read_e : (rS5 b pr (tMs a (puV b) e pr pl)).e = 0 := by
 rw [rS5_e, if_neg (rE_ne a b e pr pl), if_pos (uS2_tag a b e pr pl), if_neg (uF_ne a b e pr pl), if_pos (uS4_tag a b e pr pl)]
theorem read_s : rS5 b pr (tMs a (puV b) e pr pl) = tS5 a (puV b) e pr pl := (rS5_u (rE_ne a b e pr pl) (uS2_tag a b e pr pl) (uF_ne a b e pr pl) (uS4_tag a b e pr pl)).trans (uS5_t a b e pr pl)
theorem read_f : rF b pr (tMs a (puV b) e pr pl) = puV a := (rF_u (rE_ne a b e pr pl) (uS2_tag a b e pr pl)).trans (uF_t a b e pr pl)
theorem read_p : rP b pr (tMs a (puV b) e pr pl) = pl := (rP_u (rE_ne a b e pr pl) (uS2_tag a b e pr pl) (uF_ne a b e pr pl) (uS4_tag a b e pr pl)).trans (uP_t a b e pr pl)
theorem begin_0 (ha : a.size = 32) (he : e.size = 32) (hp : pr.size ≤ 4096) (hl : pl.size ≤ 4096) : bgE a (puV b) e pr pl = 0 := by
 unfold bgE
 rw [if_pos (by omega), if_pos (by rw [puV_size]; rfl), if_pos (by omega), if_neg (by omega), if_neg (by omega), bS5_e, if_neg (sh_ne e b), if_neg (sh_ne a b)]
theorem begin_m : bMs a (puV b) e pr pl = tMs a (puV b) e pr pl := bMs_t (sh_ne e b) (sh_ne a b)
theorem begin_s : bS5 a (puV b) e pr pl = tS5 a (puV b) e pr pl := bS5_t (sh_ne e b) (sh_ne a b)
theorem read_0 (hb : b.size = 32) (hp : pr.size ≤ 4096) (hl : pl.size ≤ 4096) : rdE b pr (tMs a (puV b) e pr pl) = 0 := by
 have h := tMs_size a (puV b) e pr pl
 unfold rdE
 rw [if_pos (by omega), if_neg (by omega), if_neg (by omega), if_neg (by omega), read_e]
end
section
variable {s : St} (a e f pl : Yb)
theorem vX_size (x y : Yb) : (vX s x y f pl).size = pl.size + 16 := sealS_size _ _ _ _
theorem vRp_size (x y : Yb) : (vRp s x y f pl).size = pl.size + 48 := by
 unfold vRp
 rw [ByteArray.size_append, puV_size, vX_size]
 omega
theorem vRp_E (x y : Yb) : rE (vRp s x y f pl) = puV f := by
 unfold rE vRp
 have h := ext_left (puV f) (vX s x y f pl)
 rwa [puV_size] at h
theorem vRp_C (x y : Yb) : fC (vRp s x y f pl) = vX s x y f pl := by
 unfold fC vRp
 have h := ext_right (puV f) (vX s x y f pl)
 rwa [puV_size] at h
theorem gS3_v : gS3 s a e (vRp s (puV a) (puV e) f pl) = vS3 s (puV a) (puV e) f := by
 unfold gS3 gS2 fS1
 rw [vRp_E, sh_swap e f, sh_swap a f]
 rfl
theorem gS3_tag : tagOk (gS3 s a e (vRp s (puV a) (puV e) f pl)) (fC (vRp s (puV a) (puV e) f pl)) := by
 rw [gS3_v, vRp_C]
 exact seal_tag _ _
theorem gP_v : gP s a e (vRp s (puV a) (puV e) f pl) = pl := by
 unfold gP
 rw [gS3_v, vRp_C]
 exact seal_op _ _ _ _
theorem gS4_v : gS4 s a e (vRp s (puV a) (puV e) f pl) = vS4 s (puV a) (puV e) f pl := by
 unfold gS4
 rw [gS3_v, vRp_C]
 rfl
theorem fE_ne (x : Yb) : ¬ shN x (rE (vRp s (puV a) (puV e) f pl)) = 0 := by
 rw [vRp_E]
 exact sh_ne _ _
end
section
variable {s : St} (a e f pl : Yb)
theorem answer_0 (h0 : s.e = 0) (hf : f.size = 32) (hl : pl.size ≤ 4096) : anE s (puV a) (puV e) f pl = 0 := by
 unfold anE
 rw [if_pos (by omega), if_neg (by omega), aS4_e _ _ _ _ h0, if_neg (sh_ne f e), if_neg (sh_ne f a)]
theorem answer_r (h0 : s.e = 0) : aRp s (puV a) (puV e) f pl = vRp s (puV a) (puV e) f pl := aRp_v h0 (sh_ne f e) (sh_ne f a)
theorem answer_s (h0 : s.e = 0) : aS4 s (puV a) (puV e) f pl = vS4 s (puV a) (puV e) f pl := aS4_v h0 (sh_ne f e) (sh_ne f a)
theorem finish_0 (h0 : s.e = 0) (hl : pl.size ≤ 4096) : fiE s a e (vRp s (puV a) (puV e) f pl) = 0 := by
 have h := vRp_size (s := s) f pl (puV a) (puV e)
 unfold fiE
 rw [if_neg (by omega), if_neg (by omega), fS4_e _ _ _ h0, if_neg (fE_ne a e f pl e), if_neg (fE_ne a e f pl a), if_pos (gS3_tag a e f pl)]
theorem finish_s (h0 : s.e = 0) : fS4 s a e (vRp s (puV a) (puV e) f pl) = vS4 s (puV a) (puV e) f pl := (fS4_g h0 (fE_ne a e f pl e) (fE_ne a e f pl a) (gS3_tag a e f pl)).trans (gS4_v a e f pl)
theorem finish_p (h0 : s.e = 0) : fP s a e (vRp s (puV a) (puV e) f pl) = pl := (fP_g h0 (fE_ne a e f pl e) (fE_ne a e f pl a) (gS3_tag a e f pl)).trans (gP_v a e f pl)
end
end Go.Proofs.YtiahdbibeleakaaGreatDoor
namespace Go.Proofs.YtiahdbibeleakaaGreatDoor.Mon
open Go.RowKit
theorem mk32 (w : World) : (Instr.makeSlice 44 (.int .i64 32) (.int .i64 32)).run Tryz.prog w = .ok (.slice (some ⟨w.heap.size, 0, none⟩) 32 32) (w.alloc (.cells #[Value.int .u8 0, Value.int .u8 0, Value.int .u8 0, Value.int .u8 0, Value.int .u8 0, Value.int .u8 0, Value.int .u8 0, Value.int .u8 0, Value.int .u8 0, Value.int .u8 0, Value.int .u8 0, Value.int .u8 0, Value.int .u8 0, Value.int .u8 0, Value.int .u8 0, Value.int .u8 0, Value.int .u8 0, Value.int .u8 0, Value.int .u8 0, Value.int .u8 0, Value.int .u8 0, Value.int .u8 0, Value.int .u8 0, Value.int .u8 0, Value.int .u8 0, Value.int .u8 0, Value.int .u8 0, Value.int .u8 0, Value.int .u8 0, Value.int .u8 0, Value.int .u8 0, Value.int .u8 0] 5)) := by kernel_rfl
theorem bc32 (w : World) : BC (w.alloc (.cells #[Value.int .u8 0, Value.int .u8 0, Value.int .u8 0, Value.int .u8 0, Value.int .u8 0, Value.int .u8 0, Value.int .u8 0, Value.int .u8 0, Value.int .u8 0, Value.int .u8 0, Value.int .u8 0, Value.int .u8 0, Value.int .u8 0, Value.int .u8 0, Value.int .u8 0, Value.int .u8 0, Value.int .u8 0, Value.int .u8 0, Value.int .u8 0, Value.int .u8 0, Value.int .u8 0, Value.int .u8 0, Value.int .u8 0, Value.int .u8 0, Value.int .u8 0, Value.int .u8 0, Value.int .u8 0, Value.int .u8 0, Value.int .u8 0, Value.int .u8 0, Value.int .u8 0, Value.int .u8 0] 5)) w.heap.size (fun _ => 0) 32 where
 lt := by simp
 c := fun i hi => by
  rw [cell_of_row _ _ _ _ _ _ (heap_alloc_new w _)]
  have h : ∀ j : Fin 32, (#[Value.int .u8 0, Value.int .u8 0, Value.int .u8 0, Value.int .u8 0, Value.int .u8 0, Value.int .u8 0, Value.int .u8 0, Value.int .u8 0, Value.int .u8 0, Value.int .u8 0, Value.int .u8 0, Value.int .u8 0, Value.int .u8 0, Value.int .u8 0, Value.int .u8 0, Value.int .u8 0, Value.int .u8 0, Value.int .u8 0, Value.int .u8 0, Value.int .u8 0, Value.int .u8 0, Value.int .u8 0, Value.int .u8 0, Value.int .u8 0, Value.int .u8 0, Value.int .u8 0, Value.int .u8 0, Value.int .u8 0, Value.int .u8 0, Value.int .u8 0, Value.int .u8 0, Value.int .u8 0] : Array Value)[j.val]? = some (.int .u8 0) := fun j => by
   rcases j with ⟨j, hj⟩
   have : j < 32 := hj
   rcases j with _|_|_|_|_|_|_|_|_|_|_|_|_|_|_|_|_|_|_|_|_|_|_|_|_|_|_|_|_|_|_|_|j
   all_goals first | rfl | omega
  exact h ⟨i, hi⟩
 fz := fun i hi => by
  unfold World.frozen?
  rw [heap_alloc_new w _]
  simp
theorem nine_bs : bs ((List.range 32).map (upd (fun _ => 0) 0 9)) = nineS := by decide +kernel
open Go.RowKit
theorem rladL (s p : Yb) (w : World) (hL : Laid w) (V : Int) (hs : s.size = 32) (hp : p.size = 32) (hV : shV (clS s) (val (mkS p) % Pm) = V) : Cs 30 #[.string s, .string p] w (.string (lebytes V)) := by
 have h := l_ladder s p (clS s) (val (mkS p) % Pm) hs hp rfl rfl w hL
 have e : lebytes V = bs (rb (d16 ((rladF (clS s) (val (mkS p) % Pm) 255).x2 * pwm (rladF (clS s) (val (mkS p) % Pm) 255).z2 (xbit 255 21) 255 % Pm)) 32) := by
  rw [← hV]
  exact leb_rb (shV_bd _ _)
 rwa [← e] at h
theorem rpub_genL (s S : Yb) (w : World) (hL : Laid w) (hs : s.size = 32) (H : ∀ w, Laid w → Cs 30 #[.string s, .string nineS] w (.string S)) : Cs 15 #[.string s] w (.tuple #[.string S, .int .i64 0]) := by
 have n1 : ((s.size : Int) != 32) = false := by simp [hs]
 clear hs
 have H1 := hide H
 clear H
 have m1 := mk32 w
 have B := bc32 w
 have c0 := B.c 0 (by omega)
 have f0 := B.fz 0 (by omega)
 have gl := B.lt
 have hbk := conv_back (B.set (k := 0) (by omega) 9) 32 (fun i _ => by unfold upd; by_cases h : i = 0 <;> simp [h])
 rw [nine_bs] at hbk
 have O := hide ((new_below w (.cells #[Value.int .u8 0, Value.int .u8 0, Value.int .u8 0, Value.int .u8 0, Value.int .u8 0, Value.int .u8 0, Value.int .u8 0, Value.int .u8 0, Value.int .u8 0, Value.int .u8 0, Value.int .u8 0, Value.int .u8 0, Value.int .u8 0, Value.int .u8 0, Value.int .u8 0, Value.int .u8 0, Value.int .u8 0, Value.int .u8 0, Value.int .u8 0, Value.int .u8 0, Value.int .u8 0, Value.int .u8 0, Value.int .u8 0, Value.int .u8 0, Value.int .u8 0, Value.int .u8 0, Value.int .u8 0, Value.int .u8 0, Value.int .u8 0, Value.int .u8 0, Value.int .u8 0, Value.int .u8 0] 5)).setCell (p := ⟨w.heap.size, 0, none⟩) (Nat.le_refl _) (.int .u8 9))
 clear B
 generalize nineS = N at *
 generalize w.alloc (.cells #[Value.int .u8 0, Value.int .u8 0, Value.int .u8 0, Value.int .u8 0, Value.int .u8 0, Value.int .u8 0, Value.int .u8 0, Value.int .u8 0, Value.int .u8 0, Value.int .u8 0, Value.int .u8 0, Value.int .u8 0, Value.int .u8 0, Value.int .u8 0, Value.int .u8 0, Value.int .u8 0, Value.int .u8 0, Value.int .u8 0, Value.int .u8 0, Value.int .u8 0, Value.int .u8 0, Value.int .u8 0, Value.int .u8 0, Value.int .u8 0, Value.int .u8 0, Value.int .u8 0, Value.int .u8 0, Value.int .u8 0, Value.int .u8 0, Value.int .u8 0, Value.int .u8 0, Value.int .u8 0] 5) = W1 at *
 go_enter Tryz.func15, Tryz.ntmps15
 go_wp2_with fail
 refine (H1.out _ (below_laid O.out hL)).mono ?_
 rintro _ w3 ⟨rfl, hb⟩
 have O2 := O.out.trans (hb.mono O.out.size)
 clear hb H1
 go_wp2_with fail
 exact bodyPost_ret (v := .tuple #[.string S, .int .i64 0]) (by simp [results, Tryz.results15, go_sem]) rfl ⟨rfl, O2⟩
theorem rpubL (s : Yb) (w : World) (hL : Laid w) (hs : s.size = 32) : Cs 15 #[.string s] w (.tuple #[.string (lebytes (shV (clS s) 9)), .int .i64 0]) :=
 rpub_genL s _ w hL hs fun w hL => rladL s nineS w hL _ hs nineS_size (by rw [v9])
end Go.Proofs.YtiahdbibeleakaaGreatDoor.Mon
namespace Go.Proofs.YtiahdbibeleakaaGreatDoor
open Go.RowKit
theorem cv_u64 (x : Int) : cv .u64 x = x % 18446744073709551616 := by
 unfold cv
 simp [IntKind.wrap, IntKind.signed, IntKind.bits]
section
variable {P : Program} {ops : Array Oper} {o o2 o3 : Oper} {a : Act} {w : World} {Q : Exit → Act → World → Prop} {S : World → Prop} {n fuel : Nat} {listed : Array Bool}
theorem hl_name (h : ∀ H : Nat → Array Bool → Act → World → Prop, (∀ f l a w, H f l a w → HL P ops Q S n f l a w) → (∀ f l a w, HL P ops Q S n f l a w → H f l a w) → H fuel listed a w) : HL P ops Q S n fuel listed a w := h _ (fun _ _ _ _ h => h) (fun _ _ _ _ h => h)
end
theorem if_max (x y : Int) : (if y > x then y else x) = max x y := by
 rw [Int.max_def]
 split <;> split <;> omega
theorem run_shlX {P : Program} {a : Act} {o : Oper} (t rt : TypeId) (x y : Operand) (ho : o.op = .binOp .shl t x y rt) (k : Int) (ky : IntKind) (m : Nat) (hx : a.eval x = .int .u64 k) (hy : a.eval y = .int ky (m : Int)) (w : World) :
  (execOp a.eval o).run P w = .ok (.value (.int .u64 (sl k m))) w := by
 by_cases hm : m ≤ 64
 ·exact Pol.run_shlU t rt x y ho k ky m hx hy hm w
 ·have e : IntKind.wrap .u64 (k * 2 ^ min m 64) = IntKind.wrap .u64 (k * 2 ^ m) := by
   obtain ⟨n, rfl⟩ : ∃ n, m = n + 64 := ⟨m - 64, by omega⟩
   rw [IntKind.wrap_u64, IntKind.wrap_u64, Nat.min_eq_right (by omega), Int.pow_add, ← Int.mul_assoc]
   have : (2 : Int) ^ 64 = 18446744073709551616 := rfl
   rw [this, Int.mul_emod_left, Int.mul_emod_left]
  unfold execOp sl
  rw [← e]
  simp [ho, hx, hy, eqGuard, binOp, Op.shift, IntKind.bits]
  intro h
  omega
structure There (w : World) (T : List Blk) : Prop where
 at_ : ∀ b ∈ T, w.heap[b.g]? = some b.Z
 nodup : (T.map Blk.g).Nodup
 ne : ∀ b ∈ T, 2 < b.g
theorem Mem.startT {w : World} {T : List Blk} (hL : Laid w) (h : There w T) : Mem ⟨w, T.map Blk.g⟩ T w :=
 ⟨grown_refl _ _, h.at_, fun b hb => .inr (List.mem_map_of_mem hb), h.nodup, hL, fun k hk => by obtain ⟨b, hb, rfl⟩ := List.mem_map.1 hk; exact h.ne b hb⟩
theorem Mem.there {c : Ctx} {L T : List Blk} {W : World} (M : Mem c L W) (h : T.Sublist L) : There W T := ⟨fun b hb => M.at_ b (h.subset hb), M.nodup.sublist (h.map _), fun b hb => by
 rcases M.ge b (h.subset hb) with h1 | h1
 ·exact Nat.lt_of_lt_of_le M.lay.lt h1
 ·exact M.ne _ h1⟩
theorem ro_T {w W : World} {T : List Blk} (h : There w T) (M : Mem ⟨w, T.map Blk.g⟩ T W) : Below w.heap.size w W := ⟨M.old.os, M.old.tape, M.old.output, M.old.size, fun k hk => by
 by_cases e : k ∈ T.map Blk.g
 ·obtain ⟨b, hb, rfl⟩ := List.mem_map.1 e
  rw [h.at_ b hb, M.at_ b hb]
 ·exact M.old.block k hk e⟩
structure OkT (w w' : World) (T T' : List Blk) : Prop where
 grw : Grw w w' (T.map Blk.g)
 at_ : ∀ b ∈ T', w'.heap[b.g]? = some b.Z
 nodup : (T'.map Blk.g).Nodup
 ge : ∀ b ∈ T', b.g ∈ T.map Blk.g ∨ w.heap.size ≤ b.g
theorem Mem.okT0 {w : World} {T T' : List Blk} {W : World} (M : Mem ⟨w, T.map Blk.g⟩ T' W) : OkT w W T T' := ⟨M.old, M.at_, M.nodup, fun b hb => (M.ge b hb).symm⟩
theorem Mem.putT {c : Ctx} {L T T' : List Blk} {W W' : World} (M : Mem c (L ++ T) W) (h : OkT W W' T T') : Mem c (L ++ T') W' where
 old := ⟨h.grw.os.trans M.old.os, h.grw.tape.trans M.old.tape, h.grw.output.trans M.old.output, Nat.le_trans M.old.size h.grw.size, fun k hk hr => by
  refine (h.grw.block k (Nat.lt_of_lt_of_le hk M.old.size) fun e => ?_).trans (M.old.block k hk hr)
  obtain ⟨b, hb, rfl⟩ := List.mem_map.1 e
  rcases M.ge b (List.mem_append_right _ hb) with h1 | h1
  ·omega
  ·exact hr h1⟩
 at_ := fun b hb => by
  rcases List.mem_append.1 hb with hb | hb
  ·rw [h.grw.block _ (M.lt (List.mem_append_left _ hb)) fun e => ?_]
   ·exact M.at_ b (List.mem_append_left _ hb)
   ·have hn := M.nodup
    rw [List.map_append, List.nodup_append] at hn
    exact hn.2.2 _ (List.mem_map_of_mem hb) _ e rfl
  ·exact h.at_ b hb
 ge := fun b hb => by
  rcases List.mem_append.1 hb with hb | hb
  ·exact M.ge b (List.mem_append_left _ hb)
  ·rcases h.ge b hb with h1 | h1
   ·obtain ⟨d, hd, e⟩ := List.mem_map.1 h1
    rw [← e]
    exact M.ge d (List.mem_append_right _ hd)
   ·exact .inl (Nat.le_trans M.old.size h1)
 nodup := by
  have hn := M.nodup
  rw [List.map_append, List.nodup_append] at hn ⊢
  refine ⟨hn.1, h.nodup, fun x hx y hy e => ?_⟩
  obtain ⟨d, hd, rfl⟩ := List.mem_map.1 hy
  rcases h.ge d hd with h1 | h1
  ·exact hn.2.2 _ hx _ h1 e
  ·obtain ⟨b, hb, rfl⟩ := List.mem_map.1 hx
   have := M.lt (List.mem_append_left _ hb)
   omega
 lay := M.lay
 ne := M.ne
theorem Mem.front {c : Ctx} {L : List Blk} {b : Blk} {W : World} (M : Mem c (L ++ [b]) W) : Mem c (b :: L) W := M.perm (List.perm_append_singleton b L)
theorem Mem.mid {c : Ctx} {L pre T suf T' : List Blk} {W W' : World} (M : Mem c L W) (hp : L = pre ++ (T ++ suf)) (h : OkT W W' T T') : Mem c (pre ++ (T' ++ suf)) W' := by
 subst hp
 have p : ∀ X : List Blk, (pre ++ (X ++ suf)).Perm ((pre ++ suf) ++ X) := fun X => by
  rw [List.append_assoc]
  exact List.Perm.append_left pre List.perm_append_comm
 exact ((M.perm (p T)).putT h).perm (p T').symm
theorem Mem.thereM {c : Ctx} {L pre T suf : List Blk} {W : World} (M : Mem c L W) (hp : L = pre ++ (T ++ suf)) : There W T := by
 subst hp
 exact M.there ((List.sublist_append_left T suf).trans (List.sublist_append_right pre _))
section
variable {P : Program} {ops : Array Oper} {rest : List Oper} {o : Oper} {a : Act} {w : World} {c : Ctx} {L : List Blk} {Q : Exit → Act → World → Prop} {α : Type}
theorem pl_callM (M : Mem c L w) (hw : Region.wanted o (yielded ops a.tmps) = true) (d : Option Tmp) (hd : o.dst = d) (f : FuncId) (args : Array Value) (pre T suf : List Blk) (hp : L = pre ++ (T ++ suf)) (v : α → Value) (T' : α → List Blk) (R : α → Prop) (hrun : ∀ w, (execOp a.eval o).run P w = .ok (.enter f args) w)
  (hc : ∀ w, Laid w → There w T → Calls P f args w fun e w' => ∃ x, e = .returned (v x) ∧ R x ∧ OkT w w' T (T' x)) (h : ∀ x w', R x → Mem c (pre ++ (T' x ++ suf)) w' → PL P ops Q rest (a.put d (v x)) w') : PL P ops Q (o :: rest) a w :=
 pl_callq hw d hd f args hrun ((hc w M.laid (M.thereM hp)).mono fun _ w' ⟨x, he, hR, hk⟩ => ⟨v x, he, h x w' hR (M.mid hp hk)⟩)
theorem pl_call2 (M : Mem c L w) (hw : Region.wanted o (yielded ops a.tmps) = true) (d : Option Tmp) (hd : o.dst = d) (f : FuncId) (args : Array Value) (v : Value) (i j g k : Nat) (Z Y Z' Y' : Obj) (hi : L[i]? = some ⟨g, Z⟩) (hj : L[j]? = some ⟨k, Y⟩) (hrun : ∀ w, (execOp a.eval o).run P w = .ok (.enter f args) w)
  (hc : ∀ w, Mem c L w → Calls P f args w fun e w' => e = .returned v ∧ Grw w w' [g, k] ∧ w'.heap[g]? = some Z' ∧ w'.heap[k]? = some Y') (h : ∀ w', Mem c ((L.set i ⟨g, Z'⟩).set j ⟨k, Y'⟩) w' → PL P ops Q rest (a.put d v) w') : PL P ops Q (o :: rest) a w :=
 pl_callq hw d hd f args hrun ((hc w M).mono fun _ w' ⟨he, h1, h2, h3⟩ => ⟨v, he, h w' (M.put2 i j ⟨g, Z⟩ ⟨k, Y⟩ hi hj Z' Y' h1 h2 h3)⟩)
end
def InfoIs (P : Program) (e : TypeId) (zv : Value) : Prop := ∃ i, P.info? e = some i ∧ i.zero = some zv ∧ i.size = 1 ∧ i.bytes ≤ 16
theorem infoIs {P : Program} {e : TypeId} {zv : Value} {b : Nat} (h1 : (P.info? e).map (·.zero) = some (some zv)) (h2 : (P.info? e).map (·.size) = some 1) (h3 : (P.info? e).map (·.bytes) = some b) (hb : b ≤ 16) : InfoIs P e zv := by
 cases h : P.info? e with
 | none => rw [h] at h2; cases h2
 | some i =>
  rw [h] at h1 h2 h3
  simp only [Option.map_some, Option.some.injEq] at h1 h2 h3
  exact ⟨i, h, h1, h2, by omega⟩
theorem info33 : InfoIs Tryz.prog 33 (.int .u64 0) := infoIs (b := 8) (by kernel_rfl) (by kernel_rfl) (by kernel_rfl) (by decide)
section
variable {P : Program} {ops : Array Oper} {rest : List Oper} {o : Oper} {a : Act} {w : World} {c : Ctx} {L : List Blk} {Q : Exit → Act → World → Prop}
end
def ud (x y : Int) : Int := IntKind.wrap .u64 (BitVec.ofInt 64 x &&& ~~~ BitVec.ofInt 64 y).toNat
theorem run_remU {P : Program} {a : Act} {o : Oper} (t rt : TypeId) (x y : Operand) (ho : o.op = .binOp .rem t x y rt) (m d : Nat) (hx : a.eval x = .int .u64 (m : Int)) (hy : a.eval y = .int .u64 (d : Int)) (hd : 0 < d) (w : World) :
  (execOp a.eval o).run P w = .ok (.value (.int .u64 ((m % d : Nat) : Int))) w := by
 have h0 : ¬ d = 0 := by omega
 have e : Int.tmod (m : Int) (d : Int) = (m : Int) % (d : Int) := rfl
 unfold execOp
 simp [ho, hx, hy, eqGuard, binOp, Op.intDiv, h0, e]
theorem run_quoU {P : Program} {a : Act} {o : Oper} (t rt : TypeId) (x y : Operand) (ho : o.op = .binOp .quo t x y rt) (m d : Nat) (hx : a.eval x = .int .u64 (m : Int)) (hy : a.eval y = .int .u64 (d : Int)) (hd : 0 < d) (hm : m < 18446744073709551616) (w : World) :
  (execOp a.eval o).run P w = .ok (.value (.int .u64 ((m / d : Nat) : Int))) w := by
 have h0 : ¬ d = 0 := by omega
 have h2 : m / d ≤ m := Nat.div_le_self m d
 have e2 : IntKind.wrap .u64 ((m : Int) / (d : Int)) = (m : Int) / (d : Int) := by
  have e3 : (m : Int) / (d : Int) = ((m / d : Nat) : Int) := rfl
  rw [e3]
  generalize m / d = q at *
  rw [IntKind.wrap_u64]
  omega
 unfold execOp
 simp only [ho, hx, hy]
 simp [eqGuard, binOp, Op.intDiv, h0]
 exact e2
def nW (s : Nat) : Nat := (s + 63) / 64
def clF (n : Nat) (m : NI) : Nat → Int := fun i => if i < n then 0 else m i
section
variable {ops : Array Oper} {rest : List Oper} {o : Oper} {a : Act} {w : World} {c : Ctx} {L : List Blk} {Q : Exit → Act → World → Prop}
theorem pl_makeW (M : Mem c L w) (hw : Region.wanted o (yielded ops a.tmps) = true) (d : Option Tmp) (hd : o.dst = d) (x y : Operand) (ho : o.op = .makeSlice 120 x y) (n : Nat) (hx : a.eval x = .int .i64 (n : Int)) (hy : a.eval y = .int .i64 (n : Int)) (hc : n < 1000000)
  (h : ∀ g w', Mem c (L ++ [⟨g, .cells (av n (w64 (fun _ => 0))) 33⟩]) w' → PL Tryz.prog ops Q rest (a.put d (.slice (some ⟨g, 0, none⟩) n n)) w') : PL Tryz.prog ops Q (o :: rest) a w := by
 obtain ⟨info, i1, i2, i3, i4⟩ := info33
 have hr := run_make (P := Tryz.prog) w 120 33 info (.int .u64 0) Tryz.underlying120 i1 i2 .i64 .i64 (n : Int) (n : Int) (by omega) (by omega) (by
  have := Int.mul_le_mul (show (info.bytes : Int) ≤ 16 by omega) (show (n : Int) ≤ 1000000 by omega) (by omega) (by omega)
  omega) (by omega)
 simp only [Int.toNat_natCast, i3, Nat.mul_one] at hr
 have e : madeCells (Value.int .u64 0).cells n = av n (w64 (fun _ => 0)) := by
  apply Array.ext_getElem?
  intro i
  by_cases hi : i < n
  ·rw [av_get n _ i hi]
   simp [madeCells, hi, w64, Value.cells, Nat.mod_one]
  ·rw [Array.getElem?_eq_none (by simp [madeCells]; omega), Array.getElem?_eq_none (by simp [av_size]; omega)]
 rw [e] at hr
 refine pl_to hw d hd (.slice (some ⟨w.heap.size, 0, none⟩) n n) _ ?_ (h w.heap.size (w.alloc (.cells (av n (w64 (fun _ => 0))) 33)) (M.new _ _ (new_below w _) (heap_alloc_new w _) (Nat.le_refl _)))
 unfold execOp
 simp only [ho, hx, hy, Sem.run_bind, Sem.run_pure]
 rw [hr]
 rfl
theorem pl_clearW (M : Mem c L w) (hw : Region.wanted o (yielded ops a.tmps) = true) (hd : o.dst = none) (i g N : Nat) (m : NI) (hi : L[i]? = some ⟨g, .cells (av N (w64 m)) 33⟩) (n cp : Nat) (hn : 0 < n) (hle : n ≤ N)
  (hrun : ∀ w, (execOp a.eval o).run Tryz.prog w = (do pure (Next.value (← Builtin.clear_ #[120] 0 #[.slice (some ⟨g, 0, none⟩) n cp]))).run Tryz.prog w)
  (h : ∀ w', Mem c (L.set i ⟨g, .cells (av N (w64 (clF n m))) 33⟩) w' → PL Tryz.prog ops Q rest (a.put none (.tuple #[])) w') : PL Tryz.prog ops Q (o :: rest) a w := by
 have R := M.get i hi
 have hr := Lib.run_clear_slice (P := Tryz.prog) w 120 33 0 (.int .u64 0) Tryz.underlying120 (fun _ => by kernel_rfl) rfl rfl g 0 n cp hn (fun j hj => by rw [Nat.zero_add, cell_av R (by omega)]; rfl) (fun j hj => free_av R _)
 have e : List.replicate n (Value.int .u64 0) = (av n (fun _ => .int .u64 0)).toList := by
  apply List.ext_getElem?
  intro i
  by_cases hi : i < n
  ·have e1 : (av n (fun _ => Value.int .u64 0)).toList[i]? = some (.int .u64 0) := by rw [Array.getElem?_toList, av_get n _ i hi]
   rw [e1]
   simp [hi]
  ·rw [List.getElem?_eq_none (by simp; omega), List.getElem?_eq_none (by simp [av_size]; omega)]
 rw [e] at hr
 refine pl_to hw none hd (.tuple #[]) _ ?_ (h _ (M.put i ⟨g, _⟩ hi _ (grown_setCells g _ _ _) (by rw [heap_setCells g 33 _ w _ 0 R, setAll_av N (w64 m) (fun _ => .int .u64 0) (w64 (clF n m)) 0 n (by omega) (fun j _ => by
  unfold w64 clF
  by_cases hj : j < n
  ·rw [if_pos (by omega), if_pos hj]
  ·rw [if_neg (by omega), if_neg hj])])))
 rw [hrun]
 simp only [Sem.run_bind, hr, Result.andThen_ok, Sem.run_pure]
end
theorem inz23 : (Tryz.prog.info? 23).map (·.size) = some 4 := by kernel_rfl
theorem inz27 : (Tryz.prog.info? 27).map (·.size) = some 6 := by kernel_rfl
theorem inz35 : (Tryz.prog.info? 35).map (·.size) = some 5 := by kernel_rfl
theorem inz37 : (Tryz.prog.info? 37).map (·.size) = some 1 := by kernel_rfl
theorem inz43 : (Tryz.prog.info? 43).map (·.size) = some 4 := by kernel_rfl
open Go.RowKit
def bw (p : Nat) : Int := sl 1 (p % 64)
def hb (m : NI) (p : Nat) : Bool := decide (¬ un (m (p / 64)) (bw p) = 0)
def stM (m : NI) (p : Nat) : Nat → Int := upd m (p / 64) (uo (m (p / 64)) (bw p))
def wpM (m : NI) (p : Nat) : Nat → Int := upd m (p / 64) (ud (m (p / 64)) (bw p))
theorem c_bit (p : Nat) (w : World) (hL : Laid w)  : Cs 106 #[.int .u64 (p : Int)] w (.int .u64 (bw p)) := by
 go_enter Tryz.func106, Tryz.ntmps106
 have M := Mem.start hL
 refine sq <| sR <| rV 1 ?_
 refine pH 4 (.int .u64 ((p % 64 : Nat) : Int)) (run_remU 33 33 _ _ rfl p 64 (by kernel_rfl) (by kernel_rfl) (by decide)) ?_
 refine pH 5 (.int .u64 (sl 1 (p % 64))) (run_shlX 33 33 _ _ rfl 1 .u64 (p % 64) (by kernel_rfl) (by kernel_rfl)) ?_
 refine rV 1 <| nT <| wp_ret ?_
 have e0 : (bw p) = (sl 1 (p % 64)) := rfl
 exact bodyPost_ret (v := .int .u64 (sl 1 (p % 64))) (results_tmp1 Tryz.results106 _ _ _ (by kernel_rfl)) (by kernel_rfl) ⟨by rw [e0], below_grown M.old⟩
theorem c_has (k p n cap : Nat) (m : NI) (hp : p < 18446744073709551616) (hn : p / 64 < n) (hc : n ≤ cap) (w : World) (hL : Laid w)  (hT : There w [⟨k, .cells (av cap (w64 m)) 33⟩]) : Cs 74 #[.slice (some ⟨k, 0, none⟩) n cap, .int .u64 (p : Int)] w (.bool (hb m p)) := by
 go_enter Tryz.func74, Tryz.ntmps74
 have M : Mem ⟨w, [k]⟩ [⟨k, .cells (av cap (w64 m)) 33⟩] w := Mem.startT hL hT
 refine sq <| wp_seq ?_
 refine rg_tail M 9 (by kernel_rfl) (by kernel_rfl) ?_
 simp only [List.take_succ_cons, List.take_zero]
 refine kR 2 ?_
 refine kH 7 (.int .u64 ((p / 64 : Nat) : Int)) (run_quoU 33 33 _ _ rfl p 64 (by kernel_rfl) (by kernel_rfl) (by decide) (by omega)) ?_
 refine kH 8 (.pointer (some ⟨k, ((p / 64)), none⟩)) (run_ix0 120 33 Tryz.underlying120 inz33 _ _ rfl k n cap (by kernel_rfl) .u64 ((p / 64)) (by kernel_rfl) (by omega)) ?_
 refine eE M 9 0 ((p / 64)) ?_
 refine kR 1 ?_
 refine eC M 11 (fun w M => c_bit p w M.laid) ?_
 refine kR 1 ?_
 by_cases c0 : (un (m ((p / 64))) (bw p)) = 0
 ·refine kH 13 (.bool false) (jD ((un (m ((p / 64))) (bw p)) = 0) (c0)) ?_
  refine kl_nil fun u1 M => ?_
  replace M : Mem ⟨w, [k]⟩ [⟨k, .cells (av cap (w64 m)) 33⟩] u1 := M
  refine rV 1 <| nT <| wp_ret ?_
  have e0 : hb m p = false := by first | (simp only [hb, if_pos c0]; done) | simp [hb, c0]
  exact bodyPost_ret (v := .bool false) (results_tmp1 Tryz.results74 _ _ _ (by kernel_rfl)) (by kernel_rfl) ⟨by rw [e0], ro_T hT M⟩
 ·refine kH 13 (.bool true) (jU ((un (m ((p / 64))) (bw p)) = 0) (c0)) ?_
  refine kl_nil fun u1 M => ?_
  replace M : Mem ⟨w, [k]⟩ [⟨k, .cells (av cap (w64 m)) 33⟩] u1 := M
  refine rV 1 <| nT <| wp_ret ?_
  have e0 : hb m p = true := by first | (simp only [hb, if_neg c0]; done) | simp [hb, c0]
  exact bodyPost_ret (v := .bool true) (results_tmp1 Tryz.results74 _ _ _ (by kernel_rfl)) (by kernel_rfl) ⟨by rw [e0], ro_T hT M⟩
theorem c_set (k p n cap : Nat) (m : NI) (hp : p < 18446744073709551616) (hn : p / 64 < n) (hc : n ≤ cap) (w : World) (hL : Laid w)  (hT : There w [⟨k, .cells (av cap (w64 m)) 33⟩]) : Calls Tryz.prog 78 #[.slice (some ⟨k, 0, none⟩) n cap, .int .u64 (p : Int)] w fun r w' => r = .returned (.tuple #[]) ∧ Grw w w' [k] ∧ w'.heap[k]? = some (.cells (av cap (w64 (stM m p))) 33) := by
 go_enter Tryz.func78, Tryz.ntmps78
 have M : Mem ⟨w, [k]⟩ [⟨k, .cells (av cap (w64 m)) 33⟩] w := Mem.startT hL hT
 refine rg_tail M 9 (by kernel_rfl) (by kernel_rfl) ?_
 simp only [List.take_succ_cons, List.take_zero]
 refine kR 2 ?_
 refine kH 6 (.int .u64 ((p / 64 : Nat) : Int)) (run_quoU 33 33 _ _ rfl p 64 (by kernel_rfl) (by kernel_rfl) (by decide) (by omega)) ?_
 refine kH 7 (.pointer (some ⟨k, ((p / 64)), none⟩)) (run_ix0 120 33 Tryz.underlying120 inz33 _ _ rfl k n cap (by kernel_rfl) .u64 ((p / 64)) (by kernel_rfl) (by omega)) ?_
 refine eE M 8 0 ((p / 64)) ?_
 refine kR 1 ?_
 refine eC M 10 (fun w M => c_bit p w M.laid) ?_
 refine kR 1 ?_
 refine kH 12 (.pointer (some ⟨k, ((p / 64)), none⟩)) (run_ix0 120 33 Tryz.underlying120 inz33 _ _ rfl k n cap (by kernel_rfl) .u64 ((p / 64)) (by kernel_rfl) (by omega)) ?_
 refine kl_nil fun u1 M => ?_
 replace M : Mem ⟨w, [k]⟩ [⟨k, .cells (av cap (w64 m)) 33⟩] u1 := M
 refine ZP64 M 0 ((p / 64)) (uo (m ((p / 64))) (bw p)) fun u2 M => ?_
 replace M : Mem ⟨w, [k]⟩ [⟨k, .cells (av cap (w64 (upd m ((p / 64)) (uo (m ((p / 64))) (bw p))))) 33⟩] u2 := M
 refine pl_nil ?_
 exact bodyPost_end (v := .tuple #[]) (results_none Tryz.results78 _ _) (by kernel_rfl) ⟨rfl, M.old, M.get 0 rfl⟩
theorem c_wipe (k p n cap : Nat) (m : NI) (hp : p < 18446744073709551616) (hn : p / 64 < n) (hc : n ≤ cap) (w : World) (hL : Laid w)  (hT : There w [⟨k, .cells (av cap (w64 m)) 33⟩]) : Calls Tryz.prog 107 #[.slice (some ⟨k, 0, none⟩) n cap, .int .u64 (p : Int)] w fun r w' => r = .returned (.tuple #[]) ∧ Grw w w' [k] ∧ w'.heap[k]? = some (.cells (av cap (w64 (wpM m p))) 33) := by
 go_enter Tryz.func107, Tryz.ntmps107
 have M : Mem ⟨w, [k]⟩ [⟨k, .cells (av cap (w64 m)) 33⟩] w := Mem.startT hL hT
 refine rg_tail M 9 (by kernel_rfl) (by kernel_rfl) ?_
 simp only [List.take_succ_cons, List.take_zero]
 refine kR 2 ?_
 refine kH 6 (.int .u64 ((p / 64 : Nat) : Int)) (run_quoU 33 33 _ _ rfl p 64 (by kernel_rfl) (by kernel_rfl) (by decide) (by omega)) ?_
 refine kH 7 (.pointer (some ⟨k, ((p / 64)), none⟩)) (run_ix0 120 33 Tryz.underlying120 inz33 _ _ rfl k n cap (by kernel_rfl) .u64 ((p / 64)) (by kernel_rfl) (by omega)) ?_
 refine eE M 8 0 ((p / 64)) ?_
 refine kR 1 ?_
 refine eC M 10 (fun w M => c_bit p w M.laid) ?_
 refine kR 1 ?_
 refine kH 12 (.pointer (some ⟨k, ((p / 64)), none⟩)) (run_ix0 120 33 Tryz.underlying120 inz33 _ _ rfl k n cap (by kernel_rfl) .u64 ((p / 64)) (by kernel_rfl) (by omega)) ?_
 refine kl_nil fun u1 M => ?_
 replace M : Mem ⟨w, [k]⟩ [⟨k, .cells (av cap (w64 m)) 33⟩] u1 := M
 refine ZP64 M 0 ((p / 64)) (ud (m ((p / 64))) (bw p)) fun u2 M => ?_
 replace M : Mem ⟨w, [k]⟩ [⟨k, .cells (av cap (w64 (upd m ((p / 64)) (ud (m ((p / 64))) (bw p))))) 33⟩] u2 := M
 refine pl_nil ?_
 exact bodyPost_end (v := .tuple #[]) (results_none Tryz.results107 _ _) (by kernel_rfl) ⟨rfl, M.old, M.get 0 rfl⟩
theorem c_place (g k s h cap n : Nat) (hs : 1 ≤ s) (w : World) (hL : Laid w)  (hT : There w [⟨g, .cells (av 3 (ls [.int .u64 (s : Int), .int .u64 (h : Int), .slice (some ⟨k, 0, none⟩) (nW s) cap])) 123⟩]) : Cs 75 #[.pointer (some ⟨g, 0, none⟩), .int .u64 (n : Int)] w (.int .u64 ((n % s : Nat) : Int)) := by
 go_enter Tryz.func75, Tryz.ntmps75
 have M : Mem ⟨w, [g]⟩ [⟨g, .cells (av 3 (ls [.int .u64 (s : Int), .int .u64 (h : Int), .slice (some ⟨k, 0, none⟩) (nW s) cap])) 123⟩] w := Mem.startT hL hT
 refine sq <| sR <| rV 4 <| ZE M 9 0 0 ?_
 refine pH 10 (.int .u64 ((n % s : Nat) : Int)) (run_remU 33 33 _ _ rfl n s (by kernel_rfl) (by kernel_rfl) (by omega)) ?_
 refine rV 1 <| nT <| wp_ret ?_
 exact bodyPost_ret (v := .int .u64 ((n % s : Nat) : Int)) (results_tmp1 Tryz.results75 _ _ _ (by kernel_rfl)) (by kernel_rfl) ⟨rfl, ro_T hT M⟩
theorem c_wmade (g k s h cap : Nat) (hs : 1 ≤ s) (w : World) (hL : Laid w)  (hT : There w [⟨g, .cells (av 3 (ls [.int .u64 (s : Int), .int .u64 (h : Int), .slice (some ⟨k, 0, none⟩) (nW s) cap])) 123⟩]) : Cs 73 #[.pointer (some ⟨g, 0, none⟩)] w (.bool true) := by
 go_enter Tryz.func73, Tryz.ntmps73
 have M : Mem ⟨w, [g]⟩ [⟨g, .cells (av 3 (ls [.int .u64 (s : Int), .int .u64 (h : Int), .slice (some ⟨k, 0, none⟩) (nW s) cap])) 123⟩] w := Mem.startT hL hT
 refine sq <| sR <| rV 6 ?_
 refine pl_cell M (want_on 2 true rfl 5 rfl (by kernel_rfl)) (some 9) rfl 33 _ rfl g 0 (by kernel_rfl) (.int .u64 (s : Int)) (fun _ => by kernel_rfl) (fun w M => M.cell 0 rfl (by decide) rfl) ?_
 by_cases c0 : 0 < (s : Int)
 ·refine pl_val (want_on 2 true rfl 5 rfl (by kernel_rfl)) (some 10) rfl (.bool true) (fun w => Eq.trans (b := .ok (.value (.bool (decide (0 < (s : Int))))) w) (by kernel_rfl) (by rw [decide_eq_true (c0)])) ?_
  refine rV 2 <| nT <| wp_ret ?_
  exact bodyPost_ret (v := .bool true) (results_tmp1 Tryz.results73 _ _ _ (by kernel_rfl)) (by kernel_rfl) ⟨rfl, ro_T hT M⟩
 ·exfalso; omega
theorem quo_nW (s : Nat) (hs : s ≤ 4096) : IntKind.wrap .i64 (Int.tdiv ((s : Int) + 64 - 1) 64) = ((nW s : Nat) : Int) := by
 have e : ((s : Int) + 64 - 1) = ((s + 63 : Nat) : Int) := by omega
 rw [e]
 have e2 : Int.tdiv ((s + 63 : Nat) : Int) 64 = (((s + 63) / 64 : Nat) : Int) := rfl
 rw [e2, wrap64 (by omega) (by omega)]
 rfl
theorem c_room (s : Nat) (hs4 : s ≤ 4096) (w : World) (hL : Laid w) : Calls Tryz.prog 66 #[.int .i64 (s : Int)] w fun r w' => ∃ k, r = .returned (.slice (some ⟨k, 0, none⟩) (nW s) (nW s)) ∧ w.heap.size ≤ k ∧ w'.heap[k]? = some (.cells (av (nW s) (w64 (fun _ => 0))) 33) ∧ Below w.heap.size w w' := by
 go_enter Tryz.func66, Tryz.ntmps66
 have M := Mem.start hL
 refine sq <| sR <| rV 1 ?_
 refine pH 4 (.int .i64 ((s : Int) + 64)) (fun w => Eq.trans (b := .ok (.value (.int .i64 (IntKind.wrap .i64 ((s : Int) + 64)))) w) (by kernel_rfl) (by rw [wrap64 (by omega) (by omega)])) ?_
 refine pH 5 (.int .i64 (((s : Int) + 64) - 1)) (fun w => Eq.trans (b := .ok (.value (.int .i64 (IntKind.wrap .i64 (((s : Int) + 64) - 1)))) w) (by kernel_rfl) (by rw [wrap64 (by omega) (by omega)])) ?_
 refine ZQ 6 .i64 (IntKind.wrap .i64 (Int.tdiv (((s : Int) + 64) - 1) 64)) (quo_nW s hs4) ?_
 refine pl_makeW M (want_no rfl) (some 7) rfl _ _ rfl ((nW s)) (by kernel_rfl) (by kernel_rfl) (by unfold nW; omega) fun g1 u1 M => ?_
 replace M : Mem ⟨w, []⟩ [⟨g1, .cells (av (nW s) (w64 (fun _ => 0))) 33⟩] u1 := M
 refine rV 1 <| nT <| wp_ret ?_
 exact bodyPost_ret (v := .slice (some ⟨g1, 0, none⟩) (nW s) (nW s)) (results_tmp1 Tryz.results66 _ _ _ (by kernel_rfl)) (by kernel_rfl) ⟨_, rfl, ((M.ge _ (List.mem_singleton.2 rfl)).resolve_right (by simp)), M.get 0 rfl, below_grown M.old⟩
open Go.RowKit
theorem wrapU_add (a b : Nat) (h : a + b < 18446744073709551616) : IntKind.wrap .u64 ((a : Int) + (b : Int)) = ((a + b : Nat) : Int) := by
 rw [IntKind.wrap_u64]
 omega
theorem wrapU_sub (a b : Nat) (h : b ≤ a) (ha : a < 18446744073709551616) : IntKind.wrap .u64 ((a : Int) - (b : Int)) = ((a - b : Nat) : Int) := by
 rw [IntKind.wrap_u64]
 omega
def wps (s h : Nat) (m : NI) : Nat → (Nat → Int)
 | 0 => m
 | j + 1 => wpM (wps s h m j) ((h + 1 + j) % s)
def lvM (s h : Nat) (m : NI) (y : Nat) : Nat → Int := if s ≤ y then clF (nW s) m else wps s h m y
def myF (s h : Nat) (m : NI) (n : Nat) : Int := if h < n then 0 else if s ≤ h - n then 170 else if hb m (n % s) = true then 9 else 0
def mkH (s h : Nat) (m : NI) (n : Nat) : Nat := if myF s h m n = 0 then if h < n then n else h else h
def mkM (s h : Nat) (m : NI) (n : Nat) : Nat → Int := if myF s h m n = 0 then stM (if h < n then lvM s h m (n - h) else m) (n % s) else m
theorem c_leave (g k s h cap : Nat) (m : NI) (y : Nat) (hs : 1 ≤ s) (hc : nW s ≤ cap) (hy : h + y < 18446744073709551616) (w : World) (hL : Laid w)  (hT : There w [⟨g, .cells (av 3 (ls [.int .u64 (s : Int), .int .u64 (h : Int), .slice (some ⟨k, 0, none⟩) (nW s) cap])) 123⟩, ⟨k, .cells (av cap (w64 m)) 33⟩]) : Calls Tryz.prog 77 #[.pointer (some ⟨g, 0, none⟩), .int .u64 (y : Int)] w fun r w' => r = .returned (.tuple #[]) ∧ Grw w w' [g, k] ∧ w'.heap[g]? = some (.cells (av 3 (ls [.int .u64 (s : Int), .int .u64 (h : Int), .slice (some ⟨k, 0, none⟩) (nW s) cap])) 123) ∧ w'.heap[k]? = some (.cells (av cap (w64 (lvM s h m y))) 33) := by
 go_enter Tryz.func77, Tryz.ntmps77
 have M : Mem ⟨w, [g, k]⟩ [⟨g, .cells (av 3 (ls [.int .u64 (s : Int), .int .u64 (h : Int), .slice (some ⟨k, 0, none⟩) (nW s) cap])) 123⟩, ⟨k, .cells (av cap (w64 m)) 33⟩] w := Mem.startT hL hT
 refine wp_seq <| sR <| rV 4 <| ZE M 9 0 0 ?_
 by_cases c0 : (y : Int) < (s : Int)
 ·refine ZF 10 ((s : Int) ≤ (y : Int)) ?_
  refine nT <| cF <| wp_skip <| au_then <| sq ?_
  refine wp_block ?_
  refine au_loop (fun j a w' => ∃ v1 : NV, a = (fm ([.pointer (some ⟨g, 0, none⟩), .int .u64 (y : Int), undef, undef, v1 4, .int .u64 (y : Int), .pointer (some ⟨g, 0, none⟩), .pointer (some ⟨g, 0, none⟩), .pointer (some ⟨g, 0, none⟩), .int .u64 (s : Int), .bool false] ++ und 4 ++ [.int .u64 (y : Int), .int .u64 (j : Int)] ++ vr v1 17 17)) ∧ Mem ⟨w, [g, k]⟩ [⟨g, .cells (av 3 (ls [.int .u64 (s : Int), .int .u64 (h : Int), .slice (some ⟨k, 0, none⟩) (nW s) cap])) 123⟩, ⟨k, .cells (av cap (w64 (wps s h m j))) 33⟩] w') y (exS M) ?_ ?_
  ·intro j a u0 hj hI
   obtain ⟨v1, rfl, M⟩ := hI
   refine sR ?_
   refine ZT 17 ((j : Int) < (y : Int)) ?_
   refine nT <| wp_seq <| cT <| wp_skip <| au_then ?_
   refine wp_seq ?_
   refine wp_block ?_
   refine sq ?_
   refine rg_tail M 13 (by kernel_rfl) (by kernel_rfl) ?_
   simp only [List.take_succ_cons, List.take_zero]
   refine kR 3 <| eE M 22 0 2 <| kR 4 <| eE M 27 0 1 ?_
   refine kH 28 (.int .u64 ((h + 1 : Nat) : Int)) (fun w => Eq.trans (b := .ok (.value (.int .u64 (IntKind.wrap .u64 (((h : Nat) : Int) + ((1 : Nat) : Int))))) w) (by kernel_rfl) (by rw [wrapU_add h 1 (by omega)])) ?_
   refine kR 1 ?_
   refine kH 30 (.int .u64 ((h + 1 + j : Nat) : Int)) (fun w => Eq.trans (b := .ok (.value (.int .u64 (IntKind.wrap .u64 ((((h + 1) : Nat) : Int) + ((j : Nat) : Int))))) w) (by kernel_rfl) (by rw [wrapU_add (h + 1) j (by omega)])) ?_
   refine kC M 31 75 #[.pointer (some ⟨g, 0, none⟩), .int .u64 ((h + 1 + j : Nat) : Int)] (.int .u64 (((h + 1 + j) % s : Nat) : Int)) (fun w M => c_place g k s h cap (h + 1 + j) hs w M.laid (M.there (.cons_cons _ (List.nil_sublist _)))) ?_
   refine kl_nil fun u1 M => ?_
   replace M : Mem ⟨w, [g, k]⟩ [⟨g, .cells (av 3 (ls [.int .u64 (s : Int), .int .u64 (h : Int), .slice (some ⟨k, 0, none⟩) (nW s) cap])) 123⟩, ⟨k, .cells (av cap (w64 (wps s h m j))) 33⟩] u1 := M
   refine pl_callp M (want_no rfl) (some 32) rfl 107 #[.slice (some ⟨k, 0, none⟩) (nW s) cap, .int .u64 (((h + 1 + j) % s : Nat) : Int)] (.tuple #[]) 1 k (.cells (av cap (w64 (wps s h m j))) 33) (.cells (av cap (w64 (wpM (wps s h m j) ((h + 1 + j) % s)))) 33) rfl (fun _ => by kernel_rfl) (fun w M => c_wipe k ((h + 1 + j) % s) (nW s) cap (wps s h m j) (Nat.lt_of_le_of_lt (Nat.mod_le (h + 1 + j) s) (by omega)) (by have := Nat.mod_lt (h + 1 + j) (show 0 < s by omega); unfold nW; omega) hc w M.laid (M.there (.cons _ (.cons_cons _ (List.nil_sublist _))))) fun u2 M => ?_
   replace M : Mem ⟨w, [g, k]⟩ [⟨g, .cells (av 3 (ls [.int .u64 (s : Int), .int .u64 (h : Int), .slice (some ⟨k, 0, none⟩) (nW s) cap])) 123⟩, ⟨k, .cells (av cap (w64 (wpM (wps s h m j) ((h + 1 + j) % s)))) 33⟩] u2 := M
   refine pl_nil ?_
   refine au_block ?_
   refine au_then ?_
   refine rg_lit ?_
   refine pH 33 (.int .u64 ((j + 1 : Nat) : Int)) (fun w => Eq.trans (b := .ok (.value (.int .u64 (IntKind.wrap .u64 (((j : Nat) : Int) + ((1 : Nat) : Int))))) w) (by kernel_rfl) (by rw [wrapU_add j 1 (by omega)])) ?_
   refine rV 1 <| nT ?_
   exact exS M
  ·intro a u0 hI
   obtain ⟨v1, rfl, M⟩ := hI
   refine sR ?_
   refine ZF 17 ((y : Int) < (y : Int)) ?_
   refine nT <| wp_seq <| cF ?_
   refine wp_exit ?_
   refine au_then_exit ?_
   refine au_then_exit ?_
   refine au_block_exit ?_
   have e0 : lvM s h m y = (wps s h m y) := by unfold lvM; rw [if_neg (by omega)]
   exact bodyPost_end (v := .tuple #[]) (results_none Tryz.results77 _ _) (by kernel_rfl) ⟨rfl, M.old, M.get 0 rfl, by rw [e0]; exact M.get 1 rfl⟩
 ·refine ZT 10 ((s : Int) ≤ (y : Int)) ?_
  refine nT <| cT <| sR <| rV 3 <| ZE M 14 0 2 ?_
  refine pl_clearW M (want_no rfl) rfl 1 k cap m rfl (nW s) cap (by unfold nW; omega) hc (fun _ => by kernel_rfl) fun u1 M => ?_
  replace M : Mem ⟨w, [g, k]⟩ [⟨g, .cells (av 3 (ls [.int .u64 (s : Int), .int .u64 (h : Int), .slice (some ⟨k, 0, none⟩) (nW s) cap])) 123⟩, ⟨k, .cells (av cap (w64 (clF (nW s) m))) 33⟩] u1 := M
  refine nT <| wp_ret <| au_then_ret ?_
  have e0 : lvM s h m y = (clF (nW s) m) := by unfold lvM; rw [if_pos (by omega)]
  exact bodyPost_ret (v := .tuple #[]) (results_none Tryz.results77 _ _) (by kernel_rfl) ⟨rfl, M.old, M.get 0 rfl, by rw [e0]; exact M.get 1 rfl⟩
theorem c_May (g k s h cap : Nat) (m : NI) (n : Nat) (hs : 1 ≤ s) (hc : nW s ≤ cap) (hh : h < 18446744073709551616) (hn : n < 18446744073709551616) (w : World) (hL : Laid w)  (hT : There w [⟨g, .cells (av 3 (ls [.int .u64 (s : Int), .int .u64 (h : Int), .slice (some ⟨k, 0, none⟩) (nW s) cap])) 123⟩, ⟨k, .cells (av cap (w64 m)) 33⟩]) : Cs 48 #[.pointer (some ⟨g, 0, none⟩), .int .u64 (n : Int)] w (.int .i64 (myF s h m n)) := by
 go_enter Tryz.func48, Tryz.ntmps48
 have M : Mem ⟨w, [g, k]⟩ [⟨g, .cells (av 3 (ls [.int .u64 (s : Int), .int .u64 (h : Int), .slice (some ⟨k, 0, none⟩) (nW s) cap])) 123⟩, ⟨k, .cells (av cap (w64 m)) 33⟩] w := Mem.startT hL hT
 refine sq <| wp_seq ?_
 refine wp_block ?_
 refine sR <| rV 1 ?_
 refine pC M 7 73 #[.pointer (some ⟨g, 0, none⟩)] (.bool true) (fun w M => c_wmade g k s h cap hs w M.laid (M.there (.cons_cons _ (List.nil_sublist _)))) fun u1 M => ?_
 refine rV 2 <| nT <| cF <| sR <| rV 4 ?_
 refine ZE M 14 0 1 ?_
 by_cases c0 : (h : Int) < (n : Int)
 ·refine pH 15 (.bool true) (jT ((h : Int) < (n : Int)) (c0)) ?_
  refine rV 1 <| nT <| cT <| sq <| wp_ret ?_
  refine au_block_ret ?_
  refine au_then_ret ?_
  have e0 : (myF s h m n) = 0 := by unfold myF; rw [if_pos (by omega)]
  exact bodyPost_ret (v := .int .i64 0) (results_tmp1 Tryz.results48 _ _ _ (by kernel_rfl)) (by kernel_rfl) ⟨by rw [e0], ro_T hT M⟩
 ·refine pH 15 (.bool false) (jF ((h : Int) < (n : Int)) (c0)) ?_
  refine rV 1 <| nT <| cF <| wp_seq ?_
  refine rg_tail M 11 (by kernel_rfl) (by kernel_rfl) ?_
  simp only [List.take_succ_cons, List.take_zero]
  refine kR 3 <| eE M 20 0 1 <| kR 1 ?_
  refine kH 22 (.int .u64 ((h - n : Nat) : Int)) (fun w => Eq.trans (b := .ok (.value (.int .u64 (IntKind.wrap .u64 (((h : Nat) : Int) - ((n : Nat) : Int))))) w) (by kernel_rfl) (by rw [wrapU_sub h n (by omega) (by omega)])) ?_
  refine kR 3 <| eE M 26 0 0 ?_
  by_cases c1 : ((h - n : Nat) : Int) < (s : Int)
  ·refine eF 27 ((s : Int) ≤ ((h - n : Nat) : Int)) ?_
   refine kl_nil fun u2 M => ?_
   replace M : Mem ⟨w, [g, k]⟩ [⟨g, .cells (av 3 (ls [.int .u64 (s : Int), .int .u64 (h : Int), .slice (some ⟨k, 0, none⟩) (nW s) cap])) 123⟩, ⟨k, .cells (av cap (w64 m)) 33⟩] u2 := M
   refine rV 1 <| nT <| cF <| wp_seq ?_
   refine rg_tail M 8 (by kernel_rfl) (by kernel_rfl) ?_
   simp only [List.take_succ_cons, List.take_zero]
   refine kR 3 <| eE M 32 0 2 <| kR 2 ?_
   refine kC M 35 75 #[.pointer (some ⟨g, 0, none⟩), .int .u64 (n : Int)] (.int .u64 ((n % s : Nat) : Int)) (fun w M => c_place g k s h cap n hs w M.laid (M.there (.cons_cons _ (List.nil_sublist _)))) ?_
   rcases Bool.eq_false_or_eq_true (hb m (n % s)) with c2 | c2
   ·refine kC M 36 74 #[.slice (some ⟨k, 0, none⟩) (nW s) cap, .int .u64 ((n % s : Nat) : Int)] (.bool true) (fun w M => call_val (c_has k (n % s) (nW s) cap m (Nat.lt_of_le_of_lt (Nat.mod_le n s) (by omega)) (by have := Nat.mod_lt n (show 0 < s by omega); unfold nW; omega) hc w M.laid (M.there (.cons _ (.cons_cons _ (List.nil_sublist _))))) (congrArg Value.bool c2)) ?_
    refine kl_nil fun u3 M => ?_
    replace M : Mem ⟨w, [g, k]⟩ [⟨g, .cells (av 3 (ls [.int .u64 (s : Int), .int .u64 (h : Int), .slice (some ⟨k, 0, none⟩) (nW s) cap])) 123⟩, ⟨k, .cells (av cap (w64 m)) 33⟩] u3 := M
    refine rV 1 <| nT <| cT <| sq <| wp_ret ?_
    refine au_block_ret ?_
    refine au_then_ret ?_
    have e0 : (myF s h m n) = 9 := by unfold myF; rw [if_neg (by omega), if_neg (by omega), if_pos c2]
    exact bodyPost_ret (v := .int .i64 9) (results_tmp1 Tryz.results48 _ _ _ (by kernel_rfl)) (by kernel_rfl) ⟨by rw [e0], ro_T hT M⟩
   ·refine kC M 36 74 #[.slice (some ⟨k, 0, none⟩) (nW s) cap, .int .u64 ((n % s : Nat) : Int)] (.bool false) (fun w M => call_val (c_has k (n % s) (nW s) cap m (Nat.lt_of_le_of_lt (Nat.mod_le n s) (by omega)) (by have := Nat.mod_lt n (show 0 < s by omega); unfold nW; omega) hc w M.laid (M.there (.cons _ (.cons_cons _ (List.nil_sublist _))))) (congrArg Value.bool c2)) ?_
    refine kl_nil fun u3 M => ?_
    replace M : Mem ⟨w, [g, k]⟩ [⟨g, .cells (av 3 (ls [.int .u64 (s : Int), .int .u64 (h : Int), .slice (some ⟨k, 0, none⟩) (nW s) cap])) 123⟩, ⟨k, .cells (av cap (w64 m)) 33⟩] u3 := M
    refine rV 1 <| nT <| cF <| wp_skip ?_
    refine au_block ?_
    refine au_then <| sq <| wp_ret ?_
    have e0 : (myF s h m n) = 0 := by unfold myF; rw [if_neg (by omega), if_neg (by omega), if_neg (Bool.eq_false_iff.1 c2)]
    exact bodyPost_ret (v := .int .i64 0) (results_tmp1 Tryz.results48 _ _ _ (by kernel_rfl)) (by kernel_rfl) ⟨by rw [e0], ro_T hT M⟩
  ·refine eT 27 ((s : Int) ≤ ((h - n : Nat) : Int)) ?_
   refine kl_nil fun u2 M => ?_
   replace M : Mem ⟨w, [g, k]⟩ [⟨g, .cells (av 3 (ls [.int .u64 (s : Int), .int .u64 (h : Int), .slice (some ⟨k, 0, none⟩) (nW s) cap])) 123⟩, ⟨k, .cells (av cap (w64 m)) 33⟩] u2 := M
   refine rV 1 <| nT <| cT <| sq <| wp_ret ?_
   refine au_block_ret ?_
   refine au_then_ret ?_
   have e0 : (myF s h m n) = 170 := by unfold myF; rw [if_neg (by omega), if_pos (by omega)]
   exact bodyPost_ret (v := .int .i64 170) (results_tmp1 Tryz.results48 _ _ _ (by kernel_rfl)) (by kernel_rfl) ⟨by rw [e0], ro_T hT M⟩
theorem c_Mark (g k s h cap : Nat) (m : NI) (n : Nat) (hs : 1 ≤ s) (hc : nW s ≤ cap) (hh : h < 18446744073709551616) (hn : n < 18446744073709551616) (w : World) (hL : Laid w)  (hT : There w [⟨g, .cells (av 3 (ls [.int .u64 (s : Int), .int .u64 (h : Int), .slice (some ⟨k, 0, none⟩) (nW s) cap])) 123⟩, ⟨k, .cells (av cap (w64 m)) 33⟩]) : Calls Tryz.prog 50 #[.pointer (some ⟨g, 0, none⟩), .int .u64 (n : Int)] w fun r w' => r = .returned (.int .i64 (myF s h m n)) ∧ Grw w w' [g, k] ∧ w'.heap[g]? = some (.cells (av 3 (ls [.int .u64 (s : Int), .int .u64 ((mkH s h m n : Nat) : Int), .slice (some ⟨k, 0, none⟩) (nW s) cap])) 123) ∧ w'.heap[k]? = some (.cells (av cap (w64 (mkM s h m n))) 33) := by
 go_enter Tryz.func50, Tryz.ntmps50
 have M : Mem ⟨w, [g, k]⟩ [⟨g, .cells (av 3 (ls [.int .u64 (s : Int), .int .u64 (h : Int), .slice (some ⟨k, 0, none⟩) (nW s) cap])) 123⟩, ⟨k, .cells (av cap (w64 m)) 33⟩] w := Mem.startT hL hT
 refine sq <| wp_seq <| sR <| rV 2 ?_
 refine pC M 8 48 #[.pointer (some ⟨g, 0, none⟩), .int .u64 (n : Int)] (.int .i64 (myF s h m n)) (fun w M => c_May g k s h cap m n hs hc hh hn w M.laid (M.there (.cons_cons _ (.cons_cons _ (List.nil_sublist _))))) fun u1 M => ?_
 refine rV 1 <| nT <| sR <| rV 1 ?_
 by_cases c0 : (myF s h m n) = 0
 ·refine pH 10 (.bool false) (jD ((myF s h m n) = 0) (c0)) ?_
  refine nT <| cF <| wp_skip <| au_then <| wp_seq ?_
  refine sR <| rV 4 <| ZE M 16 0 1 ?_
  by_cases c1 : (h : Int) < (n : Int)
  ·refine pH 17 (.bool true) (jT ((h : Int) < (n : Int)) (c1)) ?_
   refine nT <| cT <| sR <| rV 5 <| ZE M 23 0 1 ?_
   refine pH 24 (.int .u64 ((n - h : Nat) : Int)) (fun w => Eq.trans (b := .ok (.value (.int .u64 (IntKind.wrap .u64 (((n : Nat) : Int) - ((h : Nat) : Int))))) w) (by kernel_rfl) (by rw [wrapU_sub n h (by omega) (by omega)])) ?_
   refine pl_call2 M (want_no rfl) (some 25) rfl 77 #[.pointer (some ⟨g, 0, none⟩), .int .u64 ((n - h : Nat) : Int)] (.tuple #[]) 0 1 g k (.cells (av 3 (ls [.int .u64 (s : Int), .int .u64 (h : Int), .slice (some ⟨k, 0, none⟩) (nW s) cap])) 123) (.cells (av cap (w64 m)) 33) (.cells (av 3 (ls [.int .u64 (s : Int), .int .u64 (h : Int), .slice (some ⟨k, 0, none⟩) (nW s) cap])) 123) (.cells (av cap (w64 (lvM s h m (n - h)))) 33) rfl rfl (fun _ => by kernel_rfl) (fun w M => c_leave g k s h cap m (n - h) hs hc (by omega) w M.laid (M.there (.cons_cons _ (.cons_cons _ (List.nil_sublist _))))) fun u2 M => ?_
   replace M : Mem ⟨w, [g, k]⟩ [⟨g, .cells (av 3 (ls [.int .u64 (s : Int), .int .u64 (h : Int), .slice (some ⟨k, 0, none⟩) (nW s) cap])) 123⟩, ⟨k, .cells (av cap (w64 (lvM s h m (n - h)))) 33⟩] u2 := M
   refine nT ?_
   refine rg_lit ?_
   refine rV 4 ?_
   refine pP M 0 rfl 1 (.int .u64 (n : Int)) (ls [.int .u64 (s : Int), .int .u64 (n : Int), .slice (some ⟨k, 0, none⟩) (nW s) cap]) (by decide) (put_ls _ 1 _ _ rfl) fun u3 M => ?_
   replace M : Mem ⟨w, [g, k]⟩ [⟨g, .cells (av 3 (ls [.int .u64 (s : Int), .int .u64 (n : Int), .slice (some ⟨k, 0, none⟩) (nW s) cap])) 123⟩, ⟨k, .cells (av cap (w64 (lvM s h m (n - h)))) 33⟩] u3 := M
   refine nT <| wp_seq ?_
   refine rg_tail M 7 (by kernel_rfl) (by kernel_rfl) ?_
   simp only [List.take_succ_cons, List.take_zero]
   refine kR 3 <| eE M 33 0 2 <| kR 2 ?_
   refine kC M 36 75 #[.pointer (some ⟨g, 0, none⟩), .int .u64 (n : Int)] (.int .u64 ((n % s : Nat) : Int)) (fun w M => c_place g k s n cap n hs w M.laid (M.there (.cons_cons _ (List.nil_sublist _)))) ?_
   refine kl_nil fun u4 M => ?_
   replace M : Mem ⟨w, [g, k]⟩ [⟨g, .cells (av 3 (ls [.int .u64 (s : Int), .int .u64 (n : Int), .slice (some ⟨k, 0, none⟩) (nW s) cap])) 123⟩, ⟨k, .cells (av cap (w64 (lvM s h m (n - h)))) 33⟩] u4 := M
   refine pl_callp M (want_no rfl) (some 37) rfl 78 #[.slice (some ⟨k, 0, none⟩) (nW s) cap, .int .u64 ((n % s : Nat) : Int)] (.tuple #[]) 1 k (.cells (av cap (w64 (lvM s h m (n - h)))) 33) (.cells (av cap (w64 (stM (lvM s h m (n - h)) (n % s)))) 33) rfl (fun _ => by kernel_rfl) (fun w M => c_set k (n % s) (nW s) cap (lvM s h m (n - h)) (Nat.lt_of_le_of_lt (Nat.mod_le n s) (by omega)) (by have := Nat.mod_lt n (show 0 < s by omega); unfold nW; omega) hc w M.laid (M.there (.cons _ (.cons_cons _ (List.nil_sublist _))))) fun u5 M => ?_
   replace M : Mem ⟨w, [g, k]⟩ [⟨g, .cells (av 3 (ls [.int .u64 (s : Int), .int .u64 (n : Int), .slice (some ⟨k, 0, none⟩) (nW s) cap])) 123⟩, ⟨k, .cells (av cap (w64 (stM (lvM s h m (n - h)) (n % s)))) 33⟩] u5 := M
   refine nT <| sq <| wp_ret ?_
   have e0 : mkH s h m n = n := by unfold mkH; rw [if_pos c0, if_pos (by omega)]
   have e1 : mkM s h m n = (stM (lvM s h m (n - h)) (n % s)) := by unfold mkM; rw [if_pos c0, if_pos (by omega)]
   exact bodyPost_ret (v := .int .i64 0) (results_tmp1 Tryz.results50 _ _ _ (by kernel_rfl)) (by kernel_rfl) ⟨by rw [c0], M.old, by rw [e0]; exact M.get 0 rfl, by rw [e1]; exact M.get 1 rfl⟩
  ·refine pH 17 (.bool false) (jF ((h : Int) < (n : Int)) (c1)) ?_
   refine nT <| cF <| wp_skip <| au_then <| wp_seq ?_
   refine rg_tail M 7 (by kernel_rfl) (by kernel_rfl) ?_
   simp only [List.take_succ_cons, List.take_zero]
   refine kR 3 <| eE M 33 0 2 <| kR 2 ?_
   refine kC M 36 75 #[.pointer (some ⟨g, 0, none⟩), .int .u64 (n : Int)] (.int .u64 ((n % s : Nat) : Int)) (fun w M => c_place g k s h cap n hs w M.laid (M.there (.cons_cons _ (List.nil_sublist _)))) ?_
   refine kl_nil fun u2 M => ?_
   replace M : Mem ⟨w, [g, k]⟩ [⟨g, .cells (av 3 (ls [.int .u64 (s : Int), .int .u64 (h : Int), .slice (some ⟨k, 0, none⟩) (nW s) cap])) 123⟩, ⟨k, .cells (av cap (w64 m)) 33⟩] u2 := M
   refine pl_callp M (want_no rfl) (some 37) rfl 78 #[.slice (some ⟨k, 0, none⟩) (nW s) cap, .int .u64 ((n % s : Nat) : Int)] (.tuple #[]) 1 k (.cells (av cap (w64 m)) 33) (.cells (av cap (w64 (stM m (n % s)))) 33) rfl (fun _ => by kernel_rfl) (fun w M => c_set k (n % s) (nW s) cap m (Nat.lt_of_le_of_lt (Nat.mod_le n s) (by omega)) (by have := Nat.mod_lt n (show 0 < s by omega); unfold nW; omega) hc w M.laid (M.there (.cons _ (.cons_cons _ (List.nil_sublist _))))) fun u3 M => ?_
   replace M : Mem ⟨w, [g, k]⟩ [⟨g, .cells (av 3 (ls [.int .u64 (s : Int), .int .u64 (h : Int), .slice (some ⟨k, 0, none⟩) (nW s) cap])) 123⟩, ⟨k, .cells (av cap (w64 (stM m (n % s)))) 33⟩] u3 := M
   refine nT <| sq <| wp_ret ?_
   have e0 : mkH s h m n = h := by unfold mkH; rw [if_pos c0, if_neg (by omega)]
   have e1 : mkM s h m n = (stM m (n % s)) := by unfold mkM; rw [if_pos c0, if_neg (by omega)]
   exact bodyPost_ret (v := .int .i64 0) (results_tmp1 Tryz.results50 _ _ _ (by kernel_rfl)) (by kernel_rfl) ⟨by rw [c0], M.old, by rw [e0]; exact M.get 0 rfl, by rw [e1]; exact M.get 1 rfl⟩
 ·refine pH 10 (.bool true) (jU ((myF s h m n) = 0) (c0)) ?_
  refine nT <| cT <| sq <| wp_ret <| au_then_ret ?_
  have e0 : mkH s h m n = h := by unfold mkH; rw [if_neg c0]
  have e1 : mkM s h m n = m := by unfold mkM; rw [if_neg c0]
  exact bodyPost_ret (v := .int .i64 (myF s h m n)) (results_tmp1 Tryz.results50 _ _ _ (by kernel_rfl)) (by kernel_rfl) ⟨rfl, M.old, by rw [e0]; exact M.get 0 rfl, by rw [e1]; exact M.get 1 rfl⟩
theorem c_WNew (s : Nat) (hs : 1 ≤ s) (hs4 : s ≤ 4096) (w : World) (hL : Laid w) : Calls Tryz.prog 42 #[.int .i64 (s : Int)] w fun r w' => ∃ x : Nat × Nat, r = .returned (.tuple #[.pointer (some ⟨x.1, 0, none⟩), .int .i64 0]) ∧ True ∧ OkT w w' [] [⟨x.1, (.cells (av 3 (ls [.int .u64 (s : Int), .int .u64 0, .slice (some ⟨x.2, 0, none⟩) (nW s) (nW s)])) 123)⟩, ⟨x.2, .cells (av (nW s) (w64 (fun _ => 0))) 33⟩] := by
 go_enter Tryz.func42, Tryz.ntmps42
 have M := Mem.start hL
 refine sq <| wp_seq <| sR <| rV 1 ?_
 by_cases c0 : (s : Int) < 1
 ·exfalso; omega
 ·refine pH 5 (.bool false) (jF ((s : Int) < 1) (c0)) ?_
  refine rV 2 ?_
  by_cases c1 : 4096 < (s : Int)
  ·exfalso; omega
  ·refine pl_val (want_on 2 false rfl 6 rfl (by kernel_rfl)) (some 8) rfl (.bool false) (fun w => Eq.trans (b := .ok (.value (.bool (decide (4096 < (s : Int))))) w) (by kernel_rfl) (by rw [decide_eq_false (c1)])) ?_
   refine rV 1 <| nT <| cF <| wp_skip <| au_then ?_
   refine sR <| rV 1 ?_
   refine pH 11 (.int .u64 (s : Int)) (fun w => Eq.trans (b := .ok (.value (.int .u64 (cv .u64 (s : Int)))) w) (by kernel_rfl) (by rw [cv_u64, Int.emod_eq_of_lt (by omega) (by omega)])) ?_
   refine rV 1 ?_
   refine pl_calln M (want_no rfl) (some 13) rfl 66 #[.int .i64 (s : Int)] (fun g1 => .slice (some ⟨g1, 0, none⟩) (nW s) (nW s)) (.cells (av (nW s) (w64 (fun _ => 0))) 33) (fun _ => by kernel_rfl) (fun w M => c_room s hs4 w M.laid) fun g1 u1 M => ?_
   replace M : Mem ⟨w, []⟩ [⟨g1, .cells (av (nW s) (w64 (fun _ => 0))) 33⟩] u1 := M
   refine rV 1 ?_
   refine pN M 15 (.cells (av 3 (ls [.int .u64 (s : Int), .int .u64 0, .slice (some ⟨g1, 0, none⟩) (nW s) (nW s)])) 123) fun g2 u2 M => ?_
   replace M : Mem ⟨w, []⟩ [⟨g1, .cells (av (nW s) (w64 (fun _ => 0))) 33⟩, ⟨g2, .cells (av 3 (ls [.int .u64 (s : Int), .int .u64 0, .slice (some ⟨g1, 0, none⟩) (nW s) (nW s)])) 123⟩] u2 := M
   refine rV 2 <| nT <| wp_ret ?_
   exact bodyPost_ret (v := .tuple #[.pointer (some ⟨g2, 0, none⟩), .int .i64 0]) (results_tmp2 Tryz.results42 _ _ _ _ (by kernel_rfl) (by kernel_rfl)) (by kernel_rfl) ⟨(_, _), rfl, trivial, Mem.okT0 (T := []) (M.perm (.swap _ _ _))⟩
open Go.RowKit
theorem wrapN (b : BitVec 64) : IntKind.wrap .u64 (b.toNat : Int) = (b.toNat : Int) := by
 have := b.isLt
 rw [IntKind.wrap_u64]
 omega
theorem ofI (b : BitVec 64) : BitVec.ofInt 64 (b.toNat : Int) = b := by
 rw [BitVec.ofInt_natCast, BitVec.ofNat_toNat, BitVec.setWidth_eq]
theorem bw_two (p : Nat) : BitVec.ofInt 64 (bw p) = BitVec.twoPow 64 (p % 64) := by
 have hp : p % 64 < 64 := Nat.mod_lt _ (by decide)
 have e : bw p = ((BitVec.twoPow 64 (p % 64)).toNat : Int) := by
  unfold bw sl
  rw [IntKind.wrap_u64, BitVec.toNat_twoPow]
  simp
 rw [e, ofI]
theorem hb_bit (m : NI) (p : Nat) : hb m p = (BitVec.ofInt 64 (m (p / 64))).getLsbD (p % 64) := by
 have hp : p % 64 < 64 := Nat.mod_lt _ (by decide)
 unfold hb un
 rw [bw_two, wrapN, BitVec.and_twoPow]
 cases h : (BitVec.ofInt 64 (m (p / 64))).getLsbD (p % 64)
 ·simp
 ·have h2 : (BitVec.twoPow 64 (p % 64)).toNat ≠ 0 := by
   rw [BitVec.toNat_twoPow, Nat.mod_eq_of_lt (Nat.pow_lt_pow_right (by decide) hp)]
   exact Nat.pos_iff_ne_zero.1 (Nat.pow_pos (by decide))
  simp only [if_true, decide_eq_true_eq]
  omega
theorem pl_eq {p q : Nat} (h : q / 64 = p / 64) : p % 64 = q % 64 ↔ q = p := by omega
theorem hb_set (m : NI) (p q : Nat) : hb (stM m p) q = (decide (q = p) || hb m q) := by
 have hq : q % 64 < 64 := Nat.mod_lt _ (by decide)
 rw [hb_bit, hb_bit]
 unfold stM upd uo
 by_cases h : q / 64 = p / 64
 ·rw [if_pos h, wrapN, ofI, BitVec.getLsbD_or, bw_two, BitVec.getLsbD_twoPow, h]
  by_cases e : q = p
  ·subst e
   simp [hq]
  ·have e2 : ¬ p % 64 = q % 64 := fun x => e ((pl_eq h).1 x)
   simp [e, e2]
 ·rw [if_neg h]
  have e : ¬ q = p := fun e => h (by rw [e])
  simp [e]
theorem hb_wipe (m : NI) (p q : Nat) : hb (wpM m p) q = (!decide (q = p) && hb m q) := by
 have hq : q % 64 < 64 := Nat.mod_lt _ (by decide)
 rw [hb_bit, hb_bit]
 unfold wpM upd ud
 by_cases h : q / 64 = p / 64
 ·rw [if_pos h, wrapN, ofI, BitVec.getLsbD_and, BitVec.getLsbD_not, bw_two, BitVec.getLsbD_twoPow, h]
  by_cases e : q = p
  ·subst e
   simp [hq]
  ·have e2 : ¬ p % 64 = q % 64 := fun x => e ((pl_eq h).1 x)
   simp [e, e2, hq]
 ·rw [if_neg h]
  have e : ¬ q = p := fun e => h (by rw [e])
  simp [e]
theorem hb_zero (q : Nat) : hb (fun _ => 0) q = false := by
 rw [hb_bit]
 simp
theorem hb_clear (n : Nat) (m : NI) (q : Nat) (h : q / 64 < n) : hb (clF n m) q = false := by
 rw [hb_bit]
 unfold clF
 rw [if_pos h]
 simp
theorem hb_wps (s h : Nat) (m : NI) (q : Nat) : ∀ j, hb (wps s h m j) q = true ↔ hb m q = true ∧ ∀ i, i < j → q ≠ (h + 1 + i) % s
 | 0 => by simp [wps]
 | j + 1 => by
  have ih := hb_wps s h m q j
  unfold wps
  rw [hb_wipe]
  simp only [Bool.and_eq_true, Bool.not_eq_true', decide_eq_false_iff_not]
  constructor
  ·intro ⟨h1, h2⟩
   obtain ⟨h3, h4⟩ := ih.1 h2
   refine ⟨h3, fun i hi => ?_⟩
   by_cases e : i = j
   ·subst e
    exact h1
   ·exact h4 i (by omega)
  ·intro ⟨h1, h2⟩
   exact ⟨h2 j (by omega), ih.2 ⟨h1, fun i hi => h2 i (by omega)⟩⟩
def mx (l : List Nat) : Nat := l.foldl max 0
theorem mx_app (l : List Nat) (n : Nat) : mx (l ++ [n]) = max (mx l) n := by simp [mx, List.foldl_append]
theorem foldl_ge : ∀ (l : List Nat) (a : Nat), a ≤ l.foldl max a ∧ ∀ n ∈ l, n ≤ l.foldl max a
 | [], a => ⟨Nat.le_refl _, by simp⟩
 | x :: l, a => by
  obtain ⟨h1, h2⟩ := foldl_ge l (max a x)
  rw [List.foldl_cons]
  refine ⟨by omega, fun n hn => ?_⟩
  rcases List.mem_cons.1 hn with rfl | hn
  ·omega
  ·exact h2 n hn
theorem foldl_in : ∀ (l : List Nat) (a : Nat), l.foldl max a = a ∨ l.foldl max a ∈ l
 | [], a => .inl rfl
 | x :: l, a => by
  rw [List.foldl_cons]
  rcases foldl_in l (max a x) with h | h
  ·rw [h]
   by_cases hx : a ≤ x
   ·right
    rw [Nat.max_eq_right hx]
    exact List.mem_cons_self
   ·left
    omega
  ·exact .inr (List.mem_cons_of_mem _ h)
theorem le_mx {l : List Nat} {n : Nat} (h : n ∈ l) : n ≤ mx l := (foldl_ge l 0).2 n h
theorem mx_in {l : List Nat} (h : l ≠ []) : mx l ∈ l := by
 rcases foldl_in l 0 with e | e
 ·cases l with
  | nil => exact absurd rfl h
  | cons x r =>
   have h1 := (foldl_ge (x :: r) 0).2 x List.mem_cons_self
   have : x = 0 := by omega
   subst this
   have e2 : mx (0 :: r) = 0 := e
   rw [e2]
   exact List.mem_cons_self
 ·exact e
def my (s : Nat) (l : List Nat) (n : Nat) : Int := if l ≠ [] ∧ n < mx l ∧ s ≤ mx l - n then 170 else if n ∈ l then 9 else 0
def mk (s : Nat) (l : List Nat) (n : Nat) : List Nat := if my s l n = 0 then l ++ [n] else l
structure Inv (s h : Nat) (m : NI) (l : List Nat) : Prop where
 hi : h = mx l
 bits : ∀ n, n ≤ h → h < n + s → (hb m (n % s) = true ↔ n ∈ l)
theorem inv_new (s : Nat) : Inv s 0 (fun _ => 0) [] := ⟨rfl, fun n _ _ => by simp [hb_zero]⟩
theorem mod_in (s n : Nat) (hs : 1 ≤ s) : (n % s) / 64 < nW s := by
 have := Nat.mod_lt n (show 0 < s by omega)
 unfold nW
 omega
theorem may_eq {s h : Nat} {m : NI} {l : List Nat} (I : Inv s h m l) (hs : 1 ≤ s) (n : Nat) : myF s h m n = my s l n := by
 have hh := I.hi
 unfold myF my
 by_cases c1 : h < n
 ·rw [if_pos c1, if_neg (by omega), if_neg (fun hm => by have := le_mx hm; omega)]
 ·rw [if_neg c1]
  by_cases c2 : s ≤ h - n
  ·rw [if_pos c2, if_pos ⟨fun e => by subst e; simp [mx] at hh; omega, by omega, by omega⟩]
  ·have c4 : ¬ (l ≠ [] ∧ n < mx l ∧ s ≤ mx l - n) := by omega
   rw [if_neg c2, if_neg c4]
   have hbt := I.bits n (by omega) (by omega)
   by_cases c3 : n ∈ l
   ·rw [if_pos (hbt.2 c3), if_pos c3]
   ·rw [if_neg (fun x => c3 (hbt.1 x)), if_neg c3]
theorem mod_ne {s a b : Nat} (h1 : a < b) (h2 : b < a + s) : a % s ≠ b % s := by
 intro e
 have h3 := Nat.div_add_mod a s
 have h4 := Nat.div_add_mod b s
 rw [e] at h3
 have h5 : s * (a / s) < s * (b / s) := by omega
 have h6 : a / s < b / s := Nat.lt_of_mul_lt_mul_left h5
 have h7 : s * (a / s + 1) ≤ s * (b / s) := Nat.mul_le_mul_left s h6
 rw [Nat.mul_add, Nat.mul_one] at h7
 omega
theorem mod_one_of {s a b : Nat} (h1 : a < b + s) (h2 : b < a + s) (e : a % s = b % s) : a = b := by
 rcases Nat.lt_trichotomy a b with h | h | h
 ·exact absurd e (mod_ne h h2)
 ·exact h
 ·exact absurd e.symm (mod_ne h h1)
theorem inv_mark {s h : Nat} {m : NI} {l : List Nat} (I : Inv s h m l) (hs : 1 ≤ s) (n : Nat) : Inv s (mkH s h m n) (mkM s h m n) (mk s l n) := by
 have hh := I.hi
 have he := may_eq I hs n
 unfold mkH mkM mk
 rw [he]
 by_cases c0 : my s l n = 0
 ·rw [if_pos c0, if_pos c0, if_pos c0]
  by_cases c1 : h < n
  ·rw [if_pos c1, if_pos c1]
   refine ⟨by rw [mx_app]; omega, fun q h1 h2 => ?_⟩
   rw [hb_set, Bool.or_eq_true, decide_eq_true_eq, List.mem_append, List.mem_singleton]
   have e1 : q % s = n % s ↔ q = n := ⟨fun e => mod_one_of (by omega) (by omega) e, fun e => by rw [e]⟩
   rw [e1]
   have e2 : hb (lvM s h m (n - h)) (q % s) = true ↔ q ∈ l ∧ q ≠ n := by
    unfold lvM
    by_cases c2 : s ≤ n - h
    ·rw [if_pos c2, hb_clear _ _ _ (mod_in s q hs)]
     constructor
     ·intro x
      cases x
     ·intro ⟨x, _⟩
      have := le_mx x
      omega
    ·rw [if_neg c2, hb_wps]
     constructor
     ·intro ⟨x, y⟩
      have h3 : q ≤ h := by
       refine Nat.le_of_not_lt fun h4 => y (q - (h + 1)) (by omega) ?_
       rw [show h + 1 + (q - (h + 1)) = q by omega]
      exact ⟨(I.bits q h3 (by omega)).1 x, by omega⟩
     ·intro ⟨x, y⟩
      have h3 := le_mx x
      exact ⟨(I.bits q (by omega) (by omega)).2 x, fun i hi => mod_ne (by omega) (by omega)⟩
   rw [e2]
   constructor
   ·intro x
    rcases x with x | x
    ·exact .inr x
    ·exact .inl x.1
   ·intro x
    by_cases y : q = n
    ·exact .inl y
    ·rcases x with x | x
     ·exact .inr ⟨x, y⟩
     ·exact .inl x
  ·rw [if_neg c1, if_neg c1]
   have c2 : ¬ s ≤ h - n := fun c2 => by
    unfold myF at he
    rw [if_neg c1, if_pos c2, c0] at he
    cases he
   refine ⟨by rw [mx_app]; omega, fun q h1 h2 => ?_⟩
   rw [hb_set, Bool.or_eq_true, decide_eq_true_eq, List.mem_append, List.mem_singleton]
   have e1 : q % s = n % s ↔ q = n := ⟨fun e => mod_one_of (by omega) (by omega) e, fun e => by rw [e]⟩
   rw [e1, I.bits q h1 h2]
   exact Or.comm
 ·rw [if_neg c0, if_neg c0, if_neg c0]
  exact I
theorem mkH_lt {s h : Nat} {m : NI} {n B : Nat} (hh : h < B) (hn : n < B) : mkH s h m n < B := by
 unfold mkH
 split
 ·split <;> omega
 ·exact hh
open Go.RowKit
def ovB (sd : Yb) (lf mt n : Nat) : Bool := decide (sd = ⟨#[]⟩ ∨ lf ≤ n - mt)
def slF (sd : Yb) (su : Bool) (ct lf nx mt n : Nat) : Int := if ovB sd lf mt n = true then 180 else if ct ≤ nx then 180 else if su = true then 0 else 3
theorem age_eq (n mt : Nat) (hn : n < 18446744073709551616) : IntKind.wrap .u64 (max (n : Int) (mt : Int) - (mt : Int)) = ((n - mt : Nat) : Int) := by
 rw [IntKind.wrap_u64]
 omega
theorem a_Mark {g k s h : Nat} {m : NI} {n : Nat} {l : List Nat} (hs : 1 ≤ s) (hh : h < 18446744073709551616) (hn : n < 18446744073709551616) (I : Inv s h m l) (w : World) (hL : Laid w) (hT : There w [⟨g, .cells (av 3 (ls [.int .u64 (s : Int), .int .u64 (h : Int), .slice (some ⟨k, 0, none⟩) (nW s) (nW s)])) 123⟩, ⟨k, .cells (av (nW s) (w64 m)) 33⟩]) : Calls Tryz.prog 50 #[.pointer (some ⟨g, 0, none⟩), .int .u64 (n : Int)] w fun r w' => ∃ x : Nat × (Nat → Int), r = .returned (.int .i64 (my s l n)) ∧ (Inv s x.1 x.2 (mk s l n) ∧ x.1 < 18446744073709551616) ∧ OkT w w' [⟨g, .cells (av 3 (ls [.int .u64 (s : Int), .int .u64 (h : Int), .slice (some ⟨k, 0, none⟩) (nW s) (nW s)])) 123⟩, ⟨k, .cells (av (nW s) (w64 m)) 33⟩] [⟨g, .cells (av 3 (ls [.int .u64 (s : Int), .int .u64 ((x.1 : Nat) : Int), .slice (some ⟨k, 0, none⟩) (nW s) (nW s)])) 123⟩, ⟨k, .cells (av (nW s) (w64 x.2)) 33⟩] := by
 rw [← may_eq I hs n]
 exact (c_Mark g k s h (nW s) m n hs (Nat.le_refl _) hh hn w hL hT).mono fun _ _ ⟨he, h1, h2, h3⟩ => ⟨(mkH s h m n, mkM s h m n), he, ⟨inv_mark I hs n, mkH_lt hh hn⟩, h1, by simpa using ⟨h2, h3⟩, by simpa using hT.nodup, by simp⟩
theorem a_May {g k s h : Nat} {m : NI} {n : Nat} {l : List Nat} (hs : 1 ≤ s) (hh : h < 18446744073709551616) (hn : n < 18446744073709551616) (I : Inv s h m l) (w : World) (hL : Laid w) (hT : There w [⟨g, .cells (av 3 (ls [.int .u64 (s : Int), .int .u64 (h : Int), .slice (some ⟨k, 0, none⟩) (nW s) (nW s)])) 123⟩, ⟨k, .cells (av (nW s) (w64 m)) 33⟩]) : Cs 48 #[.pointer (some ⟨g, 0, none⟩), .int .u64 (n : Int)] w (.int .i64 (my s l n)) := by
 rw [← may_eq I hs n]
 exact c_May g k s h (nW s) m n hs (Nat.le_refl _) hh hn w hL hT
theorem c_wiped {e wd md : Nat} {rc ct rk lf sz nx : Nat} {sd rv : Yb} {fi su : Bool} (w : World) (hL : Laid w)  (hT : There w [⟨e, .cells (av 12 (ls [.pointer (some ⟨wd, 0, none⟩), .func (.func 67) #[] #[.pointer (some ⟨md, 0, none⟩)], .int .u64 (rc : Int), .int .u64 (ct : Int), .int .u64 (rk : Int), .int .u64 (lf : Int), .int .i64 (sz : Int), .string sd, .string rv, .bool (fi), .bool (su), .int .u64 (nx : Int)])) 78⟩]) : Cs 68 #[.pointer (some ⟨e, 0, none⟩)] w (.bool (decide (sd = (⟨#[]⟩ : Yb)))) := by
 go_enter Tryz.func68, Tryz.ntmps68
 have M : Mem ⟨w, [e]⟩ [⟨e, .cells (av 12 (ls [.pointer (some ⟨wd, 0, none⟩), .func (.func 67) #[] #[.pointer (some ⟨md, 0, none⟩)], .int .u64 (rc : Int), .int .u64 (ct : Int), .int .u64 (rk : Int), .int .u64 (lf : Int), .int .i64 (sz : Int), .string sd, .string rv, .bool (fi), .bool (su), .int .u64 (nx : Int)])) 78⟩] w := Mem.startT hL hT
 refine sq <| sR <| rV 3 <| ZE M 6 0 7 ?_
 by_cases c0 : sd = (⟨#[]⟩ : Yb)
 ·refine pH 7 (.bool true) (fun w => Eq.trans (b := .ok (.value (.bool (sd.toList == (⟨#[]⟩ : Yb).toList))) w) (by kernel_rfl) (by rw [seq_pos c0])) ?_
  refine rV 1 <| nT <| wp_ret ?_
  have e0 : decide (sd = (⟨#[]⟩ : Yb)) = true := by first | (simp only [if_pos c0]; done) | simp [c0]
  exact bodyPost_ret (v := .bool true) (results_tmp1 Tryz.results68 _ _ _ (by kernel_rfl)) (by kernel_rfl) ⟨by rw [e0], ro_T hT M⟩
 ·refine pH 7 (.bool false) (fun w => Eq.trans (b := .ok (.value (.bool (sd.toList == (⟨#[]⟩ : Yb).toList))) w) (by kernel_rfl) (by rw [seq_neg c0])) ?_
  refine rV 1 <| nT <| wp_ret ?_
  have e0 : decide (sd = (⟨#[]⟩ : Yb)) = false := by first | (simp only [if_neg c0]; done) | simp [c0]
  exact bodyPost_ret (v := .bool false) (results_tmp1 Tryz.results68 _ _ _ (by kernel_rfl)) (by kernel_rfl) ⟨by rw [e0], ro_T hT M⟩
theorem c_age {md mt n : Nat} (hn : n < 18446744073709551616) (w : World) (hL : Laid w)  (hT : There w [⟨md, .cells (av 1 (ls [.int .u64 (mt : Int)])) 33⟩]) : Cs 67 #[.int .u64 (n : Int), .pointer (some ⟨md, 0, none⟩)] w (.int .u64 ((n - mt : Nat) : Int)) := by
 go_enter Tryz.func67, Tryz.ntmps67
 have M : Mem ⟨w, [md]⟩ [⟨md, .cells (av 1 (ls [.int .u64 (mt : Int)])) 33⟩] w := Mem.startT hL hT
 refine sq <| sR <| rV 1 <| ZE M 5 0 0 ?_
 refine pH 6 (.int .u64 (max (n : Int) (mt : Int))) (fun w => Eq.trans (b := .ok (.value (.int .u64 (if ((mt : Int) : Int) > (n : Int) then (mt : Int) else (n : Int)))) w) (by kernel_rfl) (by rw [if_max])) ?_
 refine ZE M 7 0 0 ?_
 refine pH 8 (.int .u64 ((n - mt : Nat) : Int)) (fun w => Eq.trans (b := .ok (.value (.int .u64 (IntKind.wrap .u64 (max (n : Int) (mt : Int) - (mt : Int))))) w) (by kernel_rfl) (by rw [age_eq n mt hn])) ?_
 refine rV 1 <| nT <| wp_ret ?_
 exact bodyPost_ret (v := .int .u64 ((n - mt : Nat) : Int)) (results_tmp1 Tryz.results67 _ _ _ (by kernel_rfl)) (by kernel_rfl) ⟨rfl, ro_T hT M⟩
theorem c_over {e wd md : Nat} {rc ct rk lf sz nx mt : Nat} {sd rv : Yb} {fi su : Bool} {n : Nat} (hn : n < 18446744073709551616) (w : World) (hL : Laid w)  (hT : There w [⟨e, .cells (av 12 (ls [.pointer (some ⟨wd, 0, none⟩), .func (.func 67) #[] #[.pointer (some ⟨md, 0, none⟩)], .int .u64 (rc : Int), .int .u64 (ct : Int), .int .u64 (rk : Int), .int .u64 (lf : Int), .int .i64 (sz : Int), .string sd, .string rv, .bool (fi), .bool (su), .int .u64 (nx : Int)])) 78⟩, ⟨md, .cells (av 1 (ls [.int .u64 (mt : Int)])) 33⟩]) : Cs 44 #[.pointer (some ⟨e, 0, none⟩), .int .u64 (n : Int)] w (.bool (ovB sd lf mt n)) := by
 go_enter Tryz.func44, Tryz.ntmps44
 have M : Mem ⟨w, [e, md]⟩ [⟨e, .cells (av 12 (ls [.pointer (some ⟨wd, 0, none⟩), .func (.func 67) #[] #[.pointer (some ⟨md, 0, none⟩)], .int .u64 (rc : Int), .int .u64 (ct : Int), .int .u64 (rk : Int), .int .u64 (lf : Int), .int .i64 (sz : Int), .string sd, .string rv, .bool (fi), .bool (su), .int .u64 (nx : Int)])) 78⟩, ⟨md, .cells (av 1 (ls [.int .u64 (mt : Int)])) 33⟩] w := Mem.startT hL hT
 refine sq <| wp_seq ?_
 refine rg_held M [⟨e, .cells (av 12 (ls [.pointer (some ⟨wd, 0, none⟩), .func (.func 67) #[] #[.pointer (some ⟨md, 0, none⟩)], .int .u64 (rc : Int), .int .u64 (ct : Int), .int .u64 (rk : Int), .int .u64 (lf : Int), .int .i64 (sz : Int), .string sd, .string rv, .bool (fi), .bool (su), .int .u64 (nx : Int)])) 78⟩, ⟨md, .cells (av 1 (ls [.int .u64 (mt : Int)])) 33⟩] 16 rfl (by kernel_rfl) (by kernel_rfl) (fun _ _ d _ _ h => by cases d <;> exact h) fun u1 M => ?_
 replace M : Mem ⟨w, [e, md]⟩ [⟨e, .cells (av 12 (ls [.pointer (some ⟨wd, 0, none⟩), .func (.func 67) #[] #[.pointer (some ⟨md, 0, none⟩)], .int .u64 (rc : Int), .int .u64 (ct : Int), .int .u64 (rk : Int), .int .u64 (lf : Int), .int .i64 (sz : Int), .string sd, .string rv, .bool (fi), .bool (su), .int .u64 (nx : Int)])) 78⟩, ⟨md, .cells (av 1 (ls [.int .u64 (mt : Int)])) 33⟩] u1 := M
 refine qV M 0 5 (.pointer (some ⟨e, 0, none⟩)) ?_
 refine hl_one 1 (by decide) (by kernel_rfl) rfl ?_
 by_cases c0 : sd = (⟨#[]⟩ : Yb)
 ·refine pC M 6 68 #[.pointer (some ⟨e, 0, none⟩)] (.bool true) (fun w M => call_val (c_wiped w M.laid (M.there (.cons_cons _ (List.nil_sublist _)))) (congrArg Value.bool (decide_eq_true (c0)))) fun u2 M => ?_
  refine nT ?_
  refine ⟨M, ?_⟩
  refine qV M 2 7 (.bool true) ?_
  refine hl_skip M 3 rfl (by decide) (by kernel_rfl) (by kernel_rfl) (want_off 2 false rfl 7 rfl (by kernel_rfl)) (some 8) rfl ?_
  refine hl_skip M 4 rfl (by decide) (by kernel_rfl) (by kernel_rfl) (want_off 2 false rfl 7 rfl (by kernel_rfl)) (some 9) rfl ?_
  refine hl_skip M 5 rfl (by decide) (by kernel_rfl) (by kernel_rfl) (want_off 2 false rfl 7 rfl (by kernel_rfl)) (some 10) rfl ?_
  refine hl_skip M 6 rfl (by decide) (by kernel_rfl) (by kernel_rfl) (want_off 2 false rfl 7 rfl (by kernel_rfl)) (some 11) rfl ?_
  refine hl_skip M 7 rfl (by decide) (by kernel_rfl) (by kernel_rfl) (want_off 2 false rfl 7 rfl (by kernel_rfl)) (some 12) rfl ?_
  refine hl_skip M 8 rfl (by decide) (by kernel_rfl) (by kernel_rfl) (want_off 2 false rfl 7 rfl (by kernel_rfl)) (some 13) rfl ?_
  refine hl_skip M 9 rfl (by decide) (by kernel_rfl) (by kernel_rfl) (want_off 2 false rfl 7 rfl (by kernel_rfl)) (some 14) rfl ?_
  refine hl_skip M 10 rfl (by decide) (by kernel_rfl) (by kernel_rfl) (want_off 2 false rfl 7 rfl (by kernel_rfl)) (some 15) rfl ?_
  refine hl_skip M 11 rfl (by decide) (by kernel_rfl) (by kernel_rfl) (want_off 2 false rfl 7 rfl (by kernel_rfl)) (some 16) rfl ?_
  refine hl_skip M 12 rfl (by decide) (by kernel_rfl) (by kernel_rfl) (want_off 2 false rfl 7 rfl (by kernel_rfl)) (some 17) rfl ?_
  refine hl_skip M 13 rfl (by decide) (by kernel_rfl) (by kernel_rfl) (want_off 2 false rfl 7 rfl (by kernel_rfl)) (some 18) rfl ?_
  refine hl_skip M 14 rfl (by decide) (by kernel_rfl) (by kernel_rfl) (want_off 2 false rfl 7 rfl (by kernel_rfl)) (some 19) rfl ?_
  refine qV M 15 20 (.bool true) ?_
  refine hl_end (by kernel_rfl) (by kernel_rfl) rfl ?_
  refine rV 1 <| nT <| au_then <| wp_ret ?_
  have e0 : ovB sd lf mt n = true := by unfold ovB; exact decide_eq_true (.inl c0)
  exact bodyPost_ret (v := .bool true) (results_tmp1 Tryz.results44 _ _ _ (by kernel_rfl)) (by kernel_rfl) ⟨by rw [e0], ro_T hT M⟩
 ·refine pC M 6 68 #[.pointer (some ⟨e, 0, none⟩)] (.bool false) (fun w M => call_val (c_wiped w M.laid (M.there (.cons_cons _ (List.nil_sublist _)))) (congrArg Value.bool (decide_eq_false (c0)))) fun u2 M => ?_
  refine nT ?_
  refine ⟨M, ?_⟩
  refine qV M 2 7 (.bool false) ?_
  refine hl_val M 3 rfl (by decide) (by kernel_rfl) (by kernel_rfl) (want_on 2 false rfl 7 rfl (by kernel_rfl)) (some 8) rfl (.pointer (some ⟨e, 0, none⟩)) (fun _ _ => by kernel_rfl) ?_
  refine hl_val M 4 rfl (by decide) (by kernel_rfl) (by kernel_rfl) (want_on 2 false rfl 7 rfl (by kernel_rfl)) (some 9) rfl (.pointer (some ⟨e, 0, none⟩)) (fun _ _ => by kernel_rfl) ?_
  refine hl_val M 5 rfl (by decide) (by kernel_rfl) (by kernel_rfl) (want_on 2 false rfl 7 rfl (by kernel_rfl)) (some 10) rfl (.pointer (some ⟨e, 1, none⟩)) (fun _ _ => by kernel_rfl) ?_
  refine hl_cell M 6 rfl (by decide) (by kernel_rfl) (by kernel_rfl) (want_on 2 false rfl 7 rfl (by kernel_rfl)) (some 11) rfl 76 _ rfl e 1 (by kernel_rfl) (.func (.func 67) #[] #[.pointer (some ⟨md, 0, none⟩)]) (fun _ => by kernel_rfl) (fun w M => M.cell 0 rfl (by decide) rfl) ?_
  refine hl_val M 7 rfl (by decide) (by kernel_rfl) (by kernel_rfl) (want_on 2 false rfl 7 rfl (by kernel_rfl)) (some 12) rfl (.int .u64 (n : Int)) (fun _ _ => by kernel_rfl) ?_
  refine hl_val M 9 rfl (by decide) (by kernel_rfl) (by kernel_rfl) (want_on 2 false rfl 7 rfl (by kernel_rfl)) (some 14) rfl (.pointer (some ⟨e, 0, none⟩)) (fun _ _ => by kernel_rfl) ?_
  refine hl_val M 10 rfl (by decide) (by kernel_rfl) (by kernel_rfl) (want_on 2 false rfl 7 rfl (by kernel_rfl)) (some 15) rfl (.pointer (some ⟨e, 0, none⟩)) (fun _ _ => by kernel_rfl) ?_
  refine hl_val M 11 rfl (by decide) (by kernel_rfl) (by kernel_rfl) (want_on 2 false rfl 7 rfl (by kernel_rfl)) (some 16) rfl (.pointer (some ⟨e, 2, none⟩)) (fun _ _ => by kernel_rfl) ?_
  refine hl_val M 12 rfl (by decide) (by kernel_rfl) (by kernel_rfl) (want_on 2 false rfl 7 rfl (by kernel_rfl)) (some 17) rfl (.pointer (some ⟨e, 5, none⟩)) (fun _ _ => by kernel_rfl) ?_
  refine hl_cell M 13 rfl (by decide) (by kernel_rfl) (by kernel_rfl) (want_on 2 false rfl 7 rfl (by kernel_rfl)) (some 18) rfl 33 _ rfl e 5 (by kernel_rfl) (.int .u64 (lf : Int)) (fun _ => by kernel_rfl) (fun w M => M.cell 0 rfl (by decide) rfl) ?_
  refine hl_one 8 (by decide) (by kernel_rfl) rfl ?_
  refine pl_call M (want_on 2 false rfl 7 rfl (by kernel_rfl)) (some 13) rfl 67 #[.int .u64 (n : Int), .pointer (some ⟨md, 0, none⟩)] (.int .u64 ((n - mt : Nat) : Int)) (fun _ => by kernel_rfl) (fun w M => c_age hn w M.laid (M.there (.cons _ (.cons_cons _ (List.nil_sublist _))))) fun u3 M => ?_
  refine nT ?_
  refine ⟨M, ?_⟩
  by_cases c1 : ((n - mt : Nat) : Int) < (lf : Int)
  ·refine hl_val M 14 rfl (by decide) (by kernel_rfl) (by kernel_rfl) (want_on 2 false rfl 7 rfl (by kernel_rfl)) (some 19) rfl (.bool false) (fun w _ => (fun w => Eq.trans (b := .ok (.value (.bool (decide ((lf : Int) ≤ ((n - mt : Nat) : Int))))) w) (by kernel_rfl) (by rw [decide_eq_false (by omega)])) w) ?_
   refine qV M 15 20 (.bool false) ?_
   refine hl_end (by kernel_rfl) (by kernel_rfl) rfl ?_
   refine rV 1 <| nT <| au_then <| wp_ret ?_
   have e0 : ovB sd lf mt n = false := by unfold ovB; exact decide_eq_false (by rintro (h | h) <;> first | exact c0 h | omega)
   exact bodyPost_ret (v := .bool false) (results_tmp1 Tryz.results44 _ _ _ (by kernel_rfl)) (by kernel_rfl) ⟨by rw [e0], ro_T hT M⟩
  ·refine hl_val M 14 rfl (by decide) (by kernel_rfl) (by kernel_rfl) (want_on 2 false rfl 7 rfl (by kernel_rfl)) (some 19) rfl (.bool true) (fun w _ => (fun w => Eq.trans (b := .ok (.value (.bool (decide ((lf : Int) ≤ ((n - mt : Nat) : Int))))) w) (by kernel_rfl) (by rw [decide_eq_true (by omega)])) w) ?_
   refine qV M 15 20 (.bool true) ?_
   refine hl_end (by kernel_rfl) (by kernel_rfl) rfl ?_
   refine rV 1 <| nT <| au_then <| wp_ret ?_
   have e0 : ovB sd lf mt n = true := by unfold ovB; exact decide_eq_true (.inr (by omega))
   exact bodyPost_ret (v := .bool true) (results_tmp1 Tryz.results44 _ _ _ (by kernel_rfl)) (by kernel_rfl) ⟨by rw [e0], ro_T hT M⟩
theorem c_spent {e wd md : Nat} {rc ct rk lf sz nx : Nat} {sd rv : Yb} {fi su : Bool} (w : World) (hL : Laid w)  (hT : There w [⟨e, .cells (av 12 (ls [.pointer (some ⟨wd, 0, none⟩), .func (.func 67) #[] #[.pointer (some ⟨md, 0, none⟩)], .int .u64 (rc : Int), .int .u64 (ct : Int), .int .u64 (rk : Int), .int .u64 (lf : Int), .int .i64 (sz : Int), .string sd, .string rv, .bool (fi), .bool (su), .int .u64 (nx : Int)])) 78⟩]) : Cs 45 #[.pointer (some ⟨e, 0, none⟩)] w (.bool (decide ((nx : Int) ≥ (ct : Int)))) := by
 go_enter Tryz.func45, Tryz.ntmps45
 have M : Mem ⟨w, [e]⟩ [⟨e, .cells (av 12 (ls [.pointer (some ⟨wd, 0, none⟩), .func (.func 67) #[] #[.pointer (some ⟨md, 0, none⟩)], .int .u64 (rc : Int), .int .u64 (ct : Int), .int .u64 (rk : Int), .int .u64 (lf : Int), .int .i64 (sz : Int), .string sd, .string rv, .bool (fi), .bool (su), .int .u64 (nx : Int)])) 78⟩] w := Mem.startT hL hT
 refine sq <| wp_seq ?_
 refine rg_held M [⟨e, .cells (av 12 (ls [.pointer (some ⟨wd, 0, none⟩), .func (.func 67) #[] #[.pointer (some ⟨md, 0, none⟩)], .int .u64 (rc : Int), .int .u64 (ct : Int), .int .u64 (rk : Int), .int .u64 (lf : Int), .int .i64 (sz : Int), .string sd, .string rv, .bool (fi), .bool (su), .int .u64 (nx : Int)])) 78⟩] 10 rfl (by kernel_rfl) (by kernel_rfl) (fun _ _ d _ _ h => by cases d <;> exact h) fun u1 M => ?_
 replace M : Mem ⟨w, [e]⟩ [⟨e, .cells (av 12 (ls [.pointer (some ⟨wd, 0, none⟩), .func (.func 67) #[] #[.pointer (some ⟨md, 0, none⟩)], .int .u64 (rc : Int), .int .u64 (ct : Int), .int .u64 (rk : Int), .int .u64 (lf : Int), .int .i64 (sz : Int), .string sd, .string rv, .bool (fi), .bool (su), .int .u64 (nx : Int)])) 78⟩] u1 := M
 refine qV M 0 3 (.pointer (some ⟨e, 0, none⟩)) ?_
 refine qV M 1 4 (.pointer (some ⟨e, 0, none⟩)) ?_
 refine qV M 2 5 (.pointer (some ⟨e, 11, none⟩)) ?_
 refine hl_cell M 3 rfl (by decide) (by kernel_rfl) (by kernel_rfl) (want_no rfl) (some 6) rfl 33 _ rfl e 11 (by kernel_rfl) (.int .u64 (nx : Int)) (fun _ => by kernel_rfl) (fun w M => M.cell 0 rfl (by decide) rfl) ?_
 refine qV M 4 7 (.pointer (some ⟨e, 0, none⟩)) ?_
 refine qV M 5 8 (.pointer (some ⟨e, 0, none⟩)) ?_
 refine qV M 6 9 (.pointer (some ⟨e, 2, none⟩)) ?_
 refine qV M 7 10 (.pointer (some ⟨e, 3, none⟩)) ?_
 refine hl_cell M 8 rfl (by decide) (by kernel_rfl) (by kernel_rfl) (want_no rfl) (some 11) rfl 33 _ rfl e 3 (by kernel_rfl) (.int .u64 (ct : Int)) (fun _ => by kernel_rfl) (fun w M => M.cell 0 rfl (by decide) rfl) ?_
 by_cases c0 : (nx : Int) < (ct : Int)
 ·refine hl_val M 9 rfl (by decide) (by kernel_rfl) (by kernel_rfl) (want_no rfl) (some 12) rfl (.bool false) (fun w _ => (fun w => Eq.trans (b := .ok (.value (.bool (decide ((ct : Int) ≤ (nx : Int))))) w) (by kernel_rfl) (by rw [decide_eq_false (by omega)])) w) ?_
  refine hl_end (by kernel_rfl) (by kernel_rfl) rfl ?_
  refine rV 1 <| nT <| au_then <| wp_ret ?_
  have e0 : decide ((nx : Int) ≥ (ct : Int)) = false := decide_eq_false (by omega)
  exact bodyPost_ret (v := .bool false) (results_tmp1 Tryz.results45 _ _ _ (by kernel_rfl)) (by kernel_rfl) ⟨by rw [e0], ro_T hT M⟩
 ·refine hl_val M 9 rfl (by decide) (by kernel_rfl) (by kernel_rfl) (want_no rfl) (some 12) rfl (.bool true) (fun w _ => (fun w => Eq.trans (b := .ok (.value (.bool (decide ((ct : Int) ≤ (nx : Int))))) w) (by kernel_rfl) (by rw [decide_eq_true (by omega)])) w) ?_
  refine hl_end (by kernel_rfl) (by kernel_rfl) rfl ?_
  refine rV 1 <| nT <| au_then <| wp_ret ?_
  have e0 : decide ((nx : Int) ≥ (ct : Int)) = true := decide_eq_true (by omega)
  exact bodyPost_ret (v := .bool true) (results_tmp1 Tryz.results45 _ _ _ (by kernel_rfl)) (by kernel_rfl) ⟨by rw [e0], ro_T hT M⟩
theorem c_sealFault {e wd md : Nat} {rc ct rk lf sz nx mt : Nat} {sd rv : Yb} {fi su : Bool} {n : Nat} (hn : n < 18446744073709551616) (w : World) (hL : Laid w)  (hT : There w [⟨e, .cells (av 12 (ls [.pointer (some ⟨wd, 0, none⟩), .func (.func 67) #[] #[.pointer (some ⟨md, 0, none⟩)], .int .u64 (rc : Int), .int .u64 (ct : Int), .int .u64 (rk : Int), .int .u64 (lf : Int), .int .i64 (sz : Int), .string sd, .string rv, .bool (fi), .bool (su), .int .u64 (nx : Int)])) 78⟩, ⟨md, .cells (av 1 (ls [.int .u64 (mt : Int)])) 33⟩]) : Cs 22 #[.pointer (some ⟨e, 0, none⟩), .int .u64 (n : Int)] w (.int .i64 (slF sd su ct lf nx mt n)) := by
 go_enter Tryz.func22, Tryz.ntmps22
 have M : Mem ⟨w, [e, md]⟩ [⟨e, .cells (av 12 (ls [.pointer (some ⟨wd, 0, none⟩), .func (.func 67) #[] #[.pointer (some ⟨md, 0, none⟩)], .int .u64 (rc : Int), .int .u64 (ct : Int), .int .u64 (rk : Int), .int .u64 (lf : Int), .int .i64 (sz : Int), .string sd, .string rv, .bool (fi), .bool (su), .int .u64 (nx : Int)])) 78⟩, ⟨md, .cells (av 1 (ls [.int .u64 (mt : Int)])) 33⟩] w := Mem.startT hL hT
 refine sq <| wp_seq ?_
 refine wp_block ?_
 refine wp_seq <| sR <| rV 2 ?_
 rcases Bool.eq_false_or_eq_true (ovB sd lf mt n) with c0 | c0
 ·refine pC M 8 44 #[.pointer (some ⟨e, 0, none⟩), .int .u64 (n : Int)] (.bool true) (fun w M => call_val (c_over hn w M.laid (M.there (.cons_cons _ (.cons_cons _ (List.nil_sublist _))))) (congrArg Value.bool c0)) fun u1 M => ?_
  refine rV 1 <| nT <| cT <| wp_skip <| au_then ?_
  refine cT <| sq <| wp_ret ?_
  refine au_block_ret ?_
  refine au_then_ret ?_
  have e0 : (slF sd su ct lf nx mt n) = 180 := by unfold slF; rw [if_pos c0]
  exact bodyPost_ret (v := .int .i64 180) (results_tmp1 Tryz.results22 _ _ _ (by kernel_rfl)) (by kernel_rfl) ⟨by rw [e0], ro_T hT M⟩
 ·refine pC M 8 44 #[.pointer (some ⟨e, 0, none⟩), .int .u64 (n : Int)] (.bool false) (fun w M => call_val (c_over hn w M.laid (M.there (.cons_cons _ (.cons_cons _ (List.nil_sublist _))))) (congrArg Value.bool c0)) fun u1 M => ?_
  refine rV 1 <| nT <| cF ?_
  refine rg_lit ?_
  refine rV 1 ?_
  by_cases c1 : (nx : Int) < (ct : Int)
  ·refine pC M 10 45 #[.pointer (some ⟨e, 0, none⟩)] (.bool false) (fun w M => call_val (c_spent w M.laid (M.there (.cons_cons _ (List.nil_sublist _)))) (congrArg Value.bool (decide_eq_false (by omega)))) fun u2 M => ?_
   refine rV 1 <| nT <| cF <| sR <| rV 3 ?_
   rcases Bool.eq_false_or_eq_true (su) with c2 | c2
   ·refine pE M 15 e 10 (.bool true) (fun w M => M.cell 0 rfl (by decide) (congrArg Value.bool c2)) ?_
    refine rV 2 <| nT <| cF <| wp_skip ?_
    refine au_block ?_
    refine au_then <| sq <| wp_ret ?_
    have e0 : (slF sd su ct lf nx mt n) = 0 := by unfold slF; rw [if_neg (Bool.eq_false_iff.1 c0), if_neg (by omega), if_pos c2]
    exact bodyPost_ret (v := .int .i64 0) (results_tmp1 Tryz.results22 _ _ _ (by kernel_rfl)) (by kernel_rfl) ⟨by rw [e0], ro_T hT M⟩
   ·refine pE M 15 e 10 (.bool false) (fun w M => M.cell 0 rfl (by decide) (congrArg Value.bool c2)) ?_
    refine rV 2 <| nT <| cT <| sq <| wp_ret ?_
    refine au_block_ret ?_
    refine au_then_ret ?_
    have e0 : (slF sd su ct lf nx mt n) = 3 := by unfold slF; rw [if_neg (Bool.eq_false_iff.1 c0), if_neg (by omega), if_neg (Bool.eq_false_iff.1 c2)]
    exact bodyPost_ret (v := .int .i64 3) (results_tmp1 Tryz.results22 _ _ _ (by kernel_rfl)) (by kernel_rfl) ⟨by rw [e0], ro_T hT M⟩
  ·refine pC M 10 45 #[.pointer (some ⟨e, 0, none⟩)] (.bool true) (fun w M => call_val (c_spent w M.laid (M.there (.cons_cons _ (List.nil_sublist _)))) (congrArg Value.bool (decide_eq_true (by omega)))) fun u2 M => ?_
   refine rV 1 <| nT <| cT <| sq <| wp_ret ?_
   refine au_block_ret ?_
   refine au_then_ret ?_
   have e0 : (slF sd su ct lf nx mt n) = 180 := by unfold slF; rw [if_neg (Bool.eq_false_iff.1 c0), if_pos (by omega)]
   exact bodyPost_ret (v := .int .i64 180) (results_tmp1 Tryz.results22 _ _ _ (by kernel_rfl)) (by kernel_rfl) ⟨by rw [e0], ro_T hT M⟩
end Go.Proofs.YtiahdbibeleakaaGreatDoor
