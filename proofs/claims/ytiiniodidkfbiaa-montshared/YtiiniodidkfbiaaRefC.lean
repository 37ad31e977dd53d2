/- The arithmetic of the document's reduce: carries, and what stands at 2^256 or above comes round by 38. -/
import Derived.Test.YtiiniodidkfbiaaRefB
namespace Go.Proofs.Ytiiniodidkfbiaa
open Go.RowKit

/-- The carry into place k. -/
def cf (t : Nat → Int) : Nat → Int
  | 0 => 0
  | k + 1 => (t k + cf t k) / 65536
def lo (t : Nat → Int) : Nat → Int := fun i => (t i + cf t i) % 65536

theorem lo_dig (t : Nat → Int) (n : Nat) : Dig (lo t) n := fun i _ => by unfold lo; omega

theorem pass_S (t : Nat → Int) : ∀ k, S (lo t) k + cf t k * 65536 ^ k = S t k
  | 0 => by simp [S, cf]
  | k + 1 => by
    have ih := pass_S t k
    have e : cf t (k + 1) * 65536 ^ (k + 1) = 65536 * cf t (k + 1) * 65536 ^ k := by rw [p16s, ← Int.mul_assoc, Int.mul_comm (cf t (k + 1)) 65536]
    have e2 : lo t k = t k + cf t k - 65536 * cf t (k + 1) := by
      simp only [lo, cf]
      omega
    simp only [S]
    rw [e, e2, Int.sub_mul, Int.add_mul]
    omega

theorem S_shift (f : Nat → Int) (n : Nat) : ∀ m, S f (n + m) = S f n + 65536 ^ n * S (fun i => f (n + i)) m
  | 0 => by simp [S]
  | m + 1 => by
    have ih := S_shift f n m
    rw [← Nat.add_assoc]
    simp only [S]
    rw [ih, Int.mul_add, Int.pow_add, Int.mul_left_comm, Int.add_assoc]

theorem S_zero (n : Nat) : S (fun _ => 0) n = 0 := by
  induction n with
  | zero => rfl
  | succ n ih => simp only [S, ih]; simp

/-- What is above place 16 comes round by 38. -/
def foldF (u : Nat → Int) : Nat → Int := fun i => if i < 16 then u i + 38 * u (16 + i) else 0
theorem fold_S (u : Nat → Int) : ∀ n, n ≤ 16 → S (foldF u) n = S u n + 38 * S (fun i => u (16 + i)) n
  | 0, _ => by simp [S]
  | n + 1, h => by
    have ih := fold_S u n (by omega)
    simp only [S]
    rw [ih, foldF, if_pos (by omega), Int.add_mul, Int.mul_add, Int.mul_assoc]
    omega

theorem S_upper_zero (f : Nat → Int) (h : ∀ i, 16 ≤ i → i < 32 → f i = 0) : S f 32 = S f 16 := by
  have e := S_shift f 16 16
  rw [show 16 + 16 = 32 from rfl] at e
  rw [e, S_congr (f := fun i => f (16 + i)) (g := fun _ => 0) fun i hi => h (16 + i) (by omega) (by omega), S_zero]
  simp

/-- One round of the first loop. -/
def T1 (t : Nat → Int) : Nat → Int := upd (foldF (lo t)) 0 (foldF (lo t) 0 + 1444 * cf t 32)

theorem S_upd0 (f : Nat → Int) (v : Int) : ∀ n, S (upd f 0 v) (n + 1) = S f (n + 1) - f 0 + v
  | 0 => by simp [S, upd]
  | n + 1 => by
    have ih := S_upd0 f v n
    show S (upd f 0 v) (n + 1) + upd f 0 v (n + 1) * 65536 ^ (n + 1) = S f (n + 1) + f (n + 1) * 65536 ^ (n + 1) - f 0 + v
    rw [ih]
    simp only [upd]
    rw [if_neg (by omega)]
    omega

theorem T1_up (t : Nat → Int) (i : Nat) (h : 16 ≤ i) : T1 t i = 0 := by
  unfold T1 upd foldF
  rw [if_neg (by omega), if_neg (by omega)]

theorem T1_S (t : Nat → Int) : Cg (S (T1 t) 32) (S t 32) := by
  rw [S_upper_zero (T1 t) fun i h _ => T1_up t i h]
  have e1 : S (T1 t) 16 = S (foldF (lo t)) 16 + 1444 * cf t 32 := by
    have h := S_upd0 (foldF (lo t)) (foldF (lo t) 0 + 1444 * cf t 32) 15
    rw [show 15 + 1 = 16 from rfl] at h
    unfold T1
    rw [h]
    omega
  have e2 := fold_S (lo t) 16 (by omega)
  have e3 := pass_S t 32
  have e4 := S_shift (lo t) 16 16
  rw [show 16 + 16 = 32 from rfl] at e4
  have p1 : (65536 : Int) ^ 16 = 2 * Pm + 38 := by decide
  have p2 : (65536 : Int) ^ 32 = (2 * Pm + 76) * (2 * Pm) + 1444 := by decide
  rw [e4, p2, p1] at e3
  rw [e1, e2]
  generalize S (fun i => lo t (16 + i)) 16 = h at *
  generalize S (lo t) 16 = l at *
  generalize cf t 32 = c at *
  refine ⟨- (2 * h) - c * ((2 * Pm + 76) * 2), ?_⟩
  rw [← e3]
  simp only [Int.mul_add, Int.add_mul, Int.sub_mul, Int.neg_mul, Int.mul_assoc, Int.mul_comm Pm]
  omega

structure B48 (t : Nat → Int) : Prop where
  b : ∀ i, i < 32 → 0 ≤ t i ∧ t i < 281474976710656

theorem cf_bd {t : Nat → Int} (h : B48 t) : ∀ k, k ≤ 32 → 0 ≤ cf t k ∧ cf t k ≤ 8589934592
  | 0, _ => by simp [cf]
  | k + 1, hk => by
    have ih := cf_bd h k (by omega)
    have := h.b k (by omega)
    simp only [cf]
    omega

/-- How great the digits are behind so many rounds. -/
def Jl : Nat → (Nat → Int) → Prop
  | 0, t => B48 t
  | 1, t => (∀ i, 16 ≤ i → i < 32 → t i = 0) ∧ (0 ≤ t 0 ∧ t 0 ≤ 17592186044416) ∧ ∀ i, 1 ≤ i → i < 16 → 0 ≤ t i ∧ t i ≤ 2555865
  | 2, t => (∀ i, 16 ≤ i → i < 32 → t i = 0) ∧ (0 ≤ t 0 ∧ t 0 ≤ 67100) ∧ ∀ i, 1 ≤ i → i < 16 → 0 ≤ t i ∧ t i ≤ 65535
  | _, t => (∀ i, 16 ≤ i → i < 32 → t i = 0) ∧ Dig t 16

theorem Jl.b48 {k : Nat} {t : Nat → Int} (hk : k ≤ 3) (h : Jl k t) : B48 t := by
  have hc : k = 0 ∨ k = 1 ∨ k = 2 ∨ k = 3 := by omega
  rcases hc with rfl | rfl | rfl | rfl
  · exact h
  all_goals
    refine ⟨fun i hi => ?_⟩
    by_cases h16 : 16 ≤ i
    · rw [h.1 i h16 hi]; omega
    · first
      | (have := h.2 i (by omega); omega)
      | (by_cases h0 : i = 0
         · have := h.2.1; rw [h0]; omega
         · have := h.2.2 i (by omega) (by omega); omega)

/-- Where the upper digits are none, and few carries go up. -/
theorem T1_low {t : Nat → Int} (hz : ∀ i, 16 ≤ i → i < 32 → t i = 0) (hc : 0 ≤ cf t 16 ∧ cf t 16 ≤ 65535) : T1 t 0 = lo t 0 + 38 * cf t 16 ∧ ∀ i, 1 ≤ i → i < 16 → T1 t i = lo t i := by
  have h17 : ∀ j, cf t (17 + j) = 0 ∨ 15 ≤ j := by
    intro j
    induction j with
    | zero => left; show (t 16 + cf t 16) / 65536 = 0; rw [hz 16 (by omega) (by omega)]; omega
    | succ j ih =>
      by_cases hj : 15 ≤ j + 1
      · exact .inr hj
      · left
        rcases ih with ih | ih
        · show (t (17 + j) + cf t (17 + j)) / 65536 = 0
          rw [ih, hz (17 + j) (by omega) (by omega)]
          decide
        · omega
  have h32 : cf t 32 = 0 := by
    have a : cf t 31 = 0 := by rcases h17 14 with h | h; · exact h
                               · omega
    show (t 31 + cf t 31) / 65536 = 0
    rw [a, hz 31 (by omega) (by omega)]
    decide
  have hl : ∀ i, 1 ≤ i → i < 16 → lo t (16 + i) = 0 := by
    intro i h1 h2
    have a : cf t (16 + i) = 0 := by
      have := h17 (i - 1)
      rw [show 17 + (i - 1) = 16 + i by omega] at this
      rcases this with h | h
      · exact h
      · have : i = 16 := by omega
        omega
    unfold lo
    rw [a, hz (16 + i) (by omega) (by omega)]
    decide
  have h16 : lo t 16 = cf t 16 := by
    unfold lo
    rw [hz 16 (by omega) (by omega)]
    omega
  refine ⟨?_, fun i h1 h2 => ?_⟩
  · unfold T1 upd
    rw [if_pos rfl, h32]
    unfold foldF
    rw [if_pos (by omega), Nat.add_zero, h16]
    omega
  · unfold T1 upd
    rw [if_neg (by omega)]
    unfold foldF
    rw [if_pos h2, hl i h1 h2]
    omega

theorem Jl.next {k : Nat} {t : Nat → Int} (hk : k < 3) (h : Jl k t) : Jl (k + 1) (T1 t) := by
  have hB := h.b48 (by omega)
  have hc : k = 0 ∨ k = 1 ∨ k = 2 := by omega
  rcases hc with rfl | rfl | rfl
  · have hcf := cf_bd hB 32 (by omega)
    have hlo := lo_dig t 32
    refine ⟨fun i a _ => T1_up t i a, ?_, fun i h1 h2 => ?_⟩
    · unfold T1 upd foldF
      have := hlo 0 (by omega)
      have := hlo 16 (by omega)
      simp
      omega
    · unfold T1 upd foldF
      have := hlo i (by omega)
      have := hlo (16 + i) (by omega)
      rw [if_neg (by omega), if_pos h2]
      omega
  · obtain ⟨hz, h0, hi⟩ := h
    have c0 : cf t 0 = 0 := rfl
    have c1 : 0 ≤ cf t 1 ∧ cf t 1 ≤ 268435456 := by show 0 ≤ (t 0 + cf t 0) / 65536 ∧ (t 0 + cf t 0) / 65536 ≤ 268435456; rw [c0]; omega
    have c2 : 0 ≤ cf t 2 ∧ cf t 2 ≤ 5000 := by
      have := hi 1 (by omega) (by omega)
      show 0 ≤ (t 1 + cf t 1) / 65536 ∧ (t 1 + cf t 1) / 65536 ≤ 5000
      omega
    have c3 : ∀ j, 3 + j ≤ 16 → 0 ≤ cf t (3 + j) ∧ cf t (3 + j) ≤ 39 := by
      intro j
      induction j with
      | zero =>
        intro _
        have := hi 2 (by omega) (by omega)
        show 0 ≤ (t 2 + cf t 2) / 65536 ∧ (t 2 + cf t 2) / 65536 ≤ 39
        omega
      | succ j ih =>
        intro hj
        have ih := ih (by omega)
        have := hi (3 + j) (by omega) (by omega)
        show 0 ≤ (t (3 + j) + cf t (3 + j)) / 65536 ∧ (t (3 + j) + cf t (3 + j)) / 65536 ≤ 39
        omega
    have h16 := c3 13 (by omega)
    rw [show 3 + 13 = 16 from rfl] at h16
    have hT := T1_low hz (by omega)
    have hlo := lo_dig t 32
    refine ⟨fun i a _ => T1_up t i a, ?_, fun i h1 h2 => ?_⟩
    · rw [hT.1]
      have := hlo 0 (by omega)
      omega
    · rw [hT.2 i h1 h2]
      have := hlo i (by omega)
      omega
  · obtain ⟨hz, h0, hi⟩ := h
    have c0 : cf t 0 = 0 := rfl
    have c1 : 0 ≤ cf t 1 ∧ cf t 1 ≤ 1 := by show 0 ≤ (t 0 + cf t 0) / 65536 ∧ (t 0 + cf t 0) / 65536 ≤ 1; rw [c0]; omega
    have c3 : ∀ j, 1 + j ≤ 16 → 0 ≤ cf t (1 + j) ∧ cf t (1 + j) ≤ cf t 1 := by
      intro j
      induction j with
      | zero => intro _; show 0 ≤ cf t 1 ∧ cf t 1 ≤ cf t 1; omega
      | succ j ih =>
        intro hj
        have ih := ih (by omega)
        have := hi (1 + j) (by omega) (by omega)
        show 0 ≤ (t (1 + j) + cf t (1 + j)) / 65536 ∧ (t (1 + j) + cf t (1 + j)) / 65536 ≤ cf t 1
        omega
    have h16 := c3 15 (by omega)
    rw [show 1 + 15 = 16 from rfl] at h16
    have hT := T1_low hz (by omega)
    have hlo := lo_dig t 32
    have e1 : cf t 1 = (t 0 + cf t 0) / 65536 := rfl
    have el : lo t 0 = (t 0 + cf t 0) % 65536 := rfl
    rw [c0] at e1 el
    refine ⟨fun i a _ => T1_up t i a, fun i h2 => ?_⟩
    by_cases hi0 : i = 0
    · rw [hi0, hT.1]
      omega
    · rw [hT.2 i (by omega) h2]
      exact hlo i (by omega)

theorem cf_none {t : Nat → Int} (h : Dig t 16) : ∀ k, k ≤ 16 → cf t k = 0
  | 0, _ => rfl
  | k + 1, hk => by
    have := h k (by omega)
    show (t k + cf t k) / 65536 = 0
    rw [cf_none h k (by omega)]
    omega

/-- The digits of a number. -/
def d16 (N : Int) : Nat → Int := fun i => N / 65536 ^ i % 65536

theorem S_inj {f g : Nat → Int} : ∀ {n : Nat}, Dig f n → Dig g n → S f n = S g n → ∀ i, i < n → f i = g i
  | 0, _, _, _, i, hi => by omega
  | n + 1, hf, hg, h, i, hi => by
    have bf := S_bd (hf.le (m := n) (by omega))
    have bg := S_bd (hg.le (m := n) (by omega))
    have hp := p16 n
    simp only [S] at h
    have hn : f n = g n := by
      apply Classical.byContradiction
      intro hne
      have : f n < g n ∨ g n < f n := by omega
      rcases this with hl | hl
      · have : (g n - f n) * 65536 ^ n ≥ 1 * 65536 ^ n := Int.mul_le_mul_of_nonneg_right (by omega) (by omega)
        rw [Int.sub_mul] at this
        omega
      · have : (f n - g n) * 65536 ^ n ≥ 1 * 65536 ^ n := Int.mul_le_mul_of_nonneg_right (by omega) (by omega)
        rw [Int.sub_mul] at this
        omega
    by_cases hin : i = n
    · rw [hin]; exact hn
    · refine S_inj (n := n) (hf.le (by omega)) (hg.le (by omega)) ?_ i (by omega)
      rw [hn] at h
      omega

theorem d16_dig (N : Int) (n : Nat) : Dig (d16 N) n := fun i _ => by unfold d16; omega

theorem d16_S (N : Int) (h0 : 0 ≤ N) : ∀ n, S (d16 N) n = N % 65536 ^ n
  | 0 => by simp [S]
  | n + 1 => by
    simp only [S]
    rw [d16_S N h0 n, d16, Int.pow_succ]
    have hp := p16 n
    generalize (65536 : Int) ^ n = X at *
    have a := Int.mul_ediv_add_emod N X
    have b := Int.mul_ediv_add_emod (N / X) 65536
    have r0 := Int.emod_nonneg N (by omega : X ≠ 0)
    have r1 := Int.emod_lt_of_pos N hp
    have hN : N = (N % X + N / X % 65536 * X) + X * 65536 * (N / X / 65536) := by
      have e : X * (N / X) = X * (65536 * (N / X / 65536) + N / X % 65536) := by rw [b]
      rw [Int.mul_add] at e
      rw [Int.mul_comm (N / X % 65536) X, Int.mul_assoc]
      omega
    have q : N / X % 65536 * X ≤ 65535 * X := Int.mul_le_mul_of_nonneg_right (by omega) (by omega)
    have q0 : 0 ≤ N / X % 65536 * X := Int.mul_nonneg (by omega) (by omega)
    have hM : N % (X * 65536) = (N % X + N / X % 65536 * X + X * 65536 * (N / X / 65536)) % (X * 65536) := by rw [← hN]
    rw [hM, Int.add_mul_emod_self_left]
    exact (Int.emod_eq_of_lt (by omega) (by omega)).symm

end Go.Proofs.Ytiiniodidkfbiaa
