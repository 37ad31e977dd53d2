/- What the parts of the program mean: sums, products, what is carried, the least, bytes. -/
import Derived.Test.YtenafinbaanicaaDoorP2
import Derived.Test.YtenafinbaanicaaDoorP7
namespace Go.Proofs.YtenafinbaanicaaDoor.Pol
open Go.RowKit

theorem pB5 : (67108864 : Int) ^ 5 = 1361129467683753853853498429727072845824 := by decide
theorem s5_val (a : Nat → Int) (h : ∀ i, i < 5 → 0 ≤ a i ∧ a i < 4611686018427387904) : (c5 a = V 67108864 5 a / 1361129467683753853853498429727072845824 ∧ V 67108864 5 (s5 a) = V 67108864 5 a % 1361129467683753853853498429727072845824) ∧ (∀ i, i < 5 → 0 ≤ s5 a i ∧ s5 a i < 67108864) ∧ 0 ≤ c5 a ∧ c5 a < 4611686018427387904 := by
  have C := chain26 a 5 h
  have H := C.cut (by decide)
  rw [pB5] at H
  exact ⟨H, C.dig, C.c0, C.c1⟩
theorem V0 (b : Int) (n : Nat) (f : Nat → Int) (x : Int) (h : 0 < n) : V b n (upd f 0 x) = V b n f + (x - f 0) := by
  rw [V_upd b n f 0 x h]
  simp
theorem up_at (f : Nat → Int) (k : Nat) (x : Int) : upd f k x k = x := if_pos rfl
theorem up_ne (f : Nat → Int) (k : Nat) (x : Int) {j : Nat} (h : j ≠ k) : upd f k x j = f j := if_neg h
theorem cr1_val (a : Nat → Int) (h : ∀ i, i < 5 → 0 ≤ a i ∧ a i < 1152921504606846976) : V 67108864 5 (cr1 a) = V 67108864 5 a % 1361129467683753853853498429727072845824 + 5 * (V 67108864 5 a / 1361129467683753853853498429727072845824) ∧ (∀ i, i < 5 → 0 ≤ cr1 a i ∧ cr1 a i < 67108864 + 5 * (V 67108864 5 a / 1361129467683753853853498429727072845824)) ∧ 0 ≤ V 67108864 5 a / 1361129467683753853853498429727072845824 ∧ V 67108864 5 a / 1361129467683753853853498429727072845824 < 34359738368 := by
  obtain ⟨⟨h1, h2⟩, h3, h4, h5⟩ := s5_val a (fun i hi => by have := h i hi; omega)
  have n0 := V_nn 67108864 (by decide) 5 a (fun i hi => (h i hi).1)
  have n1 := V_le 67108864 (by decide) 34359738368 (by decide) 5 a (fun i hi => by have := h i hi; omega)
  rw [pB5] at n1
  have q0 : 0 ≤ V 67108864 5 a / 1361129467683753853853498429727072845824 := by omega
  have q1 : V 67108864 5 a / 1361129467683753853853498429727072845824 < 34359738368 := by omega
  have z := h3 0 (by decide)
  have e : cr1 a = upd (s5 a) 0 (s5 a 0 + 5 * (V 67108864 5 a / 1361129467683753853853498429727072845824)) := by
    unfold cr1
    rw [h1]
    generalize V 67108864 5 a / 1361129467683753853853498429727072845824 = q at *
    rw [um_eq q 5 (by omega) (by omega), ua_eq _ _ (by omega) (by omega), Int.mul_comm]
  refine ⟨?_, ?_, q0, q1⟩
  · rw [e, V0 _ _ _ _ (by decide), h2]
    omega
  · intro i hi
    have := h3 i hi
    rw [e]
    by_cases c : i = 0
    · subst c
      rw [up_at]
      omega
    · rw [up_ne _ _ _ c]
      omega
/-- Parts of a number that may be gone on with. -/
structure Good (h : Nat → Int) : Prop where
  part : ∀ i, i < 5 → 0 ≤ h i ∧ h i < 67108870
  lt : V 67108864 5 h < 1361129467683753853853498429727072845824
theorem Good.nn {h : Nat → Int} (g : Good h) : 0 ≤ V 67108864 5 h := V_nn _ (by decide) 5 h (fun i hi => (g.part i hi).1)
theorem cr_val (a : Nat → Int) (h : ∀ i, i < 5 → 0 ≤ a i ∧ a i < 1152921504606846976) : Good (crF a) ∧ ∃ k, V 67108864 5 a = V 67108864 5 (crF a) + k * 1361129467683753853853498429727072845819 := by
  obtain ⟨h1, h2, h3, h4⟩ := cr1_val a h
  have n0 := V_nn 67108864 (by decide) 5 a (fun i hi => (h i hi).1)
  obtain ⟨g1, g2, g3, g4⟩ := cr1_val (cr1 a) (fun i hi => by have := h2 i hi; omega)
  have e : crF a = cr1 (cr1 a) := rfl
  rw [h1] at g1 g2 g3
  rw [e]
  have f1 : V 67108864 5 (cr1 (cr1 a)) < 1361129467683753853853498429727072845824 := by
    rw [g1]
    generalize V 67108864 5 a = v at *
    omega
  have f2 : (V 67108864 5 a % 1361129467683753853853498429727072845824 + 5 * (V 67108864 5 a / 1361129467683753853853498429727072845824)) / 1361129467683753853853498429727072845824 ≤ 1 := by
    generalize V 67108864 5 a = v at *
    omega
  refine ⟨⟨fun i hi => ?_, f1⟩, V 67108864 5 a / 1361129467683753853853498429727072845824 + (V 67108864 5 a % 1361129467683753853853498429727072845824 + 5 * (V 67108864 5 a / 1361129467683753853853498429727072845824)) / 1361129467683753853853498429727072845824, ?_⟩
  · have := g2 i hi
    omega
  · rw [g1]
    generalize V 67108864 5 a = v at *
    omega
theorem pls_at (a b : Nat → Int) : ∀ n i, pls a b n i = if i < n then ua (a i) (b i) else a i
  | 0, i => by rw [if_neg (by omega)]; rfl
  | n + 1, i => by
    unfold pls
    by_cases e : i = n
    · subst e
      rw [up_at, pls_at a b i i, if_neg (by omega), if_pos (by omega)]
    · rw [up_ne _ _ _ e, pls_at a b n i]
      by_cases h : i < n
      · rw [if_pos h, if_pos (by omega)]
      · rw [if_neg h, if_neg (by omega)]
theorem pl_val' (a b : Nat → Int) (ha : ∀ i, i < 5 → 0 ≤ a i ∧ a i < 134217728) (hb : ∀ i, i < 5 → 0 ≤ b i ∧ b i < 134217728) : (∀ i, i < 5 → 0 ≤ plF a b i ∧ plF a b i < 268435456) ∧ V 67108864 5 (plF a b) = V 67108864 5 a + V 67108864 5 b := by
  have e : ∀ i, i < 5 → plF a b i = a i + b i := fun i hi => by
    have h1 := ha i hi
    have h2 := hb i hi
    unfold plF
    rw [pls_at, if_pos hi, ua_eq _ _ (by omega) (by omega)]
  refine ⟨fun i hi => ?_, ?_⟩
  · rw [e i hi]
    have h1 := ha i hi
    have h2 := hb i hi
    omega
  · rw [V_congr _ 5 _ (fun i => a i + b i) e, V_add]
theorem tr_val (b : Int) (m : Nat) (x y P : Nat → Int) (n i : Nat) (hm : ∀ j, j < n → i + j < m) (M C : Int) (hM : 0 ≤ M) (hC : C + M < 4611686018427387904) (hP : ∀ k, 0 ≤ P k ∧ P k ≤ C) (hxy : ∀ j, j < n → 0 ≤ x i * y j ∧ x i * y j ≤ M) :
    ∀ j, j ≤ n → (∀ k, 0 ≤ tr P x y i j k ∧ tr P x y i j k ≤ (if k < i + j then C + M else C)) ∧ V b m (tr P x y i j) = V b m P + x i * b ^ i * V b j y
  | 0, _ => by
    refine ⟨fun k => ?_, ?_⟩
    · have := hP k
      show 0 ≤ P k ∧ P k ≤ _
      split <;> omega
    · show V b m P = _
      simp [V]
  | j + 1, h => by
    obtain ⟨h1, h2⟩ := tr_val b m x y P n i hm M C hM hC hP hxy j (by omega)
    have hp := hxy j (by omega)
    have hq := h1 (i + j)
    rw [if_neg (by omega)] at hq
    have e : tr P x y i (j + 1) = upd (tr P x y i j) (i + j) (tr P x y i j (i + j) + x i * y j) := by
      show upd (tr P x y i j) (i + j) (ua (tr P x y i j (i + j)) (um (x i) (y j))) = _
      rw [um_eq _ _ hp.1 (by omega), ua_eq _ _ (by omega) (by omega)]
    rw [e]
    refine ⟨fun k => ?_, ?_⟩
    · by_cases c : k = i + j
      · subst c
        rw [up_at, if_pos (by omega)]
        omega
      · rw [up_ne _ _ _ c]
        have h3 := h1 k
        by_cases d : k < i + j
        · rw [if_pos d] at h3
          rw [if_pos (by omega)]
          exact h3
        · rw [if_neg d] at h3
          rw [if_neg (by omega)]
          exact h3
    · rw [V_upd b m _ _ _ (hm j (by omega)), h2]
      show _ = V b m P + x i * b ^ i * (V b j y + y j * b ^ j)
      rw [Int.pow_add]
      grind
theorem tp_val (b : Int) (m n : Nat) (x y : Nat → Int) (hm : ∀ i j, i < n → j < n → i + j < m) (M : Int) (hM : 0 ≤ M) (hC : (n : Int) * M < 4611686018427387904) (hxy : ∀ i j, i < n → j < n → 0 ≤ x i * y j ∧ x i * y j ≤ M) :
    ∀ i, i ≤ n → (∀ k, 0 ≤ tp n x y i k ∧ tp n x y i k ≤ (i : Int) * M) ∧ V b m (tp n x y i) = V b i x * V b n y
  | 0, _ => by
    refine ⟨fun k => by simp [tp], ?_⟩
    have : ∀ m, V b m (fun _ => 0) = 0 := fun m => by
      induction m with
      | zero => rfl
      | succ m ih => simp [V, ih]
    show V b m (fun _ => 0) = _
    rw [this]
    simp [V]
  | i + 1, h => by
    obtain ⟨h1, h2⟩ := tp_val b m n x y hm M hM hC hxy i (by omega)
    have e : ((i + 1 : Nat) : Int) * M = (i : Int) * M + M := by
      rw [Int.natCast_add, Int.add_mul]
      simp
    have hle : ((i + 1 : Nat) : Int) * M ≤ (n : Int) * M := Int.mul_le_mul_of_nonneg_right (by omega) hM
    obtain ⟨g1, g2⟩ := tr_val b m x y (tp n x y i) n i (fun j hj => hm i j (by omega) hj) M ((i : Int) * M) hM (by omega) h1 (fun j hj => hxy i j (by omega) hj) n (Nat.le_refl _)
    refine ⟨fun k => ?_, ?_⟩
    · have h3 := g1 k
      show 0 ≤ tr (tp n x y i) x y i n k ∧ tr (tp n x y i) x y i n k ≤ _
      rw [e]
      split at h3 <;> omega
    · show V b m (tr (tp n x y i) x y i n) = (V b i x + x i * b ^ i) * V b n y
      rw [g2, h2, Int.add_mul]
theorem tlo_at (P : Nat → Int) : ∀ n k, tlo P n k = if k < n then ua (P k) (um (P (5 + k)) 5) else P k
  | 0, k => by rw [if_neg (by omega)]; rfl
  | n + 1, k => by
    unfold tlo
    by_cases e : k = n
    · subst e
      rw [up_at, tlo_at P k k, if_neg (by omega), if_pos (by omega)]
    · rw [up_ne _ _ _ e, tlo_at P n k]
      by_cases h : k < n
      · rw [if_pos h, if_pos (by omega)]
      · rw [if_neg h, if_neg (by omega)]
/-- The product. -/
theorem tm_val (x y : Nat → Int) (hx : ∀ i, i < 5 → 0 ≤ x i ∧ x i < 268435456) (hy : ∀ i, i < 5 → 0 ≤ y i ∧ y i < 67108864) : Good (tmF x y) ∧ ∃ k, V 67108864 5 x * V 67108864 5 y = V 67108864 5 (tmF x y) + k * 1361129467683753853853498429727072845819 := by
  obtain ⟨h1, h2⟩ := tp_val 67108864 9 5 x y (fun i j hi hj => by omega) 18014398509481984 (by decide) (by decide) (fun i j hi hj => by
    have a := hx i hi
    have c := hy j hj
    refine ⟨Int.mul_nonneg a.1 c.1, ?_⟩
    have := Int.mul_le_mul (show x i ≤ 268435456 by omega) (show y j ≤ 67108864 by omega) c.1 (by decide)
    exact this) 5 (Nat.le_refl _)
  unfold tmF
  generalize tp 5 x y 5 = P at *
  have hP : ∀ k, 0 ≤ P k ∧ P k ≤ 90071992547409920 := fun k => by
    have := h1 k
    omega
  have e : ∀ i, i < 5 → tlo P 4 i = P i + (if i < 4 then 5 * P (5 + i) else 0) := fun i hi => by
    have a := hP i
    have c := hP (5 + i)
    rw [tlo_at]
    by_cases d : i < 4
    · rw [if_pos d, if_pos d, um_eq _ _ (by omega) (by omega), ua_eq _ _ (by omega) (by omega), Int.mul_comm]
    · rw [if_neg d, if_neg d, Int.add_zero]
  obtain ⟨g, k, hk⟩ := cr_val (tlo P 4) (fun i hi => by
    have a := hP i
    have c := hP (5 + i)
    rw [e i hi]
    split <;> omega)
  refine ⟨g, k + V 67108864 4 (fun i => P (5 + i)), ?_⟩
  have f : V 67108864 5 (tlo P 4) = V 67108864 5 P + 5 * V 67108864 4 (fun i => P (5 + i)) := by
    rw [V_congr _ 5 _ (fun i => P i + (if i < 4 then 5 * P (5 + i) else 0)) e, V_add, ← V_mul]
    show V 67108864 5 P + (V 67108864 4 (fun i => if i < 4 then 5 * P (5 + i) else 0) + (if 4 < 4 then 5 * P (5 + 4) else 0) * 67108864 ^ 4) = _
    rw [V_congr _ 4 (fun i => if i < 4 then 5 * P (5 + i) else 0) (fun i => 5 * P (5 + i)) (fun i hi => if_pos hi), if_neg (by decide)]
    omega
  have s := V_split 67108864 5 4 P
  rw [pB5] at s
  rw [← h2]
  have s2 : V 67108864 9 P = V 67108864 5 P + 1361129467683753853853498429727072845824 * V 67108864 4 (fun i => P (5 + i)) := s
  rw [s2]
  generalize V 67108864 4 (fun i => P (5 + i)) = hi at *
  omega
/-- The least. -/
theorem ls_val (a : Nat → Int) (g : Good a) : (∀ i, i < 5 → 0 ≤ lsF a i ∧ lsF a i < 67108864) ∧ V 67108864 5 (lsF a) = V 67108864 5 a % 1361129467683753853853498429727072845819 := by
  have n0 := g.nn
  have n1 := g.lt
  have p0 := g.part 0 (by decide)
  have e1 : mo5 a = upd a 0 (a 0 + 5) := by
    unfold mo5
    rw [ua_eq _ _ (by omega) (by omega)]
  obtain ⟨⟨h1, -⟩, -, h4, h5⟩ := s5_val (mo5 a) (fun i hi => by
    have := g.part i hi
    rw [e1]
    by_cases c : i = 0
    · subst c
      rw [up_at]
      omega
    · rw [up_ne _ _ _ c]
      omega)
  rw [e1, V0 _ _ _ _ (by decide)] at h1
  have e2 : lsF a = s5 (upd a 0 (a 0 + 5 * c5 (mo5 a))) := by
    unfold lsF
    rw [e1]
    generalize c5 (upd a 0 (a 0 + 5)) = q at *
    have : q ≤ 1 := by
      rw [h1]
      omega
    rw [um_eq _ _ (by rw [← e1] at *; omega) (by omega), ua_eq _ _ (by omega) (by omega), Int.mul_comm]
  rw [← e1] at h1
  generalize c5 (mo5 a) = q at *
  have q1 : q ≤ 1 := by
    rw [h1]
    omega
  have q0 : 0 ≤ q := by
    rw [h1]
    omega
  obtain ⟨⟨-, k2⟩, k3, -, -⟩ := s5_val (upd a 0 (a 0 + 5 * q)) (fun i hi => by
    have := g.part i hi
    by_cases c : i = 0
    · subst c
      rw [up_at]
      omega
    · rw [up_ne _ _ _ c]
      omega)
  rw [e2]
  refine ⟨k3, ?_⟩
  rw [k2, V0 _ _ _ _ (by decide)]
  generalize V 67108864 5 a = v at *
  clear k2 k3 e2
  rcases (show q = 0 ∨ q = 1 by omega) with rfl | rfl
  · omega
  · omega

end Go.Proofs.YtenafinbaanicaaDoor.Pol
