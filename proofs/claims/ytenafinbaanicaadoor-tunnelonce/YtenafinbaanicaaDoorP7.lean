/- Words of 64 bits as numbers; numbers in parts: their value, and what is carried. -/
import Derived.Test.YtenafinbaanicaaDoorP1
namespace Go.Proofs.YtenafinbaanicaaDoor.Pol
open Go.RowKit

theorem ua_eq (x y : Int) (h0 : 0 ≤ x + y) (h1 : x + y < 18446744073709551616) : ua x y = x + y := by
  unfold ua
  simp [IntKind.wrap, IntKind.signed, IntKind.bits]
  omega
theorem um_eq (x y : Int) (h0 : 0 ≤ x * y) (h1 : x * y < 18446744073709551616) : um x y = x * y := by
  unfold um
  simp [IntKind.wrap, IntKind.signed, IntKind.bits]
  omega
theorem sl_eq (x : Int) (n : Nat) (h0 : 0 ≤ x * 2 ^ n) (h1 : x * 2 ^ n < 18446744073709551616) : sl x n = x * 2 ^ n := by
  unfold sl
  simp [IntKind.wrap, IntKind.signed, IntKind.bits]
  omega
theorem sr_eq (x : Int) (n : Nat) : sr x n = x / 2 ^ n := by
  unfold sr
  rw [Int.fdiv_eq_ediv_of_nonneg x (Int.le_of_lt (Int.pow_pos (by decide)))]
theorem cv8_eq (x : Int) : cv .u8 x = x % 256 := by
  unfold cv
  simp [IntKind.wrap, IntKind.signed, IntKind.bits]
theorem cv64_eq (x : Int) (h0 : 0 ≤ x) (h1 : x < 18446744073709551616) : cv .u64 x = x := by
  unfold cv
  simp [IntKind.wrap, IntKind.signed, IntKind.bits]
  omega
theorem wrap_bv (b : BitVec 64) : IntKind.wrap .u64 (b.toNat : Int) = (b.toNat : Int) := by
  have := b.isLt
  simp [IntKind.wrap, IntKind.signed, IntKind.bits]
  omega
theorem bv_nat (n : Nat) (h : n < 18446744073709551616) : (BitVec.ofInt 64 (n : Int)).toNat = n := by
  rw [BitVec.toNat_ofInt]
  omega
theorem un_nat (n m : Nat) (hn : n < 18446744073709551616) (hm : m < 18446744073709551616) : un (n : Int) (m : Int) = ((n &&& m : Nat) : Int) := by
  unfold un
  rw [wrap_bv, BitVec.toNat_and, bv_nat n hn, bv_nat m hm]
theorem uo_nat (n m : Nat) (hn : n < 18446744073709551616) (hm : m < 18446744073709551616) : uo (n : Int) (m : Int) = ((n ||| m : Nat) : Int) := by
  unfold uo
  rw [wrap_bv, BitVec.toNat_or, bv_nat n hn, bv_nat m hm]
theorem un_low (k : Nat) (hk : k ≤ 63) (x : Int) (h0 : 0 ≤ x) (h1 : x < 18446744073709551616) : un x (((2 ^ k - 1 : Nat) : Nat) : Int) = x % ((2 ^ k : Nat) : Int) := by
  obtain ⟨n, rfl⟩ : ∃ n : Nat, x = (n : Int) := ⟨x.toNat, by omega⟩
  have hp : 2 ^ k ≤ 2 ^ 63 := Nat.pow_le_pow_right (by decide) hk
  rw [un_nat n _ (by omega) (by omega), Nat.and_two_pow_sub_one_eq_mod]
  omega
theorem un26 (x : Int) (h0 : 0 ≤ x) (h1 : x < 18446744073709551616) : un x 67108863 = x % 67108864 := un_low 26 (by decide) x h0 h1
theorem un8 (x : Int) (h0 : 0 ≤ x) (h1 : x < 18446744073709551616) : un x 255 = x % 256 := un_low 8 (by decide) x h0 h1
theorem un2 (x : Int) (h0 : 0 ≤ x) (h1 : x < 18446744073709551616) : un x 3 = x % 4 := un_low 2 (by decide) x h0 h1
theorem un4 (x : Int) (h0 : 0 ≤ x) (h1 : x < 18446744073709551616) : un x 15 = x % 16 := un_low 4 (by decide) x h0 h1
/-- Bits that do not meet are added. -/
theorem uo_add (k : Nat) (x y : Int) (h0 : 0 ≤ x) (h1 : x < ((2 ^ k : Nat) : Int)) (h2 : 0 ≤ y) (h3 : x + y * ((2 ^ k : Nat) : Int) < 18446744073709551616) : uo x (y * ((2 ^ k : Nat) : Int)) = x + y * ((2 ^ k : Nat) : Int) := by
  obtain ⟨n, rfl⟩ : ∃ n : Nat, x = (n : Int) := ⟨x.toNat, by omega⟩
  obtain ⟨m, rfl⟩ : ∃ m : Nat, y = (m : Int) := ⟨y.toNat, by omega⟩
  have hn : n < 2 ^ k := by omega
  have e : ((m : Int) * ((2 ^ k : Nat) : Int)) = ((2 ^ k * m : Nat) : Int) := by rw [Nat.mul_comm, Int.natCast_mul]
  rw [e] at h3 ⊢
  rw [uo_nat n _ (by omega) (by omega), Nat.or_comm, ← Nat.two_pow_add_eq_or_of_lt hn]
  omega

/-- The value of the first n parts. -/
def V (b : Int) : Nat → (Nat → Int) → Int
  | 0, _ => 0
  | n + 1, f => V b n f + f n * b ^ n
theorem V_congr (b : Int) : ∀ (n : Nat) (f g : Nat → Int), (∀ i, i < n → f i = g i) → V b n f = V b n g
  | 0, _, _, _ => rfl
  | n + 1, f, g, h => by
    unfold V
    rw [V_congr b n f g (fun i hi => h i (by omega)), h n (by omega)]
theorem V_upd (b : Int) : ∀ (n : Nat) (f : Nat → Int) (k : Nat) (x : Int), k < n → V b n (upd f k x) = V b n f + (x - f k) * b ^ k
  | 0, _, _, _, h => absurd h (by omega)
  | n + 1, f, k, x, h => by
    unfold V
    by_cases e : k = n
    · subst e
      rw [V_congr b k (upd f k x) f (fun i hi => if_neg (by omega)), show upd f k x k = x from if_pos rfl, Int.sub_mul]
      omega
    · rw [V_upd b n f k x (by omega), show upd f k x n = f n from if_neg (by omega)]
      omega
theorem V_add (b : Int) : ∀ (n : Nat) (f g : Nat → Int), V b n (fun i => f i + g i) = V b n f + V b n g
  | 0, _, _ => rfl
  | n + 1, f, g => by
    unfold V
    rw [V_add b n f g, Int.add_mul]
    omega
theorem V_mul (b c : Int) : ∀ (n : Nat) (f : Nat → Int), V b n (fun i => c * f i) = c * V b n f
  | 0, _ => by simp [V]
  | n + 1, f => by
    unfold V
    rw [V_mul b c n f, Int.mul_add, Int.mul_assoc]
theorem V_split (b : Int) (n : Nat) : ∀ (m : Nat) (f : Nat → Int), V b (n + m) f = V b n f + b ^ n * V b m (fun i => f (n + i))
  | 0, _ => by simp [V]
  | m + 1, f => by
    show V b (n + m) f + f (n + m) * b ^ (n + m) = _
    rw [V_split b n m f]
    show _ = V b n f + b ^ n * (V b m (fun i => f (n + i)) + f (n + m) * b ^ m)
    rw [Int.mul_add, Int.pow_add]
    have : f (n + m) * (b ^ n * b ^ m) = b ^ n * (f (n + m) * b ^ m) := by grind
    omega
theorem V_nn (b : Int) (hb : 0 ≤ b) : ∀ (n : Nat) (f : Nat → Int), (∀ i, i < n → 0 ≤ f i) → 0 ≤ V b n f
  | 0, _, _ => by simp [V]
  | n + 1, f, h => by
    unfold V
    have h1 := V_nn b hb n f (fun i hi => h i (by omega))
    have h2 := Int.mul_nonneg (h n (by omega)) (show (0 : Int) ≤ b ^ n from Int.pow_nonneg hb)
    omega
/-- Parts below a bound: the value is below as much of the next power. -/
theorem V_le (b : Int) (hb : 2 ≤ b) (c : Int) (hc : 0 ≤ c) : ∀ (n : Nat) (f : Nat → Int), (∀ i, i < n → f i ≤ c * (b - 1)) → V b n f ≤ c * (b ^ n - 1)
  | 0, _, _ => by simp [V]
  | n + 1, f, h => by
    unfold V
    have h1 := V_le b hb c hc n f (fun i hi => h i (by omega))
    have hp : 0 ≤ b ^ n := Int.pow_nonneg (by omega)
    have h2 := Int.mul_le_mul_of_nonneg_right (h n (by omega)) hp
    have e : c * (b - 1) * b ^ n = c * (b ^ (n + 1) - 1) - c * (b ^ n - 1) := by
      rw [Int.pow_succ]
      grind
    omega
theorem V_lt (b : Int) (hb : 2 ≤ b) (n : Nat) (f : Nat → Int) (h : ∀ i, i < n → f i < b) : V b n f < b ^ n := by
  have := V_le b hb 1 (by decide) n f (fun i hi => by have := h i hi; omega)
  omega
/-- A chain of carries. -/
structure Ch (b : Int) (a : Nat → Int) (j : Nat) (c : Int) (s : Nat → Int) : Prop where
  c0 : 0 ≤ c
  c1 : c < 4611686018427387904
  val : V b j s + c * b ^ j = V b j a
  dig : ∀ i, i < j → 0 ≤ s i ∧ s i < b
theorem chain (m : Int) (sh : Nat) (b : Int) (hb : 2 ≤ b) (hm : ∀ x, 0 ≤ x → x < 18446744073709551616 → un x m = x % b) (hs : ∀ x, sr x sh = x / b) (a : Nat → Int) : ∀ (j : Nat), (∀ i, i < j → 0 ≤ a i ∧ a i < 4611686018427387904) → Ch b a j (cy sh a j) (st m sh a j)
  | 0, _ => ⟨by simp [cy], by simp [cy], by simp [V, cy], fun i hi => absurd hi (by omega)⟩
  | j + 1, h => by
    have ih := chain m sh b hb hm hs a j (fun i hi => h i (by omega))
    have hj := h j (by omega)
    have c0 := ih.c0
    have c1 := ih.c1
    have e1 : ua (a j) (cy sh a j) = a j + cy sh a j := ua_eq _ _ (by omega) (by omega)
    have e2 : cy sh a (j + 1) = (a j + cy sh a j) / b := by
      show sr (ua (a j) (cy sh a j)) sh = _
      rw [e1, hs]
    have e3 : st m sh a (j + 1) = upd (st m sh a j) j ((a j + cy sh a j) % b) := by
      show upd (st m sh a j) j (un (ua (a j) (cy sh a j)) m) = _
      rw [e1, hm _ (by omega) (by omega)]
    have hx : 0 ≤ a j + cy sh a j := by omega
    have hx1 : a j + cy sh a j < 9223372036854775808 := by omega
    have hv := ih.val
    have hd := ih.dig
    rw [e2, e3]
    generalize cy sh a j = c at *
    generalize st m sh a j = s at *
    have q0 : 0 ≤ (a j + c) / b := Int.ediv_nonneg hx (by omega)
    have r0 : 0 ≤ (a j + c) % b := Int.emod_nonneg _ (by omega)
    have r1 : (a j + c) % b < b := Int.emod_lt_of_pos _ (by omega)
    have eq : (a j + c) % b + b * ((a j + c) / b) = a j + c := Int.emod_add_mul_ediv _ _
    refine ⟨q0, ?_, ?_, ?_⟩
    · have : 2 * ((a j + c) / b) ≤ b * ((a j + c) / b) := Int.mul_le_mul_of_nonneg_right hb q0
      omega
    · unfold V
      rw [V_congr b j (upd s j _) s (fun i hi => if_neg (by omega)), show upd s j ((a j + c) % b) j = (a j + c) % b from if_pos rfl, Int.pow_succ]
      generalize (a j + c) / b = q at *
      generalize (a j + c) % b = r at *
      have e : r * b ^ j + q * (b ^ j * b) = (a j + c) * b ^ j := by
        rw [← eq]
        grind
      rw [Int.add_mul] at e
      omega
    · intro i hi
      by_cases e : i = j
      · subst e
        rw [show upd s i ((a i + c) % b) i = (a i + c) % b from if_pos rfl]
        exact ⟨r0, r1⟩
      · rw [show upd s j ((a j + c) % b) i = s i from if_neg e]
        exact hd i (by omega)
theorem sr26 (x : Int) : sr x 26 = x / 67108864 := sr_eq x 26
theorem sr8 (x : Int) : sr x 8 = x / 256 := sr_eq x 8
theorem sr2 (x : Int) : sr x 2 = x / 4 := sr_eq x 2
theorem chain26 (a : Nat → Int) (j : Nat) (h : ∀ i, i < j → 0 ≤ a i ∧ a i < 4611686018427387904) : Ch 67108864 a j (cy 26 a j) (st 67108863 26 a j) := chain 67108863 26 67108864 (by decide) un26 sr26 a j h
theorem chain8 (a : Nat → Int) (j : Nat) (h : ∀ i, i < j → 0 ≤ a i ∧ a i < 4611686018427387904) : Ch 256 a j (cy 8 a j) (st 255 8 a j) := chain 255 8 256 (by decide) un8 sr8 a j h
/-- What is carried out is what is above. -/
theorem Ch.cut {b : Int} {a s : Nat → Int} {j : Nat} {c : Int} (h : Ch b a j c s) (hb : 2 ≤ b) : c = V b j a / b ^ j ∧ V b j s = V b j a % b ^ j := by
  have h0 := V_nn b (by omega) j s (fun i hi => (h.dig i hi).1)
  have h1 := V_lt b hb j s (fun i hi => (h.dig i hi).2)
  have hp : 0 < b ^ j := Int.pow_pos (by omega)
  rw [← h.val]
  constructor
  · rw [Int.add_mul_ediv_right _ _ (by omega), Int.ediv_eq_zero_of_lt h0 h1]
    omega
  · rw [Int.add_mul_emod_self_right, Int.emod_eq_of_lt h0 h1]

end Go.Proofs.YtenafinbaanicaaDoor.Pol
