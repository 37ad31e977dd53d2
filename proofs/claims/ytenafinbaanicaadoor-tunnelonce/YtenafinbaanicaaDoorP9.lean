/- Bytes and parts: what numberOf and text mean; the tag of the program as a number. -/
import Derived.Test.YtenafinbaanicaaDoorP4
import Derived.Test.YtenafinbaanicaaDoorP8
namespace Go.Proofs.YtenafinbaanicaaDoor.Pol
open Go.RowKit

theorem pw_id : ∀ j, j < 17 → (67108864 : Int) ^ (8 * j / 26) * 2 ^ (8 * j % 26) = 256 ^ j := by decide +kernel
theorem pw_small : ∀ j, j < 17 → (0 : Int) < 2 ^ (8 * j % 26) ∧ (2 : Int) ^ (8 * j % 26) ≤ 33554432 ∧ ((2 ^ (8 * j % 26) : Nat) : Int) = 2 ^ (8 * j % 26) := by decide +kernel
theorem nof_val (p : Nat → Int) : ∀ j, j ≤ 17 → (∀ i, i < j → 0 ≤ p i ∧ p i < 256) → (∀ k, 0 ≤ nof p j k ∧ nof p j k < 8589934592 ∧ nof p j k * 67108864 ^ k < 256 ^ j) ∧ V 67108864 5 (nof p j) = V 256 j p
  | 0, _, _ => by
    refine ⟨fun k => ?_, by simp [nof, V]⟩
    show (0 : Int) ≤ 0 ∧ (0 : Int) < _ ∧ (0 : Int) * _ < 256 ^ 0
    simp
  | j + 1, h, hp => by
    obtain ⟨h1, h2⟩ := nof_val p j (by omega) (fun i hi => hp i (by omega))
    have hj := hp j (by omega)
    have e := pw_id j (by omega)
    obtain ⟨s0, s1, s2⟩ := pw_small j (by omega)
    obtain ⟨a0, a1, a2⟩ := h1 (8 * j / 26)
    have hk : 8 * j / 26 < 5 := by omega
    have B0 : (0 : Int) < 67108864 ^ (8 * j / 26) := Int.pow_pos (by decide)
    have e2 : nof p (j + 1) = upd (nof p j) (8 * j / 26) (uo (nof p j (8 * j / 26)) (sl (cv .u64 (p j)) (8 * j % 26))) := rfl
    generalize 8 * j / 26 = k at *
    generalize 8 * j % 26 = r at *
    generalize hS : (2 : Int) ^ r = S at *
    have lt : nof p j k < S := by
      rw [← e] at a2
      refine Int.lt_of_mul_lt_mul_left (a := 67108864 ^ k) ?_ (Int.le_of_lt B0)
      rw [Int.mul_comm]
      exact a2
    have m0 : 0 ≤ p j * S := Int.mul_nonneg hj.1 (by omega)
    have m1 : p j * S ≤ 255 * S := Int.mul_le_mul_of_nonneg_right (by omega) (by omega)
    have e3 : nof p (j + 1) = upd (nof p j) k (nof p j k + p j * S) := by
      rw [e2, cv64_eq _ hj.1 (by omega), sl_eq _ _ (by rw [hS]; exact m0) (by rw [hS]; omega), hS, ← s2]
      rw [← s2] at lt m0 m1 s1
      rw [uo_add r _ _ a0 lt hj.1 (by omega)]
    rw [e3]
    refine ⟨fun i => ?_, ?_⟩
    · by_cases c : i = k
      · subst c
        rw [up_at]
        refine ⟨by omega, by omega, ?_⟩
        have l : nof p j i + p j * S < 256 * S := by omega
        have l2 := Int.mul_lt_mul_of_pos_right l B0
        rw [Int.pow_succ, ← e]
        have l3 : 256 * S * 67108864 ^ i = 67108864 ^ i * S * 256 := by grind
        rw [← l3]
        exact l2
      · rw [up_ne _ _ _ c]
        obtain ⟨b0, b1, b2⟩ := h1 i
        refine ⟨b0, b1, ?_⟩
        rw [Int.pow_succ]
        have : (0 : Int) < 256 ^ j := Int.pow_pos (by decide)
        omega
    · rw [V_upd _ 5 _ _ _ hk, h2]
      show _ = V 256 j p + p j * 256 ^ j
      rw [← e]
      grind
theorem p256 : (256 : Int) ^ 16 = 340282366920938463463374607431768211456 := by decide
theorem noF_val (p : Nat → Int) (hp : ∀ i, i < 17 → 0 ≤ p i ∧ p i < 256) (h16 : p 16 ≤ 1) : (∀ i, i < 5 → 0 ≤ noF p i ∧ noF p i < 67108864) ∧ V 67108864 5 (noF p) = V 256 17 p := by
  obtain ⟨h1, h2⟩ := nof_val p 17 (Nat.le_refl _) hp
  obtain ⟨⟨-, k2⟩, k3, -, -⟩ := s5_val (nof p 17) (fun i _ => by have := h1 i; omega)
  refine ⟨k3, ?_⟩
  have e : V 67108864 5 (noF p) = V 67108864 5 (nof p 17) % 1361129467683753853853498429727072845824 := k2
  rw [e, h2]
  have n0 := V_nn 256 (by decide) 17 p (fun i hi => (hp i hi).1)
  have n1 := V_lt 256 (by decide) 16 p (fun i hi => (hp i (by omega)).2)
  rw [p256] at n1
  have s : V 256 17 p = V 256 16 p + p 16 * 256 ^ 16 := rfl
  rw [p256] at s
  exact Int.emod_eq_of_lt n0 (by omega)
theorem V_pd (b : Int) (f : Nat → Int) (n : Nat) : ∀ m, n ≤ m → V b m (pd f n) = V b n f
  | 0, h => by
    obtain rfl : n = 0 := by omega
    rfl
  | m + 1, h => by
    by_cases e : n = m + 1
    · subst e
      exact V_congr b _ _ _ fun i hi => if_pos hi
    · show V b m (pd f n) + pd f n m * b ^ m = _
      rw [V_pd b f n m (by omega), show pd f n m = 0 from if_neg (by omega)]
      omega
theorem pd_nn (f : Nat → Int) (n : Nat) (hf : ∀ i, 0 ≤ f i ∧ f i < 256) (i : Nat) : 0 ≤ pd f n i ∧ pd f n i < 256 := by
  unfold pd
  split
  · exact hf i
  · decide
/-- The number of a piece. -/
def qN (f : Nat → Int) (n : Nat) : Int := V 256 n f + 256 ^ n
theorem mk_val (f : Nat → Int) (n : Nat) (hn : n ≤ 16) (hf : ∀ i, 0 ≤ f i ∧ f i < 256) : (∀ i, i < 5 → 0 ≤ noF (mk f n) i ∧ noF (mk f n) i < 67108864) ∧ V 67108864 5 (noF (mk f n)) = qN f n := by
  have hb : ∀ i, 0 ≤ mk f n i ∧ mk f n i < 256 := fun i => by
    unfold mk
    by_cases c : i = n
    · rw [c, up_at]
      decide
    · rw [up_ne _ _ _ c]
      exact pd_nn f n hf i
  have h16 : mk f n 16 ≤ 1 := by
    unfold mk
    by_cases c : 16 = n
    · rw [c, up_at]
      decide
    · rw [up_ne _ _ _ c, show pd f n 16 = 0 from if_neg (by omega)]
      decide
  obtain ⟨h1, h2⟩ := noF_val (mk f n) (fun i _ => hb i) h16
  refine ⟨h1, ?_⟩
  rw [h2]
  unfold mk qN
  rw [V_upd _ 17 _ _ _ (by omega), V_pd _ _ _ 17 (by omega), show pd f n n = 0 from if_neg (by omega)]
  omega
/-- A byte of the number by which is multiplied. -/
def rB (b : Nat → Int) (i : Nat) : Int := if i = 3 ∨ i = 7 ∨ i = 11 ∨ i = 15 then b i % 16 else if i = 4 ∨ i = 8 ∨ i = 12 then b i - b i % 4 else b i
theorem nb8_15 (x : Int) (h0 : 0 ≤ x) (h1 : x < 256) : nb8 x 15 = x % 16 := by
  have h : ∀ n : Nat, n < 256 → nb8 (n : Int) 15 = (n : Int) % 16 := by decide +kernel
  have := h x.toNat (by omega)
  rwa [show ((x.toNat : Nat) : Int) = x by omega] at this
theorem db8_3 (x : Int) (h0 : 0 ≤ x) (h1 : x < 256) : db8 x 3 = x - x % 4 := by
  have h : ∀ n : Nat, n < 256 → db8 (n : Int) 3 = (n : Int) - (n : Int) % 4 := by decide +kernel
  have := h x.toNat (by omega)
  rwa [show ((x.toNat : Nat) : Int) = x by omega] at this
theorem rB_nn (b : Nat → Int) (hb : ∀ i, 0 ≤ b i ∧ b i < 256) (i : Nat) : 0 ≤ rB b i ∧ rB b i < 256 := by
  have := hb i
  unfold rB
  split
  · omega
  · split <;> omega
theorem fc_at (b : Nat → Int) (hb : ∀ i, 0 ≤ b i ∧ b i < 256) (i : Nat) (hi : i < 17) : fc2 (fc1 (pd b 16)) i = pd (rB b) 16 i := by
  have e : ∀ k, k < 16 → pd b 16 k = b k := fun k hk => if_pos hk
  have x15 : ∀ k, k < 16 → nb8 (pd b 16 k) 15 = b k % 16 := fun k hk => by rw [e k hk, nb8_15 _ (hb k).1 (hb k).2]
  have x3 : ∀ k, k < 16 → db8 (pd b 16 k) 3 = b k - b k % 4 := fun k hk => by rw [e k hk, db8_3 _ (hb k).1 (hb k).2]
  have f4 : fc1 (pd b 16) 4 = pd b 16 4 := rfl
  have f8 : fc1 (pd b 16) 8 = pd b 16 8 := rfl
  have f12 : fc1 (pd b 16) 12 = pd b 16 12 := rfl
  have hc : i = 0 ∨ i = 1 ∨ i = 2 ∨ i = 3 ∨ i = 4 ∨ i = 5 ∨ i = 6 ∨ i = 7 ∨ i = 8 ∨ i = 9 ∨ i = 10 ∨ i = 11 ∨ i = 12 ∨ i = 13 ∨ i = 14 ∨ i = 15 ∨ i = 16 := by omega
  rcases hc with rfl | rfl | rfl | rfl | rfl | rfl | rfl | rfl | rfl | rfl | rfl | rfl | rfl | rfl | rfl | rfl | rfl
  · rfl
  · rfl
  · rfl
  · exact x15 3 (by decide)
  · exact (congrArg (fun z => db8 z 3) f4).trans (x3 4 (by decide))
  · rfl
  · rfl
  · exact x15 7 (by decide)
  · exact (congrArg (fun z => db8 z 3) f8).trans (x3 8 (by decide))
  · rfl
  · rfl
  · exact x15 11 (by decide)
  · exact (congrArg (fun z => db8 z 3) f12).trans (x3 12 (by decide))
  · rfl
  · rfl
  · exact x15 15 (by decide)
  · rfl
theorem fc_val (b : Nat → Int) (hb : ∀ i, 0 ≤ b i ∧ b i < 256) : (∀ i, i < 5 → 0 ≤ noF (fc2 (fc1 (pd b 16))) i ∧ noF (fc2 (fc1 (pd b 16))) i < 67108864) ∧ V 67108864 5 (noF (fc2 (fc1 (pd b 16)))) = V 256 16 (rB b) := by
  have e := fc_at b hb
  obtain ⟨h1, h2⟩ := noF_val (fc2 (fc1 (pd b 16))) (fun i hi => by rw [e i hi]; exact pd_nn _ _ (rB_nn b hb) i) (by rw [e 16 (by decide)]; exact (by decide : (0 : Int) ≤ 1))
  refine ⟨h1, ?_⟩
  rw [h2, V_congr 256 17 _ _ e, V_pd _ _ _ 17 (by decide)]
theorem plain_val (b : Nat → Int) (hb : ∀ i, 0 ≤ b i ∧ b i < 256) : (∀ i, i < 5 → 0 ≤ noF (pd b 16) i ∧ noF (pd b 16) i < 67108864) ∧ V 67108864 5 (noF (pd b 16)) = V 256 16 b := by
  obtain ⟨h1, h2⟩ := noF_val (pd b 16) (fun i _ => pd_nn b 16 hb i) (by exact (by decide : (0 : Int) ≤ 1))
  refine ⟨h1, ?_⟩
  rw [h2, V_pd _ _ _ 17 (by decide)]
/-- A digit. -/
def dgt (X : Int) (i : Nat) : Int := X / 256 ^ i % 256
theorem dq (i : Nat) (hi : i < 16) : ∃ Q : Int, (2 : Int) ^ (8 * i % 26) * (256 * Q) = 67108864 ^ 2 := ⟨2 ^ (44 - 8 * i % 26), (by decide +kernel : ∀ i, i < 16 → (2 : Int) ^ (8 * i % 26) * (256 * 2 ^ (44 - 8 * i % 26)) = 67108864 ^ 2) i hi⟩
theorem dm (i : Nat) (hi : i < 16) : ∃ Q : Int, (256 : Int) ^ i * (256 * Q) = 1361129467683753853853498429727072845824 := ⟨2 ^ (122 - 8 * i), (by decide +kernel : ∀ i, i < 16 → (256 : Int) ^ i * (256 * 2 ^ (122 - 8 * i)) = 1361129467683753853853498429727072845824) i hi⟩
theorem dgt_add (X Y D Q : Int) (hD : 0 < D) : (X + D * (256 * Q) * Y) / D % 256 = X / D % 256 := by
  rw [Int.mul_assoc, Int.add_mul_ediv_left _ _ (by omega), Int.mul_assoc, Int.add_mul_emod_self_left]
theorem dgt_mod (X : Int) (i : Nat) (hi : i < 16) : dgt (X % 1361129467683753853853498429727072845824) i = dgt X i := by
  obtain ⟨Q, hQ⟩ := dm i hi
  have e := Int.emod_add_mul_ediv X 1361129467683753853853498429727072845824
  have h := dgt_add (X % 1361129467683753853853498429727072845824) (X / 1361129467683753853853498429727072845824) (256 ^ i) Q (Int.pow_pos (by decide))
  rw [hQ, e] at h
  exact h.symm
theorem tb_val (a : Nat → Int) (ha : ∀ i, i < 5 → 0 ≤ a i ∧ a i < 67108864) (i : Nat) (hi : i < 16) : tb a i = dgt (V 67108864 5 a) i := by
  have h6 : ∀ k, 0 ≤ p6 a k ∧ p6 a k < 67108864 := fun k => by
    unfold p6
    split
    · rename_i h
      exact ha k h
    · decide
  have e7 : V 67108864 5 a = V 67108864 7 (p6 a) := by
    have : V 67108864 7 (p6 a) = V 67108864 5 (p6 a) + p6 a 5 * 67108864 ^ 5 + p6 a 6 * 67108864 ^ 6 := rfl
    rw [this, show p6 a 5 = 0 from rfl, show p6 a 6 = 0 from rfl, V_congr _ 5 a (p6 a) (fun i hi => (if_pos hi).symm)]
    omega
  have hk : 8 * i / 26 ≤ 4 := by omega
  have ep := pw_id i (by omega)
  obtain ⟨s0, s1, s2⟩ := pw_small i (by omega)
  obtain ⟨Q, hQ⟩ := dq i hi
  unfold tb dgt
  rw [e7, ← ep]
  generalize 8 * i / 26 = k at *
  generalize 8 * i % 26 = r at *
  have x0 := h6 k
  have x1 := h6 (k + 1)
  have t1 : sl (p6 a (k + 1)) 26 = p6 a (k + 1) * 67108864 := sl_eq _ 26 (by omega) (by omega)
  have t2 : uo (p6 a k) (p6 a (k + 1) * 67108864) = p6 a k + p6 a (k + 1) * 67108864 := uo_add 26 _ _ x0.1 x0.2 x1.1 (by omega)
  rw [cv8_eq, t1, t2, sr_eq]
  have sp := V_split 67108864 k (2 + (5 - k)) (p6 a)
  rw [show k + (2 + (5 - k)) = 7 by omega] at sp
  have sp2 := V_split 67108864 2 (5 - k) (fun i => p6 a (k + i))
  have sp3 : V 67108864 2 (fun i => p6 a (k + i)) = p6 a k + p6 a (k + 1) * 67108864 := by
    show (0 + p6 a (k + 0) * 67108864 ^ 0) + p6 a (k + 1) * 67108864 ^ 1 = _
    simp
  rw [sp3] at sp2
  rw [sp2] at sp
  have l0 := V_nn 67108864 (by decide) k (p6 a) (fun i _ => (h6 i).1)
  have l1 := V_lt 67108864 (by decide) k (p6 a) (fun i _ => (h6 i).2)
  have B0 : (0 : Int) < 67108864 ^ k := Int.pow_pos (by decide)
  rw [sp, ← Int.ediv_ediv_of_nonneg (Int.le_of_lt B0), Int.add_mul_ediv_left _ _ (by omega), Int.ediv_eq_zero_of_lt l0 l1, Int.zero_add, ← hQ, dgt_add _ _ _ _ s0]
theorem tx_val (a : Nat → Int) (ha : ∀ i, i < 5 → 0 ≤ a i ∧ a i < 4611686018427387904) : txS a = bs ((List.range 16).map (dgt (V 67108864 5 a))) := by
  obtain ⟨⟨-, k2⟩, k3, -, -⟩ := s5_val a ha
  unfold txS
  congr 1
  refine List.map_congr_left fun i hi => ?_
  have hi' := List.mem_range.1 hi
  rw [tb_val _ k3 i hi', k2, dgt_mod _ i hi']
/-- The number behind some pieces, as the document tells it. -/
def hN (r : Int) (q : Nat → Int) : Nat → Int
  | 0 => 0
  | j + 1 => ((hN r q j + q j) * r) % 1361129467683753853853498429727072845819
def qS (s : ByteArray) (j : Nat) : Int := qN (fun i => bt s (16 * j + i)) (min 16 (s.size - 16 * j))
/-- The tag, as the document tells it. -/
def tagZ (key s : ByteArray) : Int := hN (V 256 16 (rB (bt key))) (qS s) ((s.size + 15) / 16) + V 256 16 (fun i => bt key (16 + i))
def tagS (key s : ByteArray) : ByteArray := bs ((List.range 16).map (dgt (tagZ key s)))
theorem hN_step {r : Int} {q : Nat → Int} {j : Nat} {A B k : Int} (h : A % 1361129467683753853853498429727072845819 = hN r q j) (e : (A + q j) * r = B + k * 1361129467683753853853498429727072845819) : B % 1361129467683753853853498429727072845819 = hN r q (j + 1) := by
  have h1 : B % 1361129467683753853853498429727072845819 = ((A + q j) * r) % 1361129467683753853853498429727072845819 := by
    rw [e, Int.add_mul_emod_self_right]
  rw [h1]
  show _ = ((hN r q j + q j) * r) % 1361129467683753853853498429727072845819
  have e2 : (A + q j) * r = (A % 1361129467683753853853498429727072845819 + q j) * r + 1361129467683753853853498429727072845819 * (A / 1361129467683753853853498429727072845819 * r) := by
    have e3 := Int.emod_add_mul_ediv A 1361129467683753853853498429727072845819
    generalize A % 1361129467683753853853498429727072845819 = x at *
    generalize A / 1361129467683753853853498429727072845819 = y at *
    rw [← e3]
    grind
  rw [← h, e2, Int.add_mul_emod_self_left]
theorem hN_lt (r : Int) (q : Nat → Int) (j : Nat) : 0 ≤ hN r q j ∧ hN r q j < 1361129467683753853853498429727072845819 := by
  cases j with
  | zero => exact ⟨by simp [hN], by simp [hN]⟩
  | succ j => exact ⟨Int.emod_nonneg _ (by decide), Int.emod_lt_of_pos _ (by decide)⟩
theorem good0 : Good (fun _ => 0) := ⟨fun _ _ => by decide, by decide⟩
theorem sm_val (s : ByteArray) (r : Nat → Int) (hr : ∀ i, i < 5 → 0 ≤ r i ∧ r i < 67108864) : ∀ j, Good (sm s r j) ∧ V 67108864 5 (sm s r j) % 1361129467683753853853498429727072845819 = hN (V 67108864 5 r) (qS s) j
  | 0 => ⟨good0, (by decide : V 67108864 5 (fun _ => 0) % 1361129467683753853853498429727072845819 = 0)⟩
  | j + 1 => by
    obtain ⟨g, h⟩ := sm_val s r hr j
    obtain ⟨m1, m2⟩ := mk_val (fun i => bt s (16 * j + i)) (min 16 (s.size - 16 * j)) (Nat.min_le_left _ _) (fun i => bt_nn s _)
    obtain ⟨p1, p2⟩ := pl_val' (sm s r j) (noF (mk (fun i => bt s (16 * j + i)) (min 16 (s.size - 16 * j)))) (fun i hi => by have := g.part i hi; omega) (fun i hi => by have := m1 i hi; omega)
    obtain ⟨g2, k, hk⟩ := tm_val _ r p1 hr
    refine ⟨g2, hN_step h (k := k) ?_⟩
    rw [p2, m2] at hk
    exact hk
theorem bt_sub (s : ByteArray) (p q j : Nat) (hj : j < q - p) (hq : q ≤ s.size) : bt (s.extract p q) j = bt s (p + j) := by
  unfold bt
  rw [ByteArray.data_extract, Array.getElem?_extract, if_pos (by show j < min q s.data.size - p; have : s.size = s.data.size := rfl; omega)]
theorem rB_congr (b c : Nat → Int) (h : ∀ i, i < 16 → b i = c i) (i : Nat) (hi : i < 16) : rB b i = rB c i := by
  unfold rB
  rw [h i hi]
/-- The program's tag. -/
theorem tg_val (key s : ByteArray) (hk : key.size = 32) : tgS key s = tagS key s := by
  obtain ⟨r1, r2⟩ := fc_val (bt (key.extract 0 16)) (bt_nn _)
  obtain ⟨l1, l2⟩ := plain_val (bt (key.extract 16 key.size)) (bt_nn _)
  have er : V 67108864 5 (rF key) = V 256 16 (rB (bt key)) := by
    refine r2.trans (V_congr _ _ _ _ (rB_congr _ _ fun i hi => ?_))
    rw [bt_sub key 0 16 i (by omega) (by omega), Nat.zero_add]
  have el : V 67108864 5 (lF key) = V 256 16 (fun i => bt key (16 + i)) := by
    refine l2.trans (V_congr _ _ _ _ fun i hi => ?_)
    rw [bt_sub key 16 key.size i (by omega) (by omega)]
  obtain ⟨g, h⟩ := sm_val s (rF key) r1 ((s.size + 15) / 16)
  obtain ⟨v1, v2⟩ := ls_val _ g
  obtain ⟨p1, p2⟩ := pl_val' (lsF (sm s (rF key) ((s.size + 15) / 16))) (lF key) (fun i hi => by have := v1 i hi; omega) (fun i hi => by have : 0 ≤ lF key i ∧ lF key i < 67108864 := l1 i hi; omega)
  unfold tgS tagS tagZ
  rw [tx_val _ (fun i hi => by have := p1 i hi; omega), p2, v2, h, er, el]

end Go.Proofs.YtenafinbaanicaaDoor.Pol
