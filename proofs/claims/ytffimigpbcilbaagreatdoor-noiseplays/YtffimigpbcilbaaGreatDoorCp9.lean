/- Part 9 of the walks and facts. -/
import Derived.Test.YtffimigpbcilbaaGreatDoorCpDef
import Derived.Test.YtffimigpbcilbaaGreatDoorCp8
set_option maxHeartbeats 16000000
set_option maxRecDepth 100000
namespace Go.Proofs.YtffimigpbcilbaaGreatDoor.Pol
open Go.RowKit
theorem pw_id : ∀ j, j < 17 → (67108864 : Int) ^ (8 * j / 26) * 2 ^ (8 * j % 26) = 256 ^ j := by decide +kernel
theorem pw_small : ∀ j, j < 17 → (0 : Int) < 2 ^ (8 * j % 26) ∧ (2 : Int) ^ (8 * j % 26) ≤ 33554432 ∧ ((2 ^ (8 * j % 26) : Nat) : Int) = 2 ^ (8 * j % 26) := by decide +kernel
theorem nof_val (p : NI) : ∀ j, j ≤ 17 → (∀ i, i < j → 0 ≤ p i ∧ p i < 256) → (∀ k, 0 ≤ nof p j k ∧ nof p j k < 8589934592 ∧ nof p j k * 67108864 ^ k < 256 ^ j) ∧ V 67108864 5 (nof p j) = V 256 j p
 | 0, _, _ => by
  refine ⟨fun k => ?_, by simp [nof, V]⟩
  show (0 : Int) ≤ 0 ∧ (0 : Int) < _ ∧ (0 : Int) * _ < 256 ^ 0
  simp
 | j + 1, h, hp => by
  obtain ⟨h1, h2⟩ := nof_val p j (by omega) (fun i hi => hp i (by omega))
  have hj := hp j (by omega)
  have e := pw_id j (by omega)
  obtain ⟨s0, s1, s2⟩ := pw_small j (by omega)
  obtain ⟨a0, a1, a2⟩ := h1 (8 * j / 26)
  have hk : 8 * j / 26 < 5 := by omega
  have B0 : (0 : Int) < 67108864 ^ (8 * j / 26) := Int.pow_pos (by decide)
  have e2 : nof p (j + 1) = upd (nof p j) (8 * j / 26) (uo (nof p j (8 * j / 26)) (sl (cv .u64 (p j)) (8 * j % 26))) := rfl
  generalize 8 * j / 26 = k at *
  generalize 8 * j % 26 = r at *
  generalize hS : (2 : Int) ^ r = S at *
  have lt : nof p j k < S := by
   rw [← e] at a2
   refine Int.lt_of_mul_lt_mul_left (a := 67108864 ^ k) ?_ (Int.le_of_lt B0)
   rw [Int.mul_comm]
   exact a2
  have m0 : 0 ≤ p j * S := Int.mul_nonneg hj.1 (by omega)
  have m1 : p j * S ≤ 255 * S := Int.mul_le_mul_of_nonneg_right (by omega) (by omega)
  have e3 : nof p (j + 1) = upd (nof p j) k (nof p j k + p j * S) := by
   rw [e2, cv64_eq _ hj.1 (by omega), sl_eq _ _ (by rw [hS]; exact m0) (by rw [hS]; omega), hS, ← s2]
   rw [← s2] at lt m0 m1 s1
   rw [uo_add r _ _ a0 lt hj.1 (by omega)]
  rw [e3]
  refine ⟨fun i => ?_, ?_⟩
  ·by_cases c : i = k
   ·subst c
    rw [up_at]
    refine ⟨by omega, by omega, ?_⟩
    have l : nof p j i + p j * S < 256 * S := by omega
    have l2 := Int.mul_lt_mul_of_pos_right l B0
    rw [Int.pow_succ, ← e]
    have l3 : 256 * S * 67108864 ^ i = 67108864 ^ i * S * 256 := by grind
    rw [← l3]
    exact l2
   ·rw [up_ne _ _ _ c]
    obtain ⟨b0, b1, b2⟩ := h1 i
    refine ⟨b0, b1, ?_⟩
    rw [Int.pow_succ]
    have : (0 : Int) < 256 ^ j := Int.pow_pos (by decide)
    omega
  ·rw [V_upd _ 5 _ _ _ hk, h2]
   show _ = V 256 j p + p j * 256 ^ j
   rw [← e]
   grind
theorem p256 : (256 : Int) ^ 16 = 340282366920938463463374607431768211456 := by decide
theorem noF_val (p : NI) (hp : ∀ i, i < 17 → 0 ≤ p i ∧ p i < 256) (h16 : p 16 ≤ 1) : (∀ i, i < 5 → 0 ≤ noF p i ∧ noF p i < 67108864) ∧ V 67108864 5 (noF p) = V 256 17 p := by
 obtain ⟨h1, h2⟩ := nof_val p 17 (Nat.le_refl _) hp
 obtain ⟨⟨-, k2⟩, k3, -, -⟩ := s5_val (nof p 17) (fun i _ => by have := h1 i; omega)
 refine ⟨k3, ?_⟩
 have e : V 67108864 5 (noF p) = V 67108864 5 (nof p 17) % 1361129467683753853853498429727072845824 := k2
 rw [e, h2]
 have n0 := V_nn 256 (by decide) 17 p (fun i hi => (hp i hi).1)
 have n1 := V_lt 256 (by decide) 16 p (fun i hi => (hp i (by omega)).2)
 rw [p256] at n1
 have s : V 256 17 p = V 256 16 p + p 16 * 256 ^ 16 := rfl
 rw [p256] at s
 exact Int.emod_eq_of_lt n0 (by omega)
theorem V_pd (b : Int) (f : NI) (n : Nat) : ∀ m, n ≤ m → V b m (pd f n) = V b n f
 | 0, h => by
  obtain rfl : n = 0 := by omega
  rfl
 | m + 1, h => by
  by_cases e : n = m + 1
  ·subst e
   exact V_congr b _ _ _ fun i hi => if_pos hi
  ·show V b m (pd f n) + pd f n m * b ^ m = _
   rw [V_pd b f n m (by omega), show pd f n m = 0 from if_neg (by omega)]
   omega
theorem pd_nn (f : NI) (n : Nat) (hf : ∀ i, 0 ≤ f i ∧ f i < 256) (i : Nat) : 0 ≤ pd f n i ∧ pd f n i < 256 := by
 unfold pd
 split
 ·exact hf i
 ·decide
def qN (f : NI) (n : Nat) : Int := V 256 n f + 256 ^ n
theorem mk_val (f : NI) (n : Nat) (hn : n ≤ 16) (hf : ∀ i, 0 ≤ f i ∧ f i < 256) : (∀ i, i < 5 → 0 ≤ noF (mk f n) i ∧ noF (mk f n) i < 67108864) ∧ V 67108864 5 (noF (mk f n)) = qN f n := by
 have hb : ∀ i, 0 ≤ mk f n i ∧ mk f n i < 256 := fun i => by
  unfold mk
  by_cases c : i = n
  ·rw [c, up_at]
   decide
  ·rw [up_ne _ _ _ c]
   exact pd_nn f n hf i
 have h16 : mk f n 16 ≤ 1 := by
  unfold mk
  by_cases c : 16 = n
  ·rw [c, up_at]
   decide
  ·rw [up_ne _ _ _ c, show pd f n 16 = 0 from if_neg (by omega)]
   decide
 obtain ⟨h1, h2⟩ := noF_val (mk f n) (fun i _ => hb i) h16
 refine ⟨h1, ?_⟩
 rw [h2]
 unfold mk qN
 rw [V_upd _ 17 _ _ _ (by omega), V_pd _ _ _ 17 (by omega), show pd f n n = 0 from if_neg (by omega)]
 omega
def rB (b : NI) (i : Nat) : Int := if i = 3 ∨ i = 7 ∨ i = 11 ∨ i = 15 then b i % 16 else if i = 4 ∨ i = 8 ∨ i = 12 then b i - b i % 4 else b i
theorem nb8_15 (x : Int) (h0 : 0 ≤ x) (h1 : x < 256) : nb8 x 15 = x % 16 := by
 have h : ∀ n : Nat, n < 256 → nb8 (n : Int) 15 = (n : Int) % 16 := by decide +kernel
 have := h x.toNat (by omega)
 rwa [show ((x.toNat : Nat) : Int) = x by omega] at this
theorem db8_3 (x : Int) (h0 : 0 ≤ x) (h1 : x < 256) : db8 x 3 = x - x % 4 := by
 have h : ∀ n : Nat, n < 256 → db8 (n : Int) 3 = (n : Int) - (n : Int) % 4 := by decide +kernel
 have := h x.toNat (by omega)
 rwa [show ((x.toNat : Nat) : Int) = x by omega] at this
theorem rB_nn (b : NI) (hb : ∀ i, 0 ≤ b i ∧ b i < 256) (i : Nat) : 0 ≤ rB b i ∧ rB b i < 256 := by
 have := hb i
 unfold rB
 split
 ·omega
 ·split <;> omega
theorem fc_at (b : NI) (hb : ∀ i, 0 ≤ b i ∧ b i < 256) (i : Nat) (hi : i < 17) : fc2 (fc1 (pd b 16)) i = pd (rB b) 16 i := by
 have e : ∀ k, k < 16 → pd b 16 k = b k := fun k hk => if_pos hk
 have x15 : ∀ k, k < 16 → nb8 (pd b 16 k) 15 = b k % 16 := fun k hk => by rw [e k hk, nb8_15 _ (hb k).1 (hb k).2]
 have x3 : ∀ k, k < 16 → db8 (pd b 16 k) 3 = b k - b k % 4 := fun k hk => by rw [e k hk, db8_3 _ (hb k).1 (hb k).2]
 have f4 : fc1 (pd b 16) 4 = pd b 16 4 := rfl
 have f8 : fc1 (pd b 16) 8 = pd b 16 8 := rfl
 have f12 : fc1 (pd b 16) 12 = pd b 16 12 := rfl
 have hc : i = 0 ∨ i = 1 ∨ i = 2 ∨ i = 3 ∨ i = 4 ∨ i = 5 ∨ i = 6 ∨ i = 7 ∨ i = 8 ∨ i = 9 ∨ i = 10 ∨ i = 11 ∨ i = 12 ∨ i = 13 ∨ i = 14 ∨ i = 15 ∨ i = 16 := by omega
 rcases hc with rfl | rfl | rfl | rfl | rfl | rfl | rfl | rfl | rfl | rfl | rfl | rfl | rfl | rfl | rfl | rfl | rfl
 ·rfl
 ·rfl
 ·rfl
 ·exact x15 3 (by decide)
 ·exact (congrArg (fun z => db8 z 3) f4).trans (x3 4 (by decide))
 ·rfl
 ·rfl
 ·exact x15 7 (by decide)
 ·exact (congrArg (fun z => db8 z 3) f8).trans (x3 8 (by decide))
 ·rfl
 ·rfl
 ·exact x15 11 (by decide)
 ·exact (congrArg (fun z => db8 z 3) f12).trans (x3 12 (by decide))
 ·rfl
 ·rfl
 ·exact x15 15 (by decide)
 ·rfl
theorem fc_val (b : NI) (hb : ∀ i, 0 ≤ b i ∧ b i < 256) : (∀ i, i < 5 → 0 ≤ noF (fc2 (fc1 (pd b 16))) i ∧ noF (fc2 (fc1 (pd b 16))) i < 67108864) ∧ V 67108864 5 (noF (fc2 (fc1 (pd b 16)))) = V 256 16 (rB b) := by
 have e := fc_at b hb
 obtain ⟨h1, h2⟩ := noF_val (fc2 (fc1 (pd b 16))) (fun i hi => by rw [e i hi]; exact pd_nn _ _ (rB_nn b hb) i) (by rw [e 16 (by decide)]; exact (by decide : (0 : Int) ≤ 1))
 refine ⟨h1, ?_⟩
 rw [h2, V_congr 256 17 _ _ e, V_pd _ _ _ 17 (by decide)]
theorem plain_val (b : NI) (hb : ∀ i, 0 ≤ b i ∧ b i < 256) : (∀ i, i < 5 → 0 ≤ noF (pd b 16) i ∧ noF (pd b 16) i < 67108864) ∧ V 67108864 5 (noF (pd b 16)) = V 256 16 b := by
 obtain ⟨h1, h2⟩ := noF_val (pd b 16) (fun i _ => pd_nn b 16 hb i) (by exact (by decide : (0 : Int) ≤ 1))
 refine ⟨h1, ?_⟩
 rw [h2, V_pd _ _ _ 17 (by decide)]
def dgt (X : Int) (i : Nat) : Int := X / 256 ^ i % 256
theorem dq (i : Nat) (hi : i < 16) : ∃ Q : Int, (2 : Int) ^ (8 * i % 26) * (256 * Q) = 67108864 ^ 2 := ⟨2 ^ (44 - 8 * i % 26), (by decide +kernel : ∀ i, i < 16 → (2 : Int) ^ (8 * i % 26) * (256 * 2 ^ (44 - 8 * i % 26)) = 67108864 ^ 2) i hi⟩
theorem dm (i : Nat) (hi : i < 16) : ∃ Q : Int, (256 : Int) ^ i * (256 * Q) = 1361129467683753853853498429727072845824 := ⟨2 ^ (122 - 8 * i), (by decide +kernel : ∀ i, i < 16 → (256 : Int) ^ i * (256 * 2 ^ (122 - 8 * i)) = 1361129467683753853853498429727072845824) i hi⟩
theorem dgt_add (X Y D Q : Int) (hD : 0 < D) : (X + D * (256 * Q) * Y) / D % 256 = X / D % 256 := by
 rw [Int.mul_assoc, Int.add_mul_ediv_left _ _ (by omega), Int.mul_assoc, Int.add_mul_emod_self_left]
theorem dgt_mod (X : Int) (i : Nat) (hi : i < 16) : dgt (X % 1361129467683753853853498429727072845824) i = dgt X i := by
 obtain ⟨Q, hQ⟩ := dm i hi
 have e := Int.emod_add_mul_ediv X 1361129467683753853853498429727072845824
 have h := dgt_add (X % 1361129467683753853853498429727072845824) (X / 1361129467683753853853498429727072845824) (256 ^ i) Q (Int.pow_pos (by decide))
 rw [hQ, e] at h
 exact h.symm
theorem tb_val (a : NI) (ha : ∀ i, i < 5 → 0 ≤ a i ∧ a i < 67108864) (i : Nat) (hi : i < 16) : tb a i = dgt (V 67108864 5 a) i := by
 have h6 : ∀ k, 0 ≤ p6 a k ∧ p6 a k < 67108864 := fun k => by
  unfold p6
  split
  ·rename_i h
   exact ha k h
  ·decide
 have e7 : V 67108864 5 a = V 67108864 7 (p6 a) := by
  have : V 67108864 7 (p6 a) = V 67108864 5 (p6 a) + p6 a 5 * 67108864 ^ 5 + p6 a 6 * 67108864 ^ 6 := rfl
  rw [this, show p6 a 5 = 0 from rfl, show p6 a 6 = 0 from rfl, V_congr _ 5 a (p6 a) (fun i hi => (if_pos hi).symm)]
  omega
 have hk : 8 * i / 26 ≤ 4 := by omega
 have ep := pw_id i (by omega)
 obtain ⟨s0, s1, s2⟩ := pw_small i (by omega)
 obtain ⟨Q, hQ⟩ := dq i hi
 unfold tb dgt
 rw [e7, ← ep]
 generalize 8 * i / 26 = k at *
 generalize 8 * i % 26 = r at *
 have x0 := h6 k
 have x1 := h6 (k + 1)
 have t1 : sl (p6 a (k + 1)) 26 = p6 a (k + 1) * 67108864 := sl_eq _ 26 (by omega) (by omega)
 have t2 : uo (p6 a k) (p6 a (k + 1) * 67108864) = p6 a k + p6 a (k + 1) * 67108864 := uo_add 26 _ _ x0.1 x0.2 x1.1 (by omega)
 rw [cv8_eq, t1, t2, sr_eq]
 have sp := V_split 67108864 k (2 + (5 - k)) (p6 a)
 rw [show k + (2 + (5 - k)) = 7 by omega] at sp
 have sp2 := V_split 67108864 2 (5 - k) (fun i => p6 a (k + i))
 have sp3 : V 67108864 2 (fun i => p6 a (k + i)) = p6 a k + p6 a (k + 1) * 67108864 := by
  show (0 + p6 a (k + 0) * 67108864 ^ 0) + p6 a (k + 1) * 67108864 ^ 1 = _
  simp
 rw [sp3] at sp2
 rw [sp2] at sp
 have l0 := V_nn 67108864 (by decide) k (p6 a) (fun i _ => (h6 i).1)
 have l1 := V_lt 67108864 (by decide) k (p6 a) (fun i _ => (h6 i).2)
 have B0 : (0 : Int) < 67108864 ^ k := Int.pow_pos (by decide)
 rw [sp, ← Int.ediv_ediv_of_nonneg (Int.le_of_lt B0), Int.add_mul_ediv_left _ _ (by omega), Int.ediv_eq_zero_of_lt l0 l1, Int.zero_add, ← hQ, dgt_add _ _ _ _ s0]
theorem tx_val (a : NI) (ha : ∀ i, i < 5 → 0 ≤ a i ∧ a i < 4611686018427387904) : txS a = bs ((List.range 16).map (dgt (V 67108864 5 a))) := by
 obtain ⟨⟨-, k2⟩, k3, -, -⟩ := s5_val a ha
 unfold txS
 congr 1
 refine List.map_congr_left fun i hi => ?_
 have hi' := List.mem_range.1 hi
 rw [tb_val _ k3 i hi', k2, dgt_mod _ i hi']
def hN (r : Int) (q : NI) : Nat → Int
 | 0 => 0
 | j + 1 => ((hN r q j + q j) * r) % 1361129467683753853853498429727072845819
def qS (s : Yb) (j : Nat) : Int := qN (fun i => bt s (16 * j + i)) (min 16 (s.size - 16 * j))
def tagZ (key s : Yb) : Int := hN (V 256 16 (rB (bt key))) (qS s) ((s.size + 15) / 16) + V 256 16 (fun i => bt key (16 + i))
def tagS (key s : Yb) : ByteArray := bs ((List.range 16).map (dgt (tagZ key s)))
theorem hN_step {r : Int} {q : NI} {j : Nat} {A B k : Int} (h : A % 1361129467683753853853498429727072845819 = hN r q j) (e : (A + q j) * r = B + k * 1361129467683753853853498429727072845819) : B % 1361129467683753853853498429727072845819 = hN r q (j + 1) := by
 have h1 : B % 1361129467683753853853498429727072845819 = ((A + q j) * r) % 1361129467683753853853498429727072845819 := by
  rw [e, Int.add_mul_emod_self_right]
 rw [h1]
 show _ = ((hN r q j + q j) * r) % 1361129467683753853853498429727072845819
 have e2 : (A + q j) * r = (A % 1361129467683753853853498429727072845819 + q j) * r + 1361129467683753853853498429727072845819 * (A / 1361129467683753853853498429727072845819 * r) := by
  have e3 := Int.emod_add_mul_ediv A 1361129467683753853853498429727072845819
  generalize A % 1361129467683753853853498429727072845819 = x at *
  generalize A / 1361129467683753853853498429727072845819 = y at *
  rw [← e3]
  grind
 rw [← h, e2, Int.add_mul_emod_self_left]
theorem good0 : Good (fun _ => 0) := ⟨fun _ _ => by decide, by decide⟩
theorem sm_val (s : Yb) (r : NI) (hr : ∀ i, i < 5 → 0 ≤ r i ∧ r i < 67108864) : ∀ j, Good (sm s r j) ∧ V 67108864 5 (sm s r j) % 1361129467683753853853498429727072845819 = hN (V 67108864 5 r) (qS s) j
 | 0 => ⟨good0, (by decide : V 67108864 5 (fun _ => 0) % 1361129467683753853853498429727072845819 = 0)⟩
 | j + 1 => by
  obtain ⟨g, h⟩ := sm_val s r hr j
  obtain ⟨m1, m2⟩ := mk_val (fun i => bt s (16 * j + i)) (min 16 (s.size - 16 * j)) (Nat.min_le_left _ _) (fun i => bt_nn s _)
  obtain ⟨p1, p2⟩ := pl_val' (sm s r j) (noF (mk (fun i => bt s (16 * j + i)) (min 16 (s.size - 16 * j)))) (fun i hi => by have := g.part i hi; omega) (fun i hi => by have := m1 i hi; omega)
  obtain ⟨g2, k, hk⟩ := tm_val _ r p1 hr
  refine ⟨g2, hN_step h (k := k) ?_⟩
  rw [p2, m2] at hk
  exact hk
theorem rB_congr (b c : NI) (h : ∀ i, i < 16 → b i = c i) (i : Nat) (hi : i < 16) : rB b i = rB c i := by
 unfold rB
 rw [h i hi]
theorem tg_val (key s : Yb) (hk : key.size = 32) : tgS key s = tagS key s := by
 obtain ⟨r1, r2⟩ := fc_val (bt (key.extract 0 16)) (bt_nn _)
 obtain ⟨l1, l2⟩ := plain_val (bt (key.extract 16 key.size)) (bt_nn _)
 have er : V 67108864 5 (rF key) = V 256 16 (rB (bt key)) := by
  refine r2.trans (V_congr _ _ _ _ (rB_congr _ _ fun i hi => ?_))
  rw [bt_sub key 0 16 i (by omega) (by omega), Nat.zero_add]
 have el : V 67108864 5 (lF key) = V 256 16 (fun i => bt key (16 + i)) := by
  refine l2.trans (V_congr _ _ _ _ fun i hi => ?_)
  rw [bt_sub key 16 key.size i (by omega) (by omega)]
 obtain ⟨g, h⟩ := sm_val s (rF key) r1 ((s.size + 15) / 16)
 obtain ⟨v1, v2⟩ := ls_val _ g
 obtain ⟨p1, p2⟩ := pl_val' (lsF (sm s (rF key) ((s.size + 15) / 16))) (lF key) (fun i hi => by have := v1 i hi; omega) (fun i hi => by have : 0 ≤ lF key i ∧ lF key i < 67108864 := l1 i hi; omega)
 unfold tgS tagS tagZ
 rw [tx_val _ (fun i hi => by have := p1 i hi; omega), p2, v2, h, er, el]
open Go.RowKit
theorem q18 : (256 : Int) ^ 18 = 22300745198530623141535718272648361505980416 := by decide
theorem q17 : (256 : Int) ^ 17 = 87112285931760246646623899502532662132736 := by decide
theorem V18 (s : NI) : V 256 18 s = V 256 16 s + s 16 * 340282366920938463463374607431768211456 + s 17 * 87112285931760246646623899502532662132736 := by
 have : V 256 18 s = V 256 16 s + s 16 * 256 ^ 16 + s 17 * 256 ^ 17 := rfl
 rw [this, p256, q17]
theorem d1_val (a : NI) (h : ∀ i, i < 18 → 0 ≤ a i ∧ a i < 1099511627776) : V 256 18 (d1 a) = V 256 18 a % 1361129467683753853853498429727072845824 + 5 * (V 256 18 a / 1361129467683753853853498429727072845824) ∧ (∀ i, i < 18 → 0 ≤ d1 a i ∧ d1 a i < 256 + 5 * (V 256 18 a / 1361129467683753853853498429727072845824)) ∧ 0 ≤ V 256 18 a / 1361129467683753853853498429727072845824 ∧ V 256 18 a / 1361129467683753853853498429727072845824 < 144115188075855872 := by
 have C := chain8 a 18 (fun i hi => by have := h i hi; omega)
 have D := C.dig
 have s16 := D 16 (by decide)
 have s17 := D 17 (by decide)
 have s0 := D 0 (by decide)
 have n0 := V_nn 256 (by decide) 18 a (fun i hi => (h i hi).1)
 have n1 := V_le 256 (by decide) 4311810306 (by decide) 18 a (fun i hi => by have := h i hi; omega)
 rw [q18] at n1
 have c0 := C.c0
 have hv := C.val
 rw [q18, V18] at hv
 have l0 := V_nn 256 (by decide) 16 (st 255 8 a 18) (fun i hi => (D i (by omega)).1)
 have l1 := V_lt 256 (by decide) 16 (st 255 8 a 18) (fun i hi => (D i (by omega)).2)
 rw [p256] at l1
 have et : dtop a = st 255 8 a 18 16 / 4 + st 255 8 a 18 17 * 64 + cy 8 a 18 * 16384 := by
  have cb : cy 8 a 18 < 281474976710656 := by omega
  have t1 : sl (st 255 8 a 18 17) 6 = st 255 8 a 18 17 * 64 := sl_eq _ 6 (by omega) (by omega)
  have t2 : uo (st 255 8 a 18 16 / 4) (st 255 8 a 18 17 * 64) = st 255 8 a 18 16 / 4 + st 255 8 a 18 17 * 64 := uo_add 6 _ _ (by omega) (by show _ < (64 : Int); omega) (by omega) (by show _ + _ * (64 : Int) < _; omega)
  have t3 : sl (cy 8 a 18) 14 = cy 8 a 18 * 16384 := sl_eq _ 14 (by omega) (by omega)
  show uo (uo (sr (st 255 8 a 18 16) 2) (sl (st 255 8 a 18 17) 6)) (sl (cy 8 a 18) 14) = _
  rw [sr2, t1, t2, t3]
  exact uo_add 14 _ _ (by omega) (by show _ < (16384 : Int); omega) (by omega) (by show _ + _ * (16384 : Int) < _; omega)
 have eq : dtop a = V 256 18 a / 1361129467683753853853498429727072845824 := by
  rw [et, ← hv]
  omega
 have q0 : 0 ≤ V 256 18 a / 1361129467683753853853498429727072845824 := by omega
 have q1 : V 256 18 a / 1361129467683753853853498429727072845824 < 144115188075855872 := by omega
 have e0 : d0 a = upd (upd (st 255 8 a 18) 16 (st 255 8 a 18 16 % 4)) 17 0 := by
  show upd (upd (st 255 8 a 18) 16 (un (st 255 8 a 18 16) 3)) 17 0 = _
  rw [un2 _ s16.1 (by omega)]
 have e00 : d0 a 0 = st 255 8 a 18 0 := by
  rw [e0, up_ne _ _ _ (by decide), up_ne _ _ _ (by decide)]
 have e1 : d1 a = upd (d0 a) 0 (st 255 8 a 18 0 + 5 * (V 256 18 a / 1361129467683753853853498429727072845824)) := by
  unfold d1
  rw [eq, e00]
  generalize V 256 18 a / 1361129467683753853853498429727072845824 = q at *
  rw [um_eq 5 q (by omega) (by omega), ua_eq _ _ (by omega) (by omega)]
 refine ⟨?_, ?_, q0, q1⟩
 ·rw [e1, V0 _ _ _ _ (by decide), e00, e0, V_upd _ 18 _ _ _ (by decide), V_upd _ 18 _ _ _ (by decide), up_ne _ _ _ (by decide), V18, p256, q17, ← hv]
  generalize st 255 8 a 18 16 = x at *
  generalize st 255 8 a 18 17 = y at *
  generalize cy 8 a 18 = z at *
  generalize V 256 16 (st 255 8 a 18) = l at *
  omega
 ·intro i hi
  have d := D i hi
  rw [e1]
  by_cases c : i = 0
  ·subst c
   rw [up_at]
   omega
  ·rw [up_ne _ _ _ c, e0]
   by_cases c2 : i = 17
   ·subst c2
    rw [up_at]
    omega
   ·rw [up_ne _ _ _ c2]
    by_cases c3 : i = 16
    ·subst c3
     rw [up_at]
     omega
    ·rw [up_ne _ _ _ c3]
     omega
structure DGood (h : NI) : Prop where
 part : ∀ i, i < 18 → 0 ≤ h i ∧ h i < 256
 lt : V 256 18 h < 1361129467683753853853498429727072845824
theorem DGood.nn {h : NI} (g : DGood h) : 0 ≤ V 256 18 h := V_nn _ (by decide) 18 h (fun i hi => (g.part i hi).1)
theorem dc_val (a : NI) (h : ∀ i, i < 18 → 0 ≤ a i ∧ a i < 4096) : DGood (dcF a) ∧ ∃ k, V 256 18 a = V 256 18 (dcF a) + k * 1361129467683753853853498429727072845819 := by
 have n0 := V_nn 256 (by decide) 18 a (fun i hi => (h i hi).1)
 have n1 := V_le 256 (by decide) 17 (by decide) 18 a (fun i hi => by have := h i hi; omega)
 rw [q18] at n1
 obtain ⟨a1, a2, a3, a4⟩ := d1_val a (fun i hi => by have := h i hi; omega)
 have q1 : V 256 18 a / 1361129467683753853853498429727072845824 < 1048576 := by omega
 obtain ⟨b1, b2, b3, b4⟩ := d1_val (d1 a) (fun i hi => by have := a2 i hi; omega)
 rw [a1] at b1 b2 b3
 have q2 : (V 256 18 a % 1361129467683753853853498429727072845824 + 5 * (V 256 18 a / 1361129467683753853853498429727072845824)) / 1361129467683753853853498429727072845824 ≤ 1 := by
  generalize V 256 18 a = v at *
  omega
 obtain ⟨c1, c2, c3, c4⟩ := d1_val (d1 (d1 a)) (fun i hi => by have := b2 i hi; omega)
 have l2 : V 256 18 (d1 (d1 a)) < 1361129467683753853853498429727072845824 := by
  rw [b1]
  generalize V 256 18 a = v at *
  omega
 have n2 : 0 ≤ V 256 18 (d1 (d1 a)) := V_nn 256 (by decide) 18 _ (fun i hi => (b2 i hi).1)
 have e3 : V 256 18 (d1 (d1 (d1 a))) = V 256 18 (d1 (d1 a)) := by
  rw [c1]
  omega
 have C := chain8 (d1 (d1 (d1 a))) 18 (fun i hi => by have := c2 i hi; omega)
 have hc := (C.cut (by decide)).2
 rw [q18, e3, Int.emod_eq_of_lt n2 (by omega)] at hc
 have e4 : V 256 18 (dcF a) = V 256 18 (d1 (d1 a)) := hc
 refine ⟨⟨C.dig, by rw [e4]; exact l2⟩, V 256 18 a / 1361129467683753853853498429727072845824 + (V 256 18 a % 1361129467683753853853498429727072845824 + 5 * (V 256 18 a / 1361129467683753853853498429727072845824)) / 1361129467683753853853498429727072845824, ?_⟩
 rw [e4, b1]
 generalize V 256 18 a = v at *
 omega
theorem dlo_at (T : NI) : ∀ n k, dlo T n k = if k < n then T k else 0
 | 0, k => by rw [if_neg (by omega)]; rfl
 | n + 1, k => by
  unfold dlo
  by_cases e : k = n
  ·subst e
   rw [up_at, if_pos (by omega)]
  ·rw [up_ne _ _ _ e, dlo_at T n k]
   by_cases h : k < n
   ·rw [if_pos h, if_pos (by omega)]
   ·rw [if_neg h, if_neg (by omega)]
theorem dhi_at (T : NI) : ∀ n k, dhi T n k = if k < n then uo (sr (T (16 + k)) 2) (un (sl (T (17 + k)) 6) 255) else 0
 | 0, k => by rw [if_neg (by omega)]; rfl
 | n + 1, k => by
  unfold dhi
  by_cases e : k = n
  ·subst e
   rw [up_at, if_pos (by omega)]
  ·rw [up_ne _ _ _ e, dhi_at T n k]
   by_cases h : k < n
   ·rw [if_pos h, if_pos (by omega)]
   ·rw [if_neg h, if_neg (by omega)]
theorem hi_val (x y : Int) (hx : 0 ≤ x ∧ x < 256) (hy : 0 ≤ y ∧ y < 256) : uo (sr x 2) (un (sl y 6) 255) = x / 4 + (y % 4) * 64 := by
 have t1 : sl y 6 = y * 64 := sl_eq _ 6 (by omega) (by omega)
 rw [sr2, t1, un8 _ (by omega) (by omega), show y * 64 % 256 = (y % 4) * 64 by omega]
 exact uo_add 6 _ _ (by omega) (by show _ < (64 : Int); omega) (by omega) (by show _ + _ * (64 : Int) < _; omega)
theorem hi_sum (T : NI) : ∀ n, 4 * V 256 n (fun k => T (16 + k) / 4 + (T (17 + k) % 4) * 64) = V 256 n (fun k => T (16 + k)) - T 16 % 4 + 256 ^ n * (T (16 + n) % 4)
 | 0 => by
  simp [V]
  omega
 | n + 1 => by
  have ih := hi_sum T n
  unfold V
  simp only
  rw [Int.mul_add, ih, Int.pow_succ, show 16 + (n + 1) = 17 + n by omega]
  have e := Int.emod_add_mul_ediv (T (16 + n)) 4
  generalize T (16 + n) % 4 = r at *
  generalize T (16 + n) / 4 = q at *
  rw [← e]
  grind
theorem dl3_at (T : NI) : ∀ n k, dl3 T n k = if k < n then ua (dl2 T k) (um 5 (dhi T 17 k)) else dl2 T k
 | 0, k => by rw [if_neg (by omega)]; rfl
 | n + 1, k => by
  unfold dl3
  by_cases e : k = n
  ·subst e
   rw [up_at, dl3_at T k k, if_neg (by omega), if_pos (by omega)]
  ·rw [up_ne _ _ _ e, dl3_at T n k]
   by_cases h : k < n
   ·rw [if_pos h, if_pos (by omega)]
   ·rw [if_neg h, if_neg (by omega)]
theorem dt_val (x y : NI) (gx : DGood x) (gy : DGood y) : DGood (dtF x y) ∧ ∃ k, V 256 18 x * V 256 18 y = V 256 18 (dtF x y) + k * 1361129467683753853853498429727072845819 := by
 obtain ⟨h1, h2⟩ := tp_val 256 36 18 x y (fun i j hi hj => by omega) 65536 (by decide) (by decide) (fun i j hi hj => by
  have a := gx.part i hi
  have c := gy.part j hj
  exact ⟨Int.mul_nonneg a.1 c.1, Int.mul_le_mul (show x i ≤ 256 by omega) (show y j ≤ 256 by omega) c.1 (by decide)⟩) 18 (Nat.le_refl _)
 have C := chain8 (tp 18 x y 18) 36 (fun i _ => by have := h1 i; omega)
 have D := C.dig
 have w0 : 0 ≤ V 256 18 x * V 256 18 y := Int.mul_nonneg gx.nn gy.nn
 have w1 : V 256 18 x * V 256 18 y ≤ 1361129467683753853853498429727072845824 * 1361129467683753853853498429727072845824 := Int.mul_le_mul (Int.le_of_lt gx.lt) (Int.le_of_lt gy.lt) gy.nn (by decide)
 have q33 : (256 : Int) ^ 33 = 1361129467683753853853498429727072845824 * 1361129467683753853853498429727072845824 * 16 := by decide
 have q36 : (256 : Int) ^ 36 = 1361129467683753853853498429727072845824 * 1361129467683753853853498429727072845824 * 268435456 := by decide
 have hc := (C.cut (by decide)).2
 rw [h2, q36, Int.emod_eq_of_lt w0 (by omega)] at hc
 have hT : V 256 36 (dT x y) = V 256 18 x * V 256 18 y := hc
 have hd : ∀ i, i < 36 → 0 ≤ dT x y i ∧ dT x y i < 256 := D
 clear hc D C h1 h2
 unfold dtF
 rw [← hT]
 generalize dT x y = T at *
 have s1 := V_split 256 33 3 T
 have s1' : V 256 36 T = V 256 33 T + 256 ^ 33 * V 256 3 (fun i => T (33 + i)) := s1
 have z0 := V_nn 256 (by decide) 3 (fun i => T (33 + i)) (fun i hi => (hd (33 + i) (by omega)).1)
 have z1 := V_nn 256 (by decide) 33 T (fun i hi => (hd i (by omega)).1)
 have z2 : V 256 3 (fun i => T (33 + i)) = 0 := by
  rw [q33] at s1'
  omega
 have z3 : T 33 = 0 := by
  have e : V 256 3 (fun i => T (33 + i)) = 0 + T 33 * 256 ^ 0 + T 34 * 256 ^ 1 + T 35 * 256 ^ 2 := rfl
  have a := hd 33 (by decide)
  have b := hd 34 (by decide)
  have c := hd 35 (by decide)
  rw [z2] at e
  simp at e
  omega
 rw [z2, Int.mul_zero, Int.add_zero] at s1'
 have s2 := V_split 256 16 17 T
 have s2' : V 256 33 T = V 256 16 T + 256 ^ 16 * V 256 17 (fun i => T (16 + i)) := s2
 have hs := hi_sum T 17
 rw [show T (16 + 17) = 0 from z3] at hs
 have t16 := hd 16 (by decide)
 have ehi : ∀ k, k < 17 → dhi T 17 k = T (16 + k) / 4 + (T (17 + k) % 4) * 64 := fun k hk => by
  rw [dhi_at, if_pos hk, hi_val _ _ (hd (16 + k) (by omega)) (hd (17 + k) (by omega))]
 have hhi : ∀ k, k < 18 → 0 ≤ dhi T 17 k ∧ dhi T 17 k < 256 := fun k hk => by
  by_cases c : k < 17
  ·have a := hd (16 + k) (by omega)
   rw [ehi k c]
   omega
  ·rw [dhi_at, if_neg c]
   decide
 have hlo : ∀ k, k < 18 → 0 ≤ dl2 T k ∧ dl2 T k < 256 := fun k hk => by
  unfold dl2
  by_cases c : k = 16
  ·subst c
   rw [up_at, dlo_at, if_pos (by decide), un2 _ t16.1 (by omega)]
   omega
  ·rw [up_ne _ _ _ c, dlo_at]
   split
   ·exact hd k (by omega)
   ·decide
 have e3 : ∀ k, k < 18 → dl3 T 18 k = dl2 T k + 5 * dhi T 17 k := fun k hk => by
  have a := hlo k hk
  have b := hhi k hk
  rw [dl3_at, if_pos hk, um_eq _ _ (by omega) (by omega), ua_eq _ _ (by omega) (by omega)]
 obtain ⟨g, k, hk⟩ := dc_val (dl3 T 18) (fun i hi => by
  have a := hlo i hi
  have b := hhi i hi
  rw [e3 i hi]
  omega)
 refine ⟨g, k + V 256 17 (fun k => T (16 + k) / 4 + (T (17 + k) % 4) * 64), ?_⟩
 have f1 : V 256 18 (dhi T 17) = V 256 17 (fun k => T (16 + k) / 4 + (T (17 + k) % 4) * 64) := by
  have : V 256 18 (dhi T 17) = V 256 17 (dhi T 17) + dhi T 17 17 * 256 ^ 17 := rfl
  rw [this, V_congr 256 17 _ _ ehi, dhi_at, if_neg (by decide)]
  omega
 have f2 : V 256 18 (dl2 T) = V 256 16 T + (T 16 % 4) * 340282366920938463463374607431768211456 := by
  unfold dl2
  rw [V_upd _ 18 _ _ _ (by decide), p256, V18, V_congr 256 16 (dlo T 17) T (fun i hi => by rw [dlo_at, if_pos (by omega)]), dlo_at, dlo_at, if_pos (by decide), if_neg (by decide), un2 _ t16.1 (by omega)]
  omega
 have f3 : V 256 18 (dl3 T 18) = V 256 18 (dl2 T) + 5 * V 256 18 (dhi T 17) := by
  rw [V_congr 256 18 _ (fun k => dl2 T k + 5 * dhi T 17 k) e3, V_add, V_mul]
 rw [p256] at s2'
 rw [f2, f1, hk] at f3
 rw [s1', s2']
 generalize V 256 17 (fun i => T (16 + i)) = u at *
 generalize V 256 17 (fun k => T (16 + k) / 4 + (T (17 + k) % 4) * 64) = z at *
 omega
theorem dw_val (a : NI) (g : DGood a) : (∀ i, i < 18 → 0 ≤ dwF a i ∧ dwF a i < 256) ∧ V 256 18 (dwF a) = V 256 18 a % 1361129467683753853853498429727072845819 := by
 obtain ⟨gc, k, hk⟩ := dc_val a (fun i hi => by have := g.part i hi; omega)
 have n0 := gc.nn
 have n1 := gc.lt
 have p0 := gc.part 0 (by decide)
 have e1 : dg a = upd (dcF a) 0 (dcF a 0 + 5) := by
  unfold dg
  rw [ua_eq _ _ (by omega) (by omega)]
 have vg : V 256 18 (dg a) = V 256 18 (dcF a) + 5 := by
  rw [e1, V0 _ _ _ _ (by decide)]
  omega
 have C := chain8 (dg a) 18 (fun i hi => by
  have := gc.part i hi
  rw [e1]
  by_cases c : i = 0
  ·subst c
   rw [up_at]
   omega
  ·rw [up_ne _ _ _ c]
   omega)
 have hc := (C.cut (by decide)).2
 rw [q18, vg, Int.emod_eq_of_lt (by omega) (by omega)] at hc
 have hG : V 256 18 (dG a) = V 256 18 (dcF a) + 5 := hc
 have D : ∀ i, i < 18 → 0 ≤ dG a i ∧ dG a i < 256 := C.dig
 have s16 := D 16 (by decide)
 have s17 := D 17 (by decide)
 have l0 := V_nn 256 (by decide) 16 (dG a) (fun i hi => (D i (by omega)).1)
 have l1 := V_lt 256 (by decide) 16 (dG a) (fun i hi => (D i (by omega)).2)
 rw [p256] at l1
 have hv := V18 (dG a)
 rw [hG] at hv
 have em : V 256 18 a % 1361129467683753853853498429727072845819 = V 256 18 (dcF a) % 1361129467683753853853498429727072845819 := by
  rw [hk, Int.add_mul_emod_self_right]
 rw [em]
 unfold dwF
 by_cases c : 4 ≤ dG a 16
 ·rw [if_pos c, un2 _ s16.1 (by omega)]
  have e4 : dG a 16 = 4 := by omega
  refine ⟨fun i hi => ?_, ?_⟩
  ·by_cases c2 : i = 16
   ·subst c2
    rw [up_at]
    omega
   ·rw [up_ne _ _ _ c2]
    exact D i hi
  ·rw [V_upd _ 18 _ _ _ (by decide), hG, e4, p256]
   omega
 ·rw [if_neg c]
  refine ⟨gc.part, ?_⟩
  rw [Int.emod_eq_of_lt n0 (by omega)]
theorem rk_at (key : Yb) : ∀ n i, rk key n i = if i < n then bt key i else 0
 | 0, i => by rw [if_neg (by omega)]; rfl
 | n + 1, i => by
  have := bt_nn key n
  unfold rk
  by_cases e : i = n
  ·subst e
   rw [up_at, if_pos (by omega), cv64_eq _ this.1 (by omega)]
  ·rw [up_ne _ _ _ e, rk_at key n i]
   by_cases h : i < n
   ·rw [if_pos h, if_pos (by omega)]
   ·rw [if_neg h, if_neg (by omega)]
theorem un15 (x : Int) (h : 0 ≤ x ∧ x < 256) : un x 15 = x % 16 := un4 x h.1 (by omega)
theorem un252 (x : Int) (h0 : 0 ≤ x ∧ x < 256) : un x 252 = x - x % 4 := by
 have h : ∀ n : Nat, n < 256 → un (n : Int) 252 = (n : Int) - (n : Int) % 4 := by decide +kernel
 have := h x.toNat (by omega)
 rwa [show ((x.toNat : Nat) : Int) = x by omega] at this
theorem dr_at (key : Yb) (i : Nat) (hi : i < 18) : drF key i = pd (rB (bt key)) 16 i := by
 have hb := bt_nn key
 have e : ∀ k, k < 16 → rk key 16 k = bt key k := fun k hk => by rw [rk_at, if_pos hk]
 have e2 : ∀ k, ¬ k < 16 → rk key 16 k = 0 := fun k hk => by rw [rk_at, if_neg hk]
 have x15 : ∀ k, k < 16 → un (rk key 16 k) 15 = bt key k % 16 := fun k hk => by rw [e k hk, un15 _ (hb k)]
 have x3 : ∀ k, k < 16 → un (rk key 16 k) 252 = bt key k - bt key k % 4 := fun k hk => by rw [e k hk, un252 _ (hb k)]
 unfold drF dm2 dm1
 generalize rk key 16 = f at *
 have hc : i = 0 ∨ i = 1 ∨ i = 2 ∨ i = 3 ∨ i = 4 ∨ i = 5 ∨ i = 6 ∨ i = 7 ∨ i = 8 ∨ i = 9 ∨ i = 10 ∨ i = 11 ∨ i = 12 ∨ i = 13 ∨ i = 14 ∨ i = 15 ∨ i = 16 ∨ i = 17 := by omega
 rcases hc with rfl | rfl | rfl | rfl | rfl | rfl | rfl | rfl | rfl | rfl | rfl | rfl | rfl | rfl | rfl | rfl | rfl | rfl
 ·exact e 0 (by decide)
 ·exact e 1 (by decide)
 ·exact e 2 (by decide)
 ·exact x15 3 (by decide)
 ·exact x3 4 (by decide)
 ·exact e 5 (by decide)
 ·exact e 6 (by decide)
 ·exact x15 7 (by decide)
 ·exact x3 8 (by decide)
 ·exact e 9 (by decide)
 ·exact e 10 (by decide)
 ·exact x15 11 (by decide)
 ·exact x3 12 (by decide)
 ·exact e 13 (by decide)
 ·exact e 14 (by decide)
 ·exact x15 15 (by decide)
 ·exact e2 16 (by decide)
 ·exact e2 17 (by decide)
theorem dr_val (key : Yb) : DGood (drF key) ∧ V 256 18 (drF key) = V 256 16 (rB (bt key)) := by
 have e := dr_at key
 have h : V 256 18 (drF key) = V 256 16 (rB (bt key)) := by rw [V_congr 256 18 _ _ e, V_pd _ _ _ 18 (by decide)]
 have l1 := V_lt 256 (by decide) 16 (rB (bt key)) (fun i _ => (rB_nn _ (bt_nn key) i).2)
 rw [p256] at l1
 exact ⟨⟨fun i hi => by rw [e i hi]; exact pd_nn _ _ (rB_nn _ (bt_nn key)) i, by rw [h]; omega⟩, h⟩
theorem dpa_at (h : NI) (p : Yb) : ∀ n i, dpa h p n i = if i < n then ua (h i) (cv .u64 (bt p i)) else h i
 | 0, i => by rw [if_neg (by omega)]; rfl
 | n + 1, i => by
  unfold dpa
  by_cases e : i = n
  ·subst e
   rw [up_at, dpa_at h p i i, if_neg (by omega), if_pos (by omega)]
  ·rw [up_ne _ _ _ e, dpa_at h p n i]
   by_cases c : i < n
   ·rw [if_pos c, if_pos (by omega)]
   ·rw [if_neg c, if_neg (by omega)]
theorem dpp_val (h : NI) (g : DGood h) (p : Yb) (hp : p.size ≤ 16) : (∀ i, i < 18 → 0 ≤ dpp h p i ∧ dpp h p i < 4096) ∧ V 256 18 (dpp h p) = V 256 18 h + qN (bt p) p.size := by
 have e : ∀ i, i < 18 → dpa h p p.size i = h i + pd (bt p) p.size i := fun i hi => by
  have a := g.part i hi
  have b := bt_nn p i
  rw [dpa_at]
  unfold pd
  split
  ·rw [cv64_eq _ b.1 (by omega), ua_eq _ _ (by omega) (by omega)]
  ·rw [Int.add_zero]
 have hn := g.part p.size (by omega)
 have en : dpa h p p.size p.size = h p.size := by
  rw [dpa_at, if_neg (by omega)]
 have e2 : dpp h p = upd (dpa h p p.size) p.size (h p.size + 1) := by
  unfold dpp
  rw [en, ua_eq _ _ (by omega) (by omega)]
 refine ⟨fun i hi => ?_, ?_⟩
 ·have a := g.part i hi
  have b := pd_nn (bt p) p.size (bt_nn p) i
  rw [e2]
  by_cases c : i = p.size
  ·rw [c, up_at]
   omega
  ·rw [up_ne _ _ _ c, e i hi]
   omega
 ·rw [e2, V_upd _ 18 _ _ _ (by omega), en, V_congr 256 18 _ (fun i => h i + pd (bt p) p.size i) e, V_add, V_pd _ _ _ 18 (by omega)]
  unfold qN
  rw [show h p.size + 1 - h p.size = 1 by omega]
  omega
theorem dgood0 : DGood (fun _ => 0) := ⟨fun _ _ => by decide, by decide⟩
theorem dpc_val (s : Yb) (j : Nat) (hj : 16 * j ≤ s.size) : qN (bt (dpc s j)) (dpc s j).size = qS s j := by
 have hs : (dpc s j).size = min 16 (s.size - 16 * j) := by
  rw [dpc_size]
  omega
 unfold qS
 rw [hs]
 unfold qN
 rw [V_congr 256 _ (bt (dpc s j)) (fun i => bt s (16 * j + i)) (fun i hi => by
  unfold dpc
  rw [bt_sub s _ _ i (by omega) (by omega)])]
theorem dsm_val (s : Yb) (r : NI) (gr : DGood r) : ∀ j, 16 * j ≤ s.size + 15 → DGood (dsm s r j) ∧ V 256 18 (dsm s r j) % 1361129467683753853853498429727072845819 = hN (V 256 18 r) (qS s) j
 | 0, _ => ⟨dgood0, (by decide : V 256 18 (fun _ => 0) % 1361129467683753853853498429727072845819 = 0)⟩
 | j + 1, hj => by
  obtain ⟨g, h⟩ := dsm_val s r gr j (by omega)
  obtain ⟨p1, p2⟩ := dpp_val (dsm s r j) g (dpc s j) (by rw [dpc_size]; omega)
  rw [dpc_val s j (by omega)] at p2
  obtain ⟨g1, k1, hk1⟩ := dc_val _ p1
  obtain ⟨g2, k2, hk2⟩ := dt_val _ r g1 gr
  refine ⟨g2, hN_step h (k := k2 + k1 * V 256 18 r) ?_⟩
  rw [← p2, hk1, Int.add_mul, hk2, Int.add_mul]
  have : k1 * 1361129467683753853853498429727072845819 * V 256 18 r = k1 * V 256 18 r * 1361129467683753853853498429727072845819 := by
   rw [Int.mul_right_comm]
  rw [this, Int.add_assoc]
  rfl
theorem dig_val (s : NI) (n : Nat) (h : ∀ i, i < n → 0 ≤ s i ∧ s i < 256) (i : Nat) (hi : i < n) : dgt (V 256 n s) i = s i := by
 have sp := V_split 256 i (1 + (n - i - 1)) s
 rw [show i + (1 + (n - i - 1)) = n by omega] at sp
 have sp2 := V_split 256 1 (n - i - 1) (fun k => s (i + k))
 have sp3 : V 256 1 (fun k => s (i + k)) = s i := by
  show 0 + s (i + 0) * 256 ^ 0 = _
  simp
 rw [sp3] at sp2
 have l0 := V_nn 256 (by decide) i s (fun k hk => (h k (by omega)).1)
 have l1 := V_lt 256 (by decide) i s (fun k hk => (h k (by omega)).2)
 have B0 : (0 : Int) < 256 ^ i := Int.pow_pos (by decide)
 have := h i hi
 unfold dgt
 rw [sp, sp2, Int.add_mul_ediv_left _ _ (by omega), Int.ediv_eq_zero_of_lt l0 l1, Int.zero_add]
 rw [show (256 : Int) ^ 1 = 256 from rfl, Int.add_mul_emod_self_left]
 omega
theorem dm16 (i : Nat) (hi : i < 16) : ∃ Q : Int, (256 : Int) ^ i * (256 * Q) = 340282366920938463463374607431768211456 := ⟨256 ^ (15 - i), (by decide +kernel : ∀ i, i < 16 → (256 : Int) ^ i * (256 * 256 ^ (15 - i)) = 340282366920938463463374607431768211456) i hi⟩
theorem dgt_more (X Y : Int) (i : Nat) (hi : i < 16) : dgt (X + 340282366920938463463374607431768211456 * Y) i = dgt X i := by
 obtain ⟨Q, hQ⟩ := dm16 i hi
 have h := dgt_add X Y (256 ^ i) Q (Int.pow_pos (by decide))
 rw [hQ] at h
 exact h
theorem st_dig (g : NI) : ∀ n i, i < n → st 255 8 g n i = un (ua (g i) (cy 8 g i)) 255
 | 0, i, h => absurd h (by omega)
 | n + 1, i, h => by
  unfold st
  by_cases e : i = n
  ·subst e
   rw [up_at]
  ·rw [up_ne _ _ _ e, st_dig g n i (by omega)]
theorem dby_val (g : NI) (hg : ∀ i, i < 16 → 0 ≤ g i ∧ g i < 4096) (i : Nat) (hi : i < 16) : dby g i = dgt (V 256 16 g) i := by
 have C := chain8 g 16 (fun i hi => by have := hg i hi; omega)
 have Ci := chain8 g i (fun k hk => by have := hg k (by omega); omega)
 have hv := C.val
 rw [p256] at hv
 have c0 := Ci.c0
 have c1 := Ci.c1
 have a := hg i hi
 have e : dby g i = st 255 8 g 16 i := by
  rw [st_dig g 16 i hi]
  unfold dby
  rw [cv8_eq, un8 _ (by rw [ua_eq _ _ (by omega) (by omega)]; omega) (by rw [ua_eq _ _ (by omega) (by omega)]; omega)]
 rw [e, ← dig_val _ 16 C.dig i hi, ← hv, Int.mul_comm (cy 8 g 16), dgt_more _ _ i hi]
theorem dt_tag (key s : Yb) : dtS key s = tagS key s := by
 obtain ⟨gr, er⟩ := dr_val key
 obtain ⟨g, h⟩ := dsm_val s (drF key) gr ((s.size + 15) / 16) (by omega)
 obtain ⟨w1, w2⟩ := dw_val _ g
 have w1' : ∀ i, i < 18 → 0 ≤ dh key s i ∧ dh key s i < 256 := w1
 have w2' : V 256 18 (dh key s) = hN (V 256 16 (rB (bt key))) (qS s) ((s.size + 15) / 16) := by
  rw [← er, ← h]
  exact w2
 have eg : ∀ i, i < 16 → dsg key (dh key s) i = dh key s i + bt key (16 + i) := fun i hi => by
  have a := w1' i (by omega)
  have b := bt_nn key (16 + i)
  unfold dsg
  rw [cv64_eq _ b.1 (by omega), ua_eq _ _ (by omega) (by omega)]
 unfold dtS tagS tagZ
 congr 1
 refine List.map_congr_left fun i hi => ?_
 have hi' := List.mem_range.1 hi
 rw [dby_val _ (fun k hk => by
  have a := w1' k (by omega)
  have b := bt_nn key (16 + k)
  rw [eg k hk]
  omega) i hi', V_congr 256 16 _ _ eg, V_add, ← w2', V18]
 rw [← dgt_more (V 256 16 (dh key s) + V 256 16 (fun i => bt key (16 + i))) (dh key s 16 + dh key s 17 * 256) i hi']
 congr 1
 omega
open Go.RowKit
theorem wrap8_bv (b : BitVec 8) : IntKind.wrap .u8 (b.toNat : Int) = (b.toNat : Int) := by
 have := b.isLt
 simp [IntKind.wrap, IntKind.signed, IntKind.bits]
 omega
theorem bv8_nat (n : Nat) (h : n < 256) : (BitVec.ofInt 8 (n : Int)).toNat = n := by
 rw [BitVec.toNat_ofInt]
 omega
theorem ob8_nn (x y : Int) : 0 ≤ ob8 x y ∧ ob8 x y < 256 := by
 unfold ob8
 rw [wrap8_bv]
 have := (BitVec.ofInt 8 x ||| BitVec.ofInt 8 y).isLt
 omega
theorem ob8_zero (x y : Int) (hx : 0 ≤ x ∧ x < 256) (hy : 0 ≤ y ∧ y < 256) : ob8 x y = 0 ↔ x = 0 ∧ y = 0 := by
 obtain ⟨n, rfl⟩ : ∃ n : Nat, x = (n : Int) := ⟨x.toNat, by omega⟩
 obtain ⟨m, rfl⟩ : ∃ m : Nat, y = (m : Int) := ⟨y.toNat, by omega⟩
 unfold ob8
 rw [wrap8_bv, BitVec.toNat_or, bv8_nat n (by omega), bv8_nat m (by omega)]
 have : n ||| m = 0 ↔ n = 0 ∧ m = 0 := Nat.or_eq_zero_iff
 omega
theorem xb_zero (x y : Int) (hx : 0 ≤ x ∧ x < 256) (hy : 0 ≤ y ∧ y < 256) : xb x y = 0 ↔ x = y := by
 obtain ⟨n, rfl⟩ : ∃ n : Nat, x = (n : Int) := ⟨x.toNat, by omega⟩
 obtain ⟨m, rfl⟩ : ∃ m : Nat, y = (m : Int) := ⟨y.toNat, by omega⟩
 unfold xb
 rw [wrap8_bv, BitVec.toNat_xor, bv8_nat n (by omega), bv8_nat m (by omega)]
 have : n ^^^ m = 0 ↔ n = m := ⟨fun h => by
  have e : n ^^^ m ^^^ m = m := by rw [h, Nat.zero_xor]
  rw [Nat.xor_assoc, Nat.xor_self, Nat.xor_zero] at e
  exact e, fun h => by rw [h, Nat.xor_self]⟩
 omega
def ul (a b : Yb) : Nat → Int
 | 0 => 0
 | j + 1 => ob8 (ul a b j) (xb (bt a j) (bt b j))
theorem ul_nn (a b : Yb) (n : Nat) : 0 ≤ ul a b n ∧ ul a b n < 256 := by
 cases n with
 | zero => exact ⟨by simp [ul], by simp [ul]⟩
 | succ n => exact ob8_nn _ _
theorem ul_zero (a b : Yb) : ∀ n, ul a b n = 0 ↔ ∀ i, i < n → bt a i = bt b i
 | 0 => ⟨fun _ i hi => absurd hi (by omega), fun _ => rfl⟩
 | n + 1 => by
  show ob8 (ul a b n) (xb (bt a n) (bt b n)) = 0 ↔ _
  rw [ob8_zero _ _ (ul_nn a b n) (xb_nn _ _), ul_zero a b n, xb_zero _ _ (bt_nn a n) (bt_nn b n)]
  constructor
  ·rintro ⟨h1, h2⟩ i hi
   by_cases e : i = n
   ·rw [e, h2]
   ·exact h1 i (by omega)
  ·intro h
   exact ⟨fun i hi => h i (by omega), h n (by omega)⟩
theorem bt_ext (a b : Yb) (hs : a.size = b.size) (h : ∀ i, i < a.size → bt a i = bt b i) : a = b := by
 have e : sb a = sb b := by
  refine List.ext_getElem? fun i => ?_
  by_cases hi : i < a.size
  ·rw [sb_get a i hi, sb_get b i (by omega), h i hi]
  ·rw [List.getElem?_eq_none (by rw [sb_length]; omega), List.getElem?_eq_none (by rw [sb_length]; omega)]
 rw [← bs_sb a, e, bs_sb]
theorem ul_eq (a b : Yb) (hs : a.size = b.size) : (ul a b a.size = 0) ↔ a = b := by
 rw [ul_zero]
 constructor
 ·exact bt_ext a b hs
 ·rintro rfl i _
  rfl
theorem toList_ne {a b : Yb} (h : a ≠ b) : (a.toList == b.toList) = false := by
 rw [ByteArray.toList_eq, ByteArray.toList_eq, beq_eq_false_iff_ne]
 intro e
 exact h (ByteArray.ext (Array.toList_inj.1 e))
theorem c_sameA (x y : Yb) (h : x.size ≠ y.size) (w : World) (hL : Laid w)  : Cs 81 #[.string x, .string y] w (.bool false) := by
 go_enter Tryz.func81, Tryz.ntmps81
 have M := Mem.start hL
 refine sq <| wp_seq <| sR <| rV 4 <| ZS 11 ((x.size : Int) = (y.size : Int)) <| nT <| cT <| sq <| wp_ret <| au_then_ret ?_
 exact b1 M
theorem c_sameB (x y : Yb) (h : x.size = y.size) (e : x = y) (hz : x.size ≤ 200000) (w : World) (hL : Laid w)  : Cs 81 #[.string x, .string y] w (.bool true) := by
 go_enter Tryz.func81, Tryz.ntmps81
 have M := Mem.start hL
 refine sq <| wp_seq <| sR <| rV 4 <| ZD 11 ((x.size : Int) = (y.size : Int)) <| nT <| cF <| wp_skip <| au_then <| sq <| wp_seq <| sq <| wp_block ?_
 refine au_loop (fun j a w' => ∃ v1 : NV, a = (fm ([.string x, .string y, undef, undef, .bool false, .int .u8 (ul x y j), v1 6, .string x, .int .i64 (x.size : Int), .string y, .int .i64 (y.size : Int), .bool false, .string x, .int .i64 (x.size : Int), .int .i64 (j : Int)] ++ vr v1 15 12 ++ [undef, undef])) ∧ Mem ⟨w, []⟩ [] w') x.size (exS M) ?_ ?_
 ·intro j a u0 hj hI
  obtain ⟨v1, rfl, M⟩ := hI
  refine sR <| ZT 15 ((j : Int) < (x.size : Int)) <| nT <| wp_seq <| cT <| wp_skip <| au_then <| wp_seq <| wp_block <| sq <| rg_tail M 9 (by kernel_rfl) (by kernel_rfl) ?_
  simp only [List.take_succ_cons, List.take_zero]
  refine kR 3 <| kH 20 (.int .u8 (bt x j)) (run_ixS 9 Tryz.underlying9 _ _ rfl x (by kernel_rfl) .i64 j (by kernel_rfl) (by omega)) <| kR 2 <| kH 23 (.int .u8 (bt y j)) (run_ixS 9 Tryz.underlying9 _ _ rfl y (by kernel_rfl) .i64 j (by kernel_rfl) (by omega)) <| kR 2 <| kl_nil fun u1 M => rV 1 <| pl_nil <| au_block <| au_then <| rg_lit <| ZI 26 ((j : Int) + 1) ((j + 1 : Nat) : Int) <| rV 1 <| nT ?_
  exact exS M
 ·intro a u0 hI
  obtain ⟨v1, rfl, M⟩ := hI
  refine sR <| ZF 15 ((x.size : Int) < (x.size : Int)) <| nT <| wp_seq <| cF <| wp_exit <| au_then_exit <| au_then_exit <| au_block_exit <| au_then <| sR <| rV 1 <| pH 28 (.bool true) (jT (ul x y x.size = 0) ((ul_eq x y h).2 e)) <| rV 1 <| nT <| wp_ret ?_
  exact b1 M
theorem c_sameC (x y : Yb) (h : x.size = y.size) (e : x ≠ y) (hz : x.size ≤ 200000) (w : World) (hL : Laid w)  : Cs 81 #[.string x, .string y] w (.bool false) := by
 go_enter Tryz.func81, Tryz.ntmps81
 have M := Mem.start hL
 refine sq <| wp_seq <| sR <| rV 4 <| ZD 11 ((x.size : Int) = (y.size : Int)) <| nT <| cF <| wp_skip <| au_then <| sq <| wp_seq <| sq <| wp_block ?_
 refine au_loop (fun j a w' => ∃ v1 : NV, a = (fm ([.string x, .string y, undef, undef, .bool false, .int .u8 (ul x y j), v1 6, .string x, .int .i64 (x.size : Int), .string y, .int .i64 (y.size : Int), .bool false, .string x, .int .i64 (x.size : Int), .int .i64 (j : Int)] ++ vr v1 15 12 ++ [undef, undef])) ∧ Mem ⟨w, []⟩ [] w') x.size (exS M) ?_ ?_
 ·intro j a u0 hj hI
  obtain ⟨v1, rfl, M⟩ := hI
  refine sR <| ZT 15 ((j : Int) < (x.size : Int)) <| nT <| wp_seq <| cT <| wp_skip <| au_then <| wp_seq <| wp_block <| sq <| rg_tail M 9 (by kernel_rfl) (by kernel_rfl) ?_
  simp only [List.take_succ_cons, List.take_zero]
  refine kR 3 <| kH 20 (.int .u8 (bt x j)) (run_ixS 9 Tryz.underlying9 _ _ rfl x (by kernel_rfl) .i64 j (by kernel_rfl) (by omega)) <| kR 2 <| kH 23 (.int .u8 (bt y j)) (run_ixS 9 Tryz.underlying9 _ _ rfl y (by kernel_rfl) .i64 j (by kernel_rfl) (by omega)) <| kR 2 <| kl_nil fun u1 M => rV 1 <| pl_nil <| au_block <| au_then <| rg_lit <| ZI 26 ((j : Int) + 1) ((j + 1 : Nat) : Int) <| rV 1 <| nT ?_
  exact exS M
 ·intro a u0 hI
  obtain ⟨v1, rfl, M⟩ := hI
  refine sR <| ZF 15 ((x.size : Int) < (x.size : Int)) <| nT <| wp_seq <| cF <| wp_exit <| au_then_exit <| au_then_exit <| au_block_exit <| au_then <| sR <| rV 1 <| pH 28 (.bool false) (jF (ul x y x.size = 0) (fun k => e ((ul_eq x y h).1 k))) <| rV 1 <| nT <| wp_ret ?_
  exact b1 M
theorem c_same (x y : Yb) (hz : x.size ≤ 200000) (w : World) (hL : Laid w) : Cs 81 #[.string x, .string y] w (.bool (decide (x = y))) := by
 by_cases h : x.size = y.size
 ·by_cases e : x = y
  ·rw [decide_eq_true e]
   exact c_sameB x y h e hz w hL
  ·rw [decide_eq_false e]
   exact c_sameC x y h e hz w hL
 ·rw [decide_eq_false (fun e => h (by rw [e]))]
  exact c_sameA x y h w hL
theorem c_Tag (key s : Yb) (hk : key.size = 32) (hz : s.size ≤ 200000) (w : World) (hL : Laid w) : Cs 103 #[.string key, .string s] w (.tuple #[.string (tagS key s), .int .i64 0]) := by
 rw [← tg_val key s hk]
 exact c_TagA key s hk hz w hL
theorem d_Tag (key s : Yb) (hk : key.size = 32) (hz : s.size ≤ 200000) (w : World) (hL : Laid w) : Cs 109 #[.string key, .string s] w (.tuple #[.string (tagS key s), .int .i64 0]) := by
 rw [← dt_tag key s]
 exact d_TagA key s hk hz w hL
theorem tagS_size (key s : Yb) : (tagS key s).size = 16 := by
 unfold tagS
 rw [bs_size]
 simp
end Go.Proofs.YtffimigpbcilbaaGreatDoor.Pol
