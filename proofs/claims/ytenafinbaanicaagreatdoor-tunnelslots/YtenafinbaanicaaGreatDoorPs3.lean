/- Part 3 of the walks and facts. -/
import Derived.Test.YtenafinbaanicaaGreatDoorPs2
import Derived.Lib.SliceRun
set_option maxHeartbeats 16000000
set_option maxRecDepth 100000
set_option linter.unusedSimpArgs false
set_option linter.unusedVariables false
namespace Go.Proofs.YtenafinbaanicaaGreatDoor.Pol
open Go.RowKit
theorem q18 : (256 : Int) ^ 18 = 22300745198530623141535718272648361505980416 := by decide
theorem q17 : (256 : Int) ^ 17 = 87112285931760246646623899502532662132736 := by decide
theorem V18 (s : NI) : V 256 18 s = V 256 16 s + s 16 * 340282366920938463463374607431768211456 + s 17 * 87112285931760246646623899502532662132736 := by
 have : V 256 18 s = V 256 16 s + s 16 * 256 ^ 16 + s 17 * 256 ^ 17 := rfl
 rw [this, p256, q17]
theorem d1_val (a : NI) (h : ∀ i, i < 18 → 0 ≤ a i ∧ a i < 1099511627776) : V 256 18 (d1 a) = V 256 18 a % 1361129467683753853853498429727072845824 + 5 * (V 256 18 a / 1361129467683753853853498429727072845824) ∧ (∀ i, i < 18 → 0 ≤ d1 a i ∧ d1 a i < 256 + 5 * (V 256 18 a / 1361129467683753853853498429727072845824)) ∧ 0 ≤ V 256 18 a / 1361129467683753853853498429727072845824 ∧ V 256 18 a / 1361129467683753853853498429727072845824 < 144115188075855872 := by
 have C := chain8 a 18 (fun i hi => by have := h i hi; omega)
 have D := C.dig
 have s16 := D 16 (by decide)
 have s17 := D 17 (by decide)
 have s0 := D 0 (by decide)
 have n0 := V_nn 256 (by decide) 18 a (fun i hi => (h i hi).1)
 have n1 := V_le 256 (by decide) 4311810306 (by decide) 18 a (fun i hi => by have := h i hi; omega)
 rw [q18] at n1
 have c0 := C.c0
 have hv := C.val
 rw [q18, V18] at hv
 have l0 := V_nn 256 (by decide) 16 (st 255 8 a 18) (fun i hi => (D i (by omega)).1)
 have l1 := V_lt 256 (by decide) 16 (st 255 8 a 18) (fun i hi => (D i (by omega)).2)
 rw [p256] at l1
 have et : dtop a = st 255 8 a 18 16 / 4 + st 255 8 a 18 17 * 64 + cy 8 a 18 * 16384 := by
  have cb : cy 8 a 18 < 281474976710656 := by omega
  have t1 : sl (st 255 8 a 18 17) 6 = st 255 8 a 18 17 * 64 := sl_eq _ 6 (by omega) (by omega)
  have t2 : uo (st 255 8 a 18 16 / 4) (st 255 8 a 18 17 * 64) = st 255 8 a 18 16 / 4 + st 255 8 a 18 17 * 64 := uo_add 6 _ _ (by omega) (by show _ < (64 : Int); omega) (by omega) (by show _ + _ * (64 : Int) < _; omega)
  have t3 : sl (cy 8 a 18) 14 = cy 8 a 18 * 16384 := sl_eq _ 14 (by omega) (by omega)
  show uo (uo (sr (st 255 8 a 18 16) 2) (sl (st 255 8 a 18 17) 6)) (sl (cy 8 a 18) 14) = _
  rw [sr2, t1, t2, t3]
  exact uo_add 14 _ _ (by omega) (by show _ < (16384 : Int); omega) (by omega) (by show _ + _ * (16384 : Int) < _; omega)
 have eq : dtop a = V 256 18 a / 1361129467683753853853498429727072845824 := by
  rw [et, ← hv]
  omega
 have q0 : 0 ≤ V 256 18 a / 1361129467683753853853498429727072845824 := by omega
 have q1 : V 256 18 a / 1361129467683753853853498429727072845824 < 144115188075855872 := by omega
 have e0 : d0 a = upd (upd (st 255 8 a 18) 16 (st 255 8 a 18 16 % 4)) 17 0 := by
  show upd (upd (st 255 8 a 18) 16 (un (st 255 8 a 18 16) 3)) 17 0 = _
  rw [un2 _ s16.1 (by omega)]
 have e00 : d0 a 0 = st 255 8 a 18 0 := by
  rw [e0, up_ne _ _ _ (by decide), up_ne _ _ _ (by decide)]
 have e1 : d1 a = upd (d0 a) 0 (st 255 8 a 18 0 + 5 * (V 256 18 a / 1361129467683753853853498429727072845824)) := by
  unfold d1
  rw [eq, e00]
  generalize V 256 18 a / 1361129467683753853853498429727072845824 = q at *
  rw [um_eq 5 q (by omega) (by omega), ua_eq _ _ (by omega) (by omega)]
 refine ⟨?_, ?_, q0, q1⟩
 ·rw [e1, V0 _ _ _ _ (by decide), e00, e0, V_upd _ 18 _ _ _ (by decide), V_upd _ 18 _ _ _ (by decide), up_ne _ _ _ (by decide), V18, p256, q17, ← hv]
  generalize st 255 8 a 18 16 = x at *
  generalize st 255 8 a 18 17 = y at *
  generalize cy 8 a 18 = z at *
  generalize V 256 16 (st 255 8 a 18) = l at *
  omega
 ·intro i hi
  have d := D i hi
  rw [e1]
  by_cases c : i = 0
  ·subst c
   rw [up_at]
   omega
  ·rw [up_ne _ _ _ c, e0]
   by_cases c2 : i = 17
   ·subst c2
    rw [up_at]
    omega
   ·rw [up_ne _ _ _ c2]
    by_cases c3 : i = 16
    ·subst c3
     rw [up_at]
     omega
    ·rw [up_ne _ _ _ c3]
     omega
structure DGood (h : NI) : Prop where
 part : ∀ i, i < 18 → 0 ≤ h i ∧ h i < 256
 lt : V 256 18 h < 1361129467683753853853498429727072845824
theorem DGood.nn {h : NI} (g : DGood h) : 0 ≤ V 256 18 h := V_nn _ (by decide) 18 h (fun i hi => (g.part i hi).1)
theorem dc_val (a : NI) (h : ∀ i, i < 18 → 0 ≤ a i ∧ a i < 4096) : DGood (dcF a) ∧ ∃ k, V 256 18 a = V 256 18 (dcF a) + k * 1361129467683753853853498429727072845819 := by
 have n0 := V_nn 256 (by decide) 18 a (fun i hi => (h i hi).1)
 have n1 := V_le 256 (by decide) 17 (by decide) 18 a (fun i hi => by have := h i hi; omega)
 rw [q18] at n1
 obtain ⟨a1, a2, a3, a4⟩ := d1_val a (fun i hi => by have := h i hi; omega)
 have q1 : V 256 18 a / 1361129467683753853853498429727072845824 < 1048576 := by omega
 obtain ⟨b1, b2, b3, b4⟩ := d1_val (d1 a) (fun i hi => by have := a2 i hi; omega)
 rw [a1] at b1 b2 b3
 have q2 : (V 256 18 a % 1361129467683753853853498429727072845824 + 5 * (V 256 18 a / 1361129467683753853853498429727072845824)) / 1361129467683753853853498429727072845824 ≤ 1 := by
  generalize V 256 18 a = v at *
  omega
 obtain ⟨c1, c2, c3, c4⟩ := d1_val (d1 (d1 a)) (fun i hi => by have := b2 i hi; omega)
 have l2 : V 256 18 (d1 (d1 a)) < 1361129467683753853853498429727072845824 := by
  rw [b1]
  generalize V 256 18 a = v at *
  omega
 have n2 : 0 ≤ V 256 18 (d1 (d1 a)) := V_nn 256 (by decide) 18 _ (fun i hi => (b2 i hi).1)
 have e3 : V 256 18 (d1 (d1 (d1 a))) = V 256 18 (d1 (d1 a)) := by
  rw [c1]
  omega
 have C := chain8 (d1 (d1 (d1 a))) 18 (fun i hi => by have := c2 i hi; omega)
 have hc := (C.cut (by decide)).2
 rw [q18, e3, Int.emod_eq_of_lt n2 (by omega)] at hc
 have e4 : V 256 18 (dcF a) = V 256 18 (d1 (d1 a)) := hc
 refine ⟨⟨C.dig, by rw [e4]; exact l2⟩, V 256 18 a / 1361129467683753853853498429727072845824 + (V 256 18 a % 1361129467683753853853498429727072845824 + 5 * (V 256 18 a / 1361129467683753853853498429727072845824)) / 1361129467683753853853498429727072845824, ?_⟩
 rw [e4, b1]
 generalize V 256 18 a = v at *
 omega
theorem dlo_at (T : NI) : ∀ n k, dlo T n k = if k < n then T k else 0
 | 0, k => by rw [if_neg (by omega)]; rfl
 | n + 1, k => by
  unfold dlo
  by_cases e : k = n
  ·subst e
   rw [up_at, if_pos (by omega)]
  ·rw [up_ne _ _ _ e, dlo_at T n k]
   by_cases h : k < n
   ·rw [if_pos h, if_pos (by omega)]
   ·rw [if_neg h, if_neg (by omega)]
theorem dhi_at (T : NI) : ∀ n k, dhi T n k = if k < n then uo (sr (T (16 + k)) 2) (un (sl (T (17 + k)) 6) 255) else 0
 | 0, k => by rw [if_neg (by omega)]; rfl
 | n + 1, k => by
  unfold dhi
  by_cases e : k = n
  ·subst e
   rw [up_at, if_pos (by omega)]
  ·rw [up_ne _ _ _ e, dhi_at T n k]
   by_cases h : k < n
   ·rw [if_pos h, if_pos (by omega)]
   ·rw [if_neg h, if_neg (by omega)]
theorem hi_val (x y : Int) (hx : 0 ≤ x ∧ x < 256) (hy : 0 ≤ y ∧ y < 256) : uo (sr x 2) (un (sl y 6) 255) = x / 4 + (y % 4) * 64 := by
 have t1 : sl y 6 = y * 64 := sl_eq _ 6 (by omega) (by omega)
 rw [sr2, t1, un8 _ (by omega) (by omega), show y * 64 % 256 = (y % 4) * 64 by omega]
 exact uo_add 6 _ _ (by omega) (by show _ < (64 : Int); omega) (by omega) (by show _ + _ * (64 : Int) < _; omega)
theorem hi_sum (T : NI) : ∀ n, 4 * V 256 n (fun k => T (16 + k) / 4 + (T (17 + k) % 4) * 64) = V 256 n (fun k => T (16 + k)) - T 16 % 4 + 256 ^ n * (T (16 + n) % 4)
 | 0 => by
  simp [V]
  omega
 | n + 1 => by
  have ih := hi_sum T n
  unfold V
  simp only
  rw [Int.mul_add, ih, Int.pow_succ, show 16 + (n + 1) = 17 + n by omega]
  have e := Int.emod_add_mul_ediv (T (16 + n)) 4
  generalize T (16 + n) % 4 = r at *
  generalize T (16 + n) / 4 = q at *
  rw [← e]
  grind
theorem dl3_at (T : NI) : ∀ n k, dl3 T n k = if k < n then ua (dl2 T k) (um 5 (dhi T 17 k)) else dl2 T k
 | 0, k => by rw [if_neg (by omega)]; rfl
 | n + 1, k => by
  unfold dl3
  by_cases e : k = n
  ·subst e
   rw [up_at, dl3_at T k k, if_neg (by omega), if_pos (by omega)]
  ·rw [up_ne _ _ _ e, dl3_at T n k]
   by_cases h : k < n
   ·rw [if_pos h, if_pos (by omega)]
   ·rw [if_neg h, if_neg (by omega)]
theorem dt_val (x y : NI) (gx : DGood x) (gy : DGood y) : DGood (dtF x y) ∧ ∃ k, V 256 18 x * V 256 18 y = V 256 18 (dtF x y) + k * 1361129467683753853853498429727072845819 := by
 obtain ⟨h1, h2⟩ := tp_val 256 36 18 x y (fun i j hi hj => by omega) 65536 (by decide) (by decide) (fun i j hi hj => by
  have a := gx.part i hi
  have c := gy.part j hj
  exact ⟨Int.mul_nonneg a.1 c.1, Int.mul_le_mul (show x i ≤ 256 by omega) (show y j ≤ 256 by omega) c.1 (by decide)⟩) 18 (Nat.le_refl _)
 have C := chain8 (tp 18 x y 18) 36 (fun i _ => by have := h1 i; omega)
 have D := C.dig
 have w0 : 0 ≤ V 256 18 x * V 256 18 y := Int.mul_nonneg gx.nn gy.nn
 have w1 : V 256 18 x * V 256 18 y ≤ 1361129467683753853853498429727072845824 * 1361129467683753853853498429727072845824 := Int.mul_le_mul (Int.le_of_lt gx.lt) (Int.le_of_lt gy.lt) gy.nn (by decide)
 have q33 : (256 : Int) ^ 33 = 1361129467683753853853498429727072845824 * 1361129467683753853853498429727072845824 * 16 := by decide
 have q36 : (256 : Int) ^ 36 = 1361129467683753853853498429727072845824 * 1361129467683753853853498429727072845824 * 268435456 := by decide
 have hc := (C.cut (by decide)).2
 rw [h2, q36, Int.emod_eq_of_lt w0 (by omega)] at hc
 have hT : V 256 36 (dT x y) = V 256 18 x * V 256 18 y := hc
 have hd : ∀ i, i < 36 → 0 ≤ dT x y i ∧ dT x y i < 256 := D
 clear hc D C h1 h2
 unfold dtF
 rw [← hT]
 generalize dT x y = T at *
 have s1 := V_split 256 33 3 T
 have s1' : V 256 36 T = V 256 33 T + 256 ^ 33 * V 256 3 (fun i => T (33 + i)) := s1
 have z0 := V_nn 256 (by decide) 3 (fun i => T (33 + i)) (fun i hi => (hd (33 + i) (by omega)).1)
 have z1 := V_nn 256 (by decide) 33 T (fun i hi => (hd i (by omega)).1)
 have z2 : V 256 3 (fun i => T (33 + i)) = 0 := by
  rw [q33] at s1'
  omega
 have z3 : T 33 = 0 := by
  have e : V 256 3 (fun i => T (33 + i)) = 0 + T 33 * 256 ^ 0 + T 34 * 256 ^ 1 + T 35 * 256 ^ 2 := rfl
  have a := hd 33 (by decide)
  have b := hd 34 (by decide)
  have c := hd 35 (by decide)
  rw [z2] at e
  simp at e
  omega
 rw [z2, Int.mul_zero, Int.add_zero] at s1'
 have s2 := V_split 256 16 17 T
 have s2' : V 256 33 T = V 256 16 T + 256 ^ 16 * V 256 17 (fun i => T (16 + i)) := s2
 have hs := hi_sum T 17
 rw [show T (16 + 17) = 0 from z3] at hs
 have t16 := hd 16 (by decide)
 have ehi : ∀ k, k < 17 → dhi T 17 k = T (16 + k) / 4 + (T (17 + k) % 4) * 64 := fun k hk => by
  rw [dhi_at, if_pos hk, hi_val _ _ (hd (16 + k) (by omega)) (hd (17 + k) (by omega))]
 have hhi : ∀ k, k < 18 → 0 ≤ dhi T 17 k ∧ dhi T 17 k < 256 := fun k hk => by
  by_cases c : k < 17
  ·have a := hd (16 + k) (by omega)
   rw [ehi k c]
   omega
  ·rw [dhi_at, if_neg c]
   decide
 have hlo : ∀ k, k < 18 → 0 ≤ dl2 T k ∧ dl2 T k < 256 := fun k hk => by
  unfold dl2
  by_cases c : k = 16
  ·subst c
   rw [up_at, dlo_at, if_pos (by decide), un2 _ t16.1 (by omega)]
   omega
  ·rw [up_ne _ _ _ c, dlo_at]
   split
   ·exact hd k (by omega)
   ·decide
 have e3 : ∀ k, k < 18 → dl3 T 18 k = dl2 T k + 5 * dhi T 17 k := fun k hk => by
  have a := hlo k hk
  have b := hhi k hk
  rw [dl3_at, if_pos hk, um_eq _ _ (by omega) (by omega), ua_eq _ _ (by omega) (by omega)]
 obtain ⟨g, k, hk⟩ := dc_val (dl3 T 18) (fun i hi => by
  have a := hlo i hi
  have b := hhi i hi
  rw [e3 i hi]
  omega)
 refine ⟨g, k + V 256 17 (fun k => T (16 + k) / 4 + (T (17 + k) % 4) * 64), ?_⟩
 have f1 : V 256 18 (dhi T 17) = V 256 17 (fun k => T (16 + k) / 4 + (T (17 + k) % 4) * 64) := by
  have : V 256 18 (dhi T 17) = V 256 17 (dhi T 17) + dhi T 17 17 * 256 ^ 17 := rfl
  rw [this, V_congr 256 17 _ _ ehi, dhi_at, if_neg (by decide)]
  omega
 have f2 : V 256 18 (dl2 T) = V 256 16 T + (T 16 % 4) * 340282366920938463463374607431768211456 := by
  unfold dl2
  rw [V_upd _ 18 _ _ _ (by decide), p256, V18, V_congr 256 16 (dlo T 17) T (fun i hi => by rw [dlo_at, if_pos (by omega)]), dlo_at, dlo_at, if_pos (by decide), if_neg (by decide), un2 _ t16.1 (by omega)]
  omega
 have f3 : V 256 18 (dl3 T 18) = V 256 18 (dl2 T) + 5 * V 256 18 (dhi T 17) := by
  rw [V_congr 256 18 _ (fun k => dl2 T k + 5 * dhi T 17 k) e3, V_add, V_mul]
 rw [p256] at s2'
 rw [f2, f1, hk] at f3
 rw [s1', s2']
 generalize V 256 17 (fun i => T (16 + i)) = u at *
 generalize V 256 17 (fun k => T (16 + k) / 4 + (T (17 + k) % 4) * 64) = z at *
 omega
theorem dw_val (a : NI) (g : DGood a) : (∀ i, i < 18 → 0 ≤ dwF a i ∧ dwF a i < 256) ∧ V 256 18 (dwF a) = V 256 18 a % 1361129467683753853853498429727072845819 := by
 obtain ⟨gc, k, hk⟩ := dc_val a (fun i hi => by have := g.part i hi; omega)
 have n0 := gc.nn
 have n1 := gc.lt
 have p0 := gc.part 0 (by decide)
 have e1 : dg a = upd (dcF a) 0 (dcF a 0 + 5) := by
  unfold dg
  rw [ua_eq _ _ (by omega) (by omega)]
 have vg : V 256 18 (dg a) = V 256 18 (dcF a) + 5 := by
  rw [e1, V0 _ _ _ _ (by decide)]
  omega
 have C := chain8 (dg a) 18 (fun i hi => by
  have := gc.part i hi
  rw [e1]
  by_cases c : i = 0
  ·subst c
   rw [up_at]
   omega
  ·rw [up_ne _ _ _ c]
   omega)
 have hc := (C.cut (by decide)).2
 rw [q18, vg, Int.emod_eq_of_lt (by omega) (by omega)] at hc
 have hG : V 256 18 (dG a) = V 256 18 (dcF a) + 5 := hc
 have D : ∀ i, i < 18 → 0 ≤ dG a i ∧ dG a i < 256 := C.dig
 have s16 := D 16 (by decide)
 have s17 := D 17 (by decide)
 have l0 := V_nn 256 (by decide) 16 (dG a) (fun i hi => (D i (by omega)).1)
 have l1 := V_lt 256 (by decide) 16 (dG a) (fun i hi => (D i (by omega)).2)
 rw [p256] at l1
 have hv := V18 (dG a)
 rw [hG] at hv
 have em : V 256 18 a % 1361129467683753853853498429727072845819 = V 256 18 (dcF a) % 1361129467683753853853498429727072845819 := by
  rw [hk, Int.add_mul_emod_self_right]
 rw [em]
 unfold dwF
 by_cases c : 4 ≤ dG a 16
 ·rw [if_pos c, un2 _ s16.1 (by omega)]
  have e4 : dG a 16 = 4 := by omega
  refine ⟨fun i hi => ?_, ?_⟩
  ·by_cases c2 : i = 16
   ·subst c2
    rw [up_at]
    omega
   ·rw [up_ne _ _ _ c2]
    exact D i hi
  ·rw [V_upd _ 18 _ _ _ (by decide), hG, e4, p256]
   omega
 ·rw [if_neg c]
  refine ⟨gc.part, ?_⟩
  rw [Int.emod_eq_of_lt n0 (by omega)]
theorem rk_at (key : Yb) : ∀ n i, rk key n i = if i < n then bt key i else 0
 | 0, i => by rw [if_neg (by omega)]; rfl
 | n + 1, i => by
  have := bt_nn key n
  unfold rk
  by_cases e : i = n
  ·subst e
   rw [up_at, if_pos (by omega), cv64_eq _ this.1 (by omega)]
  ·rw [up_ne _ _ _ e, rk_at key n i]
   by_cases h : i < n
   ·rw [if_pos h, if_pos (by omega)]
   ·rw [if_neg h, if_neg (by omega)]
theorem un15 (x : Int) (h : 0 ≤ x ∧ x < 256) : un x 15 = x % 16 := un4 x h.1 (by omega)
theorem un252 (x : Int) (h0 : 0 ≤ x ∧ x < 256) : un x 252 = x - x % 4 := by
 have h : ∀ n : Nat, n < 256 → un (n : Int) 252 = (n : Int) - (n : Int) % 4 := by decide +kernel
 have := h x.toNat (by omega)
 rwa [show ((x.toNat : Nat) : Int) = x by omega] at this
theorem dr_at (key : Yb) (i : Nat) (hi : i < 18) : drF key i = pd (rB (bt key)) 16 i := by
 have hb := bt_nn key
 have e : ∀ k, k < 16 → rk key 16 k = bt key k := fun k hk => by rw [rk_at, if_pos hk]
 have e2 : ∀ k, ¬ k < 16 → rk key 16 k = 0 := fun k hk => by rw [rk_at, if_neg hk]
 have x15 : ∀ k, k < 16 → un (rk key 16 k) 15 = bt key k % 16 := fun k hk => by rw [e k hk, un15 _ (hb k)]
 have x3 : ∀ k, k < 16 → un (rk key 16 k) 252 = bt key k - bt key k % 4 := fun k hk => by rw [e k hk, un252 _ (hb k)]
 unfold drF dm2 dm1
 generalize rk key 16 = f at *
 have hc : i = 0 ∨ i = 1 ∨ i = 2 ∨ i = 3 ∨ i = 4 ∨ i = 5 ∨ i = 6 ∨ i = 7 ∨ i = 8 ∨ i = 9 ∨ i = 10 ∨ i = 11 ∨ i = 12 ∨ i = 13 ∨ i = 14 ∨ i = 15 ∨ i = 16 ∨ i = 17 := by omega
 rcases hc with rfl | rfl | rfl | rfl | rfl | rfl | rfl | rfl | rfl | rfl | rfl | rfl | rfl | rfl | rfl | rfl | rfl | rfl
 ·exact e 0 (by decide)
 ·exact e 1 (by decide)
 ·exact e 2 (by decide)
 ·exact x15 3 (by decide)
 ·exact x3 4 (by decide)
 ·exact e 5 (by decide)
 ·exact e 6 (by decide)
 ·exact x15 7 (by decide)
 ·exact x3 8 (by decide)
 ·exact e 9 (by decide)
 ·exact e 10 (by decide)
 ·exact x15 11 (by decide)
 ·exact x3 12 (by decide)
 ·exact e 13 (by decide)
 ·exact e 14 (by decide)
 ·exact x15 15 (by decide)
 ·exact e2 16 (by decide)
 ·exact e2 17 (by decide)
theorem dr_val (key : Yb) : DGood (drF key) ∧ V 256 18 (drF key) = V 256 16 (rB (bt key)) := by
 have e := dr_at key
 have h : V 256 18 (drF key) = V 256 16 (rB (bt key)) := by rw [V_congr 256 18 _ _ e, V_pd _ _ _ 18 (by decide)]
 have l1 := V_lt 256 (by decide) 16 (rB (bt key)) (fun i _ => (rB_nn _ (bt_nn key) i).2)
 rw [p256] at l1
 exact ⟨⟨fun i hi => by rw [e i hi]; exact pd_nn _ _ (rB_nn _ (bt_nn key)) i, by rw [h]; omega⟩, h⟩
theorem dpa_at (h : NI) (p : Yb) : ∀ n i, dpa h p n i = if i < n then ua (h i) (cv .u64 (bt p i)) else h i
 | 0, i => by rw [if_neg (by omega)]; rfl
 | n + 1, i => by
  unfold dpa
  by_cases e : i = n
  ·subst e
   rw [up_at, dpa_at h p i i, if_neg (by omega), if_pos (by omega)]
  ·rw [up_ne _ _ _ e, dpa_at h p n i]
   by_cases c : i < n
   ·rw [if_pos c, if_pos (by omega)]
   ·rw [if_neg c, if_neg (by omega)]
theorem dpp_val (h : NI) (g : DGood h) (p : Yb) (hp : p.size ≤ 16) : (∀ i, i < 18 → 0 ≤ dpp h p i ∧ dpp h p i < 4096) ∧ V 256 18 (dpp h p) = V 256 18 h + qN (bt p) p.size := by
 have e : ∀ i, i < 18 → dpa h p p.size i = h i + pd (bt p) p.size i := fun i hi => by
  have a := g.part i hi
  have b := bt_nn p i
  rw [dpa_at]
  unfold pd
  split
  ·rw [cv64_eq _ b.1 (by omega), ua_eq _ _ (by omega) (by omega)]
  ·rw [Int.add_zero]
 have hn := g.part p.size (by omega)
 have en : dpa h p p.size p.size = h p.size := by
  rw [dpa_at, if_neg (by omega)]
 have e2 : dpp h p = upd (dpa h p p.size) p.size (h p.size + 1) := by
  unfold dpp
  rw [en, ua_eq _ _ (by omega) (by omega)]
 refine ⟨fun i hi => ?_, ?_⟩
 ·have a := g.part i hi
  have b := pd_nn (bt p) p.size (bt_nn p) i
  rw [e2]
  by_cases c : i = p.size
  ·rw [c, up_at]
   omega
  ·rw [up_ne _ _ _ c, e i hi]
   omega
 ·rw [e2, V_upd _ 18 _ _ _ (by omega), en, V_congr 256 18 _ (fun i => h i + pd (bt p) p.size i) e, V_add, V_pd _ _ _ 18 (by omega)]
  unfold qN
  rw [show h p.size + 1 - h p.size = 1 by omega]
  omega
theorem dgood0 : DGood (fun _ => 0) := ⟨fun _ _ => by decide, by decide⟩
theorem dpc_val (s : Yb) (j : Nat) (hj : 16 * j ≤ s.size) : qN (bt (dpc s j)) (dpc s j).size = qS s j := by
 have hs : (dpc s j).size = min 16 (s.size - 16 * j) := by
  rw [dpc_size]
  omega
 unfold qS
 rw [hs]
 unfold qN
 rw [V_congr 256 _ (bt (dpc s j)) (fun i => bt s (16 * j + i)) (fun i hi => by
  unfold dpc
  rw [bt_sub s _ _ i (by omega) (by omega)])]
theorem dsm_val (s : Yb) (r : NI) (gr : DGood r) : ∀ j, 16 * j ≤ s.size + 15 → DGood (dsm s r j) ∧ V 256 18 (dsm s r j) % 1361129467683753853853498429727072845819 = hN (V 256 18 r) (qS s) j
 | 0, _ => ⟨dgood0, (by decide : V 256 18 (fun _ => 0) % 1361129467683753853853498429727072845819 = 0)⟩
 | j + 1, hj => by
  obtain ⟨g, h⟩ := dsm_val s r gr j (by omega)
  obtain ⟨p1, p2⟩ := dpp_val (dsm s r j) g (dpc s j) (by rw [dpc_size]; omega)
  rw [dpc_val s j (by omega)] at p2
  obtain ⟨g1, k1, hk1⟩ := dc_val _ p1
  obtain ⟨g2, k2, hk2⟩ := dt_val _ r g1 gr
  refine ⟨g2, hN_step h (k := k2 + k1 * V 256 18 r) ?_⟩
  rw [← p2, hk1, Int.add_mul, hk2, Int.add_mul]
  have : k1 * 1361129467683753853853498429727072845819 * V 256 18 r = k1 * V 256 18 r * 1361129467683753853853498429727072845819 := by
   rw [Int.mul_right_comm]
  rw [this, Int.add_assoc]
  rfl
theorem dig_val (s : NI) (n : Nat) (h : ∀ i, i < n → 0 ≤ s i ∧ s i < 256) (i : Nat) (hi : i < n) : dgt (V 256 n s) i = s i := by
 have sp := V_split 256 i (1 + (n - i - 1)) s
 rw [show i + (1 + (n - i - 1)) = n by omega] at sp
 have sp2 := V_split 256 1 (n - i - 1) (fun k => s (i + k))
 have sp3 : V 256 1 (fun k => s (i + k)) = s i := by
  show 0 + s (i + 0) * 256 ^ 0 = _
  simp
 rw [sp3] at sp2
 have l0 := V_nn 256 (by decide) i s (fun k hk => (h k (by omega)).1)
 have l1 := V_lt 256 (by decide) i s (fun k hk => (h k (by omega)).2)
 have B0 : (0 : Int) < 256 ^ i := Int.pow_pos (by decide)
 have := h i hi
 unfold dgt
 rw [sp, sp2, Int.add_mul_ediv_left _ _ (by omega), Int.ediv_eq_zero_of_lt l0 l1, Int.zero_add]
 rw [show (256 : Int) ^ 1 = 256 from rfl, Int.add_mul_emod_self_left]
 omega
theorem dm16 (i : Nat) (hi : i < 16) : ∃ Q : Int, (256 : Int) ^ i * (256 * Q) = 340282366920938463463374607431768211456 := ⟨256 ^ (15 - i), (by decide +kernel : ∀ i, i < 16 → (256 : Int) ^ i * (256 * 256 ^ (15 - i)) = 340282366920938463463374607431768211456) i hi⟩
theorem dgt_more (X Y : Int) (i : Nat) (hi : i < 16) : dgt (X + 340282366920938463463374607431768211456 * Y) i = dgt X i := by
 obtain ⟨Q, hQ⟩ := dm16 i hi
 have h := dgt_add X Y (256 ^ i) Q (Int.pow_pos (by decide))
 rw [hQ] at h
 exact h
theorem st_dig (g : NI) : ∀ n i, i < n → st 255 8 g n i = un (ua (g i) (cy 8 g i)) 255
 | 0, i, h => absurd h (by omega)
 | n + 1, i, h => by
  unfold st
  by_cases e : i = n
  ·subst e
   rw [up_at]
  ·rw [up_ne _ _ _ e, st_dig g n i (by omega)]
theorem dby_val (g : NI) (hg : ∀ i, i < 16 → 0 ≤ g i ∧ g i < 4096) (i : Nat) (hi : i < 16) : dby g i = dgt (V 256 16 g) i := by
 have C := chain8 g 16 (fun i hi => by have := hg i hi; omega)
 have Ci := chain8 g i (fun k hk => by have := hg k (by omega); omega)
 have hv := C.val
 rw [p256] at hv
 have c0 := Ci.c0
 have c1 := Ci.c1
 have a := hg i hi
 have e : dby g i = st 255 8 g 16 i := by
  rw [st_dig g 16 i hi]
  unfold dby
  rw [cv8_eq, un8 _ (by rw [ua_eq _ _ (by omega) (by omega)]; omega) (by rw [ua_eq _ _ (by omega) (by omega)]; omega)]
 rw [e, ← dig_val _ 16 C.dig i hi, ← hv, Int.mul_comm (cy 8 g 16), dgt_more _ _ i hi]
theorem dt_tag (key s : Yb) : dtS key s = tagS key s := by
 obtain ⟨gr, er⟩ := dr_val key
 obtain ⟨g, h⟩ := dsm_val s (drF key) gr ((s.size + 15) / 16) (by omega)
 obtain ⟨w1, w2⟩ := dw_val _ g
 have w1' : ∀ i, i < 18 → 0 ≤ dh key s i ∧ dh key s i < 256 := w1
 have w2' : V 256 18 (dh key s) = hN (V 256 16 (rB (bt key))) (qS s) ((s.size + 15) / 16) := by
  rw [← er, ← h]
  exact w2
 have eg : ∀ i, i < 16 → dsg key (dh key s) i = dh key s i + bt key (16 + i) := fun i hi => by
  have a := w1' i (by omega)
  have b := bt_nn key (16 + i)
  unfold dsg
  rw [cv64_eq _ b.1 (by omega), ua_eq _ _ (by omega) (by omega)]
 unfold dtS tagS tagZ
 congr 1
 refine List.map_congr_left fun i hi => ?_
 have hi' := List.mem_range.1 hi
 rw [dby_val _ (fun k hk => by
  have a := w1' k (by omega)
  have b := bt_nn key (16 + k)
  rw [eg k hk]
  omega) i hi', V_congr 256 16 _ _ eg, V_add, ← w2', V18]
 rw [← dgt_more (V 256 16 (dh key s) + V 256 16 (fun i => bt key (16 + i))) (dh key s 16 + dh key s 17 * 256) i hi']
 congr 1
 omega
open Go.RowKit
theorem wrap8_bv (b : BitVec 8) : IntKind.wrap .u8 (b.toNat : Int) = (b.toNat : Int) := by
 have := b.isLt
 simp [IntKind.wrap, IntKind.signed, IntKind.bits]
 omega
theorem bv8_nat (n : Nat) (h : n < 256) : (BitVec.ofInt 8 (n : Int)).toNat = n := by
 rw [BitVec.toNat_ofInt]
 omega
theorem ob8_nn (x y : Int) : 0 ≤ ob8 x y ∧ ob8 x y < 256 := by
 unfold ob8
 rw [wrap8_bv]
 have := (BitVec.ofInt 8 x ||| BitVec.ofInt 8 y).isLt
 omega
theorem ob8_zero (x y : Int) (hx : 0 ≤ x ∧ x < 256) (hy : 0 ≤ y ∧ y < 256) : ob8 x y = 0 ↔ x = 0 ∧ y = 0 := by
 obtain ⟨n, rfl⟩ : ∃ n : Nat, x = (n : Int) := ⟨x.toNat, by omega⟩
 obtain ⟨m, rfl⟩ : ∃ m : Nat, y = (m : Int) := ⟨y.toNat, by omega⟩
 unfold ob8
 rw [wrap8_bv, BitVec.toNat_or, bv8_nat n (by omega), bv8_nat m (by omega)]
 have : n ||| m = 0 ↔ n = 0 ∧ m = 0 := Nat.or_eq_zero_iff
 omega
theorem xb_zero (x y : Int) (hx : 0 ≤ x ∧ x < 256) (hy : 0 ≤ y ∧ y < 256) : xb x y = 0 ↔ x = y := by
 obtain ⟨n, rfl⟩ : ∃ n : Nat, x = (n : Int) := ⟨x.toNat, by omega⟩
 obtain ⟨m, rfl⟩ : ∃ m : Nat, y = (m : Int) := ⟨y.toNat, by omega⟩
 unfold xb
 rw [wrap8_bv, BitVec.toNat_xor, bv8_nat n (by omega), bv8_nat m (by omega)]
 have : n ^^^ m = 0 ↔ n = m := ⟨fun h => by
  have e : n ^^^ m ^^^ m = m := by rw [h, Nat.zero_xor]
  rw [Nat.xor_assoc, Nat.xor_self, Nat.xor_zero] at e
  exact e, fun h => by rw [h, Nat.xor_self]⟩
 omega
def ul (a b : Yb) : Nat → Int
 | 0 => 0
 | j + 1 => ob8 (ul a b j) (xb (bt a j) (bt b j))
theorem ul_nn (a b : Yb) (n : Nat) : 0 ≤ ul a b n ∧ ul a b n < 256 := by
 cases n with
 | zero => exact ⟨by simp [ul], by simp [ul]⟩
 | succ n => exact ob8_nn _ _
theorem ul_zero (a b : Yb) : ∀ n, ul a b n = 0 ↔ ∀ i, i < n → bt a i = bt b i
 | 0 => ⟨fun _ i hi => absurd hi (by omega), fun _ => rfl⟩
 | n + 1 => by
  show ob8 (ul a b n) (xb (bt a n) (bt b n)) = 0 ↔ _
  rw [ob8_zero _ _ (ul_nn a b n) (xb_nn _ _), ul_zero a b n, xb_zero _ _ (bt_nn a n) (bt_nn b n)]
  constructor
  ·rintro ⟨h1, h2⟩ i hi
   by_cases e : i = n
   ·rw [e, h2]
   ·exact h1 i (by omega)
  ·intro h
   exact ⟨fun i hi => h i (by omega), h n (by omega)⟩
theorem bt_ext (a b : Yb) (hs : a.size = b.size) (h : ∀ i, i < a.size → bt a i = bt b i) : a = b := by
 have e : sb a = sb b := by
  refine List.ext_getElem? fun i => ?_
  by_cases hi : i < a.size
  ·rw [sb_get a i hi, sb_get b i (by omega), h i hi]
  ·rw [List.getElem?_eq_none (by rw [sb_length]; omega), List.getElem?_eq_none (by rw [sb_length]; omega)]
 rw [← bs_sb a, e, bs_sb]
theorem ul_eq (a b : Yb) (hs : a.size = b.size) : (ul a b a.size = 0) ↔ a = b := by
 rw [ul_zero]
 constructor
 ·exact bt_ext a b hs
 ·rintro rfl i _
  rfl
theorem toList_ne {a b : Yb} (h : a ≠ b) : (a.toList == b.toList) = false := by
 rw [ByteArray.toList_eq, ByteArray.toList_eq, beq_eq_false_iff_ne]
 intro e
 exact h (ByteArray.ext (Array.toList_inj.1 e))
theorem c_sameA (x y : Yb) (h : x.size ≠ y.size) (w : World) (hL : Laid w)  : Cs 84 #[.string x, .string y] w (.bool false) := by
 go_enter Tryz.func84, Tryz.ntmps84
 have M := Mem.start hL
 refine sq <| wp_seq <| sR <| rV 4 ?_
 refine ZS 11 ((x.size : Int) = (y.size : Int)) ?_
 refine nT <| cT <| sq <| wp_ret <| au_then_ret ?_
 exact b1 M
theorem c_sameB (x y : Yb) (h : x.size = y.size) (e : x = y) (hz : x.size ≤ 200000) (w : World) (hL : Laid w)  : Cs 84 #[.string x, .string y] w (.bool true) := by
 go_enter Tryz.func84, Tryz.ntmps84
 have M := Mem.start hL
 refine sq <| wp_seq <| sR <| rV 4 ?_
 refine ZD 11 ((x.size : Int) = (y.size : Int)) ?_
 refine nT <| cF <| wp_skip <| au_then <| sq ?_
 refine wp_seq <| sq ?_
 refine wp_block ?_
 refine au_loop (fun j a w' => ∃ v1 : NV, a = (fm ([.string x, .string y, undef, undef, .bool false, .int .u8 (ul x y j), v1 6, .string x, .int .i64 (x.size : Int), .string y, .int .i64 (y.size : Int), .bool false, .string x, .int .i64 (x.size : Int), .int .i64 (j : Int)] ++ vr v1 15 12 ++ [undef, undef])) ∧ Mem ⟨w, []⟩ [] w') x.size (exS M) ?_ ?_
 ·intro j a u0 hj hI
  obtain ⟨v1, rfl, M⟩ := hI
  refine sR ?_
  refine ZT 15 ((j : Int) < (x.size : Int)) ?_
  refine nT <| wp_seq <| cT <| wp_skip <| au_then ?_
  refine wp_seq ?_
  refine wp_block ?_
  refine sq ?_
  refine rg_tail M 9 (by kernel_rfl) (by kernel_rfl) ?_
  simp only [List.take_succ_cons, List.take_zero]
  refine kR 3 ?_
  refine kH 20 (.int .u8 (bt x j)) (run_ixS 9 Tryz.underlying9 _ _ rfl x (by kernel_rfl) .i64 j (by kernel_rfl) (by omega)) ?_
  refine kR 2 ?_
  refine kH 23 (.int .u8 (bt y j)) (run_ixS 9 Tryz.underlying9 _ _ rfl y (by kernel_rfl) .i64 j (by kernel_rfl) (by omega)) ?_
  refine kR 2 ?_
  refine kl_nil fun u1 M => ?_
  refine rV 1 ?_
  refine pl_nil ?_
  refine au_block ?_
  refine au_then ?_
  refine rg_lit ?_
  refine ZI 26 ((j : Int) + 1) ((j + 1 : Nat) : Int) ?_
  refine rV 1 <| nT ?_
  exact exS M
 ·intro a u0 hI
  obtain ⟨v1, rfl, M⟩ := hI
  refine sR ?_
  refine ZF 15 ((x.size : Int) < (x.size : Int)) ?_
  refine nT <| wp_seq <| cF ?_
  refine wp_exit ?_
  refine au_then_exit ?_
  refine au_then_exit ?_
  refine au_block_exit ?_
  refine au_then <| sR <| rV 1 ?_
  refine pH 28 (.bool true) (jT (ul x y x.size = 0) ((ul_eq x y h).2 e)) ?_
  refine rV 1 <| nT <| wp_ret ?_
  exact b1 M
theorem c_sameC (x y : Yb) (h : x.size = y.size) (e : x ≠ y) (hz : x.size ≤ 200000) (w : World) (hL : Laid w)  : Cs 84 #[.string x, .string y] w (.bool false) := by
 go_enter Tryz.func84, Tryz.ntmps84
 have M := Mem.start hL
 refine sq <| wp_seq <| sR <| rV 4 ?_
 refine ZD 11 ((x.size : Int) = (y.size : Int)) ?_
 refine nT <| cF <| wp_skip <| au_then <| sq ?_
 refine wp_seq <| sq ?_
 refine wp_block ?_
 refine au_loop (fun j a w' => ∃ v1 : NV, a = (fm ([.string x, .string y, undef, undef, .bool false, .int .u8 (ul x y j), v1 6, .string x, .int .i64 (x.size : Int), .string y, .int .i64 (y.size : Int), .bool false, .string x, .int .i64 (x.size : Int), .int .i64 (j : Int)] ++ vr v1 15 12 ++ [undef, undef])) ∧ Mem ⟨w, []⟩ [] w') x.size (exS M) ?_ ?_
 ·intro j a u0 hj hI
  obtain ⟨v1, rfl, M⟩ := hI
  refine sR ?_
  refine ZT 15 ((j : Int) < (x.size : Int)) ?_
  refine nT <| wp_seq <| cT <| wp_skip <| au_then ?_
  refine wp_seq ?_
  refine wp_block ?_
  refine sq ?_
  refine rg_tail M 9 (by kernel_rfl) (by kernel_rfl) ?_
  simp only [List.take_succ_cons, List.take_zero]
  refine kR 3 ?_
  refine kH 20 (.int .u8 (bt x j)) (run_ixS 9 Tryz.underlying9 _ _ rfl x (by kernel_rfl) .i64 j (by kernel_rfl) (by omega)) ?_
  refine kR 2 ?_
  refine kH 23 (.int .u8 (bt y j)) (run_ixS 9 Tryz.underlying9 _ _ rfl y (by kernel_rfl) .i64 j (by kernel_rfl) (by omega)) ?_
  refine kR 2 ?_
  refine kl_nil fun u1 M => ?_
  refine rV 1 ?_
  refine pl_nil ?_
  refine au_block ?_
  refine au_then ?_
  refine rg_lit ?_
  refine ZI 26 ((j : Int) + 1) ((j + 1 : Nat) : Int) ?_
  refine rV 1 <| nT ?_
  exact exS M
 ·intro a u0 hI
  obtain ⟨v1, rfl, M⟩ := hI
  refine sR ?_
  refine ZF 15 ((x.size : Int) < (x.size : Int)) ?_
  refine nT <| wp_seq <| cF ?_
  refine wp_exit ?_
  refine au_then_exit ?_
  refine au_then_exit ?_
  refine au_block_exit ?_
  refine au_then <| sR <| rV 1 ?_
  refine pH 28 (.bool false) (jF (ul x y x.size = 0) (fun k => e ((ul_eq x y h).1 k))) ?_
  refine rV 1 <| nT <| wp_ret ?_
  exact b1 M
theorem c_same (x y : Yb) (hz : x.size ≤ 200000) (w : World) (hL : Laid w) : Cs 84 #[.string x, .string y] w (.bool (decide (x = y))) := by
 by_cases h : x.size = y.size
 ·by_cases e : x = y
  ·rw [decide_eq_true e]
   exact c_sameB x y h e hz w hL
  ·rw [decide_eq_false e]
   exact c_sameC x y h e hz w hL
 ·rw [decide_eq_false (fun e => h (by rw [e]))]
  exact c_sameA x y h w hL
theorem c_Tag (key s : Yb) (hk : key.size = 32) (hz : s.size ≤ 200000) (w : World) (hL : Laid w) : Cs 95 #[.string key, .string s] w (.tuple #[.string (tagS key s), .int .i64 0]) := by
 rw [← tg_val key s hk]
 exact c_TagA key s hk hz w hL
theorem d_Tag (key s : Yb) (hk : key.size = 32) (hz : s.size ≤ 200000) (w : World) (hL : Laid w) : Cs 88 #[.string key, .string s] w (.tuple #[.string (tagS key s), .int .i64 0]) := by
 rw [← dt_tag key s]
 exact d_TagA key s hk hz w hL
theorem tagS_size (key s : Yb) : (tagS key s).size = 16 := by
 unfold tagS
 rw [bs_size]
 simp
end Go.Proofs.YtenafinbaanicaaGreatDoor.Pol
namespace Go.Proofs.YtenafinbaanicaaGreatDoor
open Go.RowKit
def wb (n : Int) (i : Nat) : Int := cv .u8 (sr n (8 * i))
def wbs (n : Int) : Nat → (Nat → Int)
 | 0 => fun _ => 0
 | j + 1 => upd (wbs n j) j (wb n j)
theorem wbs_at (n : Int) : ∀ m, ∀ i, i < m → wbs n m i = wb n i
 | 0, i, h => absurd h (by omega)
 | m + 1, i, h => by
  unfold wbs upd
  by_cases e : i = m
  ·rw [if_pos e, e]
  ·rw [if_neg e, wbs_at n m i (by omega)]
theorem wbs_map (n : Int) : (List.range 8).map (wbs n 8) = (List.range 8).map (wb n) := List.map_congr_left fun i hi => wbs_at n 8 i (List.mem_range.1 hi)
theorem wb_nn (n : Int) : ∀ y ∈ (List.range 8).map (wb n), 0 ≤ y ∧ y < 256 := fun y hy => by
 obtain ⟨i, _, rfl⟩ := List.mem_map.1 hy
 exact cv8_nn _
def wS (n : Int) : ByteArray := bs ((List.range 8).map (wb n))
theorem wS_size (n : Int) : (wS n).size = 8 := by
 unfold wS
 rw [bs_size]
 simp
def zB (n : Nat) : ByteArray := bs ((List.range n).map fun _ => 0)
theorem zB_size (n : Nat) : (zB n).size = n := by
 unfold zB
 rw [bs_size]
 simp
theorem z_nn (n : Nat) : ∀ x ∈ (List.range n).map fun _ => (0 : Int), 0 ≤ x ∧ x < 256 := fun x hx => by
 obtain ⟨i, _, rfl⟩ := List.mem_map.1 hx
 decide
theorem z_rep (n : Nat) : List.replicate n (0 : Int) = (List.range n).map fun _ => 0 := by
 apply List.ext_getElem?
 intro i
 by_cases h : i < n
 ·simp [h]
 ·rw [List.getElem?_eq_none (by simp; omega), List.getElem?_eq_none (by simp; omega)]
theorem rem16 (n : Nat) : Int.tmod (n : Int) 16 = ((n % 16 : Nat) : Int) := by
 rw [Int.tmod_eq_emod_of_nonneg (by omega)]
 omega
def nS (n : Int) : ByteArray := zB 4 ++ wS n
theorem nS_size (n : Int) : (nS n).size = 12 := by
 unfold nS
 rw [ByteArray.size_append, zB_size, wS_size]
theorem c_word (n : Int) (w : World) (hL : Laid w)  : Cs 80 #[.int .u64 n] w (.string (wS n)) := by
 go_enter Tryz.func80, Tryz.ntmps80
 have M := Mem.start hL
 refine sq <| sR <| pN M 3 (.cells (av 8 (w8 (fun _ => 0))) 156) fun g1 u1 M => nT <| wp_seq <| sq <| wp_block ?_
 refine au_loop (fun j a w' => ∃ v1 : NV, a = (fm ([.int .u64 n, v1 1, .string ⟨#[]⟩, .pointer (some ⟨g1, 0, none⟩), v1 4, .int .i64 (j : Int)] ++ vr v1 6 12)) ∧ Mem ⟨w, []⟩ [⟨g1, .cells (av 8 (w8 (wbs n j))) 156⟩] w') 8 (exS M) ?_ ?_
 ·intro j a u0 hj hI
  obtain ⟨v1, rfl, M⟩ := hI
  refine sR <| ZT 6 ((j : Int) < 8) <| nT <| wp_seq <| cT <| wp_skip <| au_then <| wp_seq <| wp_block <| sq <| rg_lit <| rV 3 <| ZI 11 (8 * (j : Int)) ((8 * j : Nat) : Int) <| pH 12 (.int .u64 (sr n (8 * j))) (Pol.run_shrU 24 3 _ _ rfl _ .i64 (8 * j) (by kernel_rfl) (by kernel_rfl) (by omega)) <| rV 1 <| ZX 14 .i64 g1 (j) 8 ?_
  refine ZP8 M 0 j (cv .u8 (sr n (8 * j))) fun u2 M => pl_nil <| au_block <| au_then <| rg_lit <| ZI 15 ((j : Int) + 1) ((j + 1 : Nat) : Int) <| rV 1 <| nT ?_
  exact exS M
 ·intro a u0 hI
  obtain ⟨v1, rfl, M⟩ := hI
  refine sR <| ZF 6 (8 < 8) <| nT <| wp_seq <| cF <| wp_exit <| au_then_exit <| au_then_exit <| au_block_exit <| au_then <| sR <| rV 1 <| pl_back M (want_no rfl) (some 17) rfl _ rfl 0 g1 8 8 (by kernel_rfl) _ rfl ((List.range 8).map (wbs n 8)) 8 (sb_av 8 _ _) (by simp) (by rw [wbs_map]; exact wb_nn _) ?_
  rw [wbs_map]
  refine rV 1 <| nT <| wp_ret ?_
  exact b1 M
theorem d_eight (n : Int) (w : World) (hL : Laid w)  : Cs 72 #[.int .u64 n] w (.string (wS n)) := by
 go_enter Tryz.func72, Tryz.ntmps72
 have M := Mem.start hL
 refine sq <| sR <| ZM M 5 (fun g1 => .slice (some ⟨g1, 0, none⟩) 8 8) (.cells (av 8 (w8 (fun _ => 0))) 5) fun g1 u1 M => rV 1 <| nT <| wp_seq <| sq <| wp_block ?_
 refine au_loop (fun j a w' => ∃ v1 : NV, a = (fm ([.int .u64 n, v1 1, .string ⟨#[]⟩, .slice (some ⟨g1, 0, none⟩) 8 8, .int .i64 (j : Int)] ++ vr v1 5 16)) ∧ Mem ⟨w, []⟩ [⟨g1, .cells (av 8 (w8 (wbs n j))) 5⟩] w') 8 (exS M) ?_ ?_
 ·intro j a u0 hj hI
  obtain ⟨v1, rfl, M⟩ := hI
  refine wp_seq <| sR <| rV 1 <| ZT 7 ((j : Int) < 8) <| nT <| cT <| wp_skip <| au_then <| wp_seq <| wp_block <| rg_lit <| rV 4 <| ZI 14 (8 * (j : Int)) ((8 * j : Nat) : Int) <| ZQ 15 .u64 (cv .u64 ((8 * j : Nat) : Int)) (cvu64 _ (by omega)) <| pH 16 (.int .u64 (sr n (8 * j))) (Pol.run_shrU 24 147 _ _ rfl _ .u64 (8 * j) (by kernel_rfl) (by kernel_rfl) (by omega)) <| rV 1 ?_
  refine pH 18 (.pointer (some ⟨g1, j, none⟩)) (run_ix0 97 5 Tryz.underlying97 inz5 _ _ rfl g1 8 8 (by kernel_rfl) .i64 j (by kernel_rfl) (by omega)) <| ZP8 M 0 j (cv .u8 (sr n (8 * j))) fun u2 M => pl_nil <| au_block <| au_then <| rg_lit <| rV 1 <| ZI 9 ((j : Int) + 1) ((j + 1 : Nat) : Int) <| rV 1 <| nT ?_
  exact exS M
 ·intro a u0 hI
  obtain ⟨v1, rfl, M⟩ := hI
  refine wp_seq <| sR <| rV 1 <| ZF 7 (8 < 8) <| nT <| cF <| wp_exit <| au_then_exit <| au_then_exit <| au_block_exit <| au_then <| sR <| rV 1 <| pl_back M (want_no rfl) (some 20) rfl _ rfl 0 g1 8 8 (by kernel_rfl) _ rfl ((List.range 8).map (wbs n 8)) 8 (sb_av 8 _ _) (by simp) (by rw [wbs_map]; exact wb_nn _) ?_
  rw [wbs_map]
  refine rV 1 <| nT <| wp_ret ?_
  exact b1 M
def pn (m : Nat) : Nat := (16 - m % 16) % 16
theorem pn_lt (m : Nat) : pn m < 16 := Nat.mod_lt _ (by decide)
theorem pn_sum (m : Nat) : (m + pn m) % 16 = 0 := by
 unfold pn
 omega
theorem d_pad (s : Yb) (w : World) (hL : Laid w)  : Cs 89 #[.string s] w (.string (zB (pn s.size))) := by
 go_enter Tryz.func89, Tryz.ntmps89
 have M := Mem.start hL
 refine sq <| sR <| rV 2 <| ZQ 5 .i64 (Int.tmod ((s.size : Nat) : Int) 16) (rem16 (s.size)) <| ZI 6 (16 - ((s.size % 16 : Nat) : Int)) ((16 - s.size % 16 : Nat) : Int) <| zJ 7 (.int .i64 ((pn s.size : Nat) : Int)) (.int .i64 (Int.tmod ((16 - s.size % 16 : Nat) : Int) 16)) (by rw [rem16]; rfl) ?_
 obtain ⟨i0, hi0, hz0, hz1, hz2⟩ := info_parts repExtra.infoByte
 have hpn := pn_lt s.size
 refine pl_makeZ M (want_no rfl) (some 8) rfl 97 5 i0 Tryz.underlying97 hi0 hz0 hz1 (by omega) _ _ rfl .i64 .i64 (pn s.size) (by kernel_rfl) (by kernel_rfl) (by omega) ?_
 intro g1 Z9 u1 hZ9 M
 rw [z_rep] at hZ9
 refine pl_back M (want_no rfl) (some 9) rfl _ rfl 0 g1 (pn s.size) (pn s.size) (by kernel_rfl) _ rfl ((List.range (pn s.size)).map fun _ => 0) _ hZ9 (by simp) (z_nn _) <| rV 1 <| nT <| wp_ret ?_
 exact b1 M
section
variable {P : Program} {ops : Array Oper} {o o2 : Oper} {a : Act} {w : World} {Q : Exit → Act → World → Prop} {S : World → Prop} {n fuel : Nat} {listed : Array Bool}
theorem hl_two (i j : Nat) (hin : i < n) (hjn : j < n) (hr : Region.ready .any ops listed = [i, j]) (hi : ops.toList[i]? = some o) (hj : ops.toList[j]? = some o2)
  (h : PL P ops (Exit.then (fun a' w' => S w' ∧ HL P ops Q S n fuel (listed.setIfInBounds i true) a' w') Q) [o] a w)
  (h2 : PL P ops (Exit.then (fun a' w' => S w' ∧ HL P ops Q S n fuel (listed.setIfInBounds j true) a' w') Q) [o2] a w) : HL P ops Q S n (fuel + 1) listed a w := by
 refine ⟨fun hQ hB inv => ⟨fun h0 => (by rw [hr] at h0; cases h0), fun m hm => ?_⟩⟩
 have hm' := hm
 rw [hr] at hm
 rcases List.mem_cons.1 hm with rfl | hm
 ·exact wpOp_mono (fun a' w' h3 => ⟨fun _ => h3.1, h3.2.out hQ hB (inv.set hm' hin)⟩) (wpOp_one (by rw [← Array.getElem?_toList]; exact hi) h.out)
 ·obtain rfl := List.mem_singleton.1 hm
  exact wpOp_mono (fun a' w' h3 => ⟨fun _ => h3.1, h3.2.out hQ hB (inv.set hm' hjn)⟩) (wpOp_one (by rw [← Array.getElem?_toList]; exact hj) h2.out)
end
theorem c_Nonce (n : Int) (w : World) (hL : Laid w)  : Cs 65 #[.int .u64 n] w (.string (nS n)) := by
 go_enter Tryz.func65, Tryz.ntmps65
 have M := Mem.start hL
 refine sq <| wp_seq <| rgh M [] 5 fun u1 M => qV M 2 5 (.int .u64 n) ?_
 refine hl_two 0 3 (by decide) (by decide) (by kernel_rfl) rfl rfl ?_ ?_
 ·refine ZM M 3 (fun g1 => .slice (some ⟨g1, 0, none⟩) 4 4) (.cells (av 4 (w8 (fun _ => 0))) 5) fun g1 u2 M => nT ?_
  refine ⟨(M.drop (.cons _ (.slnil))), ?_⟩
  refine hl_two 1 3 (by decide) (by decide) (by kernel_rfl) rfl rfl ?_ ?_
  ·refine pl_back M (want_no rfl) (some 4) rfl _ rfl 0 g1 4 4 (by kernel_rfl) _ rfl ((List.range 4).map fun _ => 0) 4 (sb_av 4 _ _) (by simp) (z_nn _) <| nT ?_
   refine ⟨(M.drop (.cons _ (.slnil))), ?_⟩
   refine qO 3 ?_
   refine ZC M 6 (fun w M => c_word n w M.laid) fun u3 M => nT ?_
   refine ⟨(M.drop (.cons _ (.slnil))), ?_⟩
   refine qH (M.drop (.cons _ (.slnil))) 4 7 (.string (nS n)) (fun w _ => (run_cat 9 9 _ _ rfl (zB 4) (wS n) (by kernel_rfl) (by kernel_rfl) (by rw [zB_size, wS_size]; decide)) w) <| qZ ?_
   refine rV 1 <| nT <| au_then <| wp_ret ?_
   exact b1 M
  ·refine ZC M 6 (fun w M => c_word n w M.laid) fun u4 M => nT ?_
   refine ⟨(M.drop (.cons _ (.slnil))), ?_⟩
   refine qO 1 ?_
   refine pl_back M (want_no rfl) (some 4) rfl _ rfl 0 g1 4 4 (by kernel_rfl) _ rfl ((List.range 4).map fun _ => 0) 4 (sb_av 4 _ _) (by simp) (z_nn _) <| nT ?_
   refine ⟨(M.drop (.cons _ (.slnil))), ?_⟩
   refine qH (M.drop (.cons _ (.slnil))) 4 7 (.string (nS n)) (fun w _ => (run_cat 9 9 _ _ rfl (zB 4) (wS n) (by kernel_rfl) (by kernel_rfl) (by rw [zB_size, wS_size]; decide)) w) <| qZ ?_
   refine rV 1 <| nT <| au_then <| wp_ret ?_
   exact b1 M
 ·refine ZC M 6 (fun w M => c_word n w M.laid) fun u5 M => nT ?_
  refine ⟨M, ?_⟩
  refine qO 0 ?_
  refine ZM M 3 (fun g2 => .slice (some ⟨g2, 0, none⟩) 4 4) (.cells (av 4 (w8 (fun _ => 0))) 5) fun g2 u6 M => nT ?_
  refine ⟨(M.drop (.cons _ (.slnil))), ?_⟩
  refine qO 1 ?_
  refine pl_back M (want_no rfl) (some 4) rfl _ rfl 0 g2 4 4 (by kernel_rfl) _ rfl ((List.range 4).map fun _ => 0) 4 (sb_av 4 _ _) (by simp) (z_nn _) <| nT ?_
  refine ⟨(M.drop (.cons _ (.slnil))), ?_⟩
  refine qH (M.drop (.cons _ (.slnil))) 4 7 (.string (nS n)) (fun w _ => (run_cat 9 9 _ _ rfl (zB 4) (wS n) (by kernel_rfl) (by kernel_rfl) (by rw [zB_size, wS_size]; decide)) w) <| qZ ?_
  refine rV 1 <| nT <| au_then <| wp_ret ?_
  exact b1 M
theorem d_Nonce (n : Int) (w : World) (hL : Laid w)  : Cs 51 #[.int .u64 n] w (.string (nS n)) := by
 go_enter Tryz.func51, Tryz.ntmps51
 have M := Mem.start hL
 refine sq <| wp_seq <| rgh M [] 5 fun u1 M => qV M 2 5 (.int .u64 n) ?_
 refine hl_two 0 3 (by decide) (by decide) (by kernel_rfl) rfl rfl ?_ ?_
 ·refine ZM M 3 (fun g1 => .slice (some ⟨g1, 0, none⟩) 4 4) (.cells (av 4 (w8 (fun _ => 0))) 5) fun g1 u2 M => nT ?_
  refine ⟨(M.drop (.cons _ (.slnil))), ?_⟩
  refine hl_two 1 3 (by decide) (by decide) (by kernel_rfl) rfl rfl ?_ ?_
  ·refine pl_back M (want_no rfl) (some 4) rfl _ rfl 0 g1 4 4 (by kernel_rfl) _ rfl ((List.range 4).map fun _ => 0) 4 (sb_av 4 _ _) (by simp) (z_nn _) <| nT ?_
   refine ⟨(M.drop (.cons _ (.slnil))), ?_⟩
   refine qO 3 ?_
   refine ZC M 6 (fun w M => d_eight n w M.laid) fun u3 M => nT ?_
   refine ⟨(M.drop (.cons _ (.slnil))), ?_⟩
   refine qH (M.drop (.cons _ (.slnil))) 4 7 (.string (nS n)) (fun w _ => (run_cat 9 9 _ _ rfl (zB 4) (wS n) (by kernel_rfl) (by kernel_rfl) (by rw [zB_size, wS_size]; decide)) w) <| qZ ?_
   refine rV 1 <| nT <| au_then <| wp_ret ?_
   exact b1 M
  ·refine ZC M 6 (fun w M => d_eight n w M.laid) fun u4 M => nT ?_
   refine ⟨(M.drop (.cons _ (.slnil))), ?_⟩
   refine qO 1 ?_
   refine pl_back M (want_no rfl) (some 4) rfl _ rfl 0 g1 4 4 (by kernel_rfl) _ rfl ((List.range 4).map fun _ => 0) 4 (sb_av 4 _ _) (by simp) (z_nn _) <| nT ?_
   refine ⟨(M.drop (.cons _ (.slnil))), ?_⟩
   refine qH (M.drop (.cons _ (.slnil))) 4 7 (.string (nS n)) (fun w _ => (run_cat 9 9 _ _ rfl (zB 4) (wS n) (by kernel_rfl) (by kernel_rfl) (by rw [zB_size, wS_size]; decide)) w) <| qZ ?_
   refine rV 1 <| nT <| au_then <| wp_ret ?_
   exact b1 M
 ·refine ZC M 6 (fun w M => d_eight n w M.laid) fun u5 M => nT ?_
  refine ⟨M, ?_⟩
  refine qO 0 ?_
  refine ZM M 3 (fun g2 => .slice (some ⟨g2, 0, none⟩) 4 4) (.cells (av 4 (w8 (fun _ => 0))) 5) fun g2 u6 M => nT ?_
  refine ⟨(M.drop (.cons _ (.slnil))), ?_⟩
  refine qO 1 ?_
  refine pl_back M (want_no rfl) (some 4) rfl _ rfl 0 g2 4 4 (by kernel_rfl) _ rfl ((List.range 4).map fun _ => 0) 4 (sb_av 4 _ _) (by simp) (z_nn _) <| nT ?_
  refine ⟨(M.drop (.cons _ (.slnil))), ?_⟩
  refine qH (M.drop (.cons _ (.slnil))) 4 7 (.string (nS n)) (fun w _ => (run_cat 9 9 _ _ rfl (zB 4) (wS n) (by kernel_rfl) (by kernel_rfl) (by rw [zB_size, wS_size]; decide)) w) <| qZ ?_
  refine rV 1 <| nT <| au_then <| wp_ret ?_
  exact b1 M
theorem sfA (key nonce ad s : Yb) (m : Nat) (_hm : m ≤ 16) (h : key.size ≠ 32) (w : World) (hL : Laid w)  : Cs 77 #[.string key, .string nonce, .string ad, .string s, .int .i64 (m : Int)] w (.int .i64 2) := by
 go_enter Tryz.func77, Tryz.ntmps77
 have M := Mem.start hL
 refine sq <| wp_seq <| wp_block <| wp_seq <| sR <| rV 2 <| ZS 14 ((key.size : Int) = 32) <| rV 1 <| nT <| cT <| wp_skip <| au_then <| cT <| sq <| wp_ret <| au_block_ret ?_
 refine au_then_ret ?_
 exact b1 M
theorem sfB (key nonce ad s : Yb) (m : Nat) (_hm : m ≤ 16) (h : key.size = 32) (h2 : nonce.size ≠ 12) (w : World) (hL : Laid w)  : Cs 77 #[.string key, .string nonce, .string ad, .string s, .int .i64 (m : Int)] w (.int .i64 2) := by
 go_enter Tryz.func77, Tryz.ntmps77
 have M := Mem.start hL
 refine sq <| wp_seq <| wp_block <| wp_seq <| sR <| rV 2 <| ZD 14 ((key.size : Int) = 32) <| rV 1 <| nT <| cF <| rg_lit <| rV 2 <| ZS 17 ((nonce.size : Int) = 12) <| rV 1 <| nT <| cT ?_
 refine sq <| wp_ret <| au_block_ret <| au_then_ret ?_
 exact b1 M
theorem sfC (key nonce ad s : Yb) (m : Nat) (_hm : m ≤ 16) (hk : key.size = 32 ∧ nonce.size = 12) (h : 65536 < ad.size) (w : World) (hL : Laid w)  : Cs 77 #[.string key, .string nonce, .string ad, .string s, .int .i64 (m : Int)] w (.int .i64 4) := by
 go_enter Tryz.func77, Tryz.ntmps77
 have M := Mem.start hL
 refine sq <| wp_seq <| wp_block <| wp_seq <| sR <| rV 2 <| ZD 14 ((key.size : Int) = 32) <| rV 1 <| nT <| cF <| rg_lit <| rV 2 <| ZD 17 ((nonce.size : Int) = 12) <| rV 1 <| nT <| cF ?_
 refine wp_seq <| sR <| rV 2 <| ZT 21 ((65536 : Int) < (ad.size : Int)) <| rV 1 <| nT <| cT <| wp_skip <| au_then <| cT <| sq <| wp_ret <| au_block_ret <| au_then_ret ?_
 exact b1 M
theorem sfD (key nonce ad s : Yb) (m : Nat) (_hm : m ≤ 16) (hk : key.size = 32 ∧ nonce.size = 12) (h : ¬ 65536 < ad.size) (h2 : 65536 + m < s.size) (w : World) (hL : Laid w)  : Cs 77 #[.string key, .string nonce, .string ad, .string s, .int .i64 (m : Int)] w (.int .i64 4) := by
 go_enter Tryz.func77, Tryz.ntmps77
 have M := Mem.start hL
 refine sq <| wp_seq <| wp_block <| wp_seq <| sR <| rV 2 <| ZD 14 ((key.size : Int) = 32) <| rV 1 <| nT <| cF <| rg_lit <| rV 2 <| ZD 17 ((nonce.size : Int) = 12) <| rV 1 <| nT <| cF ?_
 refine wp_seq <| sR <| rV 2 <| ZF 21 ((65536 : Int) < (ad.size : Int)) <| rV 1 <| nT <| cF <| rg_lit <| rV 3 <| ZI 25 (65536 + (m : Int)) ((65536 + m : Nat) : Int) <| ZT 26 (((65536 + m : Nat) : Int) < (s.size : Int)) <| rV 1 <| nT <| cT <| sq <| wp_ret ?_
 refine au_block_ret <| au_then_ret ?_
 exact b1 M
theorem sfE (key nonce ad s : Yb) (m : Nat) (_hm : m ≤ 16) (hk : key.size = 32 ∧ nonce.size = 12) (h : ¬ 65536 < ad.size) (h2 : s.size < m) (w : World) (hL : Laid w)  : Cs 77 #[.string key, .string nonce, .string ad, .string s, .int .i64 (m : Int)] w (.int .i64 100) := by
 go_enter Tryz.func77, Tryz.ntmps77
 have M := Mem.start hL
 refine sq <| wp_seq <| wp_block <| wp_seq <| sR <| rV 2 <| ZD 14 ((key.size : Int) = 32) <| rV 1 <| nT <| cF <| rg_lit <| rV 2 <| ZD 17 ((nonce.size : Int) = 12) <| rV 1 <| nT <| cF ?_
 refine wp_seq <| sR <| rV 2 <| ZF 21 ((65536 : Int) < (ad.size : Int)) <| rV 1 <| nT <| cF <| rg_lit <| rV 3 <| ZI 25 (65536 + (m : Int)) ((65536 + m : Nat) : Int) <| ZF 26 (((65536 + m : Nat) : Int) < (s.size : Int)) <| rV 1 <| nT <| cF <| sR <| rV 3 ?_
 refine ZT 31 ((s.size : Int) < (m : Int)) <| rV 1 <| nT <| cT <| sq <| wp_ret <| au_block_ret <| au_then_ret ?_
 exact b1 M
theorem sfF (key nonce ad s : Yb) (m : Nat) (_hm : m ≤ 16) (hk : key.size = 32 ∧ nonce.size = 12) (h : ¬ 65536 < ad.size) (h2 : ¬ 65536 + m < s.size) (h3 : ¬ s.size < m) (w : World) (hL : Laid w)  : Cs 77 #[.string key, .string nonce, .string ad, .string s, .int .i64 (m : Int)] w (.int .i64 0) := by
 go_enter Tryz.func77, Tryz.ntmps77
 have M := Mem.start hL
 refine sq <| wp_seq <| wp_block <| wp_seq <| sR <| rV 2 <| ZD 14 ((key.size : Int) = 32) <| rV 1 <| nT <| cF <| rg_lit <| rV 2 <| ZD 17 ((nonce.size : Int) = 12) <| rV 1 <| nT <| cF ?_
 refine wp_seq <| sR <| rV 2 <| ZF 21 ((65536 : Int) < (ad.size : Int)) <| rV 1 <| nT <| cF <| rg_lit <| rV 3 <| ZI 25 (65536 + (m : Int)) ((65536 + m : Nat) : Int) <| ZF 26 (((65536 + m : Nat) : Int) < (s.size : Int)) <| rV 1 <| nT <| cF <| sR <| rV 3 ?_
 refine ZF 31 ((s.size : Int) < (m : Int)) <| rV 1 <| nT <| cF <| wp_skip <| au_block <| au_then <| sq <| wp_ret ?_
 exact b1 M
def sf (key nonce ad s : Yb) (m : Nat) : Int := if key.size ≠ 32 ∨ nonce.size ≠ 12 then 2 else if 65536 < ad.size ∨ 65536 + m < s.size then 4 else if s.size < m then 100 else 0
theorem c_fault (key nonce ad s : Yb) (m : Nat) (hm : m ≤ 16) (w : World) (hL : Laid w) : Cs 77 #[.string key, .string nonce, .string ad, .string s, .int .i64 (m : Int)] w (.int .i64 (sf key nonce ad s m)) := by
 unfold sf
 by_cases h : key.size = 32
 ·by_cases h2 : nonce.size = 12
  ·rw [if_neg (by omega)]
   by_cases h3 : 65536 < ad.size
   ·rw [if_pos (.inl h3)]
    exact sfC key nonce ad s m hm ⟨h, h2⟩ h3 w hL
   ·by_cases h4 : 65536 + m < s.size
    ·rw [if_pos (.inr h4)]
     exact sfD key nonce ad s m hm ⟨h, h2⟩ h3 h4 w hL
    ·rw [if_neg (by omega)]
     by_cases h5 : s.size < m
     ·rw [if_pos h5]
      exact sfE key nonce ad s m hm ⟨h, h2⟩ h3 h5 w hL
     ·rw [if_neg h5]
      exact sfF key nonce ad s m hm ⟨h, h2⟩ h3 h4 h5 w hL
  ·rw [if_pos (.inr h2)]
   exact sfB key nonce ad s m hm h h2 w hL
 ·rw [if_pos (.inl h)]
  exact sfA key nonce ad s m hm h w hL
open Go.RowKit
def j1 (ad : Yb) : List UInt8 := ad.data.toList ++ List.replicate (pn ad.size) 0
def j1c (ad c : Yb) : List UInt8 := j1 ad ++ c.data.toList
def j2 (ad c : Yb) : List UInt8 := j1c ad c ++ List.replicate (pn (ad.size + pn ad.size + c.size)) 0
def m1 (ad : Yb) : List UInt8 := (wS (ad.size : Int)).data.toList
def m2 (ad c : Yb) : List UInt8 := m1 ad ++ (wS (c.size : Int)).data.toList
def mS (ad c : Yb) : ByteArray := ⟨(m2 ad c).toArray⟩
def jn (ad c : Yb) : ByteArray := ⟨(j2 ad c ++ m2 ad c).toArray⟩
theorem dl_len (s : Yb) : s.data.toList.length = s.size := rfl
theorem j1_len (ad : Yb) : (j1 ad).length = ad.size + pn ad.size := by
 unfold j1
 rw [List.length_append, dl_len, List.length_replicate]
theorem j1c_len (ad c : Yb) : (j1c ad c).length = ad.size + pn ad.size + c.size := by
 unfold j1c
 rw [List.length_append, dl_len, j1_len]
theorem j2_len (ad c : Yb) : (j2 ad c).length = ad.size + pn ad.size + c.size + pn (ad.size + pn ad.size + c.size) := by
 unfold j2
 rw [List.length_append, j1c_len, List.length_replicate]
theorem m1_len (ad : Yb) : (m1 ad).length = 8 := by
 unfold m1
 rw [dl_len, wS_size]
theorem m2_len (ad c : Yb) : (m2 ad c).length = 16 := by
 unfold m2
 rw [List.length_append, dl_len, wS_size, m1_len]
theorem rep_more (l : List UInt8) (j : Nat) : l ++ List.replicate j 0 ++ [UInt8.ofNat (0 : Int).toNat] = l ++ List.replicate (j + 1) 0 := by
 rw [List.append_assoc, List.replicate_succ']
 rfl
theorem rep_len (l : List UInt8) (n j : Nat) (h : l.length = n) : (l ++ List.replicate j 0).length = n + j := by
 rw [List.length_append, List.length_replicate, h]
theorem c_joined (ad c : Yb) (gt : Nat) (w : World) (hL : Laid w) (hz : ad.size + c.size ≤ 150000) (hg : gt < w.heap.size) (h0 : w.cell? ⟨gt, 0, none⟩ = some (.string ad)) (h1 : w.cell? ⟨gt, 1, none⟩ = some (.string c)) : Cs 96 #[.slice (some ⟨gt, 0, none⟩) 2 2] w (.string (jn ad c)) := by
 have hpa := pn_lt ad.size
 go_enter Tryz.func96, Tryz.ntmps96
 have M := Mem.start hL
 refine sq <| sR <| pN M 3 (.cells (av 2 bF0) 165) ?_
 intro k1 u1 M
 refine pN M 4 (.cells (av 2 bF0) 165) ?_
 intro k2 u2 M
 refine pl_nil ?_
 have hS := SN.start2 M
 clear M
 have M := hS.mem hL
 refine au_then <| wp_seq <| sq <| wp_block <| wp_loop_rounds 3 ?_
 refine rounds_go <| sq <| wp_seq <| cT <| wp_skip <| au_then <| wp_seq <| wp_block <| sR <| pH 11 (.pointer (some ⟨gt, 0, none⟩)) (run_ix0 186 9 Tryz.underlying186 inz9 _ _ rfl gt 2 2 (by kernel_rfl) .i64 0 (by kernel_rfl) (by decide)) <| pE M 12 gt 0 (.string ad) (fun w M => M.oldc (hS.cell hg h0) (by simp)) <| rV 1 <| nT <| sR <| rV 1 <| pl_callr (want_no rfl) (some 14) rfl 118 #[.pointer (some ⟨k1, 0, none⟩), .string ad] (.tuple #[.int .i64 (ad.size : Int), .nilIface]) _ (fun _ => by kernel_rfl) ((hS.next M).wstr hL ad (by show 0 + ad.size ≤ _; omega)) ?_
 intro u3 hS9
 clear M hS
 have hS : SN w [⟨k1, ad.data.toList⟩, ⟨k2, []⟩] [] u3 := hS9
 have M := hS.mem hL
 refine nT <| wp_seq <| wp_block ?_
 obtain ⟨N0, hN0⟩ : ∃ N, N = pn ad.size := ⟨_, rfl⟩
 have hP0 : N0 = (16 - ad.size % 16) % 16 := hN0
 refine au_loop (fun j a u => ∃ v1 : NV, a = (fm ([.slice (some ⟨gt, 0, none⟩) 2 2, v1 1, .string ⟨#[]⟩, .pointer (some ⟨k1, 0, none⟩), .pointer (some ⟨k2, 0, none⟩), v1 5, .string ad, .slice (some ⟨gt, 0, none⟩) 2 2, .int .i64 2, .int .i64 0] ++ vr v1 10 18)) ∧ SN w [⟨k1, ad.data.toList ++ List.replicate j 0⟩, ⟨k2, []⟩] [] u) N0 (exS (by rw [List.replicate_zero, List.append_nil]; exact hS.next M)) ?_ ?_
 ·intro j a u0 hj hI
  clear M hS
  obtain ⟨v1, rfl, hS⟩ := hI
  have M := hS.mem hL
  refine wp_seq <| sR ?_
  refine pl_callr (want_no rfl) (some 15) rfl 119 #[.pointer (some ⟨k1, 0, none⟩)] (.int .i64 ((ad.size + j : Nat) : Int)) _ (fun _ => by kernel_rfl) (by have h9 := (hS.next M).len hL; rw [rep_len _ _ _ (dl_len ad)] at h9; exact h9) ?_
  intro u4 hS9
  clear M hS
  have hS : SN w [⟨k1, ad.data.toList ++ List.replicate j 0⟩, ⟨k2, []⟩] [] u4 := hS9
  have M := hS.mem hL
  refine ZQ 16 .i64 (Int.tmod ((ad.size + j : Nat) : Int) 16) (rem16 (ad.size + j)) <| ZS 17 ((((ad.size + j) % 16 : Nat) : Int) = 0) <| nT <| cT <| wp_skip <| au_then <| wp_block <| rg_lit ?_
  refine pl_callr (want_no rfl) (some 18) rfl 106 #[.pointer (some ⟨k1, 0, none⟩), .int .u8 0] .nilIface _ (fun _ => by kernel_rfl) ((hS.next M).wbyte hL 0 (by decide) (by decide) (by rw [rep_len _ _ _ (dl_len ad)]; omega)) ?_
  intro u5 hS9
  clear M hS
  have hS : SN w [⟨k1, ad.data.toList ++ List.replicate (j + 1) 0⟩, ⟨k2, []⟩] [] u5 := (by rw [← rep_more]; exact hS9)
  have M := hS.mem hL
  refine pl_nil <| au_block <| au_then ?_
  exact exS hS
 ·intro a u0 hI
  clear M hS
  obtain ⟨v1, rfl, hS⟩ := hI
  have M := hS.mem hL
  refine wp_seq <| sR ?_
  refine pl_callr (want_no rfl) (some 15) rfl 119 #[.pointer (some ⟨k1, 0, none⟩)] (.int .i64 ((ad.size + N0 : Nat) : Int)) _ (fun _ => by kernel_rfl) (by have h9 := (hS.next M).len hL; rw [rep_len _ _ _ (dl_len ad)] at h9; exact h9) ?_
  intro u6 hS9
  clear M hS
  have hS : SN w [⟨k1, ad.data.toList ++ List.replicate N0 0⟩, ⟨k2, []⟩] [] u6 := hS9
  have M := hS.mem hL
  refine ZQ 16 .i64 (Int.tmod ((ad.size + N0 : Nat) : Int) 16) (rem16 (ad.size + N0)) <| ZD 17 ((((ad.size + N0) % 16 : Nat) : Int) = 0) <| nT <| cF <| wp_exit <| au_then_exit <| au_then_exit <| au_block_exit <| au_then ?_
  replace hS : SN w [⟨k1, (j1 ad)⟩, ⟨k2, []⟩] [] u6 := (by have h9 := hS.next M; rw [hN0] at h9; exact h9)
  clear M
  have M := hS.mem hL
  refine rg_lit <| rV 2 <| ZQ 21 .u64 (cv .u64 (ad.size : Int)) (cvu64 _ (by omega)) <| pC M 22 80 #[.int .u64 (ad.size : Int)] (.string (wS (ad.size : Int))) (fun w M => c_word _ w M.laid) fun u7 M => pl_callr (want_no rfl) (some 23) rfl 118 #[.pointer (some ⟨k2, 0, none⟩), .string (wS (ad.size : Int))] (.tuple #[.int .i64 ((wS (ad.size : Int)).size : Int), .nilIface]) _ (fun _ => by kernel_rfl) (((hS.next M).perm (.swap _ _ _)).wstr hL (wS (ad.size : Int)) (by rw [wS_size]; show 0 + 8 ≤ _; omega)) ?_
  intro u8 hS9
  clear M hS
  have hS : SN w [⟨k1, (j1 ad)⟩, ⟨k2, (m1 ad)⟩] [] u8 := hS9.perm (.swap _ _ _)
  have M := hS.mem hL
  refine pl_nil <| au_block <| au_then <| rg_lit <| rV 2 <| nT <| rounds_go <| sq <| wp_seq <| cT <| wp_skip <| au_then <| wp_seq <| wp_block <| sR <| pH 11 (.pointer (some ⟨gt, 1, none⟩)) (run_ix0 186 9 Tryz.underlying186 inz9 _ _ rfl gt 2 2 (by kernel_rfl) .i64 1 (by kernel_rfl) (by decide)) ?_
  refine pE M 12 gt 1 (.string c) (fun w M => M.oldc (hS.cell hg h1) (by simp)) <| rV 1 <| nT <| sR <| rV 1 <| pl_callr (want_no rfl) (some 14) rfl 118 #[.pointer (some ⟨k1, 0, none⟩), .string c] (.tuple #[.int .i64 (c.size : Int), .nilIface]) _ (fun _ => by kernel_rfl) ((hS.next M).wstr hL c (by rw [j1_len]; omega)) ?_
  intro u9 hS9
  clear M hS
  have hS : SN w [⟨k1, (j1c ad c)⟩, ⟨k2, (m1 ad)⟩] [] u9 := hS9
  have M := hS.mem hL
  refine nT <| wp_seq <| wp_block ?_
  obtain ⟨N1, hN1⟩ : ∃ N, N = pn (ad.size + pn ad.size + c.size) := ⟨_, rfl⟩
  have hP1 : N1 = (16 - (ad.size + pn ad.size + c.size) % 16) % 16 := hN1
  refine au_loop (fun j a u => ∃ v2 : NV, a = (fm ([.slice (some ⟨gt, 0, none⟩) 2 2, v2 1, .string ⟨#[]⟩, .pointer (some ⟨k1, 0, none⟩), .pointer (some ⟨k2, 0, none⟩), v2 5, .string c, .slice (some ⟨gt, 0, none⟩) 2 2, .int .i64 2, .int .i64 1] ++ vr v2 10 18)) ∧ SN w [⟨k1, (j1c ad c) ++ List.replicate j 0⟩, ⟨k2, (m1 ad)⟩] [] u) N1 (exS (by rw [List.replicate_zero, List.append_nil]; exact hS.next M)) ?_ ?_
  ·intro j a u0 hj hI
   clear M hS
   obtain ⟨v2, rfl, hS⟩ := hI
   have M := hS.mem hL
   refine wp_seq <| sR ?_
   refine pl_callr (want_no rfl) (some 15) rfl 119 #[.pointer (some ⟨k1, 0, none⟩)] (.int .i64 (((ad.size + pn ad.size + c.size) + j : Nat) : Int)) _ (fun _ => by kernel_rfl) (by have h9 := (hS.next M).len hL; rw [rep_len _ _ _ (j1c_len ad c)] at h9; exact h9) ?_
   intro u10 hS9
   clear M hS
   have hS : SN w [⟨k1, (j1c ad c) ++ List.replicate j 0⟩, ⟨k2, (m1 ad)⟩] [] u10 := hS9
   have M := hS.mem hL
   refine ZQ 16 .i64 (Int.tmod (((ad.size + pn ad.size + c.size) + j : Nat) : Int) 16) (rem16 ((ad.size + pn ad.size + c.size) + j)) <| ZS 17 (((((ad.size + pn ad.size + c.size) + j) % 16 : Nat) : Int) = 0) <| nT <| cT <| wp_skip <| au_then <| wp_block <| rg_lit ?_
   refine pl_callr (want_no rfl) (some 18) rfl 106 #[.pointer (some ⟨k1, 0, none⟩), .int .u8 0] .nilIface _ (fun _ => by kernel_rfl) ((hS.next M).wbyte hL 0 (by decide) (by decide) (by rw [rep_len _ _ _ (j1c_len ad c)]; omega)) ?_
   intro u11 hS9
   clear M hS
   have hS : SN w [⟨k1, (j1c ad c) ++ List.replicate (j + 1) 0⟩, ⟨k2, (m1 ad)⟩] [] u11 := (by rw [← rep_more]; exact hS9)
   have M := hS.mem hL
   refine pl_nil <| au_block <| au_then ?_
   exact exS hS
  ·intro a u0 hI
   clear M hS
   obtain ⟨v2, rfl, hS⟩ := hI
   have M := hS.mem hL
   refine wp_seq <| sR ?_
   refine pl_callr (want_no rfl) (some 15) rfl 119 #[.pointer (some ⟨k1, 0, none⟩)] (.int .i64 (((ad.size + pn ad.size + c.size) + N1 : Nat) : Int)) _ (fun _ => by kernel_rfl) (by have h9 := (hS.next M).len hL; rw [rep_len _ _ _ (j1c_len ad c)] at h9; exact h9) ?_
   intro u12 hS9
   clear M hS
   have hS : SN w [⟨k1, (j1c ad c) ++ List.replicate N1 0⟩, ⟨k2, (m1 ad)⟩] [] u12 := hS9
   have M := hS.mem hL
   refine ZQ 16 .i64 (Int.tmod (((ad.size + pn ad.size + c.size) + N1 : Nat) : Int) 16) (rem16 ((ad.size + pn ad.size + c.size) + N1)) <| ZD 17 (((((ad.size + pn ad.size + c.size) + N1) % 16 : Nat) : Int) = 0) <| nT <| cF <| wp_exit <| au_then_exit <| au_then_exit <| au_block_exit <| au_then ?_
   replace hS : SN w [⟨k1, (j2 ad c)⟩, ⟨k2, (m1 ad)⟩] [] u12 := (by have h9 := hS.next M; rw [hN1] at h9; exact h9)
   clear M
   have M := hS.mem hL
   refine rg_lit <| rV 2 <| ZQ 21 .u64 (cv .u64 (c.size : Int)) (cvu64 _ (by omega)) <| pC M 22 80 #[.int .u64 (c.size : Int)] (.string (wS (c.size : Int))) (fun w M => c_word _ w M.laid) fun u13 M => pl_callr (want_no rfl) (some 23) rfl 118 #[.pointer (some ⟨k2, 0, none⟩), .string (wS (c.size : Int))] (.tuple #[.int .i64 ((wS (c.size : Int)).size : Int), .nilIface]) _ (fun _ => by kernel_rfl) (((hS.next M).perm (.swap _ _ _)).wstr hL (wS (c.size : Int)) (by rw [m1_len, wS_size]; decide)) ?_
   intro u14 hS9
   clear M hS
   have hS : SN w [⟨k1, (j2 ad c)⟩, ⟨k2, (m2 ad c)⟩] [] u14 := hS9.perm (.swap _ _ _)
   have M := hS.mem hL
   refine pl_nil <| au_block <| au_then <| rg_lit <| rV 2 <| nT <| rounds_go <| sq <| wp_seq <| cF <| wp_exit <| au_then_exit <| au_then_exit <| au_block_exit <| au_then <| sR ?_
   refine pl_callr (want_no rfl) (some 25) rfl 107 #[.pointer (some ⟨k2, 0, none⟩)] (.string (mS ad c)) _ (fun _ => by kernel_rfl) (((hS.next M).perm (.swap _ _ _)).str hL (fun e => by have := m2_len ad c; rw [e] at this; cases this)) ?_
   intro u15 hS9
   clear M hS
   have hS : SN w [⟨k1, (j2 ad c)⟩, ⟨k2, (m2 ad c)⟩] [] u15 := hS9.perm (.swap _ _ _)
   have M := hS.mem hL
   refine pl_callr (want_no rfl) (some 26) rfl 118 #[.pointer (some ⟨k1, 0, none⟩), .string (mS ad c)] (.tuple #[.int .i64 ((mS ad c).size : Int), .nilIface]) _ (fun _ => by kernel_rfl) ((hS.next M).wstr hL (mS ad c) (by rw [j2_len]; show _ + (m2 ad c).length ≤ _; rw [m2_len]; have := pn_lt (ad.size + pn ad.size + c.size); omega)) ?_
   intro u16 hS9
   clear M hS
   have hS : SN w [⟨k1, (j2 ad c ++ m2 ad c)⟩, ⟨k2, (m2 ad c)⟩] [] u16 := hS9
   have M := hS.mem hL
   refine nT <| sR <| pl_callr (want_no rfl) (some 27) rfl 107 #[.pointer (some ⟨k1, 0, none⟩)] (.string (jn ad c)) _ (fun _ => by kernel_rfl) ((hS.next M).str hL (fun e => by have := j2_len ad c; have h3 := congrArg List.length e; rw [List.length_append, m2_len] at h3; simp at h3)) ?_
   intro u17 hS9
   clear M hS
   have hS : SN w [⟨k1, (j2 ad c ++ m2 ad c)⟩, ⟨k2, (m2 ad c)⟩] [] u17 := hS9
   have M := hS.mem hL
   refine rV 1 <| nT <| wp_ret ?_
   exact bX (.string (jn ad c)) ⟨rfl, (hS.next M).bel⟩
open Go.RowKit
def tx2 (ad c : Yb) : Nat → Value := fun i => if i = 0 then .string ad else .string c
def otk (key nonce : Yb) : ByteArray := (blk (fw key nonce 0)).extract 0 32
theorem otk_size (key nonce : Yb) : (otk key nonce).size = 32 := by
 unfold otk
 rw [ByteArray.size_extract, blk_size]
 rfl
theorem jn_size (ad c : Yb) : (jn ad c).size ≤ ad.size + c.size + 48 := by
 have h : (jn ad c).size = (j2 ad c ++ m2 ad c).length := rfl
 rw [h, List.length_append, j2_len, m2_len]
 have := pn_lt ad.size
 have := pn_lt (ad.size + pn ad.size + c.size)
 omega
def tgO (key nonce ad c : Yb) : ByteArray := Pol.tagS (otk key nonce) (jn ad c)
theorem tgO_size (key nonce ad c : Yb) : (tgO key nonce ad c).size = 16 := Pol.tagS_size _ _
def tn (key nonce s : Yb) : ByteArray := oS (fw key nonce 1) s
theorem tn_size (key nonce s : Yb) : (tn key nonce s).size = s.size := oS_size _ _
def sealS (key nonce ad s : Yb) : ByteArray := tn key nonce s ++ tgO key nonce ad (tn key nonce s)
theorem sealS_size (key nonce ad s : Yb) : (sealS key nonce ad s).size = s.size + 16 := by
 unfold sealS
 rw [ByteArray.size_append, tn_size, tgO_size]
theorem sf_zero {key nonce ad s : Yb} {m : Nat} (h : sf key nonce ad s m = 0) : (key.size = 32 ∧ nonce.size = 12) ∧ ad.size ≤ 65536 ∧ s.size ≤ 65536 + m ∧ m ≤ s.size := by
 unfold sf at h
 split at h
 ·cases h
 ·split at h
  ·cases h
  ·split at h
   ·cases h
   ·omega
theorem sf_ok {key nonce ad s : Yb} {m : Nat} (hk : key.size = 32 ∧ nonce.size = 12) (ha : ad.size ≤ 65536) (hs : s.size ≤ 65536 + m) (hm : m ≤ s.size) : sf key nonce ad s m = 0 := by
 unfold sf
 rw [if_neg (by omega), if_neg (by omega), if_neg (by omega)]
theorem c_Turn1 (key nonce s : Yb) (hm : key.size = 32 ∧ nonce.size = 12) (hz : s.size ≤ 65536) (w : World) (hL : Laid w) : Cs 78 #[.string key, .string nonce, .int .u32 1, .string s] w (.tuple #[.string (tn key nonce s), .int .i64 0]) := c_TurnA key nonce 1 (by decide) s (by omega) hm (by omega) w hL
theorem c_tagOf (key nonce ad c : Yb) (hm : key.size = 32 ∧ nonce.size = 12) (hz : ad.size + c.size ≤ 150000) (w : World) (hL : Laid w)  : Cs 79 #[.string key, .string nonce, .string ad, .string c] w (.string (tgO key nonce ad c)) := by
 go_enter Tryz.func79, Tryz.ntmps79
 have M := Mem.start hL
 refine sq <| sR <| rV 2 <| ZC M 16 (fun w M => c_BlockA key nonce 0 hm w M.laid) fun u1 M => rV 5 <| nT <| wp_seq <| rgh M [] 11 fun u2 M => qV M 0 20 (.string (blk (fw key nonce 0))) <| qH M 1 21 (.string (otk key nonce)) (fun w _ => (run_strh 9 Tryz.underlying9 _ _ rfl (blk (fw key nonce 0)) (by kernel_rfl) .i64 32 (by kernel_rfl) (by rw [blk_size]; decide) _ rfl) w) <| qV M 2 22 (.string ad) <| qV M 3 23 (.string c) <| qO 4 ?_
 refine ZM M 24 (fun g1 => .slice (some ⟨g1, 0, none⟩) 2 2) (.cells (av 2 (tx2 ad c)) 9) fun g1 u3 M => nT ?_
 refine ⟨(M.drop (.cons _ (.slnil))), ?_⟩
 refine qO 5 ?_
 refine ZC M 25 (fun w M => c_joined ad c g1 w M.laid hz (Array.getElem?_eq_some_iff.1 (M.get 0 rfl)).1 (cell_av (M.get 0 rfl) (by decide)) (cell_av (M.get 0 rfl) (by decide))) fun u4 M => ?_
 refine nT ?_
 refine ⟨(M.drop (.cons _ (.slnil))), ?_⟩
 refine qO 6 ?_
 refine pC M 26 95 #[.string (otk key nonce), .string (jn ad c)] (.tuple #[.string (tgO key nonce ad c), .int .i64 0]) (fun w M => Pol.c_Tag _ _ (otk_size key nonce) (by have := jn_size ad c; omega) w M.laid) fun u5 M => nT ?_
 refine ⟨(M.drop (.cons _ (.slnil))), ?_⟩
 have qM := M.drop (.cons _ (.slnil))
 refine qV qM 7 19 (.tuple #[.string (tgO key nonce ad c), .int .i64 0]) <| qV qM 8 27 (.string (tgO key nonce ad c)) <| qV qM 9 28 (.int .i64 0) <| qV qM 10 11 (.string (tgO key nonce ad c)) <| qZ ?_
 refine rV 1 <| nT <| au_then <| sq <| wp_ret ?_
 exact b1 M
theorem c_SealA (key nonce ad s : Yb) (h : sf key nonce ad s 0 = 0) (w : World) (hL : Laid w)  : Cs 64 #[.string key, .string nonce, .string ad, .string s] w (.tuple #[.string (sealS key nonce ad s), .int .i64 0]) := by
 go_enter Tryz.func64, Tryz.ntmps64
 have M := Mem.start hL
 refine sq <| wp_seq <| sR <| rV 4 <| ZC M 17 (fun w M => c_fault key nonce ad s 0 (by decide) w M.laid) fun u1 M => rV 1 <| nT <| sR <| rV 1 <| wD 19 h <| nT <| cF <| wp_skip <| au_then <| sR <| rV 3 ?_
 refine ZC M 25 (fun w M => c_Turn1 key nonce s (sf_zero h).1 (by have := sf_zero h; omega) w M.laid) fun u2 M => rV 5 <| nT <| sR <| rV 5 <| ZC M 33 (fun w M => c_tagOf key nonce ad (tn key nonce s) (sf_zero h).1 (by have := sf_zero h; rw [tn_size]; omega) w M.laid) fun u3 M => pH 34 (.string (sealS key nonce ad s)) (run_cat 9 9 _ _ rfl (tn key nonce s) (tgO key nonce ad (tn key nonce s)) (by kernel_rfl) (by kernel_rfl) (by rw [tn_size, tgO_size]; have := sf_zero h; omega)) <| rV 2 <| nT <| wp_ret ?_
 exact b1 M
theorem c_SealB (key nonce ad s : Yb) (h : sf key nonce ad s 0 ≠ 0) (w : World) (hL : Laid w)  : Cs 64 #[.string key, .string nonce, .string ad, .string s] w (.tuple #[.string ⟨#[]⟩, .int .i64 (sf key nonce ad s 0)]) := by
 go_enter Tryz.func64, Tryz.ntmps64
 have M := Mem.start hL
 refine sq <| wp_seq <| sR <| rV 4 <| ZC M 17 (fun w M => c_fault key nonce ad s 0 (by decide) w M.laid) fun u1 M => rV 1 <| nT <| sR <| rV 1 <| wU 19 h <| nT <| cT <| sq <| wp_ret <| au_then_ret ?_
 exact b1 M
theorem cx_size (s : Yb) : (s.extract 0 (s.size - 16)).size = s.size - 16 := by
 rw [ByteArray.size_extract]
 omega
def tgX (key nonce ad s : Yb) : ByteArray := tgO key nonce ad (s.extract 0 (s.size - 16))
def opS (key nonce s : Yb) : ByteArray := tn key nonce (s.extract 0 (s.size - 16))
theorem c_OpenA (key nonce ad s : Yb) (h : sf key nonce ad s 16 = 0) (e : tgX key nonce ad s = s.extract (s.size - 16) s.size) (w : World) (hL : Laid w)  : Cs 67 #[.string key, .string nonce, .string ad, .string s] w (.tuple #[.string (opS key nonce s), .int .i64 0]) := by
 go_enter Tryz.func67, Tryz.ntmps67
 have M := Mem.start hL
 have hs16 : 16 ≤ s.size := (sf_zero h).2.2.2
 have hs17 : s.size ≤ 65536 + 16 := (sf_zero h).2.2.1
 refine sq <| wp_seq <| sR <| rV 4 <| ZC M 17 (fun w M => c_fault key nonce ad s 16 (by decide) w M.laid) fun u1 M => rV 1 <| nT <| sR <| rV 1 <| wD 19 h <| nT <| cF <| wp_skip <| au_then <| wp_seq <| rgh M [] 11 fun u2 M => ?_
 refine qV M 0 21 (.string s) <| qV M 1 22 (.string s) <| qV M 2 23 (.int .i64 (s.size : Int)) ?_
 refine qH M 3 24 (.int .i64 ((s.size - 16 : Nat) : Int)) (fun w _ => (fun w => Eq.trans (b := .ok (.value (.int .i64 (IntKind.wrap .i64 ((s.size : Int) - 16)))) w) (by kernel_rfl) (by rw [wrap64 (by omega) (by omega)]; congr 3 <;> omega)) w) ?_
 refine qH M 4 25 (.string (s.extract 0 (s.size - 16))) (fun w _ => (run_strh 9 Tryz.underlying9 _ _ rfl s (by kernel_rfl) .i64 (s.size - 16) (by kernel_rfl) (by omega) _ rfl) w) <| qV M 5 26 (.string s) <| qV M 6 27 (.string s) <| qV M 7 28 (.int .i64 (s.size : Int)) ?_
 refine qH M 8 29 (.int .i64 ((s.size - 16 : Nat) : Int)) (fun w _ => (fun w => Eq.trans (b := .ok (.value (.int .i64 (IntKind.wrap .i64 ((s.size : Int) - 16)))) w) (by kernel_rfl) (by rw [wrap64 (by omega) (by omega)]; congr 3 <;> omega)) w) ?_
 refine qH M 9 30 (.string (s.extract (s.size - 16) s.size)) (fun w _ => (run_strl 9 Tryz.underlying9 _ _ rfl s (by kernel_rfl) .i64 (s.size - 16) (by kernel_rfl) (by omega) _ rfl) w) <| qV M 10 11 (.string (s.extract 0 (s.size - 16))) <| qZ ?_
 refine rV 1 <| nT <| au_then <| wp_seq <| sR <| rV 4 <| ZC M 35 (fun w M => c_tagOf key nonce ad (s.extract 0 (s.size - 16)) (sf_zero h).1 (by have := sf_zero h; rw [cx_size]; omega) w M.laid) fun u3 M => rV 1 ?_
 refine pC M 37 84 #[.string (tgX key nonce ad s), .string (s.extract (s.size - 16) s.size)] (.bool true) (fun w M => (by rw [← decide_eq_true e]; exact Pol.c_same _ _ (by show (tgO key nonce ad (s.extract 0 (s.size - 16))).size ≤ _; rw [tgO_size]; decide) w M.laid)) fun u4 M => ?_
 refine rV 1 <| nT <| cF <| wp_skip <| au_then <| sR <| rV 3 <| ZC M 42 (fun w M => c_Turn1 key nonce (s.extract 0 (s.size - 16)) (sf_zero h).1 (by have := sf_zero h; rw [cx_size]; omega) w M.laid) fun u5 M => rV 4 <| nT <| wp_ret ?_
 exact b1 M
theorem c_OpenB (key nonce ad s : Yb) (h : sf key nonce ad s 16 = 0) (e : tgX key nonce ad s ≠ s.extract (s.size - 16) s.size) (w : World) (hL : Laid w)  : Cs 67 #[.string key, .string nonce, .string ad, .string s] w (.tuple #[.string ⟨#[]⟩, .int .i64 100]) := by
 go_enter Tryz.func67, Tryz.ntmps67
 have M := Mem.start hL
 have hs16 : 16 ≤ s.size := (sf_zero h).2.2.2
 have hs17 : s.size ≤ 65536 + 16 := (sf_zero h).2.2.1
 refine sq <| wp_seq <| sR <| rV 4 <| ZC M 17 (fun w M => c_fault key nonce ad s 16 (by decide) w M.laid) fun u1 M => rV 1 <| nT <| sR <| rV 1 <| wD 19 h <| nT <| cF <| wp_skip <| au_then <| wp_seq <| rgh M [] 11 fun u2 M => ?_
 refine qV M 0 21 (.string s) <| qV M 1 22 (.string s) <| qV M 2 23 (.int .i64 (s.size : Int)) ?_
 refine qH M 3 24 (.int .i64 ((s.size - 16 : Nat) : Int)) (fun w _ => (fun w => Eq.trans (b := .ok (.value (.int .i64 (IntKind.wrap .i64 ((s.size : Int) - 16)))) w) (by kernel_rfl) (by rw [wrap64 (by omega) (by omega)]; congr 3 <;> omega)) w) ?_
 refine qH M 4 25 (.string (s.extract 0 (s.size - 16))) (fun w _ => (run_strh 9 Tryz.underlying9 _ _ rfl s (by kernel_rfl) .i64 (s.size - 16) (by kernel_rfl) (by omega) _ rfl) w) <| qV M 5 26 (.string s) <| qV M 6 27 (.string s) <| qV M 7 28 (.int .i64 (s.size : Int)) ?_
 refine qH M 8 29 (.int .i64 ((s.size - 16 : Nat) : Int)) (fun w _ => (fun w => Eq.trans (b := .ok (.value (.int .i64 (IntKind.wrap .i64 ((s.size : Int) - 16)))) w) (by kernel_rfl) (by rw [wrap64 (by omega) (by omega)]; congr 3 <;> omega)) w) ?_
 refine qH M 9 30 (.string (s.extract (s.size - 16) s.size)) (fun w _ => (run_strl 9 Tryz.underlying9 _ _ rfl s (by kernel_rfl) .i64 (s.size - 16) (by kernel_rfl) (by omega) _ rfl) w) <| qV M 10 11 (.string (s.extract 0 (s.size - 16))) <| qZ ?_
 refine rV 1 <| nT <| au_then <| wp_seq <| sR <| rV 4 <| ZC M 35 (fun w M => c_tagOf key nonce ad (s.extract 0 (s.size - 16)) (sf_zero h).1 (by have := sf_zero h; rw [cx_size]; omega) w M.laid) fun u3 M => rV 1 ?_
 refine pC M 37 84 #[.string (tgX key nonce ad s), .string (s.extract (s.size - 16) s.size)] (.bool false) (fun w M => (by rw [← decide_eq_false e]; exact Pol.c_same _ _ (by show (tgO key nonce ad (s.extract 0 (s.size - 16))).size ≤ _; rw [tgO_size]; decide) w M.laid)) fun u4 M => ?_
 refine rV 1 <| nT <| cT <| sq <| wp_ret <| au_then_ret ?_
 exact b1 M
theorem c_OpenC (key nonce ad s : Yb) (h : sf key nonce ad s 16 ≠ 0)  (w : World) (hL : Laid w)  : Cs 67 #[.string key, .string nonce, .string ad, .string s] w (.tuple #[.string ⟨#[]⟩, .int .i64 (sf key nonce ad s 16)]) := by
 go_enter Tryz.func67, Tryz.ntmps67
 have M := Mem.start hL
 refine sq <| wp_seq <| sR <| rV 4 <| ZC M 17 (fun w M => c_fault key nonce ad s 16 (by decide) w M.laid) fun u1 M => rV 1 <| nT <| sR <| rV 1 <| wU 19 h <| nT <| cT <| sq <| wp_ret <| au_then_ret ?_
 exact b1 M
open Go.RowKit
theorem zB_list (n : Nat) : (zB n).data.toList = List.replicate n 0 := by
 unfold zB bs
 simp only [List.map_map]
 apply List.ext_getElem?
 intro i
 by_cases h : i < n
 ·simp [h]
 ·rw [List.getElem?_eq_none (by simp; omega), List.getElem?_eq_none (by simp; omega)]
theorem pn_shift (a b : Nat) (h : a % 16 = 0) : pn (a + b) = pn b := by
 unfold pn
 omega
def q1 (ad : Yb) : ByteArray := ad ++ zB (pn ad.size)
def q2 (ad c : Yb) : ByteArray := q1 ad ++ c
def q3 (ad c : Yb) : ByteArray := q2 ad c ++ zB (pn c.size)
def q4 (ad c : Yb) : ByteArray := q3 ad c ++ wS (ad.size : Int)
theorem q1_size (ad : Yb) : (q1 ad).size = ad.size + pn ad.size := by
 unfold q1
 rw [ByteArray.size_append, zB_size]
theorem q2_size (ad c : Yb) : (q2 ad c).size = ad.size + pn ad.size + c.size := by
 unfold q2
 rw [ByteArray.size_append, q1_size]
theorem q3_size (ad c : Yb) : (q3 ad c).size = ad.size + pn ad.size + c.size + pn c.size := by
 unfold q3
 rw [ByteArray.size_append, q2_size, zB_size]
theorem q4_size (ad c : Yb) : (q4 ad c).size = ad.size + pn ad.size + c.size + pn c.size + 8 := by
 unfold q4
 rw [ByteArray.size_append, q3_size, wS_size]
theorem jn_eq (ad c : Yb) : q4 ad c ++ wS (c.size : Int) = jn ad c := by
 apply ByteArray.ext
 apply Array.ext'
 show _ = j2 ad c ++ m2 ad c
 unfold q4 q3 q2 q1 j2 m2 m1 j1c j1
 rw [pn_shift _ _ (pn_sum ad.size)]
 simp only [ByteArray.data_append, Array.toList_append, zB_list, List.append_assoc]
theorem dotk (key nonce : Yb) (hm : key.size = 32 ∧ nonce.size = 12) : (dbk key nonce 0).extract 0 32 = otk key nonce := by
 unfold otk
 rw [blk_dbk key nonce 0 hm.1 hm.2 (by decide) (by decide)]
theorem d_Turn1 (key nonce s : Yb) (hm : key.size = 32 ∧ nonce.size = 12) (hz : s.size ≤ 65536) (w : World) (hL : Laid w) : Cs 70 #[.string key, .string nonce, .int .u32 1, .string s] w (.tuple #[.string (tn key nonce s), .int .i64 0]) := by
 unfold tn
 rw [oS_dT key nonce 1 s hm.1 hm.2 (by decide) (by decide)]
 exact d_TurnA key nonce 1 (by decide) s (by omega) hm (by omega) w hL
theorem d_tag (key nonce ad c : Yb) (hm : key.size = 32 ∧ nonce.size = 12) (hz : ad.size + c.size ≤ 150000) (w : World) (hL : Laid w)  : Cs 71 #[.string key, .string nonce, .string ad, .string c] w (.string (tgO key nonce ad c)) := by
 go_enter Tryz.func71, Tryz.ntmps71
 have M := Mem.start hL
 refine sq <| wp_seq <| rgh M [] 28 fun u1 M => qV M 0 12 (.string key) <| qV M 1 13 (.string nonce) <| qV M 4 16 (.string ad) <| qV M 5 17 (.string ad) <| qV M 8 20 (.string c) <| qV M 10 22 (.string c) <| qV M 13 25 (.string ad) <| qV M 14 26 (.int .i64 (ad.size : Int)) <| qH M 15 27 (.int .u64 (ad.size : Int)) (fun w _ => (fun w => Eq.trans (b := .ok (.value (.int .u64 (cv .u64 (ad.size : Int)))) w) (by kernel_rfl) (by rw [cvu64 _ (by omega)])) w) <| qV M 18 30 (.string c) <| qV M 19 31 (.int .i64 (c.size : Int)) <| qH M 20 32 (.int .u64 (c.size : Int)) (fun w _ => (fun w => Eq.trans (b := .ok (.value (.int .u64 (cv .u64 (c.size : Int)))) w) (by kernel_rfl) (by rw [cvu64 _ (by omega)])) w) <| qO 2 ?_
 refine ZC M 14 (fun w M => d_Block key nonce 0 hm.1 hm.2 w M.laid) fun u2 M => nT ?_
 refine ⟨M, ?_⟩
 refine qH M 3 15 (.string (otk key nonce)) (fun w _ => (run_strh 9 Tryz.underlying9 _ _ rfl (dbk key nonce 0) (by kernel_rfl) .i64 32 (by kernel_rfl) (by rw [dbk_size]; decide) _ (dotk key nonce hm)) w) <| qO 6 ?_
 refine ZC M 18 (fun w M => d_pad ad w M.laid) fun u3 M => nT ?_
 refine ⟨M, ?_⟩
 refine qH M 7 19 (.string (q1 ad)) (fun w _ => (run_cat 9 9 _ _ rfl ad (zB (pn ad.size)) (by kernel_rfl) (by kernel_rfl) (by rw [zB_size]; have hpa := pn_lt ad.size; have hpc := pn_lt c.size; omega)) w) <| qH M 9 21 (.string (q2 ad c)) (fun w _ => (run_cat 9 9 _ _ rfl (q1 ad) c (by kernel_rfl) (by kernel_rfl) (by rw [q1_size]; have hpa := pn_lt ad.size; have hpc := pn_lt c.size; omega)) w) <| qO 11 ?_
 refine ZC M 23 (fun w M => d_pad c w M.laid) fun u4 M => nT ?_
 refine ⟨M, ?_⟩
 refine qH M 12 24 (.string (q3 ad c)) (fun w _ => (run_cat 9 9 _ _ rfl (q2 ad c) (zB (pn c.size)) (by kernel_rfl) (by kernel_rfl) (by rw [q2_size, zB_size]; have hpa := pn_lt ad.size; have hpc := pn_lt c.size; omega)) w) <| qO 16 ?_
 refine pC M 28 72 #[.int .u64 (ad.size : Int)] (.string (wS (ad.size : Int))) (fun w M => d_eight _ w M.laid) fun u5 M => nT ?_
 refine ⟨M, ?_⟩
 refine qH M 17 29 (.string (q4 ad c)) (fun w _ => (run_cat 9 9 _ _ rfl (q3 ad c) (wS (ad.size : Int)) (by kernel_rfl) (by kernel_rfl) (by rw [q3_size, wS_size]; have hpa := pn_lt ad.size; have hpc := pn_lt c.size; omega)) w) <| qO 21 ?_
 refine pC M 33 72 #[.int .u64 (c.size : Int)] (.string (wS (c.size : Int))) (fun w M => d_eight _ w M.laid) fun u6 M => nT ?_
 refine ⟨M, ?_⟩
 refine qH M 22 34 (.string (jn ad c)) (fun w _ => (fun w => Eq.trans (run_cat 9 9 _ _ rfl (q4 ad c) (wS (c.size : Int)) (by kernel_rfl) (by kernel_rfl) (by rw [q4_size, wS_size]; have hpa := pn_lt ad.size; have hpc := pn_lt c.size; omega) w) (by rw [jn_eq])) w) <| qO 23 ?_
 refine pC M 35 88 #[.string (otk key nonce), .string (jn ad c)] (.tuple #[.string (tgO key nonce ad c), .int .i64 0]) (fun w M => Pol.d_Tag _ _ (otk_size key nonce) (by have := jn_size ad c; omega) w M.laid) fun u7 M => nT ?_
 refine ⟨M, ?_⟩
 refine qV M 24 11 (.tuple #[.string (tgO key nonce ad c), .int .i64 0]) <| qV M 25 36 (.string (tgO key nonce ad c)) <| qV M 26 37 (.int .i64 0) <| qV M 27 9 (.string (tgO key nonce ad c)) <| qZ ?_
 refine rV 1 <| nT <| au_then <| sq <| wp_ret ?_
 exact b1 M
theorem d_SealA (key nonce ad s : Yb) (hm : key.size = 32 ∧ nonce.size = 12) (hz : ad.size + s.size ≤ 5000)  (w : World) (hL : Laid w)  : Cs 50 #[.string key, .string nonce, .string ad, .string s] w (.tuple #[.string (sealS key nonce ad s), .int .i64 0]) := by
 go_enter Tryz.func50, Tryz.ntmps50
 have M := Mem.start hL
 refine sq <| wp_seq <| sR <| rV 2 <| pC M 14 69 #[.string key, .string nonce] (.bool true) (fun w M => (by rw [← decide_eq_true hm]; exact d_may key nonce w M.laid)) fun u1 M => rV 1 <| nT <| cF <| wp_skip <| au_then <| wp_seq <| sR <| rV 2 <| ZF 18 ((65536 : Int) < (ad.size : Int)) <| rV 3 <| ZF 22 ((65536 : Int) < (s.size : Int)) ?_
 refine rV 1 <| nT <| cF <| wp_skip <| au_then <| sR <| rV 3 <| ZC M 28 (fun w M => d_Turn1 key nonce s hm (by omega) w M.laid) fun u2 M => rV 5 <| nT <| sR <| rV 5 <| ZC M 36 (fun w M => d_tag key nonce ad (tn key nonce s) hm (by rw [tn_size]; omega) w M.laid) fun u3 M => pH 37 (.string (sealS key nonce ad s)) (run_cat 9 9 _ _ rfl (tn key nonce s) (tgO key nonce ad (tn key nonce s)) (by kernel_rfl) (by kernel_rfl) (by rw [tn_size, tgO_size]; omega)) <| rV 2 <| nT ?_
 refine wp_ret ?_
 exact b1 M
theorem d_OpenA (key nonce ad s : Yb) (hm : key.size = 32 ∧ nonce.size = 12) (hz : ad.size + s.size ≤ 5000) (h : ¬ s.size < 16) (e : tgX key nonce ad s = s.extract (s.size - 16) s.size) (w : World) (hL : Laid w)  : Cs 54 #[.string key, .string nonce, .string ad, .string s] w (.tuple #[.string (opS key nonce s), .int .i64 0]) := by
 go_enter Tryz.func54, Tryz.ntmps54
 have M := Mem.start hL
 refine sq <| wp_seq <| sR <| rV 2 <| pC M 15 69 #[.string key, .string nonce] (.bool true) (fun w M => (by rw [← decide_eq_true hm]; exact d_may key nonce w M.laid)) fun u1 M => rV 1 <| nT <| cF <| wp_skip <| au_then <| wp_seq <| sR <| rV 2 <| ZF 19 ((65536 : Int) < (ad.size : Int)) <| rV 3 <| ZF 23 ((65552 : Int) < (s.size : Int)) ?_
 refine rV 1 <| nT <| cF <| wp_skip <| au_then <| wp_seq <| sR <| rV 2 <| ZF 27 ((s.size : Int) < 16) <| nT <| cF <| wp_skip <| au_then <| sR <| rV 3 <| ZI 31 ((s.size : Int) - 16) ((s.size - 16 : Nat) : Int) ?_
 refine pH 32 (.string (s.extract 0 (s.size - 16))) (run_strh 9 Tryz.underlying9 _ _ rfl s (by kernel_rfl) .i64 (s.size - 16) (by kernel_rfl) (by omega) _ rfl) <| rV 1 <| nT <| wp_seq <| wp_seq <| rgh M [] 10 fun u2 M => qV M 0 33 (.string key) <| qV M 1 34 (.string nonce) <| qV M 2 35 (.string ad) <| qV M 3 36 (.string (s.extract 0 (s.size - 16))) <| qV M 5 38 (.string s) <| qV M 6 39 (.string s) <| qV M 7 40 (.int .i64 (s.size : Int)) ?_
 refine qH M 8 41 (.int .i64 ((s.size - 16 : Nat) : Int)) (fun w _ => (fun w => Eq.trans (b := .ok (.value (.int .i64 (IntKind.wrap .i64 ((s.size : Int) - 16)))) w) (by kernel_rfl) (by rw [wrap64 (by omega) (by omega)]; congr 3 <;> omega)) w) ?_
 refine qH M 9 42 (.string (s.extract (s.size - 16) s.size)) (fun w _ => (run_strl 9 Tryz.underlying9 _ _ rfl s (by kernel_rfl) .i64 (s.size - 16) (by kernel_rfl) (by omega) _ rfl) w) <| qO 4 ?_
 refine ZC M 37 (fun w M => d_tag key nonce ad (s.extract 0 (s.size - 16)) hm (by rw [cx_size]; omega) w M.laid) fun u3 M => nT ?_
 refine ⟨M, ?_⟩
 refine qZ ?_
 refine zJ 43 (.bool false) (.bool (!((tgX key nonce ad s).toList == (s.extract (s.size - 16) s.size).toList))) (by rw [e, beq_self_eq_true]; rfl) <| nT <| au_then <| cF <| wp_skip <| au_then <| sR <| rV 3 <| ZC M 48 (fun w M => d_Turn1 key nonce (s.extract 0 (s.size - 16)) hm (by rw [cx_size]; omega) w M.laid) fun u4 M => rV 5 <| nT <| sq <| wp_ret ?_
 exact b1 M
theorem d_OpenB (key nonce ad s : Yb) (hm : key.size = 32 ∧ nonce.size = 12) (hz : ad.size + s.size ≤ 5000) (h : ¬ s.size < 16) (e : tgX key nonce ad s ≠ s.extract (s.size - 16) s.size) (w : World) (hL : Laid w)  : Cs 54 #[.string key, .string nonce, .string ad, .string s] w (.tuple #[.string ⟨#[]⟩, .int .i64 100]) := by
 go_enter Tryz.func54, Tryz.ntmps54
 have M := Mem.start hL
 refine sq <| wp_seq <| sR <| rV 2 <| pC M 15 69 #[.string key, .string nonce] (.bool true) (fun w M => (by rw [← decide_eq_true hm]; exact d_may key nonce w M.laid)) fun u1 M => rV 1 <| nT <| cF <| wp_skip <| au_then <| wp_seq <| sR <| rV 2 <| ZF 19 ((65536 : Int) < (ad.size : Int)) <| rV 3 <| ZF 23 ((65552 : Int) < (s.size : Int)) ?_
 refine rV 1 <| nT <| cF <| wp_skip <| au_then <| wp_seq <| sR <| rV 2 <| ZF 27 ((s.size : Int) < 16) <| nT <| cF <| wp_skip <| au_then <| sR <| rV 3 <| ZI 31 ((s.size : Int) - 16) ((s.size - 16 : Nat) : Int) ?_
 refine pH 32 (.string (s.extract 0 (s.size - 16))) (run_strh 9 Tryz.underlying9 _ _ rfl s (by kernel_rfl) .i64 (s.size - 16) (by kernel_rfl) (by omega) _ rfl) <| rV 1 <| nT <| wp_seq <| wp_seq <| rgh M [] 10 fun u2 M => qV M 0 33 (.string key) <| qV M 1 34 (.string nonce) <| qV M 2 35 (.string ad) <| qV M 3 36 (.string (s.extract 0 (s.size - 16))) <| qV M 5 38 (.string s) <| qV M 6 39 (.string s) <| qV M 7 40 (.int .i64 (s.size : Int)) ?_
 refine qH M 8 41 (.int .i64 ((s.size - 16 : Nat) : Int)) (fun w _ => (fun w => Eq.trans (b := .ok (.value (.int .i64 (IntKind.wrap .i64 ((s.size : Int) - 16)))) w) (by kernel_rfl) (by rw [wrap64 (by omega) (by omega)]; congr 3 <;> omega)) w) ?_
 refine qH M 9 42 (.string (s.extract (s.size - 16) s.size)) (fun w _ => (run_strl 9 Tryz.underlying9 _ _ rfl s (by kernel_rfl) .i64 (s.size - 16) (by kernel_rfl) (by omega) _ rfl) w) <| qO 4 ?_
 refine ZC M 37 (fun w M => d_tag key nonce ad (s.extract 0 (s.size - 16)) hm (by rw [cx_size]; omega) w M.laid) fun u3 M => nT ?_
 refine ⟨M, ?_⟩
 refine qZ ?_
 refine zJ 43 (.bool true) (.bool (!((tgX key nonce ad s).toList == (s.extract (s.size - 16) s.size).toList))) (by rw [Pol.toList_ne e]; rfl) <| nT <| au_then <| cT <| sq <| wp_ret <| au_then_ret ?_
 exact b1 M
theorem d_OpenC (key nonce ad s : Yb) (hm : key.size = 32 ∧ nonce.size = 12) (hz : ad.size + s.size ≤ 5000) (h : s.size < 16) (w : World) (hL : Laid w)  : Cs 54 #[.string key, .string nonce, .string ad, .string s] w (.tuple #[.string ⟨#[]⟩, .int .i64 100]) := by
 go_enter Tryz.func54, Tryz.ntmps54
 have M := Mem.start hL
 refine sq <| wp_seq <| sR <| rV 2 <| pC M 15 69 #[.string key, .string nonce] (.bool true) (fun w M => (by rw [← decide_eq_true hm]; exact d_may key nonce w M.laid)) fun u1 M => rV 1 <| nT <| cF <| wp_skip <| au_then <| wp_seq <| sR <| rV 2 <| ZF 19 ((65536 : Int) < (ad.size : Int)) <| rV 3 <| ZF 23 ((65552 : Int) < (s.size : Int)) ?_
 refine rV 1 <| nT <| cF <| wp_skip <| au_then <| wp_seq <| sR <| rV 2 <| ZT 27 ((s.size : Int) < 16) <| nT <| cT <| sq <| wp_ret <| au_then_ret ?_
 exact b1 M
open Go.RowKit
theorem xb_xb (x k : Int) (h0 : 0 ≤ x) (h1 : x < 256) : xb (xb x k) k = x := by
 obtain ⟨a, rfl⟩ : ∃ a : Nat, x = (a : Int) := ⟨x.toNat, by omega⟩
 have hw : ∀ b : BitVec 8, IntKind.wrap .u8 (b.toNat : Int) = (b.toNat : Int) := fun b => by
  have := b.isLt
  simp [IntKind.wrap, IntKind.signed, IntKind.bits]
  omega
 have ho : ∀ b : BitVec 8, BitVec.ofInt 8 (b.toNat : Int) = b := fun b => by
  apply BitVec.eq_of_toNat_eq
  rw [BitVec.toNat_ofInt]
  have := b.isLt
  omega
 unfold xb
 rw [hw, hw, ho, BitVec.xor_assoc, BitVec.xor_self, BitVec.xor_zero, BitVec.toNat_ofInt]
 omega
theorem bt_oS (f : NI) (s : Yb) (i : Nat) (h : i < s.size) : bt (oS f s) i = ob f s i := by
 rw [oS_bs, bt_bs _ (fun x hx => by obtain ⟨j, _, rfl⟩ := List.mem_map.1 hx; exact ob_nn f s j), List.getD_eq_getElem?_getD, List.getElem?_map, List.getElem?_range h]
 rfl
theorem sb_map (s : Yb) : sb s = (List.range s.size).map (bt s) := by
 rw [dl_zero s (bt s)]
 exact List.map_congr_left fun i _ => if_neg (by omega)
theorem oS_oS (f : NI) (s : Yb) : oS f (oS f s) = s := by
 rw [oS_bs, oS_size]
 have e : (List.range s.size).map (ob f (oS f s)) = (List.range s.size).map (bt s) := List.map_congr_left fun i hi => by
  have hb := bt_nn s i
  show xb (bt (oS f s) i) (bl (sw f (i / 64)) (i % 64)) = _
  rw [bt_oS f s i (List.mem_range.1 hi)]
  exact xb_xb _ _ hb.1 hb.2
 rw [e, ← sb_map, bs_sb]
theorem ext_left (a b : Yb) : (a ++ b).extract 0 a.size = a := by
 apply ByteArray.ext
 rw [ByteArray.data_extract, ByteArray.data_append]
 show (a.data ++ b.data).extract 0 a.data.size = a.data
 rw [Array.extract_append]
 simp
theorem ext_right (a b : Yb) : (a ++ b).extract a.size (a ++ b).size = b := by
 apply ByteArray.ext
 rw [ByteArray.data_extract, ByteArray.data_append, ByteArray.size_append]
 show (a.data ++ b.data).extract a.data.size (a.data.size + b.data.size) = b.data
 rw [Array.extract_append, Array.extract_empty_of_size_le_start (Nat.le_refl _), Array.empty_append, Nat.sub_self, Nat.add_sub_cancel_left]
 exact Array.extract_size
theorem seal_cx (key nonce ad s : Yb) : (sealS key nonce ad s).extract 0 ((sealS key nonce ad s).size - 16) = tn key nonce s := by
 have h : (sealS key nonce ad s).size - 16 = (tn key nonce s).size := by
  rw [sealS_size, tn_size]
  omega
 rw [h]
 exact ext_left _ _
theorem seal_tx (key nonce ad s : Yb) : (sealS key nonce ad s).extract ((sealS key nonce ad s).size - 16) (sealS key nonce ad s).size = tgO key nonce ad (tn key nonce s) := by
 have h : (sealS key nonce ad s).size - 16 = (tn key nonce s).size := by
  rw [sealS_size, tn_size]
  omega
 rw [h]
 exact ext_right _ _
theorem seal_tg (key nonce ad s : Yb) : tgX key nonce ad (sealS key nonce ad s) = (sealS key nonce ad s).extract ((sealS key nonce ad s).size - 16) (sealS key nonce ad s).size := by
 unfold tgX
 rw [seal_cx, seal_tx]
theorem seal_op (key nonce ad s : Yb) : opS key nonce (sealS key nonce ad s) = s := by
 unfold opS
 rw [seal_cx]
 exact oS_oS _ _
theorem seal_ok {key nonce ad s : Yb} (h : sf key nonce ad s 0 = 0) : sf key nonce ad (sealS key nonce ad s) 16 = 0 := by
 obtain ⟨h1, h2, h3, h4⟩ := sf_zero h
 exact sf_ok h1 h2 (by rw [sealS_size]; omega) (by rw [sealS_size]; omega)
open Go.RowKit
def ls (l : List Value) : Nat → Value := fun i => l.getD i undef
theorem getD_app (l : List Value) (j : Nat) : l.getD j undef = l[j]?.getD undef := by simp
theorem put_ls (l : List Value) (k : Nat) (v : Value) (l' : List Value) (h : l.set k v = l') {n : Nat} (j : Nat) (hj : j < n) (hl : n ≤ l.length := by exact Nat.le_of_ble_eq_true rfl) : (if j = k then v else ls l j) = ls l' j := by
 subst h
 unfold ls
 rw [getD_app, getD_app, List.getElem?_set]
 by_cases e : k = j
 ·subst e
  rw [if_pos rfl, if_pos rfl, if_pos (by omega)]
  rfl
 ·rw [if_neg (fun h => e h.symm), if_neg e]
theorem one_ls (l : List Value) (h : l.all (·.oneCell') = true) {n : Nat} (hn : n ≤ l.length := by exact Nat.le_of_ble_eq_true rfl) (j : Nat) (hj : j < n) : (ls l j).oneCell' = true := by
 unfold ls
 rw [getD_app, List.getElem?_eq_getElem (by omega)]
 exact List.all_eq_true.1 h _ (List.getElem_mem _)
theorem sb_ls (l : List Int) (T : TypeId) {n : Nat} (hn : n = l.length := by rfl) : SB (.cells (av n (ls (vs8 l))) T) n (vs8 l) := by
 subst hn
 refine ⟨_, T, (0, 0), rfl, by simp [vs8], by rw [av_size]; exact Nat.le_refl _, fun i hi => ?_, fun i _ => by simp⟩
 rw [vs8_length] at hi
 rw [av_get _ _ _ hi]
 unfold ls
 rw [getD_app, List.getElem?_eq_getElem (by rw [vs8_length]; exact hi)]
 rfl
theorem seq_pos {a b : Yb} (h : a = b) : (a.toList == b.toList) = true := by rw [h, beq_self_eq_true]
theorem seq_neg {a b : Yb} (h : ¬ a = b) : (a.toList == b.toList) = false := by
 rw [beq_eq_false_iff_ne]
 intro e
 rw [ByteArray.toList_eq, ByteArray.toList_eq] at e
 exact h (ByteArray.ext (Array.toList_inj.1 e))
theorem call_val {P : Program} {f : FuncId} {args : Array Value} {w : World} {v v' : Value} {X : World → Prop} (h : Calls P f args w fun e w' => e = .returned v ∧ X w') (hv : v = v') : Calls P f args w fun e w' => e = .returned v' ∧ X w' := hv ▸ h
theorem cv_u64 (x : Int) : cv .u64 x = x % 18446744073709551616 := by
 unfold cv
 simp [IntKind.wrap, IntKind.signed, IntKind.bits]
section
variable {P : Program} {ops : Array Oper} {o o2 o3 : Oper} {a : Act} {w : World} {Q : Exit → Act → World → Prop} {S : World → Prop} {n fuel : Nat} {listed : Array Bool}
end
theorem if_max (x y : Int) : (if y > x then y else x) = max x y := by
 rw [Int.max_def]
 split <;> split <;> omega
theorem run_shlX {P : Program} {a : Act} {o : Oper} (t rt : TypeId) (x y : Operand) (ho : o.op = .binOp .shl t x y rt) (k : Int) (ky : IntKind) (m : Nat) (hx : a.eval x = .int .u64 k) (hy : a.eval y = .int ky (m : Int)) (w : World) :
  (execOp a.eval o).run P w = .ok (.value (.int .u64 (sl k m))) w := by
 by_cases hm : m ≤ 64
 ·exact Pol.run_shlU t rt x y ho k ky m hx hy hm w
 ·have e : IntKind.wrap .u64 (k * 2 ^ min m 64) = IntKind.wrap .u64 (k * 2 ^ m) := by
   obtain ⟨n, rfl⟩ : ∃ n, m = n + 64 := ⟨m - 64, by omega⟩
   rw [IntKind.wrap_u64, IntKind.wrap_u64, Nat.min_eq_right (by omega), Int.pow_add, ← Int.mul_assoc]
   have : (2 : Int) ^ 64 = 18446744073709551616 := rfl
   rw [this, Int.mul_emod_left, Int.mul_emod_left]
  unfold execOp sl
  rw [← e]
  simp [ho, hx, hy, eqGuard, binOp, Op.shift, IntKind.bits]
  intro h
  omega
theorem results_t3 {P : Program} {fn : Func} {p q r : Tmp} (h : fn.results = #[.tmp p, .tmp q, .tmp r]) (tmps : Array Value) (w : World) (v u x : Value) (hp : tmps.getD p undef = v) (hq : tmps.getD q undef = u) (hr : tmps.getD r undef = x) : (results fn tmps).run P w = .ok (.tuple #[v, u, x]) w := by
 subst hp hq hr
 simp [results, h]
structure There (w : World) (T : List Blk) : Prop where
 at_ : ∀ b ∈ T, w.heap[b.g]? = some b.Z
 nodup : (T.map Blk.g).Nodup
 ne : ∀ b ∈ T, 1 < b.g
theorem Mem.startT {w : World} {T : List Blk} (hL : Laid w) (h : There w T) : Mem ⟨w, T.map Blk.g⟩ T w :=
 ⟨grown_refl _ _, h.at_, fun b hb => .inr (List.mem_map_of_mem hb), h.nodup, hL, fun k hk => by obtain ⟨b, hb, rfl⟩ := List.mem_map.1 hk; exact h.ne b hb⟩
theorem Mem.there {c : Ctx} {L T : List Blk} {W : World} (M : Mem c L W) (h : T.Sublist L) : There W T := ⟨fun b hb => M.at_ b (h.subset hb), M.nodup.sublist (h.map _), fun b hb => by
 rcases M.ge b (h.subset hb) with h1 | h1
 ·exact Nat.lt_of_lt_of_le M.lay.lt h1
 ·exact M.ne _ h1⟩
theorem There.sub {w : World} {T T' : List Blk} (h : There w T) (hs : T'.Sublist T) : There w T' := ⟨fun b hb => h.at_ b (hs.subset hb), h.nodup.sublist (hs.map _), fun b hb => h.ne b (hs.subset hb)⟩
theorem ro_T {w W : World} {T : List Blk} (h : There w T) (M : Mem ⟨w, T.map Blk.g⟩ T W) : Below w.heap.size w W := ⟨M.old.os, M.old.tape, M.old.output, M.old.size, fun k hk => by
 by_cases e : k ∈ T.map Blk.g
 ·obtain ⟨b, hb, rfl⟩ := List.mem_map.1 e
  rw [h.at_ b hb, M.at_ b hb]
 ·exact M.old.block k hk e⟩
structure OkT (w w' : World) (T T' : List Blk) : Prop where
 grw : Grw w w' (T.map Blk.g)
 at_ : ∀ b ∈ T', w'.heap[b.g]? = some b.Z
 nodup : (T'.map Blk.g).Nodup
 ge : ∀ b ∈ T', b.g ∈ T.map Blk.g ∨ w.heap.size ≤ b.g
theorem Mem.okT0 {w : World} {T T' : List Blk} {W : World} (M : Mem ⟨w, T.map Blk.g⟩ T' W) : OkT w W T T' := ⟨M.old, M.at_, M.nodup, fun b hb => (M.ge b hb).symm⟩
theorem okT_below {w w' : World} {T : List Blk} (h : There w T) (hb : Below w.heap.size w w') : OkT w w' T T := ⟨grown_below hb _, fun b hb' => by
 have := h.at_ b hb'
 rw [hb.block _ (Array.getElem?_eq_some_iff.1 this).1]
 exact this, h.nodup, fun b hb => .inl (List.mem_map_of_mem hb)⟩
theorem Mem.putT {c : Ctx} {L T T' : List Blk} {W W' : World} (M : Mem c (L ++ T) W) (h : OkT W W' T T') : Mem c (L ++ T') W' where
 old := ⟨h.grw.os.trans M.old.os, h.grw.tape.trans M.old.tape, h.grw.output.trans M.old.output, Nat.le_trans M.old.size h.grw.size, fun k hk hr => by
  refine (h.grw.block k (Nat.lt_of_lt_of_le hk M.old.size) fun e => ?_).trans (M.old.block k hk hr)
  obtain ⟨b, hb, rfl⟩ := List.mem_map.1 e
  rcases M.ge b (List.mem_append_right _ hb) with h1 | h1
  ·omega
  ·exact hr h1⟩
 at_ := fun b hb => by
  rcases List.mem_append.1 hb with hb | hb
  ·rw [h.grw.block _ (M.lt (List.mem_append_left _ hb)) fun e => ?_]
   ·exact M.at_ b (List.mem_append_left _ hb)
   ·have hn := M.nodup
    rw [List.map_append, List.nodup_append] at hn
    exact hn.2.2 _ (List.mem_map_of_mem hb) _ e rfl
  ·exact h.at_ b hb
 ge := fun b hb => by
  rcases List.mem_append.1 hb with hb | hb
  ·exact M.ge b (List.mem_append_left _ hb)
  ·rcases h.ge b hb with h1 | h1
   ·obtain ⟨d, hd, e⟩ := List.mem_map.1 h1
    rw [← e]
    exact M.ge d (List.mem_append_right _ hd)
   ·exact .inl (Nat.le_trans M.old.size h1)
 nodup := by
  have hn := M.nodup
  rw [List.map_append, List.nodup_append] at hn ⊢
  refine ⟨hn.1, h.nodup, fun x hx y hy e => ?_⟩
  obtain ⟨d, hd, rfl⟩ := List.mem_map.1 hy
  rcases h.ge d hd with h1 | h1
  ·exact hn.2.2 _ hx _ h1 e
  ·obtain ⟨b, hb, rfl⟩ := List.mem_map.1 hx
   have := M.lt (List.mem_append_left _ hb)
   omega
 lay := M.lay
 ne := M.ne
theorem Mem.front {c : Ctx} {L : List Blk} {b : Blk} {W : World} (M : Mem c (L ++ [b]) W) : Mem c (b :: L) W := M.perm (List.perm_append_singleton b L)
theorem Mem.mid {c : Ctx} {L pre T suf T' : List Blk} {W W' : World} (M : Mem c L W) (hp : L = pre ++ (T ++ suf)) (h : OkT W W' T T') : Mem c (pre ++ (T' ++ suf)) W' := by
 subst hp
 have p : ∀ X : List Blk, (pre ++ (X ++ suf)).Perm ((pre ++ suf) ++ X) := fun X => by
  rw [List.append_assoc]
  exact List.Perm.append_left pre List.perm_append_comm
 exact ((M.perm (p T)).putT h).perm (p T').symm
theorem Mem.thereM {c : Ctx} {L pre T suf : List Blk} {W : World} (M : Mem c L W) (hp : L = pre ++ (T ++ suf)) : There W T := by
 subst hp
 exact M.there ((List.sublist_append_left T suf).trans (List.sublist_append_right pre _))
section
variable {P : Program} {ops : Array Oper} {rest : List Oper} {o : Oper} {a : Act} {w : World} {c : Ctx} {L : List Blk} {Q : Exit → Act → World → Prop} {α : Type}
theorem pl_callM (M : Mem c L w) (hw : Region.wanted o (yielded ops a.tmps) = true) (d : Option Tmp) (hd : o.dst = d) (f : FuncId) (args : Array Value) (pre T suf : List Blk) (hp : L = pre ++ (T ++ suf)) (v : α → Value) (T' : α → List Blk) (R : α → Prop) (hrun : ∀ w, (execOp a.eval o).run P w = .ok (.enter f args) w)
  (hc : ∀ w, Laid w → There w T → Calls P f args w fun e w' => ∃ x, e = .returned (v x) ∧ R x ∧ OkT w w' T (T' x)) (h : ∀ x w', R x → Mem c (pre ++ (T' x ++ suf)) w' → PL P ops Q rest (a.put d (v x)) w') : PL P ops Q (o :: rest) a w :=
 pl_callq hw d hd f args hrun ((hc w M.laid (M.thereM hp)).mono fun _ w' ⟨x, he, hR, hk⟩ => ⟨v x, he, h x w' hR (M.mid hp hk)⟩)
theorem pl_call2 (M : Mem c L w) (hw : Region.wanted o (yielded ops a.tmps) = true) (d : Option Tmp) (hd : o.dst = d) (f : FuncId) (args : Array Value) (v : Value) (i j g k : Nat) (Z Y Z' Y' : Obj) (hi : L[i]? = some ⟨g, Z⟩) (hj : L[j]? = some ⟨k, Y⟩) (hrun : ∀ w, (execOp a.eval o).run P w = .ok (.enter f args) w)
  (hc : ∀ w, Mem c L w → Calls P f args w fun e w' => e = .returned v ∧ Grw w w' [g, k] ∧ w'.heap[g]? = some Z' ∧ w'.heap[k]? = some Y') (h : ∀ w', Mem c ((L.set i ⟨g, Z'⟩).set j ⟨k, Y'⟩) w' → PL P ops Q rest (a.put d v) w') : PL P ops Q (o :: rest) a w :=
 pl_callq hw d hd f args hrun ((hc w M).mono fun _ w' ⟨he, h1, h2, h3⟩ => ⟨v, he, h w' (M.put2 i j ⟨g, Z⟩ ⟨k, Y⟩ hi hj Z' Y' h1 h2 h3)⟩)
end
def InfoIs (P : Program) (e : TypeId) (zv : Value) : Prop := ∃ i, P.info? e = some i ∧ i.zero = some zv ∧ i.size = 1 ∧ i.bytes ≤ 16
theorem infoIs {P : Program} {e : TypeId} {zv : Value} {b : Nat} (h1 : (P.info? e).map (·.zero) = some (some zv)) (h2 : (P.info? e).map (·.size) = some 1) (h3 : (P.info? e).map (·.bytes) = some b) (hb : b ≤ 16) : InfoIs P e zv := by
 cases h : P.info? e with
 | none => rw [h] at h2; cases h2
 | some i =>
  rw [h] at h1 h2 h3
  simp only [Option.map_some, Option.some.injEq] at h1 h2 h3
  exact ⟨i, h, h1, h2, by omega⟩
theorem info24 : InfoIs Tryz.prog 24 (.int .u64 0) := infoIs (b := 8) (by kernel_rfl) (by kernel_rfl) (by kernel_rfl) (by decide)
section
variable {P : Program} {ops : Array Oper} {rest : List Oper} {o : Oper} {a : Act} {w : World} {c : Ctx} {L : List Blk} {Q : Exit → Act → World → Prop}
end
def ud (x y : Int) : Int := IntKind.wrap .u64 (BitVec.ofInt 64 x &&& ~~~ BitVec.ofInt 64 y).toNat
theorem run_remU {P : Program} {a : Act} {o : Oper} (t rt : TypeId) (x y : Operand) (ho : o.op = .binOp .rem t x y rt) (m d : Nat) (hx : a.eval x = .int .u64 (m : Int)) (hy : a.eval y = .int .u64 (d : Int)) (hd : 0 < d) (w : World) :
  (execOp a.eval o).run P w = .ok (.value (.int .u64 ((m % d : Nat) : Int))) w := by
 have h0 : ¬ d = 0 := by omega
 have e : Int.tmod (m : Int) (d : Int) = (m : Int) % (d : Int) := rfl
 unfold execOp
 simp [ho, hx, hy, eqGuard, binOp, Op.intDiv, h0, e]
theorem run_quoU {P : Program} {a : Act} {o : Oper} (t rt : TypeId) (x y : Operand) (ho : o.op = .binOp .quo t x y rt) (m d : Nat) (hx : a.eval x = .int .u64 (m : Int)) (hy : a.eval y = .int .u64 (d : Int)) (hd : 0 < d) (hm : m < 18446744073709551616) (w : World) :
  (execOp a.eval o).run P w = .ok (.value (.int .u64 ((m / d : Nat) : Int))) w := by
 have h0 : ¬ d = 0 := by omega
 have h2 : m / d ≤ m := Nat.div_le_self m d
 have e2 : IntKind.wrap .u64 ((m : Int) / (d : Int)) = (m : Int) / (d : Int) := by
  have e3 : (m : Int) / (d : Int) = ((m / d : Nat) : Int) := rfl
  rw [e3]
  generalize m / d = q at *
  rw [IntKind.wrap_u64]
  omega
 unfold execOp
 simp only [ho, hx, hy]
 simp [eqGuard, binOp, Op.intDiv, h0]
 exact e2
def nW (s : Nat) : Nat := (s + 63) / 64
def clF (n : Nat) (m : NI) : Nat → Int := fun i => if i < n then 0 else m i
section
variable {ops : Array Oper} {rest : List Oper} {o : Oper} {a : Act} {w : World} {c : Ctx} {L : List Blk} {Q : Exit → Act → World → Prop}
theorem pl_makeW (M : Mem c L w) (hw : Region.wanted o (yielded ops a.tmps) = true) (d : Option Tmp) (hd : o.dst = d) (x y : Operand) (ho : o.op = .makeSlice 118 x y) (n : Nat) (hx : a.eval x = .int .i64 (n : Int)) (hy : a.eval y = .int .i64 (n : Int)) (hc : n < 1000000)
  (h : ∀ g w', Mem c (L ++ [⟨g, .cells (av n (w64 (fun _ => 0))) 24⟩]) w' → PL Tryz.prog ops Q rest (a.put d (.slice (some ⟨g, 0, none⟩) n n)) w') : PL Tryz.prog ops Q (o :: rest) a w := by
 obtain ⟨info, i1, i2, i3, i4⟩ := info24
 have hr := run_make (P := Tryz.prog) w 118 24 info (.int .u64 0) Tryz.underlying118 i1 i2 .i64 .i64 (n : Int) (n : Int) (by omega) (by omega) (by
  have := Int.mul_le_mul (show (info.bytes : Int) ≤ 16 by omega) (show (n : Int) ≤ 1000000 by omega) (by omega) (by omega)
  omega) (by omega)
 simp only [Int.toNat_natCast, i3, Nat.mul_one] at hr
 have e : madeCells (Value.int .u64 0).cells n = av n (w64 (fun _ => 0)) := by
  apply Array.ext_getElem?
  intro i
  by_cases hi : i < n
  ·rw [av_get n _ i hi]
   simp [madeCells, hi, w64, Value.cells, Nat.mod_one]
  ·rw [Array.getElem?_eq_none (by simp [madeCells]; omega), Array.getElem?_eq_none (by simp [av_size]; omega)]
 rw [e] at hr
 refine pl_to hw d hd (.slice (some ⟨w.heap.size, 0, none⟩) n n) _ ?_ (h w.heap.size (w.alloc (.cells (av n (w64 (fun _ => 0))) 24)) (M.new _ _ (new_below w _) (heap_alloc_new w _) (Nat.le_refl _)))
 unfold execOp
 simp only [ho, hx, hy, Sem.run_bind, Sem.run_pure]
 rw [hr]
 rfl
theorem pl_clearW (M : Mem c L w) (hw : Region.wanted o (yielded ops a.tmps) = true) (hd : o.dst = none) (i g N : Nat) (m : NI) (hi : L[i]? = some ⟨g, .cells (av N (w64 m)) 24⟩) (n cp : Nat) (hn : 0 < n) (hle : n ≤ N)
  (hrun : ∀ w, (execOp a.eval o).run Tryz.prog w = (do pure (Next.value (← Builtin.clear_ #[118] 0 #[.slice (some ⟨g, 0, none⟩) n cp]))).run Tryz.prog w)
  (h : ∀ w', Mem c (L.set i ⟨g, .cells (av N (w64 (clF n m))) 24⟩) w' → PL Tryz.prog ops Q rest (a.put none (.tuple #[])) w') : PL Tryz.prog ops Q (o :: rest) a w := by
 have R := M.get i hi
 have hr := Lib.run_clear_slice (P := Tryz.prog) w 118 24 0 (.int .u64 0) Tryz.underlying118 (fun _ => by kernel_rfl) rfl rfl g 0 n cp hn (fun j hj => by rw [Nat.zero_add, cell_av R (by omega)]; rfl) (fun j hj => free_av R _)
 have e : List.replicate n (Value.int .u64 0) = (av n (fun _ => .int .u64 0)).toList := by
  apply List.ext_getElem?
  intro i
  by_cases hi : i < n
  ·have e1 : (av n (fun _ => Value.int .u64 0)).toList[i]? = some (.int .u64 0) := by rw [Array.getElem?_toList, av_get n _ i hi]
   rw [e1]
   simp [hi]
  ·rw [List.getElem?_eq_none (by simp; omega), List.getElem?_eq_none (by simp [av_size]; omega)]
 rw [e] at hr
 refine pl_to hw none hd (.tuple #[]) _ ?_ (h _ (M.put i ⟨g, _⟩ hi _ (grown_setCells g _ _ _) (by rw [heap_setCells g 24 _ w _ 0 R, setAll_av N (w64 m) (fun _ => .int .u64 0) (w64 (clF n m)) 0 n (by omega) (fun j _ => by
  unfold w64 clF
  by_cases hj : j < n
  ·rw [if_pos (by omega), if_pos hj]
  ·rw [if_neg (by omega), if_neg hj])])))
 rw [hrun]
 simp only [Sem.run_bind, hr, Result.andThen_ok, Sem.run_pure]
end
theorem inz23 : (Tryz.prog.info? 23).map (·.size) = some 5 := by kernel_rfl
theorem inz26 : (Tryz.prog.info? 26).map (·.size) = some 5 := by kernel_rfl
theorem inz30 : (Tryz.prog.info? 30).map (·.size) = some 1 := by kernel_rfl
theorem inz32 : (Tryz.prog.info? 32).map (·.size) = some 1 := by kernel_rfl
theorem inz47 : (Tryz.prog.info? 47).map (·.size) = some 1 := by kernel_rfl
theorem inz51 : (Tryz.prog.info? 51).map (·.size) = some 14 := by kernel_rfl
theorem inz59 : (Tryz.prog.info? 59).map (·.size) = some 1 := by kernel_rfl
theorem inz62 : (Tryz.prog.info? 62).map (·.size) = some 1 := by kernel_rfl
theorem inz63 : (Tryz.prog.info? 63).map (·.size) = some 1 := by kernel_rfl
theorem inz69 : (Tryz.prog.info? 69).map (·.size) = some 4 := by kernel_rfl
theorem inz72 : (Tryz.prog.info? 72).map (·.size) = some 2 := by kernel_rfl
theorem inz91 : (Tryz.prog.info? 91).map (·.size) = some 1 := by kernel_rfl
theorem inz100 : (Tryz.prog.info? 100).map (·.size) = some 1 := by kernel_rfl
theorem inz113 : (Tryz.prog.info? 113).map (·.size) = some 2 := by kernel_rfl
open Go.RowKit
def bw (p : Nat) : Int := sl 1 (p % 64)
def hb (m : NI) (p : Nat) : Bool := decide (¬ un (m (p / 64)) (bw p) = 0)
def stM (m : NI) (p : Nat) : Nat → Int := upd m (p / 64) (uo (m (p / 64)) (bw p))
def wpM (m : NI) (p : Nat) : Nat → Int := upd m (p / 64) (ud (m (p / 64)) (bw p))
theorem c_bit (p : Nat) (w : World) (hL : Laid w)  : Cs 97 #[.int .u64 (p : Int)] w (.int .u64 (bw p)) := by
 go_enter Tryz.func97, Tryz.ntmps97
 have M := Mem.start hL
 refine sq <| sR <| rV 1 ?_
 refine pH 4 (.int .u64 ((p % 64 : Nat) : Int)) (run_remU 24 24 _ _ rfl p 64 (by kernel_rfl) (by kernel_rfl) (by decide)) ?_
 refine pH 5 (.int .u64 (sl 1 (p % 64))) (run_shlX 24 24 _ _ rfl 1 .u64 (p % 64) (by kernel_rfl) (by kernel_rfl)) ?_
 refine rV 1 <| nT <| wp_ret ?_
 have e0 : (bw p) = (sl 1 (p % 64)) := rfl
 exact bodyPost_ret (v := .int .u64 (sl 1 (p % 64))) (results_tmp1 Tryz.results97 _ _ _ (by kernel_rfl)) (by kernel_rfl) ⟨by rw [e0], below_grown M.old⟩
theorem c_has (k p n cap : Nat) (m : NI) (hp : p < 18446744073709551616) (hn : p / 64 < n) (hc : n ≤ cap) (w : World) (hL : Laid w)  (hT : There w [⟨k, .cells (av cap (w64 m)) 24⟩]) : Cs 82 #[.slice (some ⟨k, 0, none⟩) n cap, .int .u64 (p : Int)] w (.bool (hb m p)) := by
 go_enter Tryz.func82, Tryz.ntmps82
 have M : Mem ⟨w, [k]⟩ [⟨k, .cells (av cap (w64 m)) 24⟩] w := Mem.startT hL hT
 refine sq <| wp_seq ?_
 refine rg_tail M 9 (by kernel_rfl) (by kernel_rfl) ?_
 simp only [List.take_succ_cons, List.take_zero]
 refine kR 2 ?_
 refine kH 7 (.int .u64 ((p / 64 : Nat) : Int)) (run_quoU 24 24 _ _ rfl p 64 (by kernel_rfl) (by kernel_rfl) (by decide) (by omega)) ?_
 refine kH 8 (.pointer (some ⟨k, ((p / 64)), none⟩)) (run_ix0 118 24 Tryz.underlying118 inz24 _ _ rfl k n cap (by kernel_rfl) .u64 ((p / 64)) (by kernel_rfl) (by omega)) ?_
 refine eE M 9 0 ((p / 64)) ?_
 refine kR 1 ?_
 refine eC M 11 (fun w M => c_bit p w M.laid) ?_
 refine kR 1 ?_
 by_cases c0 : (un (m ((p / 64))) (bw p)) = 0
 ·refine kH 13 (.bool false) (jD ((un (m ((p / 64))) (bw p)) = 0) (c0)) ?_
  refine kl_nil fun u1 M => ?_
  replace M : Mem ⟨w, [k]⟩ [⟨k, .cells (av cap (w64 m)) 24⟩] u1 := M
  refine rV 1 <| nT <| wp_ret ?_
  have e0 : hb m p = false := by first | (simp only [hb, if_pos c0]; done) | simp [hb, c0]
  exact bodyPost_ret (v := .bool false) (results_tmp1 Tryz.results82 _ _ _ (by kernel_rfl)) (by kernel_rfl) ⟨by rw [e0], ro_T hT M⟩
 ·refine kH 13 (.bool true) (jU ((un (m ((p / 64))) (bw p)) = 0) (c0)) ?_
  refine kl_nil fun u1 M => ?_
  replace M : Mem ⟨w, [k]⟩ [⟨k, .cells (av cap (w64 m)) 24⟩] u1 := M
  refine rV 1 <| nT <| wp_ret ?_
  have e0 : hb m p = true := by first | (simp only [hb, if_neg c0]; done) | simp [hb, c0]
  exact bodyPost_ret (v := .bool true) (results_tmp1 Tryz.results82 _ _ _ (by kernel_rfl)) (by kernel_rfl) ⟨by rw [e0], ro_T hT M⟩
theorem c_set (k p n cap : Nat) (m : NI) (hp : p < 18446744073709551616) (hn : p / 64 < n) (hc : n ≤ cap) (w : World) (hL : Laid w)  (hT : There w [⟨k, .cells (av cap (w64 m)) 24⟩]) : Calls Tryz.prog 86 #[.slice (some ⟨k, 0, none⟩) n cap, .int .u64 (p : Int)] w fun r w' => r = .returned (.tuple #[]) ∧ Grw w w' [k] ∧ w'.heap[k]? = some (.cells (av cap (w64 (stM m p))) 24) := by
 go_enter Tryz.func86, Tryz.ntmps86
 have M : Mem ⟨w, [k]⟩ [⟨k, .cells (av cap (w64 m)) 24⟩] w := Mem.startT hL hT
 refine rg_tail M 9 (by kernel_rfl) (by kernel_rfl) ?_
 simp only [List.take_succ_cons, List.take_zero]
 refine kR 2 ?_
 refine kH 6 (.int .u64 ((p / 64 : Nat) : Int)) (run_quoU 24 24 _ _ rfl p 64 (by kernel_rfl) (by kernel_rfl) (by decide) (by omega)) ?_
 refine kH 7 (.pointer (some ⟨k, ((p / 64)), none⟩)) (run_ix0 118 24 Tryz.underlying118 inz24 _ _ rfl k n cap (by kernel_rfl) .u64 ((p / 64)) (by kernel_rfl) (by omega)) ?_
 refine eE M 8 0 ((p / 64)) ?_
 refine kR 1 ?_
 refine eC M 10 (fun w M => c_bit p w M.laid) ?_
 refine kR 1 ?_
 refine kH 12 (.pointer (some ⟨k, ((p / 64)), none⟩)) (run_ix0 118 24 Tryz.underlying118 inz24 _ _ rfl k n cap (by kernel_rfl) .u64 ((p / 64)) (by kernel_rfl) (by omega)) ?_
 refine kl_nil fun u1 M => ?_
 replace M : Mem ⟨w, [k]⟩ [⟨k, .cells (av cap (w64 m)) 24⟩] u1 := M
 refine ZP64 M 0 ((p / 64)) (uo (m ((p / 64))) (bw p)) fun u2 M => ?_
 replace M : Mem ⟨w, [k]⟩ [⟨k, .cells (av cap (w64 (upd m ((p / 64)) (uo (m ((p / 64))) (bw p))))) 24⟩] u2 := M
 refine pl_nil ?_
 exact bodyPost_end (v := .tuple #[]) (results_none Tryz.results86 _ _) (by kernel_rfl) ⟨rfl, M.old, M.get 0 rfl⟩
theorem c_wipe (k p n cap : Nat) (m : NI) (hp : p < 18446744073709551616) (hn : p / 64 < n) (hc : n ≤ cap) (w : World) (hL : Laid w)  (hT : There w [⟨k, .cells (av cap (w64 m)) 24⟩]) : Calls Tryz.prog 98 #[.slice (some ⟨k, 0, none⟩) n cap, .int .u64 (p : Int)] w fun r w' => r = .returned (.tuple #[]) ∧ Grw w w' [k] ∧ w'.heap[k]? = some (.cells (av cap (w64 (wpM m p))) 24) := by
 go_enter Tryz.func98, Tryz.ntmps98
 have M : Mem ⟨w, [k]⟩ [⟨k, .cells (av cap (w64 m)) 24⟩] w := Mem.startT hL hT
 refine rg_tail M 9 (by kernel_rfl) (by kernel_rfl) ?_
 simp only [List.take_succ_cons, List.take_zero]
 refine kR 2 ?_
 refine kH 6 (.int .u64 ((p / 64 : Nat) : Int)) (run_quoU 24 24 _ _ rfl p 64 (by kernel_rfl) (by kernel_rfl) (by decide) (by omega)) ?_
 refine kH 7 (.pointer (some ⟨k, ((p / 64)), none⟩)) (run_ix0 118 24 Tryz.underlying118 inz24 _ _ rfl k n cap (by kernel_rfl) .u64 ((p / 64)) (by kernel_rfl) (by omega)) ?_
 refine eE M 8 0 ((p / 64)) ?_
 refine kR 1 ?_
 refine eC M 10 (fun w M => c_bit p w M.laid) ?_
 refine kR 1 ?_
 refine kH 12 (.pointer (some ⟨k, ((p / 64)), none⟩)) (run_ix0 118 24 Tryz.underlying118 inz24 _ _ rfl k n cap (by kernel_rfl) .u64 ((p / 64)) (by kernel_rfl) (by omega)) ?_
 refine kl_nil fun u1 M => ?_
 replace M : Mem ⟨w, [k]⟩ [⟨k, .cells (av cap (w64 m)) 24⟩] u1 := M
 refine ZP64 M 0 ((p / 64)) (ud (m ((p / 64))) (bw p)) fun u2 M => ?_
 replace M : Mem ⟨w, [k]⟩ [⟨k, .cells (av cap (w64 (upd m ((p / 64)) (ud (m ((p / 64))) (bw p))))) 24⟩] u2 := M
 refine pl_nil ?_
 exact bodyPost_end (v := .tuple #[]) (results_none Tryz.results98 _ _) (by kernel_rfl) ⟨rfl, M.old, M.get 0 rfl⟩
theorem c_place (g k s h cap n : Nat) (hs : 1 ≤ s) (w : World) (hL : Laid w)  (hT : There w [⟨g, .cells (av 3 (ls [.int .u64 (s : Int), .int .u64 (h : Int), .slice (some ⟨k, 0, none⟩) (nW s) cap])) 121⟩]) : Cs 83 #[.pointer (some ⟨g, 0, none⟩), .int .u64 (n : Int)] w (.int .u64 ((n % s : Nat) : Int)) := by
 go_enter Tryz.func83, Tryz.ntmps83
 have M : Mem ⟨w, [g]⟩ [⟨g, .cells (av 3 (ls [.int .u64 (s : Int), .int .u64 (h : Int), .slice (some ⟨k, 0, none⟩) (nW s) cap])) 121⟩] w := Mem.startT hL hT
 refine sq <| sR <| rV 4 <| ZE M 9 0 0 ?_
 refine pH 10 (.int .u64 ((n % s : Nat) : Int)) (run_remU 24 24 _ _ rfl n s (by kernel_rfl) (by kernel_rfl) (by omega)) ?_
 refine rV 1 <| nT <| wp_ret ?_
 exact bodyPost_ret (v := .int .u64 ((n % s : Nat) : Int)) (results_tmp1 Tryz.results83 _ _ _ (by kernel_rfl)) (by kernel_rfl) ⟨rfl, ro_T hT M⟩
theorem c_made (g k s h cap : Nat) (hs : 1 ≤ s) (w : World) (hL : Laid w)  (hT : There w [⟨g, .cells (av 3 (ls [.int .u64 (s : Int), .int .u64 (h : Int), .slice (some ⟨k, 0, none⟩) (nW s) cap])) 121⟩]) : Cs 81 #[.pointer (some ⟨g, 0, none⟩)] w (.bool true) := by
 go_enter Tryz.func81, Tryz.ntmps81
 have M : Mem ⟨w, [g]⟩ [⟨g, .cells (av 3 (ls [.int .u64 (s : Int), .int .u64 (h : Int), .slice (some ⟨k, 0, none⟩) (nW s) cap])) 121⟩] w := Mem.startT hL hT
 refine sq <| sR <| rV 6 ?_
 refine pl_cell M (want_on 2 true rfl 5 rfl (by kernel_rfl)) (some 9) rfl 24 _ rfl g 0 (by kernel_rfl) (.int .u64 (s : Int)) (fun _ => by kernel_rfl) (fun w M => M.cell 0 rfl (by decide) rfl) ?_
 by_cases c0 : 0 < (s : Int)
 ·refine pl_val (want_on 2 true rfl 5 rfl (by kernel_rfl)) (some 10) rfl (.bool true) (fun w => Eq.trans (b := .ok (.value (.bool (decide (0 < (s : Int))))) w) (by kernel_rfl) (by rw [decide_eq_true (c0)])) ?_
  refine rV 2 <| nT <| wp_ret ?_
  exact bodyPost_ret (v := .bool true) (results_tmp1 Tryz.results81 _ _ _ (by kernel_rfl)) (by kernel_rfl) ⟨rfl, ro_T hT M⟩
 ·exfalso; omega
theorem quo_nW (s : Nat) (hs : s ≤ 4096) : IntKind.wrap .i64 (Int.tdiv ((s : Int) + 64 - 1) 64) = ((nW s : Nat) : Int) := by
 have e : ((s : Int) + 64 - 1) = ((s + 63 : Nat) : Int) := by omega
 rw [e]
 have e2 : Int.tdiv ((s + 63 : Nat) : Int) 64 = (((s + 63) / 64 : Nat) : Int) := rfl
 rw [e2, wrap64 (by omega) (by omega)]
 rfl
theorem c_room (s : Nat) (hs4 : s ≤ 4096) (w : World) (hL : Laid w) : Calls Tryz.prog 48 #[.int .i64 (s : Int)] w fun r w' => ∃ k, r = .returned (.slice (some ⟨k, 0, none⟩) (nW s) (nW s)) ∧ w.heap.size ≤ k ∧ w'.heap[k]? = some (.cells (av (nW s) (w64 (fun _ => 0))) 24) ∧ Below w.heap.size w w' := by
 go_enter Tryz.func48, Tryz.ntmps48
 have M := Mem.start hL
 refine sq <| sR <| rV 1 ?_
 refine pH 4 (.int .i64 ((s : Int) + 64)) (fun w => Eq.trans (b := .ok (.value (.int .i64 (IntKind.wrap .i64 ((s : Int) + 64)))) w) (by kernel_rfl) (by rw [wrap64 (by omega) (by omega)])) ?_
 refine pH 5 (.int .i64 (((s : Int) + 64) - 1)) (fun w => Eq.trans (b := .ok (.value (.int .i64 (IntKind.wrap .i64 (((s : Int) + 64) - 1)))) w) (by kernel_rfl) (by rw [wrap64 (by omega) (by omega)])) ?_
 refine ZQ 6 .i64 (IntKind.wrap .i64 (Int.tdiv (((s : Int) + 64) - 1) 64)) (quo_nW s hs4) ?_
 refine pl_makeW M (want_no rfl) (some 7) rfl _ _ rfl ((nW s)) (by kernel_rfl) (by kernel_rfl) (by unfold nW; omega) fun g1 u1 M => ?_
 replace M : Mem ⟨w, []⟩ [⟨g1, .cells (av (nW s) (w64 (fun _ => 0))) 24⟩] u1 := M
 refine rV 1 <| nT <| wp_ret ?_
 exact bodyPost_ret (v := .slice (some ⟨g1, 0, none⟩) (nW s) (nW s)) (results_tmp1 Tryz.results48 _ _ _ (by kernel_rfl)) (by kernel_rfl) ⟨_, rfl, ((M.ge _ (List.mem_singleton.2 rfl)).resolve_right (by simp)), M.get 0 rfl, below_grown M.old⟩
open Go.RowKit
theorem wrapU_add (a b : Nat) (h : a + b < 18446744073709551616) : IntKind.wrap .u64 ((a : Int) + (b : Int)) = ((a + b : Nat) : Int) := by
 rw [IntKind.wrap_u64]
 omega
theorem wrapU_sub (a b : Nat) (h : b ≤ a) (ha : a < 18446744073709551616) : IntKind.wrap .u64 ((a : Int) - (b : Int)) = ((a - b : Nat) : Int) := by
 rw [IntKind.wrap_u64]
 omega
def wps (s h : Nat) (m : NI) : Nat → (Nat → Int)
 | 0 => m
 | j + 1 => wpM (wps s h m j) ((h + 1 + j) % s)
def lvM (s h : Nat) (m : NI) (y : Nat) : Nat → Int := if s ≤ y then clF (nW s) m else wps s h m y
def myF (s h : Nat) (m : NI) (n : Nat) : Int := if h < n then 0 else if s ≤ h - n then 170 else if hb m (n % s) = true then 9 else 0
def mkH (s h : Nat) (m : NI) (n : Nat) : Nat := if myF s h m n = 0 then if h < n then n else h else h
def mkM (s h : Nat) (m : NI) (n : Nat) : Nat → Int := if myF s h m n = 0 then stM (if h < n then lvM s h m (n - h) else m) (n % s) else m
theorem c_leave (g k s h cap : Nat) (m : NI) (y : Nat) (hs : 1 ≤ s) (hc : nW s ≤ cap) (hy : h + y < 18446744073709551616) (w : World) (hL : Laid w)  (hT : There w [⟨g, .cells (av 3 (ls [.int .u64 (s : Int), .int .u64 (h : Int), .slice (some ⟨k, 0, none⟩) (nW s) cap])) 121⟩, ⟨k, .cells (av cap (w64 m)) 24⟩]) : Calls Tryz.prog 85 #[.pointer (some ⟨g, 0, none⟩), .int .u64 (y : Int)] w fun r w' => r = .returned (.tuple #[]) ∧ Grw w w' [g, k] ∧ w'.heap[g]? = some (.cells (av 3 (ls [.int .u64 (s : Int), .int .u64 (h : Int), .slice (some ⟨k, 0, none⟩) (nW s) cap])) 121) ∧ w'.heap[k]? = some (.cells (av cap (w64 (lvM s h m y))) 24) := by
 go_enter Tryz.func85, Tryz.ntmps85
 have M : Mem ⟨w, [g, k]⟩ [⟨g, .cells (av 3 (ls [.int .u64 (s : Int), .int .u64 (h : Int), .slice (some ⟨k, 0, none⟩) (nW s) cap])) 121⟩, ⟨k, .cells (av cap (w64 m)) 24⟩] w := Mem.startT hL hT
 refine wp_seq <| sR <| rV 4 <| ZE M 9 0 0 ?_
 by_cases c0 : (y : Int) < (s : Int)
 ·refine ZF 10 ((s : Int) ≤ (y : Int)) <| nT <| cF <| wp_skip <| au_then <| sq <| wp_block ?_
  refine au_loop (fun j a w' => ∃ v1 : NV, a = (fm ([.pointer (some ⟨g, 0, none⟩), .int .u64 (y : Int), undef, undef, v1 4, .int .u64 (y : Int), .pointer (some ⟨g, 0, none⟩), .pointer (some ⟨g, 0, none⟩), .pointer (some ⟨g, 0, none⟩), .int .u64 (s : Int), .bool false] ++ und 4 ++ [.int .u64 (y : Int), .int .u64 (j : Int)] ++ vr v1 17 17)) ∧ Mem ⟨w, [g, k]⟩ [⟨g, .cells (av 3 (ls [.int .u64 (s : Int), .int .u64 (h : Int), .slice (some ⟨k, 0, none⟩) (nW s) cap])) 121⟩, ⟨k, .cells (av cap (w64 (wps s h m j))) 24⟩] w') y (exS M) ?_ ?_
  ·intro j a u0 hj hI
   obtain ⟨v1, rfl, M⟩ := hI
   refine sR <| ZT 17 ((j : Int) < (y : Int)) <| nT <| wp_seq <| cT <| wp_skip <| au_then <| wp_seq <| wp_block <| sq <| rg_tail M 13 (by kernel_rfl) (by kernel_rfl) ?_
   simp only [List.take_succ_cons, List.take_zero]
   refine kR 3 <| eE M 22 0 2 <| kR 4 <| eE M 27 0 1 <| kH 28 (.int .u64 ((h + 1 : Nat) : Int)) (fun w => Eq.trans (b := .ok (.value (.int .u64 (IntKind.wrap .u64 (((h : Nat) : Int) + ((1 : Nat) : Int))))) w) (by kernel_rfl) (by rw [wrapU_add h 1 (by omega)])) <| kR 1 <| kH 30 (.int .u64 ((h + 1 + j : Nat) : Int)) (fun w => Eq.trans (b := .ok (.value (.int .u64 (IntKind.wrap .u64 ((((h + 1) : Nat) : Int) + ((j : Nat) : Int))))) w) (by kernel_rfl) (by rw [wrapU_add (h + 1) j (by omega)])) <| kC M 31 83 #[.pointer (some ⟨g, 0, none⟩), .int .u64 ((h + 1 + j : Nat) : Int)] (.int .u64 (((h + 1 + j) % s : Nat) : Int)) (fun w M => c_place g k s h cap (h + 1 + j) hs w M.laid (M.there (.cons_cons _ (List.nil_sublist _)))) <| kl_nil fun u1 M => ?_
   replace M : Mem ⟨w, [g, k]⟩ [⟨g, .cells (av 3 (ls [.int .u64 (s : Int), .int .u64 (h : Int), .slice (some ⟨k, 0, none⟩) (nW s) cap])) 121⟩, ⟨k, .cells (av cap (w64 (wps s h m j))) 24⟩] u1 := M
   refine pl_callp M (want_no rfl) (some 32) rfl 98 #[.slice (some ⟨k, 0, none⟩) (nW s) cap, .int .u64 (((h + 1 + j) % s : Nat) : Int)] (.tuple #[]) 1 k (.cells (av cap (w64 (wps s h m j))) 24) (.cells (av cap (w64 (wpM (wps s h m j) ((h + 1 + j) % s)))) 24) rfl (fun _ => by kernel_rfl) (fun w M => c_wipe k ((h + 1 + j) % s) (nW s) cap (wps s h m j) (Nat.lt_of_le_of_lt (Nat.mod_le (h + 1 + j) s) (by omega)) (by have := Nat.mod_lt (h + 1 + j) (show 0 < s by omega); unfold nW; omega) hc w M.laid (M.there (.cons _ (.cons_cons _ (List.nil_sublist _))))) fun u2 M => ?_
   replace M : Mem ⟨w, [g, k]⟩ [⟨g, .cells (av 3 (ls [.int .u64 (s : Int), .int .u64 (h : Int), .slice (some ⟨k, 0, none⟩) (nW s) cap])) 121⟩, ⟨k, .cells (av cap (w64 (wpM (wps s h m j) ((h + 1 + j) % s)))) 24⟩] u2 := M
   refine pl_nil <| au_block <| au_then <| rg_lit <| pH 33 (.int .u64 ((j + 1 : Nat) : Int)) (fun w => Eq.trans (b := .ok (.value (.int .u64 (IntKind.wrap .u64 (((j : Nat) : Int) + ((1 : Nat) : Int))))) w) (by kernel_rfl) (by rw [wrapU_add j 1 (by omega)])) <| rV 1 <| nT ?_
   exact exS M
  ·intro a u0 hI
   obtain ⟨v1, rfl, M⟩ := hI
   refine sR <| ZF 17 ((y : Int) < (y : Int)) <| nT <| wp_seq <| cF <| wp_exit <| au_then_exit <| au_then_exit <| au_block_exit ?_
   have e0 : lvM s h m y = (wps s h m y) := by unfold lvM; rw [if_neg (by omega)]
   exact bodyPost_end (v := .tuple #[]) (results_none Tryz.results85 _ _) (by kernel_rfl) ⟨rfl, M.old, M.get 0 rfl, by rw [e0]; exact M.get 1 rfl⟩
 ·refine ZT 10 ((s : Int) ≤ (y : Int)) <| nT <| cT <| sR <| rV 3 <| ZE M 14 0 2 <| pl_clearW M (want_no rfl) rfl 1 k cap m rfl (nW s) cap (by unfold nW; omega) hc (fun _ => by kernel_rfl) fun u1 M => ?_
  replace M : Mem ⟨w, [g, k]⟩ [⟨g, .cells (av 3 (ls [.int .u64 (s : Int), .int .u64 (h : Int), .slice (some ⟨k, 0, none⟩) (nW s) cap])) 121⟩, ⟨k, .cells (av cap (w64 (clF (nW s) m))) 24⟩] u1 := M
  refine nT <| wp_ret <| au_then_ret ?_
  have e0 : lvM s h m y = (clF (nW s) m) := by unfold lvM; rw [if_pos (by omega)]
  exact bodyPost_ret (v := .tuple #[]) (results_none Tryz.results85 _ _) (by kernel_rfl) ⟨rfl, M.old, M.get 0 rfl, by rw [e0]; exact M.get 1 rfl⟩
theorem c_May (g k s h cap : Nat) (m : NI) (n : Nat) (hs : 1 ≤ s) (hc : nW s ≤ cap) (hh : h < 18446744073709551616) (hn : n < 18446744073709551616) (w : World) (hL : Laid w)  (hT : There w [⟨g, .cells (av 3 (ls [.int .u64 (s : Int), .int .u64 (h : Int), .slice (some ⟨k, 0, none⟩) (nW s) cap])) 121⟩, ⟨k, .cells (av cap (w64 m)) 24⟩]) : Cs 66 #[.pointer (some ⟨g, 0, none⟩), .int .u64 (n : Int)] w (.int .i64 (myF s h m n)) := by
 go_enter Tryz.func66, Tryz.ntmps66
 have M : Mem ⟨w, [g, k]⟩ [⟨g, .cells (av 3 (ls [.int .u64 (s : Int), .int .u64 (h : Int), .slice (some ⟨k, 0, none⟩) (nW s) cap])) 121⟩, ⟨k, .cells (av cap (w64 m)) 24⟩] w := Mem.startT hL hT
 refine sq <| wp_seq <| wp_block <| sR <| rV 1 <| pC M 7 81 #[.pointer (some ⟨g, 0, none⟩)] (.bool true) (fun w M => c_made g k s h cap hs w M.laid (M.there (.cons_cons _ (List.nil_sublist _)))) fun u1 M => rV 2 <| nT <| cF <| sR <| rV 4 <| ZE M 14 0 1 ?_
 by_cases c0 : (h : Int) < (n : Int)
 ·refine pH 15 (.bool true) (jT ((h : Int) < (n : Int)) (c0)) <| rV 1 <| nT <| cT <| sq <| wp_ret <| au_block_ret <| au_then_ret ?_
  have e0 : (myF s h m n) = 0 := by unfold myF; rw [if_pos (by omega)]
  exact bodyPost_ret (v := .int .i64 0) (results_tmp1 Tryz.results66 _ _ _ (by kernel_rfl)) (by kernel_rfl) ⟨by rw [e0], ro_T hT M⟩
 ·refine pH 15 (.bool false) (jF ((h : Int) < (n : Int)) (c0)) <| rV 1 <| nT <| cF <| wp_seq <| rg_tail M 11 (by kernel_rfl) (by kernel_rfl) ?_
  simp only [List.take_succ_cons, List.take_zero]
  refine kR 3 <| eE M 20 0 1 <| kR 1 <| kH 22 (.int .u64 ((h - n : Nat) : Int)) (fun w => Eq.trans (b := .ok (.value (.int .u64 (IntKind.wrap .u64 (((h : Nat) : Int) - ((n : Nat) : Int))))) w) (by kernel_rfl) (by rw [wrapU_sub h n (by omega) (by omega)])) <| kR 3 <| eE M 26 0 0 ?_
  by_cases c1 : ((h - n : Nat) : Int) < (s : Int)
  ·refine eF 27 ((s : Int) ≤ ((h - n : Nat) : Int)) <| kl_nil fun u2 M => ?_
   replace M : Mem ⟨w, [g, k]⟩ [⟨g, .cells (av 3 (ls [.int .u64 (s : Int), .int .u64 (h : Int), .slice (some ⟨k, 0, none⟩) (nW s) cap])) 121⟩, ⟨k, .cells (av cap (w64 m)) 24⟩] u2 := M
   refine rV 1 <| nT <| cF <| wp_seq <| rg_tail M 8 (by kernel_rfl) (by kernel_rfl) ?_
   simp only [List.take_succ_cons, List.take_zero]
   refine kR 3 <| eE M 32 0 2 <| kR 2 <| kC M 35 83 #[.pointer (some ⟨g, 0, none⟩), .int .u64 (n : Int)] (.int .u64 ((n % s : Nat) : Int)) (fun w M => c_place g k s h cap n hs w M.laid (M.there (.cons_cons _ (List.nil_sublist _)))) ?_
   rcases Bool.eq_false_or_eq_true (hb m (n % s)) with c2 | c2
   ·refine kC M 36 82 #[.slice (some ⟨k, 0, none⟩) (nW s) cap, .int .u64 ((n % s : Nat) : Int)] (.bool true) (fun w M => call_val (c_has k (n % s) (nW s) cap m (Nat.lt_of_le_of_lt (Nat.mod_le n s) (by omega)) (by have := Nat.mod_lt n (show 0 < s by omega); unfold nW; omega) hc w M.laid (M.there (.cons _ (.cons_cons _ (List.nil_sublist _))))) (congrArg Value.bool c2)) ?_
    refine kl_nil fun u3 M => ?_
    replace M : Mem ⟨w, [g, k]⟩ [⟨g, .cells (av 3 (ls [.int .u64 (s : Int), .int .u64 (h : Int), .slice (some ⟨k, 0, none⟩) (nW s) cap])) 121⟩, ⟨k, .cells (av cap (w64 m)) 24⟩] u3 := M
    refine rV 1 <| nT <| cT <| sq <| wp_ret <| au_block_ret <| au_then_ret ?_
    have e0 : (myF s h m n) = 9 := by unfold myF; rw [if_neg (by omega), if_neg (by omega), if_pos c2]
    exact bodyPost_ret (v := .int .i64 9) (results_tmp1 Tryz.results66 _ _ _ (by kernel_rfl)) (by kernel_rfl) ⟨by rw [e0], ro_T hT M⟩
   ·refine kC M 36 82 #[.slice (some ⟨k, 0, none⟩) (nW s) cap, .int .u64 ((n % s : Nat) : Int)] (.bool false) (fun w M => call_val (c_has k (n % s) (nW s) cap m (Nat.lt_of_le_of_lt (Nat.mod_le n s) (by omega)) (by have := Nat.mod_lt n (show 0 < s by omega); unfold nW; omega) hc w M.laid (M.there (.cons _ (.cons_cons _ (List.nil_sublist _))))) (congrArg Value.bool c2)) ?_
    refine kl_nil fun u3 M => ?_
    replace M : Mem ⟨w, [g, k]⟩ [⟨g, .cells (av 3 (ls [.int .u64 (s : Int), .int .u64 (h : Int), .slice (some ⟨k, 0, none⟩) (nW s) cap])) 121⟩, ⟨k, .cells (av cap (w64 m)) 24⟩] u3 := M
    refine rV 1 <| nT <| cF <| wp_skip <| au_block <| au_then <| sq <| wp_ret ?_
    have e0 : (myF s h m n) = 0 := by unfold myF; rw [if_neg (by omega), if_neg (by omega), if_neg (Bool.eq_false_iff.1 c2)]
    exact bodyPost_ret (v := .int .i64 0) (results_tmp1 Tryz.results66 _ _ _ (by kernel_rfl)) (by kernel_rfl) ⟨by rw [e0], ro_T hT M⟩
  ·refine eT 27 ((s : Int) ≤ ((h - n : Nat) : Int)) <| kl_nil fun u2 M => ?_
   replace M : Mem ⟨w, [g, k]⟩ [⟨g, .cells (av 3 (ls [.int .u64 (s : Int), .int .u64 (h : Int), .slice (some ⟨k, 0, none⟩) (nW s) cap])) 121⟩, ⟨k, .cells (av cap (w64 m)) 24⟩] u2 := M
   refine rV 1 <| nT <| cT <| sq <| wp_ret <| au_block_ret <| au_then_ret ?_
   have e0 : (myF s h m n) = 170 := by unfold myF; rw [if_neg (by omega), if_pos (by omega)]
   exact bodyPost_ret (v := .int .i64 170) (results_tmp1 Tryz.results66 _ _ _ (by kernel_rfl)) (by kernel_rfl) ⟨by rw [e0], ro_T hT M⟩
theorem c_Mark (g k s h cap : Nat) (m : NI) (n : Nat) (hs : 1 ≤ s) (hc : nW s ≤ cap) (hh : h < 18446744073709551616) (hn : n < 18446744073709551616) (w : World) (hL : Laid w)  (hT : There w [⟨g, .cells (av 3 (ls [.int .u64 (s : Int), .int .u64 (h : Int), .slice (some ⟨k, 0, none⟩) (nW s) cap])) 121⟩, ⟨k, .cells (av cap (w64 m)) 24⟩]) : Calls Tryz.prog 68 #[.pointer (some ⟨g, 0, none⟩), .int .u64 (n : Int)] w fun r w' => r = .returned (.int .i64 (myF s h m n)) ∧ Grw w w' [g, k] ∧ w'.heap[g]? = some (.cells (av 3 (ls [.int .u64 (s : Int), .int .u64 ((mkH s h m n : Nat) : Int), .slice (some ⟨k, 0, none⟩) (nW s) cap])) 121) ∧ w'.heap[k]? = some (.cells (av cap (w64 (mkM s h m n))) 24) := by
 go_enter Tryz.func68, Tryz.ntmps68
 have M : Mem ⟨w, [g, k]⟩ [⟨g, .cells (av 3 (ls [.int .u64 (s : Int), .int .u64 (h : Int), .slice (some ⟨k, 0, none⟩) (nW s) cap])) 121⟩, ⟨k, .cells (av cap (w64 m)) 24⟩] w := Mem.startT hL hT
 refine sq <| wp_seq <| sR <| rV 2 <| pC M 8 66 #[.pointer (some ⟨g, 0, none⟩), .int .u64 (n : Int)] (.int .i64 (myF s h m n)) (fun w M => c_May g k s h cap m n hs hc hh hn w M.laid (M.there (.cons_cons _ (.cons_cons _ (List.nil_sublist _))))) fun u1 M => rV 1 <| nT <| sR <| rV 1 ?_
 by_cases c0 : (myF s h m n) = 0
 ·refine pH 10 (.bool false) (jD ((myF s h m n) = 0) (c0)) <| nT <| cF <| wp_skip <| au_then <| wp_seq <| sR <| rV 4 <| ZE M 16 0 1 ?_
  by_cases c1 : (h : Int) < (n : Int)
  ·refine pH 17 (.bool true) (jT ((h : Int) < (n : Int)) (c1)) <| nT <| cT <| sR <| rV 5 <| ZE M 23 0 1 <| pH 24 (.int .u64 ((n - h : Nat) : Int)) (fun w => Eq.trans (b := .ok (.value (.int .u64 (IntKind.wrap .u64 (((n : Nat) : Int) - ((h : Nat) : Int))))) w) (by kernel_rfl) (by rw [wrapU_sub n h (by omega) (by omega)])) <| pl_call2 M (want_no rfl) (some 25) rfl 85 #[.pointer (some ⟨g, 0, none⟩), .int .u64 ((n - h : Nat) : Int)] (.tuple #[]) 0 1 g k (.cells (av 3 (ls [.int .u64 (s : Int), .int .u64 (h : Int), .slice (some ⟨k, 0, none⟩) (nW s) cap])) 121) (.cells (av cap (w64 m)) 24) (.cells (av 3 (ls [.int .u64 (s : Int), .int .u64 (h : Int), .slice (some ⟨k, 0, none⟩) (nW s) cap])) 121) (.cells (av cap (w64 (lvM s h m (n - h)))) 24) rfl rfl (fun _ => by kernel_rfl) (fun w M => c_leave g k s h cap m (n - h) hs hc (by omega) w M.laid (M.there (.cons_cons _ (.cons_cons _ (List.nil_sublist _))))) fun u2 M => ?_
   replace M : Mem ⟨w, [g, k]⟩ [⟨g, .cells (av 3 (ls [.int .u64 (s : Int), .int .u64 (h : Int), .slice (some ⟨k, 0, none⟩) (nW s) cap])) 121⟩, ⟨k, .cells (av cap (w64 (lvM s h m (n - h)))) 24⟩] u2 := M
   refine nT <| rg_lit <| rV 4 <| pP M 0 rfl 1 (.int .u64 (n : Int)) (ls [.int .u64 (s : Int), .int .u64 (n : Int), .slice (some ⟨k, 0, none⟩) (nW s) cap]) (by decide) (put_ls _ 1 _ _ rfl) fun u3 M => ?_
   replace M : Mem ⟨w, [g, k]⟩ [⟨g, .cells (av 3 (ls [.int .u64 (s : Int), .int .u64 (n : Int), .slice (some ⟨k, 0, none⟩) (nW s) cap])) 121⟩, ⟨k, .cells (av cap (w64 (lvM s h m (n - h)))) 24⟩] u3 := M
   refine nT <| wp_seq <| rg_tail M 7 (by kernel_rfl) (by kernel_rfl) ?_
   simp only [List.take_succ_cons, List.take_zero]
   refine kR 3 <| eE M 33 0 2 <| kR 2 <| kC M 36 83 #[.pointer (some ⟨g, 0, none⟩), .int .u64 (n : Int)] (.int .u64 ((n % s : Nat) : Int)) (fun w M => c_place g k s n cap n hs w M.laid (M.there (.cons_cons _ (List.nil_sublist _)))) <| kl_nil fun u4 M => ?_
   replace M : Mem ⟨w, [g, k]⟩ [⟨g, .cells (av 3 (ls [.int .u64 (s : Int), .int .u64 (n : Int), .slice (some ⟨k, 0, none⟩) (nW s) cap])) 121⟩, ⟨k, .cells (av cap (w64 (lvM s h m (n - h)))) 24⟩] u4 := M
   refine pl_callp M (want_no rfl) (some 37) rfl 86 #[.slice (some ⟨k, 0, none⟩) (nW s) cap, .int .u64 ((n % s : Nat) : Int)] (.tuple #[]) 1 k (.cells (av cap (w64 (lvM s h m (n - h)))) 24) (.cells (av cap (w64 (stM (lvM s h m (n - h)) (n % s)))) 24) rfl (fun _ => by kernel_rfl) (fun w M => c_set k (n % s) (nW s) cap (lvM s h m (n - h)) (Nat.lt_of_le_of_lt (Nat.mod_le n s) (by omega)) (by have := Nat.mod_lt n (show 0 < s by omega); unfold nW; omega) hc w M.laid (M.there (.cons _ (.cons_cons _ (List.nil_sublist _))))) fun u5 M => ?_
   replace M : Mem ⟨w, [g, k]⟩ [⟨g, .cells (av 3 (ls [.int .u64 (s : Int), .int .u64 (n : Int), .slice (some ⟨k, 0, none⟩) (nW s) cap])) 121⟩, ⟨k, .cells (av cap (w64 (stM (lvM s h m (n - h)) (n % s)))) 24⟩] u5 := M
   refine nT <| sq <| wp_ret ?_
   have e0 : mkH s h m n = n := by unfold mkH; rw [if_pos c0, if_pos (by omega)]
   have e1 : mkM s h m n = (stM (lvM s h m (n - h)) (n % s)) := by unfold mkM; rw [if_pos c0, if_pos (by omega)]
   exact bodyPost_ret (v := .int .i64 0) (results_tmp1 Tryz.results68 _ _ _ (by kernel_rfl)) (by kernel_rfl) ⟨by rw [c0], M.old, by rw [e0]; exact M.get 0 rfl, by rw [e1]; exact M.get 1 rfl⟩
  ·refine pH 17 (.bool false) (jF ((h : Int) < (n : Int)) (c1)) <| nT <| cF <| wp_skip <| au_then <| wp_seq <| rg_tail M 7 (by kernel_rfl) (by kernel_rfl) ?_
   simp only [List.take_succ_cons, List.take_zero]
   refine kR 3 <| eE M 33 0 2 <| kR 2 <| kC M 36 83 #[.pointer (some ⟨g, 0, none⟩), .int .u64 (n : Int)] (.int .u64 ((n % s : Nat) : Int)) (fun w M => c_place g k s h cap n hs w M.laid (M.there (.cons_cons _ (List.nil_sublist _)))) <| kl_nil fun u2 M => ?_
   replace M : Mem ⟨w, [g, k]⟩ [⟨g, .cells (av 3 (ls [.int .u64 (s : Int), .int .u64 (h : Int), .slice (some ⟨k, 0, none⟩) (nW s) cap])) 121⟩, ⟨k, .cells (av cap (w64 m)) 24⟩] u2 := M
   refine pl_callp M (want_no rfl) (some 37) rfl 86 #[.slice (some ⟨k, 0, none⟩) (nW s) cap, .int .u64 ((n % s : Nat) : Int)] (.tuple #[]) 1 k (.cells (av cap (w64 m)) 24) (.cells (av cap (w64 (stM m (n % s)))) 24) rfl (fun _ => by kernel_rfl) (fun w M => c_set k (n % s) (nW s) cap m (Nat.lt_of_le_of_lt (Nat.mod_le n s) (by omega)) (by have := Nat.mod_lt n (show 0 < s by omega); unfold nW; omega) hc w M.laid (M.there (.cons _ (.cons_cons _ (List.nil_sublist _))))) fun u3 M => ?_
   replace M : Mem ⟨w, [g, k]⟩ [⟨g, .cells (av 3 (ls [.int .u64 (s : Int), .int .u64 (h : Int), .slice (some ⟨k, 0, none⟩) (nW s) cap])) 121⟩, ⟨k, .cells (av cap (w64 (stM m (n % s)))) 24⟩] u3 := M
   refine nT <| sq <| wp_ret ?_
   have e0 : mkH s h m n = h := by unfold mkH; rw [if_pos c0, if_neg (by omega)]
   have e1 : mkM s h m n = (stM m (n % s)) := by unfold mkM; rw [if_pos c0, if_neg (by omega)]
   exact bodyPost_ret (v := .int .i64 0) (results_tmp1 Tryz.results68 _ _ _ (by kernel_rfl)) (by kernel_rfl) ⟨by rw [c0], M.old, by rw [e0]; exact M.get 0 rfl, by rw [e1]; exact M.get 1 rfl⟩
 ·refine pH 10 (.bool true) (jU ((myF s h m n) = 0) (c0)) <| nT <| cT <| sq <| wp_ret <| au_then_ret ?_
  have e0 : mkH s h m n = h := by unfold mkH; rw [if_neg c0]
  have e1 : mkM s h m n = m := by unfold mkM; rw [if_neg c0]
  exact bodyPost_ret (v := .int .i64 (myF s h m n)) (results_tmp1 Tryz.results68 _ _ _ (by kernel_rfl)) (by kernel_rfl) ⟨rfl, M.old, by rw [e0]; exact M.get 0 rfl, by rw [e1]; exact M.get 1 rfl⟩
theorem c_NewE (z : Int) (hz : z < 1 ∨ 4096 < z) (w : World) (hL : Laid w)  : Cs 24 #[.int .i64 z] w (.tuple #[.pointer none, .int .i64 2]) := by
 go_enter Tryz.func24, Tryz.ntmps24
 have M := Mem.start hL
 refine sq <| wp_seq <| sR <| rV 1 ?_
 by_cases c0 : z < 1
 ·refine pH 5 (.bool true) (jT (z < 1) (c0)) <| rV 4 <| nT <| cT <| sq <| wp_ret <| au_then_ret ?_
  exact b1 M
 ·refine pH 5 (.bool false) (jF (z < 1) (c0)) <| rV 2 ?_
  by_cases c1 : 4096 < z
  ·refine pl_val (want_on 2 false rfl 6 rfl (by kernel_rfl)) (some 8) rfl (.bool true) (fun w => Eq.trans (b := .ok (.value (.bool (decide (4096 < z)))) w) (by kernel_rfl) (by rw [decide_eq_true (c1)])) <| rV 1 <| nT <| cT <| sq <| wp_ret <| au_then_ret ?_
   exact b1 M
  ·exfalso; omega
theorem c_WNew (s : Nat) (hs : 1 ≤ s) (hs4 : s ≤ 4096) (w : World) (hL : Laid w) : Calls Tryz.prog 24 #[.int .i64 (s : Int)] w fun r w' => ∃ x : Nat × Nat, r = .returned (.tuple #[.pointer (some ⟨x.1, 0, none⟩), .int .i64 0]) ∧ True ∧ OkT w w' [] [⟨x.1, (.cells (av 3 (ls [.int .u64 (s : Int), .int .u64 0, .slice (some ⟨x.2, 0, none⟩) (nW s) (nW s)])) 121)⟩, ⟨x.2, .cells (av (nW s) (w64 (fun _ => 0))) 24⟩] := by
 go_enter Tryz.func24, Tryz.ntmps24
 have M := Mem.start hL
 refine sq <| wp_seq <| sR <| rV 1 ?_
 by_cases c0 : (s : Int) < 1
 ·exfalso; omega
 ·refine pH 5 (.bool false) (jF ((s : Int) < 1) (c0)) <| rV 2 ?_
  by_cases c1 : 4096 < (s : Int)
  ·exfalso; omega
  ·refine pl_val (want_on 2 false rfl 6 rfl (by kernel_rfl)) (some 8) rfl (.bool false) (fun w => Eq.trans (b := .ok (.value (.bool (decide (4096 < (s : Int))))) w) (by kernel_rfl) (by rw [decide_eq_false (c1)])) <| rV 1 <| nT <| cF <| wp_skip <| au_then <| sR <| rV 1 <| pH 11 (.int .u64 (s : Int)) (fun w => Eq.trans (b := .ok (.value (.int .u64 (cv .u64 (s : Int)))) w) (by kernel_rfl) (by rw [cv_u64, Int.emod_eq_of_lt (by omega) (by omega)])) <| rV 1 <| pl_calln M (want_no rfl) (some 13) rfl 48 #[.int .i64 (s : Int)] (fun g1 => .slice (some ⟨g1, 0, none⟩) (nW s) (nW s)) (.cells (av (nW s) (w64 (fun _ => 0))) 24) (fun _ => by kernel_rfl) (fun w M => c_room s hs4 w M.laid) fun g1 u1 M => ?_
   replace M : Mem ⟨w, []⟩ [⟨g1, .cells (av (nW s) (w64 (fun _ => 0))) 24⟩] u1 := M
   refine rV 1 <| pN M 15 (.cells (av 3 (ls [.int .u64 (s : Int), .int .u64 0, .slice (some ⟨g1, 0, none⟩) (nW s) (nW s)])) 121) fun g2 u2 M => ?_
   replace M : Mem ⟨w, []⟩ [⟨g1, .cells (av (nW s) (w64 (fun _ => 0))) 24⟩, ⟨g2, .cells (av 3 (ls [.int .u64 (s : Int), .int .u64 0, .slice (some ⟨g1, 0, none⟩) (nW s) (nW s)])) 121⟩] u2 := M
   refine rV 2 <| nT <| wp_ret ?_
   exact bodyPost_ret (v := .tuple #[.pointer (some ⟨g2, 0, none⟩), .int .i64 0]) (results_tmp2 Tryz.results24 _ _ _ _ (by kernel_rfl) (by kernel_rfl)) (by kernel_rfl) ⟨(_, _), rfl, trivial, Mem.okT0 (T := []) (M.perm (.swap _ _ _))⟩
open Go.RowKit
theorem wrapN (b : BitVec 64) : IntKind.wrap .u64 (b.toNat : Int) = (b.toNat : Int) := by
 have := b.isLt
 rw [IntKind.wrap_u64]
 omega
theorem ofI (b : BitVec 64) : BitVec.ofInt 64 (b.toNat : Int) = b := by
 rw [BitVec.ofInt_natCast, BitVec.ofNat_toNat, BitVec.setWidth_eq]
theorem bw_two (p : Nat) : BitVec.ofInt 64 (bw p) = BitVec.twoPow 64 (p % 64) := by
 have hp : p % 64 < 64 := Nat.mod_lt _ (by decide)
 have e : bw p = ((BitVec.twoPow 64 (p % 64)).toNat : Int) := by
  unfold bw sl
  rw [IntKind.wrap_u64, BitVec.toNat_twoPow]
  simp
 rw [e, ofI]
theorem hb_bit (m : NI) (p : Nat) : hb m p = (BitVec.ofInt 64 (m (p / 64))).getLsbD (p % 64) := by
 have hp : p % 64 < 64 := Nat.mod_lt _ (by decide)
 unfold hb un
 rw [bw_two, wrapN, BitVec.and_twoPow]
 cases h : (BitVec.ofInt 64 (m (p / 64))).getLsbD (p % 64)
 ·simp
 ·have h2 : (BitVec.twoPow 64 (p % 64)).toNat ≠ 0 := by
   rw [BitVec.toNat_twoPow, Nat.mod_eq_of_lt (Nat.pow_lt_pow_right (by decide) hp)]
   exact Nat.pos_iff_ne_zero.1 (Nat.pow_pos (by decide))
  simp only [if_true, decide_eq_true_eq]
  omega
theorem pl_eq {p q : Nat} (h : q / 64 = p / 64) : p % 64 = q % 64 ↔ q = p := by omega
theorem hb_set (m : NI) (p q : Nat) : hb (stM m p) q = (decide (q = p) || hb m q) := by
 have hq : q % 64 < 64 := Nat.mod_lt _ (by decide)
 rw [hb_bit, hb_bit]
 unfold stM upd uo
 by_cases h : q / 64 = p / 64
 ·rw [if_pos h, wrapN, ofI, BitVec.getLsbD_or, bw_two, BitVec.getLsbD_twoPow, h]
  by_cases e : q = p
  ·subst e
   simp [hq]
  ·have e2 : ¬ p % 64 = q % 64 := fun x => e ((pl_eq h).1 x)
   simp [e, e2]
 ·rw [if_neg h]
  have e : ¬ q = p := fun e => h (by rw [e])
  simp [e]
theorem hb_wipe (m : NI) (p q : Nat) : hb (wpM m p) q = (!decide (q = p) && hb m q) := by
 have hq : q % 64 < 64 := Nat.mod_lt _ (by decide)
 rw [hb_bit, hb_bit]
 unfold wpM upd ud
 by_cases h : q / 64 = p / 64
 ·rw [if_pos h, wrapN, ofI, BitVec.getLsbD_and, BitVec.getLsbD_not, bw_two, BitVec.getLsbD_twoPow, h]
  by_cases e : q = p
  ·subst e
   simp [hq]
  ·have e2 : ¬ p % 64 = q % 64 := fun x => e ((pl_eq h).1 x)
   simp [e, e2, hq]
 ·rw [if_neg h]
  have e : ¬ q = p := fun e => h (by rw [e])
  simp [e]
theorem hb_zero (q : Nat) : hb (fun _ => 0) q = false := by
 rw [hb_bit]
 simp
theorem hb_clear (n : Nat) (m : NI) (q : Nat) (h : q / 64 < n) : hb (clF n m) q = false := by
 rw [hb_bit]
 unfold clF
 rw [if_pos h]
 simp
theorem hb_wps (s h : Nat) (m : NI) (q : Nat) : ∀ j, hb (wps s h m j) q = true ↔ hb m q = true ∧ ∀ i, i < j → q ≠ (h + 1 + i) % s
 | 0 => by simp [wps]
 | j + 1 => by
  have ih := hb_wps s h m q j
  unfold wps
  rw [hb_wipe]
  simp only [Bool.and_eq_true, Bool.not_eq_true', decide_eq_false_iff_not]
  constructor
  ·intro ⟨h1, h2⟩
   obtain ⟨h3, h4⟩ := ih.1 h2
   refine ⟨h3, fun i hi => ?_⟩
   by_cases e : i = j
   ·subst e
    exact h1
   ·exact h4 i (by omega)
  ·intro ⟨h1, h2⟩
   exact ⟨h2 j (by omega), ih.2 ⟨h1, fun i hi => h2 i (by omega)⟩⟩
def mx (l : List Nat) : Nat := l.foldl max 0
theorem mx_app (l : List Nat) (n : Nat) : mx (l ++ [n]) = max (mx l) n := by simp [mx, List.foldl_append]
theorem foldl_ge : ∀ (l : List Nat) (a : Nat), a ≤ l.foldl max a ∧ ∀ n ∈ l, n ≤ l.foldl max a
 | [], a => ⟨Nat.le_refl _, by simp⟩
 | x :: l, a => by
  obtain ⟨h1, h2⟩ := foldl_ge l (max a x)
  rw [List.foldl_cons]
  refine ⟨by omega, fun n hn => ?_⟩
  rcases List.mem_cons.1 hn with rfl | hn
  ·omega
  ·exact h2 n hn
theorem foldl_in : ∀ (l : List Nat) (a : Nat), l.foldl max a = a ∨ l.foldl max a ∈ l
 | [], a => .inl rfl
 | x :: l, a => by
  rw [List.foldl_cons]
  rcases foldl_in l (max a x) with h | h
  ·rw [h]
   by_cases hx : a ≤ x
   ·right
    rw [Nat.max_eq_right hx]
    exact List.mem_cons_self
   ·left
    omega
  ·exact .inr (List.mem_cons_of_mem _ h)
theorem le_mx {l : List Nat} {n : Nat} (h : n ∈ l) : n ≤ mx l := (foldl_ge l 0).2 n h
theorem mx_in {l : List Nat} (h : l ≠ []) : mx l ∈ l := by
 rcases foldl_in l 0 with e | e
 ·cases l with
  | nil => exact absurd rfl h
  | cons x r =>
   have h1 := (foldl_ge (x :: r) 0).2 x List.mem_cons_self
   have : x = 0 := by omega
   subst this
   have e2 : mx (0 :: r) = 0 := e
   rw [e2]
   exact List.mem_cons_self
 ·exact e
theorem mx_lt {l : List Nat} {B : Nat} (hB : 0 < B) (h : ∀ n ∈ l, n < B) : mx l < B := by
 by_cases e : l = []
 ·subst e
  exact hB
 ·exact h _ (mx_in e)
def my (s : Nat) (l : List Nat) (n : Nat) : Int := if l ≠ [] ∧ n < mx l ∧ s ≤ mx l - n then 170 else if n ∈ l then 9 else 0
def mk (s : Nat) (l : List Nat) (n : Nat) : List Nat := if my s l n = 0 then l ++ [n] else l
structure Inv (s h : Nat) (m : NI) (l : List Nat) : Prop where
 hi : h = mx l
 bits : ∀ n, n ≤ h → h < n + s → (hb m (n % s) = true ↔ n ∈ l)
theorem inv_new (s : Nat) : Inv s 0 (fun _ => 0) [] := ⟨rfl, fun n _ _ => by simp [hb_zero]⟩
theorem mod_in (s n : Nat) (hs : 1 ≤ s) : (n % s) / 64 < nW s := by
 have := Nat.mod_lt n (show 0 < s by omega)
 unfold nW
 omega
theorem may_eq {s h : Nat} {m : NI} {l : List Nat} (I : Inv s h m l) (hs : 1 ≤ s) (n : Nat) : myF s h m n = my s l n := by
 have hh := I.hi
 unfold myF my
 by_cases c1 : h < n
 ·rw [if_pos c1, if_neg (by omega), if_neg (fun hm => by have := le_mx hm; omega)]
 ·rw [if_neg c1]
  by_cases c2 : s ≤ h - n
  ·rw [if_pos c2, if_pos ⟨fun e => by subst e; simp [mx] at hh; omega, by omega, by omega⟩]
  ·have c4 : ¬ (l ≠ [] ∧ n < mx l ∧ s ≤ mx l - n) := by omega
   rw [if_neg c2, if_neg c4]
   have hbt := I.bits n (by omega) (by omega)
   by_cases c3 : n ∈ l
   ·rw [if_pos (hbt.2 c3), if_pos c3]
   ·rw [if_neg (fun x => c3 (hbt.1 x)), if_neg c3]
theorem mod_ne {s a b : Nat} (h1 : a < b) (h2 : b < a + s) : a % s ≠ b % s := by
 intro e
 have h3 := Nat.div_add_mod a s
 have h4 := Nat.div_add_mod b s
 rw [e] at h3
 have h5 : s * (a / s) < s * (b / s) := by omega
 have h6 : a / s < b / s := Nat.lt_of_mul_lt_mul_left h5
 have h7 : s * (a / s + 1) ≤ s * (b / s) := Nat.mul_le_mul_left s h6
 rw [Nat.mul_add, Nat.mul_one] at h7
 omega
theorem mod_one_of {s a b : Nat} (h1 : a < b + s) (h2 : b < a + s) (e : a % s = b % s) : a = b := by
 rcases Nat.lt_trichotomy a b with h | h | h
 ·exact absurd e (mod_ne h h2)
 ·exact h
 ·exact absurd e.symm (mod_ne h h1)
theorem inv_mark {s h : Nat} {m : NI} {l : List Nat} (I : Inv s h m l) (hs : 1 ≤ s) (n : Nat) : Inv s (mkH s h m n) (mkM s h m n) (mk s l n) := by
 have hh := I.hi
 have he := may_eq I hs n
 unfold mkH mkM mk
 rw [he]
 by_cases c0 : my s l n = 0
 ·rw [if_pos c0, if_pos c0, if_pos c0]
  by_cases c1 : h < n
  ·rw [if_pos c1, if_pos c1]
   refine ⟨by rw [mx_app]; omega, fun q h1 h2 => ?_⟩
   rw [hb_set, Bool.or_eq_true, decide_eq_true_eq, List.mem_append, List.mem_singleton]
   have e1 : q % s = n % s ↔ q = n := ⟨fun e => mod_one_of (by omega) (by omega) e, fun e => by rw [e]⟩
   rw [e1]
   have e2 : hb (lvM s h m (n - h)) (q % s) = true ↔ q ∈ l ∧ q ≠ n := by
    unfold lvM
    by_cases c2 : s ≤ n - h
    ·rw [if_pos c2, hb_clear _ _ _ (mod_in s q hs)]
     constructor
     ·intro x
      cases x
     ·intro ⟨x, _⟩
      have := le_mx x
      omega
    ·rw [if_neg c2, hb_wps]
     constructor
     ·intro ⟨x, y⟩
      have h3 : q ≤ h := by
       refine Nat.le_of_not_lt fun h4 => y (q - (h + 1)) (by omega) ?_
       rw [show h + 1 + (q - (h + 1)) = q by omega]
      exact ⟨(I.bits q h3 (by omega)).1 x, by omega⟩
     ·intro ⟨x, y⟩
      have h3 := le_mx x
      exact ⟨(I.bits q (by omega) (by omega)).2 x, fun i hi => mod_ne (by omega) (by omega)⟩
   rw [e2]
   constructor
   ·intro x
    rcases x with x | x
    ·exact .inr x
    ·exact .inl x.1
   ·intro x
    by_cases y : q = n
    ·exact .inl y
    ·rcases x with x | x
     ·exact .inr ⟨x, y⟩
     ·exact .inl x
  ·rw [if_neg c1, if_neg c1]
   have c2 : ¬ s ≤ h - n := fun c2 => by
    unfold myF at he
    rw [if_neg c1, if_pos c2, c0] at he
    cases he
   refine ⟨by rw [mx_app]; omega, fun q h1 h2 => ?_⟩
   rw [hb_set, Bool.or_eq_true, decide_eq_true_eq, List.mem_append, List.mem_singleton]
   have e1 : q % s = n % s ↔ q = n := ⟨fun e => mod_one_of (by omega) (by omega) e, fun e => by rw [e]⟩
   rw [e1, I.bits q h1 h2]
   exact Or.comm
 ·rw [if_neg c0, if_neg c0, if_neg c0]
  exact I
theorem mk_lt {s n B : Nat} {l : List Nat} (h : ∀ q ∈ l, q < B) (hn : n < B) : ∀ q ∈ mk s l n, q < B := by
 intro q hq
 unfold mk at hq
 split at hq
 ·rcases List.mem_append.1 hq with x | x
  ·exact h q x
  ·rw [List.mem_singleton.1 x]
   exact hn
 ·exact h q hq
theorem mk_len (s n : Nat) (l : List Nat) : (mk s l n).length ≤ l.length + 1 := by
 unfold mk
 split <;> simp
theorem mkH_lt {s h : Nat} {m : NI} {n B : Nat} (hh : h < B) (hn : n < B) : mkH s h m n < B := by
 unfold mkH
 split
 ·split <;> omega
 ·exact hh
open Go.RowKit
def ovB (sd : Yb) (lf mt n : Nat) : Bool := decide (sd = ⟨#[]⟩ ∨ lf ≤ n - mt)
def wnB (sd : Yb) (fi : Bool) (rc rk lf nx mt n : Nat) : Bool := fi && (!ovB sd lf mt n && decide (rc ≤ nx ∨ rk ≤ n - mt))
def slF (sd : Yb) (su : Bool) (ct lf nx mt n : Nat) : Int := if ovB sd lf mt n = true then 180 else if ct ≤ nx then 180 else if su = true then 0 else 3
theorem age_eq (n mt : Nat) (hn : n < 18446744073709551616) : IntKind.wrap .u64 (max (n : Int) (mt : Int) - (mt : Int)) = ((n - mt : Nat) : Int) := by
 rw [IntKind.wrap_u64]
 omega
theorem a_Mark {g k s h : Nat} {m : NI} {n : Nat} {l : List Nat} (hs : 1 ≤ s) (hh : h < 18446744073709551616) (hn : n < 18446744073709551616) (I : Inv s h m l) (w : World) (hL : Laid w) (hT : There w [⟨g, .cells (av 3 (ls [.int .u64 (s : Int), .int .u64 (h : Int), .slice (some ⟨k, 0, none⟩) (nW s) (nW s)])) 121⟩, ⟨k, .cells (av (nW s) (w64 m)) 24⟩]) : Calls Tryz.prog 68 #[.pointer (some ⟨g, 0, none⟩), .int .u64 (n : Int)] w fun r w' => ∃ x : Nat × (Nat → Int), r = .returned (.int .i64 (my s l n)) ∧ (Inv s x.1 x.2 (mk s l n) ∧ x.1 < 18446744073709551616) ∧ OkT w w' [⟨g, .cells (av 3 (ls [.int .u64 (s : Int), .int .u64 (h : Int), .slice (some ⟨k, 0, none⟩) (nW s) (nW s)])) 121⟩, ⟨k, .cells (av (nW s) (w64 m)) 24⟩] [⟨g, .cells (av 3 (ls [.int .u64 (s : Int), .int .u64 ((x.1 : Nat) : Int), .slice (some ⟨k, 0, none⟩) (nW s) (nW s)])) 121⟩, ⟨k, .cells (av (nW s) (w64 x.2)) 24⟩] := by
 rw [← may_eq I hs n]
 exact (c_Mark g k s h (nW s) m n hs (Nat.le_refl _) hh hn w hL hT).mono fun _ _ ⟨he, h1, h2, h3⟩ => ⟨(mkH s h m n, mkM s h m n), he, ⟨inv_mark I hs n, mkH_lt hh hn⟩, h1, by simpa using ⟨h2, h3⟩, by simpa using hT.nodup, by simp⟩
theorem a_May {g k s h : Nat} {m : NI} {n : Nat} {l : List Nat} (hs : 1 ≤ s) (hh : h < 18446744073709551616) (hn : n < 18446744073709551616) (I : Inv s h m l) (w : World) (hL : Laid w) (hT : There w [⟨g, .cells (av 3 (ls [.int .u64 (s : Int), .int .u64 (h : Int), .slice (some ⟨k, 0, none⟩) (nW s) (nW s)])) 121⟩, ⟨k, .cells (av (nW s) (w64 m)) 24⟩]) : Cs 66 #[.pointer (some ⟨g, 0, none⟩), .int .u64 (n : Int)] w (.int .i64 (my s l n)) := by
 rw [← may_eq I hs n]
 exact c_May g k s h (nW s) m n hs (Nat.le_refl _) hh hn w hL hT
theorem c_wiped {e wd md : Nat} {rc ct rk lf sz nx : Nat} {sd rv : Yb} {fi su : Bool} (w : World) (hL : Laid w)  (hT : There w [⟨e, .cells (av 12 (ls [.pointer (some ⟨wd, 0, none⟩), .func (.func 49) #[] #[.pointer (some ⟨md, 0, none⟩)], .int .u64 (rc : Int), .int .u64 (ct : Int), .int .u64 (rk : Int), .int .u64 (lf : Int), .int .i64 (sz : Int), .string sd, .string rv, .bool (fi), .bool (su), .int .u64 (nx : Int)])) 89⟩]) : Cs 56 #[.pointer (some ⟨e, 0, none⟩)] w (.bool (decide (sd = (⟨#[]⟩ : Yb)))) := by
 go_enter Tryz.func56, Tryz.ntmps56
 have M : Mem ⟨w, [e]⟩ [⟨e, .cells (av 12 (ls [.pointer (some ⟨wd, 0, none⟩), .func (.func 49) #[] #[.pointer (some ⟨md, 0, none⟩)], .int .u64 (rc : Int), .int .u64 (ct : Int), .int .u64 (rk : Int), .int .u64 (lf : Int), .int .i64 (sz : Int), .string sd, .string rv, .bool (fi), .bool (su), .int .u64 (nx : Int)])) 89⟩] w := Mem.startT hL hT
 refine sq <| sR <| rV 3 <| ZE M 6 0 7 ?_
 by_cases c0 : sd = (⟨#[]⟩ : Yb)
 ·refine pH 7 (.bool true) (fun w => Eq.trans (b := .ok (.value (.bool (sd.toList == (⟨#[]⟩ : Yb).toList))) w) (by kernel_rfl) (by rw [seq_pos c0])) <| rV 1 <| nT <| wp_ret ?_
  have e0 : decide (sd = (⟨#[]⟩ : Yb)) = true := by first | (simp only [if_pos c0]; done) | simp [c0]
  exact bodyPost_ret (v := .bool true) (results_tmp1 Tryz.results56 _ _ _ (by kernel_rfl)) (by kernel_rfl) ⟨by rw [e0], ro_T hT M⟩
 ·refine pH 7 (.bool false) (fun w => Eq.trans (b := .ok (.value (.bool (sd.toList == (⟨#[]⟩ : Yb).toList))) w) (by kernel_rfl) (by rw [seq_neg c0])) <| rV 1 <| nT <| wp_ret ?_
  have e0 : decide (sd = (⟨#[]⟩ : Yb)) = false := by first | (simp only [if_neg c0]; done) | simp [c0]
  exact bodyPost_ret (v := .bool false) (results_tmp1 Tryz.results56 _ _ _ (by kernel_rfl)) (by kernel_rfl) ⟨by rw [e0], ro_T hT M⟩
theorem c_age {md mt n : Nat} (hn : n < 18446744073709551616) (w : World) (hL : Laid w)  (hT : There w [⟨md, .cells (av 1 (ls [.int .u64 (mt : Int)])) 24⟩]) : Cs 49 #[.int .u64 (n : Int), .pointer (some ⟨md, 0, none⟩)] w (.int .u64 ((n - mt : Nat) : Int)) := by
 go_enter Tryz.func49, Tryz.ntmps49
 have M : Mem ⟨w, [md]⟩ [⟨md, .cells (av 1 (ls [.int .u64 (mt : Int)])) 24⟩] w := Mem.startT hL hT
 refine sq <| sR <| rV 1 <| ZE M 5 0 0 <| pH 6 (.int .u64 (max (n : Int) (mt : Int))) (fun w => Eq.trans (b := .ok (.value (.int .u64 (if ((mt : Int) : Int) > (n : Int) then (mt : Int) else (n : Int)))) w) (by kernel_rfl) (by rw [if_max])) <| ZE M 7 0 0 <| pH 8 (.int .u64 ((n - mt : Nat) : Int)) (fun w => Eq.trans (b := .ok (.value (.int .u64 (IntKind.wrap .u64 (max (n : Int) (mt : Int) - (mt : Int))))) w) (by kernel_rfl) (by rw [age_eq n mt hn])) <| rV 1 <| nT <| wp_ret ?_
 exact bodyPost_ret (v := .int .u64 ((n - mt : Nat) : Int)) (results_tmp1 Tryz.results49 _ _ _ (by kernel_rfl)) (by kernel_rfl) ⟨rfl, ro_T hT M⟩
theorem c_over {e wd md : Nat} {rc ct rk lf sz nx mt : Nat} {sd rv : Yb} {fi su : Bool} {n : Nat} (hn : n < 18446744073709551616) (w : World) (hL : Laid w)  (hT : There w [⟨e, .cells (av 12 (ls [.pointer (some ⟨wd, 0, none⟩), .func (.func 49) #[] #[.pointer (some ⟨md, 0, none⟩)], .int .u64 (rc : Int), .int .u64 (ct : Int), .int .u64 (rk : Int), .int .u64 (lf : Int), .int .i64 (sz : Int), .string sd, .string rv, .bool (fi), .bool (su), .int .u64 (nx : Int)])) 89⟩, ⟨md, .cells (av 1 (ls [.int .u64 (mt : Int)])) 24⟩]) : Cs 31 #[.pointer (some ⟨e, 0, none⟩), .int .u64 (n : Int)] w (.bool (ovB sd lf mt n)) := by
 go_enter Tryz.func31, Tryz.ntmps31
 have M : Mem ⟨w, [e, md]⟩ [⟨e, .cells (av 12 (ls [.pointer (some ⟨wd, 0, none⟩), .func (.func 49) #[] #[.pointer (some ⟨md, 0, none⟩)], .int .u64 (rc : Int), .int .u64 (ct : Int), .int .u64 (rk : Int), .int .u64 (lf : Int), .int .i64 (sz : Int), .string sd, .string rv, .bool (fi), .bool (su), .int .u64 (nx : Int)])) 89⟩, ⟨md, .cells (av 1 (ls [.int .u64 (mt : Int)])) 24⟩] w := Mem.startT hL hT
 refine sq <| wp_seq <| rg_held M [⟨e, .cells (av 12 (ls [.pointer (some ⟨wd, 0, none⟩), .func (.func 49) #[] #[.pointer (some ⟨md, 0, none⟩)], .int .u64 (rc : Int), .int .u64 (ct : Int), .int .u64 (rk : Int), .int .u64 (lf : Int), .int .i64 (sz : Int), .string sd, .string rv, .bool (fi), .bool (su), .int .u64 (nx : Int)])) 89⟩, ⟨md, .cells (av 1 (ls [.int .u64 (mt : Int)])) 24⟩] 16 rfl (by kernel_rfl) (by kernel_rfl) (fun _ _ d _ _ h => by cases d <;> exact h) fun u1 M => ?_
 replace M : Mem ⟨w, [e, md]⟩ [⟨e, .cells (av 12 (ls [.pointer (some ⟨wd, 0, none⟩), .func (.func 49) #[] #[.pointer (some ⟨md, 0, none⟩)], .int .u64 (rc : Int), .int .u64 (ct : Int), .int .u64 (rk : Int), .int .u64 (lf : Int), .int .i64 (sz : Int), .string sd, .string rv, .bool (fi), .bool (su), .int .u64 (nx : Int)])) 89⟩, ⟨md, .cells (av 1 (ls [.int .u64 (mt : Int)])) 24⟩] u1 := M
 refine qV M 0 5 (.pointer (some ⟨e, 0, none⟩)) <| hl_one 1 (by decide) (by kernel_rfl) rfl ?_
 by_cases c0 : sd = (⟨#[]⟩ : Yb)
 ·refine pC M 6 56 #[.pointer (some ⟨e, 0, none⟩)] (.bool true) (fun w M => call_val (c_wiped w M.laid (M.there (.cons_cons _ (List.nil_sublist _)))) (congrArg Value.bool (decide_eq_true (c0)))) fun u2 M => nT ?_
  refine ⟨M, ?_⟩
  refine qV M 2 7 (.bool true) <| hl_skip M 3 rfl (by decide) (by kernel_rfl) (by kernel_rfl) (want_off 2 false rfl 7 rfl (by kernel_rfl)) (some 8) rfl <| hl_skip M 4 rfl (by decide) (by kernel_rfl) (by kernel_rfl) (want_off 2 false rfl 7 rfl (by kernel_rfl)) (some 9) rfl <| hl_skip M 5 rfl (by decide) (by kernel_rfl) (by kernel_rfl) (want_off 2 false rfl 7 rfl (by kernel_rfl)) (some 10) rfl <| hl_skip M 6 rfl (by decide) (by kernel_rfl) (by kernel_rfl) (want_off 2 false rfl 7 rfl (by kernel_rfl)) (some 11) rfl <| hl_skip M 7 rfl (by decide) (by kernel_rfl) (by kernel_rfl) (want_off 2 false rfl 7 rfl (by kernel_rfl)) (some 12) rfl <| hl_skip M 8 rfl (by decide) (by kernel_rfl) (by kernel_rfl) (want_off 2 false rfl 7 rfl (by kernel_rfl)) (some 13) rfl <| hl_skip M 9 rfl (by decide) (by kernel_rfl) (by kernel_rfl) (want_off 2 false rfl 7 rfl (by kernel_rfl)) (some 14) rfl <| hl_skip M 10 rfl (by decide) (by kernel_rfl) (by kernel_rfl) (want_off 2 false rfl 7 rfl (by kernel_rfl)) (some 15) rfl <| hl_skip M 11 rfl (by decide) (by kernel_rfl) (by kernel_rfl) (want_off 2 false rfl 7 rfl (by kernel_rfl)) (some 16) rfl <| hl_skip M 12 rfl (by decide) (by kernel_rfl) (by kernel_rfl) (want_off 2 false rfl 7 rfl (by kernel_rfl)) (some 17) rfl <| hl_skip M 13 rfl (by decide) (by kernel_rfl) (by kernel_rfl) (want_off 2 false rfl 7 rfl (by kernel_rfl)) (some 18) rfl <| hl_skip M 14 rfl (by decide) (by kernel_rfl) (by kernel_rfl) (want_off 2 false rfl 7 rfl (by kernel_rfl)) (some 19) rfl <| qV M 15 20 (.bool true) <| hl_end (by kernel_rfl) (by kernel_rfl) rfl <| rV 1 ?_
  refine nT <| au_then <| wp_ret ?_
  have e0 : ovB sd lf mt n = true := by unfold ovB; exact decide_eq_true (.inl c0)
  exact bodyPost_ret (v := .bool true) (results_tmp1 Tryz.results31 _ _ _ (by kernel_rfl)) (by kernel_rfl) ⟨by rw [e0], ro_T hT M⟩
 ·refine pC M 6 56 #[.pointer (some ⟨e, 0, none⟩)] (.bool false) (fun w M => call_val (c_wiped w M.laid (M.there (.cons_cons _ (List.nil_sublist _)))) (congrArg Value.bool (decide_eq_false (c0)))) fun u2 M => nT ?_
  refine ⟨M, ?_⟩
  refine qV M 2 7 (.bool false) <| hl_val M 3 rfl (by decide) (by kernel_rfl) (by kernel_rfl) (want_on 2 false rfl 7 rfl (by kernel_rfl)) (some 8) rfl (.pointer (some ⟨e, 0, none⟩)) (fun _ _ => by kernel_rfl) <| hl_val M 4 rfl (by decide) (by kernel_rfl) (by kernel_rfl) (want_on 2 false rfl 7 rfl (by kernel_rfl)) (some 9) rfl (.pointer (some ⟨e, 0, none⟩)) (fun _ _ => by kernel_rfl) <| hl_val M 5 rfl (by decide) (by kernel_rfl) (by kernel_rfl) (want_on 2 false rfl 7 rfl (by kernel_rfl)) (some 10) rfl (.pointer (some ⟨e, 1, none⟩)) (fun _ _ => by kernel_rfl) <| hl_cell M 6 rfl (by decide) (by kernel_rfl) (by kernel_rfl) (want_on 2 false rfl 7 rfl (by kernel_rfl)) (some 11) rfl 86 _ rfl e 1 (by kernel_rfl) (.func (.func 49) #[] #[.pointer (some ⟨md, 0, none⟩)]) (fun _ => by kernel_rfl) (fun w M => M.cell 0 rfl (by decide) rfl) <| hl_val M 7 rfl (by decide) (by kernel_rfl) (by kernel_rfl) (want_on 2 false rfl 7 rfl (by kernel_rfl)) (some 12) rfl (.int .u64 (n : Int)) (fun _ _ => by kernel_rfl) <| hl_val M 9 rfl (by decide) (by kernel_rfl) (by kernel_rfl) (want_on 2 false rfl 7 rfl (by kernel_rfl)) (some 14) rfl (.pointer (some ⟨e, 0, none⟩)) (fun _ _ => by kernel_rfl) <| hl_val M 10 rfl (by decide) (by kernel_rfl) (by kernel_rfl) (want_on 2 false rfl 7 rfl (by kernel_rfl)) (some 15) rfl (.pointer (some ⟨e, 0, none⟩)) (fun _ _ => by kernel_rfl) <| hl_val M 11 rfl (by decide) (by kernel_rfl) (by kernel_rfl) (want_on 2 false rfl 7 rfl (by kernel_rfl)) (some 16) rfl (.pointer (some ⟨e, 2, none⟩)) (fun _ _ => by kernel_rfl) <| hl_val M 12 rfl (by decide) (by kernel_rfl) (by kernel_rfl) (want_on 2 false rfl 7 rfl (by kernel_rfl)) (some 17) rfl (.pointer (some ⟨e, 5, none⟩)) (fun _ _ => by kernel_rfl) <| hl_cell M 13 rfl (by decide) (by kernel_rfl) (by kernel_rfl) (want_on 2 false rfl 7 rfl (by kernel_rfl)) (some 18) rfl 24 _ rfl e 5 (by kernel_rfl) (.int .u64 (lf : Int)) (fun _ => by kernel_rfl) (fun w M => M.cell 0 rfl (by decide) rfl) <| hl_one 8 (by decide) (by kernel_rfl) rfl <| pl_call M (want_on 2 false rfl 7 rfl (by kernel_rfl)) (some 13) rfl 49 #[.int .u64 (n : Int), .pointer (some ⟨md, 0, none⟩)] (.int .u64 ((n - mt : Nat) : Int)) (fun _ => by kernel_rfl) (fun w M => c_age hn w M.laid (M.there (.cons _ (.cons_cons _ (List.nil_sublist _))))) fun u3 M => nT ?_
  refine ⟨M, ?_⟩
  by_cases c1 : ((n - mt : Nat) : Int) < (lf : Int)
  ·refine hl_val M 14 rfl (by decide) (by kernel_rfl) (by kernel_rfl) (want_on 2 false rfl 7 rfl (by kernel_rfl)) (some 19) rfl (.bool false) (fun w _ => (fun w => Eq.trans (b := .ok (.value (.bool (decide ((lf : Int) ≤ ((n - mt : Nat) : Int))))) w) (by kernel_rfl) (by rw [decide_eq_false (by omega)])) w) <| qV M 15 20 (.bool false) <| hl_end (by kernel_rfl) (by kernel_rfl) rfl <| rV 1 <| nT <| au_then <| wp_ret ?_
   have e0 : ovB sd lf mt n = false := by unfold ovB; exact decide_eq_false (by rintro (h | h) <;> first | exact c0 h | omega)
   exact bodyPost_ret (v := .bool false) (results_tmp1 Tryz.results31 _ _ _ (by kernel_rfl)) (by kernel_rfl) ⟨by rw [e0], ro_T hT M⟩
  ·refine hl_val M 14 rfl (by decide) (by kernel_rfl) (by kernel_rfl) (want_on 2 false rfl 7 rfl (by kernel_rfl)) (some 19) rfl (.bool true) (fun w _ => (fun w => Eq.trans (b := .ok (.value (.bool (decide ((lf : Int) ≤ ((n - mt : Nat) : Int))))) w) (by kernel_rfl) (by rw [decide_eq_true (by omega)])) w) <| qV M 15 20 (.bool true) <| hl_end (by kernel_rfl) (by kernel_rfl) rfl <| rV 1 <| nT <| au_then <| wp_ret ?_
   have e0 : ovB sd lf mt n = true := by unfold ovB; exact decide_eq_true (.inr (by omega))
   exact bodyPost_ret (v := .bool true) (results_tmp1 Tryz.results31 _ _ _ (by kernel_rfl)) (by kernel_rfl) ⟨by rw [e0], ro_T hT M⟩
theorem c_spent {e wd md : Nat} {rc ct rk lf sz nx : Nat} {sd rv : Yb} {fi su : Bool} (w : World) (hL : Laid w)  (hT : There w [⟨e, .cells (av 12 (ls [.pointer (some ⟨wd, 0, none⟩), .func (.func 49) #[] #[.pointer (some ⟨md, 0, none⟩)], .int .u64 (rc : Int), .int .u64 (ct : Int), .int .u64 (rk : Int), .int .u64 (lf : Int), .int .i64 (sz : Int), .string sd, .string rv, .bool (fi), .bool (su), .int .u64 (nx : Int)])) 89⟩]) : Cs 63 #[.pointer (some ⟨e, 0, none⟩)] w (.bool (decide ((nx : Int) ≥ (ct : Int)))) := by
 go_enter Tryz.func63, Tryz.ntmps63
 have M : Mem ⟨w, [e]⟩ [⟨e, .cells (av 12 (ls [.pointer (some ⟨wd, 0, none⟩), .func (.func 49) #[] #[.pointer (some ⟨md, 0, none⟩)], .int .u64 (rc : Int), .int .u64 (ct : Int), .int .u64 (rk : Int), .int .u64 (lf : Int), .int .i64 (sz : Int), .string sd, .string rv, .bool (fi), .bool (su), .int .u64 (nx : Int)])) 89⟩] w := Mem.startT hL hT
 refine sq <| wp_seq <| rg_held M [⟨e, .cells (av 12 (ls [.pointer (some ⟨wd, 0, none⟩), .func (.func 49) #[] #[.pointer (some ⟨md, 0, none⟩)], .int .u64 (rc : Int), .int .u64 (ct : Int), .int .u64 (rk : Int), .int .u64 (lf : Int), .int .i64 (sz : Int), .string sd, .string rv, .bool (fi), .bool (su), .int .u64 (nx : Int)])) 89⟩] 10 rfl (by kernel_rfl) (by kernel_rfl) (fun _ _ d _ _ h => by cases d <;> exact h) fun u1 M => ?_
 replace M : Mem ⟨w, [e]⟩ [⟨e, .cells (av 12 (ls [.pointer (some ⟨wd, 0, none⟩), .func (.func 49) #[] #[.pointer (some ⟨md, 0, none⟩)], .int .u64 (rc : Int), .int .u64 (ct : Int), .int .u64 (rk : Int), .int .u64 (lf : Int), .int .i64 (sz : Int), .string sd, .string rv, .bool (fi), .bool (su), .int .u64 (nx : Int)])) 89⟩] u1 := M
 refine qV M 0 3 (.pointer (some ⟨e, 0, none⟩)) <| qV M 1 4 (.pointer (some ⟨e, 0, none⟩)) <| qV M 2 5 (.pointer (some ⟨e, 11, none⟩)) <| hl_cell M 3 rfl (by decide) (by kernel_rfl) (by kernel_rfl) (want_no rfl) (some 6) rfl 24 _ rfl e 11 (by kernel_rfl) (.int .u64 (nx : Int)) (fun _ => by kernel_rfl) (fun w M => M.cell 0 rfl (by decide) rfl) <| qV M 4 7 (.pointer (some ⟨e, 0, none⟩)) <| qV M 5 8 (.pointer (some ⟨e, 0, none⟩)) <| qV M 6 9 (.pointer (some ⟨e, 2, none⟩)) <| qV M 7 10 (.pointer (some ⟨e, 3, none⟩)) <| hl_cell M 8 rfl (by decide) (by kernel_rfl) (by kernel_rfl) (want_no rfl) (some 11) rfl 24 _ rfl e 3 (by kernel_rfl) (.int .u64 (ct : Int)) (fun _ => by kernel_rfl) (fun w M => M.cell 0 rfl (by decide) rfl) ?_
 by_cases c0 : (nx : Int) < (ct : Int)
 ·refine hl_val M 9 rfl (by decide) (by kernel_rfl) (by kernel_rfl) (want_no rfl) (some 12) rfl (.bool false) (fun w _ => (fun w => Eq.trans (b := .ok (.value (.bool (decide ((ct : Int) ≤ (nx : Int))))) w) (by kernel_rfl) (by rw [decide_eq_false (by omega)])) w) <| hl_end (by kernel_rfl) (by kernel_rfl) rfl <| rV 1 <| nT <| au_then <| wp_ret ?_
  have e0 : decide ((nx : Int) ≥ (ct : Int)) = false := decide_eq_false (by omega)
  exact bodyPost_ret (v := .bool false) (results_tmp1 Tryz.results63 _ _ _ (by kernel_rfl)) (by kernel_rfl) ⟨by rw [e0], ro_T hT M⟩
 ·refine hl_val M 9 rfl (by decide) (by kernel_rfl) (by kernel_rfl) (want_no rfl) (some 12) rfl (.bool true) (fun w _ => (fun w => Eq.trans (b := .ok (.value (.bool (decide ((ct : Int) ≤ (nx : Int))))) w) (by kernel_rfl) (by rw [decide_eq_true (by omega)])) w) <| hl_end (by kernel_rfl) (by kernel_rfl) rfl <| rV 1 <| nT <| au_then <| wp_ret ?_
  have e0 : decide ((nx : Int) ≥ (ct : Int)) = true := decide_eq_true (by omega)
  exact bodyPost_ret (v := .bool true) (results_tmp1 Tryz.results63 _ _ _ (by kernel_rfl)) (by kernel_rfl) ⟨by rw [e0], ro_T hT M⟩
theorem c_sealFault {e wd md : Nat} {rc ct rk lf sz nx mt : Nat} {sd rv : Yb} {fi su : Bool} {n : Nat} (hn : n < 18446744073709551616) (w : World) (hL : Laid w)  (hT : There w [⟨e, .cells (av 12 (ls [.pointer (some ⟨wd, 0, none⟩), .func (.func 49) #[] #[.pointer (some ⟨md, 0, none⟩)], .int .u64 (rc : Int), .int .u64 (ct : Int), .int .u64 (rk : Int), .int .u64 (lf : Int), .int .i64 (sz : Int), .string sd, .string rv, .bool (fi), .bool (su), .int .u64 (nx : Int)])) 89⟩, ⟨md, .cells (av 1 (ls [.int .u64 (mt : Int)])) 24⟩]) : Cs 44 #[.pointer (some ⟨e, 0, none⟩), .int .u64 (n : Int)] w (.int .i64 (slF sd su ct lf nx mt n)) := by
 go_enter Tryz.func44, Tryz.ntmps44
 have M : Mem ⟨w, [e, md]⟩ [⟨e, .cells (av 12 (ls [.pointer (some ⟨wd, 0, none⟩), .func (.func 49) #[] #[.pointer (some ⟨md, 0, none⟩)], .int .u64 (rc : Int), .int .u64 (ct : Int), .int .u64 (rk : Int), .int .u64 (lf : Int), .int .i64 (sz : Int), .string sd, .string rv, .bool (fi), .bool (su), .int .u64 (nx : Int)])) 89⟩, ⟨md, .cells (av 1 (ls [.int .u64 (mt : Int)])) 24⟩] w := Mem.startT hL hT
 refine sq <| wp_seq <| wp_block <| wp_seq <| sR <| rV 2 ?_
 rcases Bool.eq_false_or_eq_true (ovB sd lf mt n) with c0 | c0
 ·refine pC M 8 31 #[.pointer (some ⟨e, 0, none⟩), .int .u64 (n : Int)] (.bool true) (fun w M => call_val (c_over hn w M.laid (M.there (.cons_cons _ (.cons_cons _ (List.nil_sublist _))))) (congrArg Value.bool c0)) fun u1 M => rV 1 <| nT <| cT <| wp_skip <| au_then <| cT <| sq <| wp_ret <| au_block_ret <| au_then_ret ?_
  have e0 : (slF sd su ct lf nx mt n) = 180 := by unfold slF; rw [if_pos c0]
  exact bodyPost_ret (v := .int .i64 180) (results_tmp1 Tryz.results44 _ _ _ (by kernel_rfl)) (by kernel_rfl) ⟨by rw [e0], ro_T hT M⟩
 ·refine pC M 8 31 #[.pointer (some ⟨e, 0, none⟩), .int .u64 (n : Int)] (.bool false) (fun w M => call_val (c_over hn w M.laid (M.there (.cons_cons _ (.cons_cons _ (List.nil_sublist _))))) (congrArg Value.bool c0)) fun u1 M => rV 1 <| nT <| cF <| rg_lit <| rV 1 ?_
  by_cases c1 : (nx : Int) < (ct : Int)
  ·refine pC M 10 63 #[.pointer (some ⟨e, 0, none⟩)] (.bool false) (fun w M => call_val (c_spent w M.laid (M.there (.cons_cons _ (List.nil_sublist _)))) (congrArg Value.bool (decide_eq_false (by omega)))) fun u2 M => rV 1 <| nT <| cF <| sR <| rV 3 ?_
   rcases Bool.eq_false_or_eq_true (su) with c2 | c2
   ·refine pE M 15 e 10 (.bool true) (fun w M => M.cell 0 rfl (by decide) (congrArg Value.bool c2)) <| rV 2 <| nT <| cF <| wp_skip <| au_block <| au_then <| sq <| wp_ret ?_
    have e0 : (slF sd su ct lf nx mt n) = 0 := by unfold slF; rw [if_neg (Bool.eq_false_iff.1 c0), if_neg (by omega), if_pos c2]
    exact bodyPost_ret (v := .int .i64 0) (results_tmp1 Tryz.results44 _ _ _ (by kernel_rfl)) (by kernel_rfl) ⟨by rw [e0], ro_T hT M⟩
   ·refine pE M 15 e 10 (.bool false) (fun w M => M.cell 0 rfl (by decide) (congrArg Value.bool c2)) <| rV 2 <| nT <| cT <| sq <| wp_ret <| au_block_ret <| au_then_ret ?_
    have e0 : (slF sd su ct lf nx mt n) = 3 := by unfold slF; rw [if_neg (Bool.eq_false_iff.1 c0), if_neg (by omega), if_neg (Bool.eq_false_iff.1 c2)]
    exact bodyPost_ret (v := .int .i64 3) (results_tmp1 Tryz.results44 _ _ _ (by kernel_rfl)) (by kernel_rfl) ⟨by rw [e0], ro_T hT M⟩
  ·refine pC M 10 63 #[.pointer (some ⟨e, 0, none⟩)] (.bool true) (fun w M => call_val (c_spent w M.laid (M.there (.cons_cons _ (List.nil_sublist _)))) (congrArg Value.bool (decide_eq_true (by omega)))) fun u2 M => rV 1 <| nT <| cT <| sq <| wp_ret <| au_block_ret <| au_then_ret ?_
   have e0 : (slF sd su ct lf nx mt n) = 180 := by unfold slF; rw [if_neg (Bool.eq_false_iff.1 c0), if_pos (by omega)]
   exact bodyPost_ret (v := .int .i64 180) (results_tmp1 Tryz.results44 _ _ _ (by kernel_rfl)) (by kernel_rfl) ⟨by rw [e0], ro_T hT M⟩
theorem c_wants {e wd md : Nat} {rc ct rk lf sz nx mt : Nat} {sd rv : Yb} {fi su : Bool} {n : Nat} (hn : n < 18446744073709551616) (w : World) (hL : Laid w)  (hT : There w [⟨e, .cells (av 12 (ls [.pointer (some ⟨wd, 0, none⟩), .func (.func 49) #[] #[.pointer (some ⟨md, 0, none⟩)], .int .u64 (rc : Int), .int .u64 (ct : Int), .int .u64 (rk : Int), .int .u64 (lf : Int), .int .i64 (sz : Int), .string sd, .string rv, .bool (fi), .bool (su), .int .u64 (nx : Int)])) 89⟩, ⟨md, .cells (av 1 (ls [.int .u64 (mt : Int)])) 24⟩]) : Cs 33 #[.pointer (some ⟨e, 0, none⟩), .int .u64 (n : Int)] w (.bool (wnB sd fi rc rk lf nx mt n)) := by
 go_enter Tryz.func33, Tryz.ntmps33
 have M : Mem ⟨w, [e, md]⟩ [⟨e, .cells (av 12 (ls [.pointer (some ⟨wd, 0, none⟩), .func (.func 49) #[] #[.pointer (some ⟨md, 0, none⟩)], .int .u64 (rc : Int), .int .u64 (ct : Int), .int .u64 (rk : Int), .int .u64 (lf : Int), .int .i64 (sz : Int), .string sd, .string rv, .bool (fi), .bool (su), .int .u64 (nx : Int)])) 89⟩, ⟨md, .cells (av 1 (ls [.int .u64 (mt : Int)])) 24⟩] w := Mem.startT hL hT
 refine sq <| wp_seq <| rg_held M [⟨e, .cells (av 12 (ls [.pointer (some ⟨wd, 0, none⟩), .func (.func 49) #[] #[.pointer (some ⟨md, 0, none⟩)], .int .u64 (rc : Int), .int .u64 (ct : Int), .int .u64 (rk : Int), .int .u64 (lf : Int), .int .i64 (sz : Int), .string sd, .string rv, .bool (fi), .bool (su), .int .u64 (nx : Int)])) 89⟩, ⟨md, .cells (av 1 (ls [.int .u64 (mt : Int)])) 24⟩] 36 rfl (by kernel_rfl) (by kernel_rfl) (fun _ _ d _ _ h => by cases d <;> exact h) fun u1 M => ?_
 replace M : Mem ⟨w, [e, md]⟩ [⟨e, .cells (av 12 (ls [.pointer (some ⟨wd, 0, none⟩), .func (.func 49) #[] #[.pointer (some ⟨md, 0, none⟩)], .int .u64 (rc : Int), .int .u64 (ct : Int), .int .u64 (rk : Int), .int .u64 (lf : Int), .int .i64 (sz : Int), .string sd, .string rv, .bool (fi), .bool (su), .int .u64 (nx : Int)])) 89⟩, ⟨md, .cells (av 1 (ls [.int .u64 (mt : Int)])) 24⟩] u1 := M
 refine qV M 0 5 (.pointer (some ⟨e, 0, none⟩)) <| qV M 1 6 (.pointer (some ⟨e, 0, none⟩)) <| qV M 2 7 (.pointer (some ⟨e, 9, none⟩)) ?_
 rcases Bool.eq_false_or_eq_true (fi) with c0 | c0
 ·refine hl_cell M 3 rfl (by decide) (by kernel_rfl) (by kernel_rfl) (want_no rfl) (some 8) rfl 4 _ rfl e 9 (by kernel_rfl) (.bool true) (fun _ => by kernel_rfl) (fun w M => M.cell 0 rfl (by decide) (congrArg Value.bool c0)) <| qV M 4 9 (.bool true) <| hl_val M 5 rfl (by decide) (by kernel_rfl) (by kernel_rfl) (want_on 4 true rfl 9 rfl (by kernel_rfl)) (some 10) rfl (.pointer (some ⟨e, 0, none⟩)) (fun _ _ => by kernel_rfl) <| hl_val M 6 rfl (by decide) (by kernel_rfl) (by kernel_rfl) (want_on 4 true rfl 9 rfl (by kernel_rfl)) (some 11) rfl (.int .u64 (n : Int)) (fun _ _ => by kernel_rfl) <| hl_one 7 (by decide) (by kernel_rfl) rfl ?_
  rcases Bool.eq_false_or_eq_true (ovB sd lf mt n) with c1 | c1
  ·refine pl_call M (want_on 4 true rfl 9 rfl (by kernel_rfl)) (some 12) rfl 31 #[.pointer (some ⟨e, 0, none⟩), .int .u64 (n : Int)] (.bool true) (fun _ => by kernel_rfl) (fun w M => call_val (c_over hn w M.laid (M.there (.cons_cons _ (.cons_cons _ (List.nil_sublist _))))) (congrArg Value.bool c1)) fun u2 M => nT ?_
   refine ⟨M, ?_⟩
   refine hl_val M 8 rfl (by decide) (by kernel_rfl) (by kernel_rfl) (want_on 4 true rfl 9 rfl (by kernel_rfl)) (some 13) rfl (.bool false) (fun _ _ => by kernel_rfl) <| qV M 9 14 (.bool false) <| qV M 10 15 (.bool false) <| hl_skip M 11 rfl (by decide) (by kernel_rfl) (by kernel_rfl) (want_off 10 true rfl 15 rfl (by kernel_rfl)) (some 16) rfl <| hl_skip M 12 rfl (by decide) (by kernel_rfl) (by kernel_rfl) (want_off 10 true rfl 15 rfl (by kernel_rfl)) (some 17) rfl <| hl_skip M 13 rfl (by decide) (by kernel_rfl) (by kernel_rfl) (want_off 10 true rfl 15 rfl (by kernel_rfl)) (some 18) rfl <| hl_skip M 14 rfl (by decide) (by kernel_rfl) (by kernel_rfl) (want_off 10 true rfl 15 rfl (by kernel_rfl)) (some 19) rfl <| hl_skip M 15 rfl (by decide) (by kernel_rfl) (by kernel_rfl) (want_off 10 true rfl 15 rfl (by kernel_rfl)) (some 20) rfl <| hl_skip M 16 rfl (by decide) (by kernel_rfl) (by kernel_rfl) (want_off 10 true rfl 15 rfl (by kernel_rfl)) (some 21) rfl <| hl_skip M 17 rfl (by decide) (by kernel_rfl) (by kernel_rfl) (want_off 10 true rfl 15 rfl (by kernel_rfl)) (some 22) rfl <| hl_skip M 18 rfl (by decide) (by kernel_rfl) (by kernel_rfl) (want_off 10 true rfl 15 rfl (by kernel_rfl)) (some 23) rfl <| hl_skip M 19 rfl (by decide) (by kernel_rfl) (by kernel_rfl) (want_off 10 true rfl 15 rfl (by kernel_rfl)) (some 24) rfl <| hl_skip M 20 rfl (by decide) (by kernel_rfl) (by kernel_rfl) (want_off 10 true rfl 15 rfl (by kernel_rfl)) (some 25) rfl <| hl_skip M 21 rfl (by decide) (by kernel_rfl) (by kernel_rfl) (want_off 10 true rfl 15 rfl (by kernel_rfl)) (some 26) rfl <| hl_skip M 22 rfl (by decide) (by kernel_rfl) (by kernel_rfl) (want_und 21 false rfl 26 rfl (by kernel_rfl)) (some 27) rfl <| hl_skip M 23 rfl (by decide) (by kernel_rfl) (by kernel_rfl) (want_und 21 false rfl 26 rfl (by kernel_rfl)) (some 28) rfl ?_
   refine hl_skip M 24 rfl (by decide) (by kernel_rfl) (by kernel_rfl) (want_und 21 false rfl 26 rfl (by kernel_rfl)) (some 29) rfl <| hl_skip M 25 rfl (by decide) (by kernel_rfl) (by kernel_rfl) (want_und 21 false rfl 26 rfl (by kernel_rfl)) (some 30) rfl <| hl_skip M 26 rfl (by decide) (by kernel_rfl) (by kernel_rfl) (want_und 21 false rfl 26 rfl (by kernel_rfl)) (some 31) rfl <| hl_skip M 27 rfl (by decide) (by kernel_rfl) (by kernel_rfl) (want_und 21 false rfl 26 rfl (by kernel_rfl)) (some 32) rfl <| hl_skip M 28 rfl (by decide) (by kernel_rfl) (by kernel_rfl) (want_und 21 false rfl 26 rfl (by kernel_rfl)) (some 33) rfl <| hl_skip M 29 rfl (by decide) (by kernel_rfl) (by kernel_rfl) (want_und 21 false rfl 26 rfl (by kernel_rfl)) (some 34) rfl <| hl_skip M 30 rfl (by decide) (by kernel_rfl) (by kernel_rfl) (want_und 21 false rfl 26 rfl (by kernel_rfl)) (some 35) rfl <| hl_skip M 31 rfl (by decide) (by kernel_rfl) (by kernel_rfl) (want_und 21 false rfl 26 rfl (by kernel_rfl)) (some 36) rfl <| hl_skip M 32 rfl (by decide) (by kernel_rfl) (by kernel_rfl) (want_und 21 false rfl 26 rfl (by kernel_rfl)) (some 37) rfl <| hl_skip M 33 rfl (by decide) (by kernel_rfl) (by kernel_rfl) (want_und 21 false rfl 26 rfl (by kernel_rfl)) (some 38) rfl <| hl_skip M 34 rfl (by decide) (by kernel_rfl) (by kernel_rfl) (want_off 10 true rfl 15 rfl (by kernel_rfl)) (some 39) rfl <| qV M 35 40 (.bool false) <| hl_end (by kernel_rfl) (by kernel_rfl) rfl <| rV 1 <| nT <| au_then ?_
   refine wp_ret ?_
   have e0 : wnB sd fi rc rk lf nx mt n = false := by unfold wnB; simp only [c0, c1, Bool.false_and, Bool.true_and, Bool.not_true, Bool.not_false]
   exact bodyPost_ret (v := .bool false) (results_tmp1 Tryz.results33 _ _ _ (by kernel_rfl)) (by kernel_rfl) ⟨by rw [e0], ro_T hT M⟩
  ·refine pl_call M (want_on 4 true rfl 9 rfl (by kernel_rfl)) (some 12) rfl 31 #[.pointer (some ⟨e, 0, none⟩), .int .u64 (n : Int)] (.bool false) (fun _ => by kernel_rfl) (fun w M => call_val (c_over hn w M.laid (M.there (.cons_cons _ (.cons_cons _ (List.nil_sublist _))))) (congrArg Value.bool c1)) fun u2 M => nT ?_
   refine ⟨M, ?_⟩
   refine hl_val M 8 rfl (by decide) (by kernel_rfl) (by kernel_rfl) (want_on 4 true rfl 9 rfl (by kernel_rfl)) (some 13) rfl (.bool true) (fun _ _ => by kernel_rfl) <| qV M 9 14 (.bool true) <| qV M 10 15 (.bool true) <| hl_val M 11 rfl (by decide) (by kernel_rfl) (by kernel_rfl) (want_on 10 true rfl 15 rfl (by kernel_rfl)) (some 16) rfl (.pointer (some ⟨e, 0, none⟩)) (fun _ _ => by kernel_rfl) <| hl_val M 12 rfl (by decide) (by kernel_rfl) (by kernel_rfl) (want_on 10 true rfl 15 rfl (by kernel_rfl)) (some 17) rfl (.pointer (some ⟨e, 0, none⟩)) (fun _ _ => by kernel_rfl) <| hl_val M 13 rfl (by decide) (by kernel_rfl) (by kernel_rfl) (want_on 10 true rfl 15 rfl (by kernel_rfl)) (some 18) rfl (.pointer (some ⟨e, 11, none⟩)) (fun _ _ => by kernel_rfl) <| hl_cell M 14 rfl (by decide) (by kernel_rfl) (by kernel_rfl) (want_on 10 true rfl 15 rfl (by kernel_rfl)) (some 19) rfl 24 _ rfl e 11 (by kernel_rfl) (.int .u64 (nx : Int)) (fun _ => by kernel_rfl) (fun w M => M.cell 0 rfl (by decide) rfl) <| hl_val M 15 rfl (by decide) (by kernel_rfl) (by kernel_rfl) (want_on 10 true rfl 15 rfl (by kernel_rfl)) (some 20) rfl (.pointer (some ⟨e, 0, none⟩)) (fun _ _ => by kernel_rfl) <| hl_val M 16 rfl (by decide) (by kernel_rfl) (by kernel_rfl) (want_on 10 true rfl 15 rfl (by kernel_rfl)) (some 21) rfl (.pointer (some ⟨e, 0, none⟩)) (fun _ _ => by kernel_rfl) <| hl_val M 17 rfl (by decide) (by kernel_rfl) (by kernel_rfl) (want_on 10 true rfl 15 rfl (by kernel_rfl)) (some 22) rfl (.pointer (some ⟨e, 2, none⟩)) (fun _ _ => by kernel_rfl) <| hl_val M 18 rfl (by decide) (by kernel_rfl) (by kernel_rfl) (want_on 10 true rfl 15 rfl (by kernel_rfl)) (some 23) rfl (.pointer (some ⟨e, 2, none⟩)) (fun _ _ => by kernel_rfl) <| hl_cell M 19 rfl (by decide) (by kernel_rfl) (by kernel_rfl) (want_on 10 true rfl 15 rfl (by kernel_rfl)) (some 24) rfl 24 _ rfl e 2 (by kernel_rfl) (.int .u64 (rc : Int)) (fun _ => by kernel_rfl) (fun w M => M.cell 0 rfl (by decide) rfl) ?_
   by_cases c2 : (nx : Int) < (rc : Int)
   ·refine hl_val M 20 rfl (by decide) (by kernel_rfl) (by kernel_rfl) (want_on 10 true rfl 15 rfl (by kernel_rfl)) (some 25) rfl (.bool false) (fun w _ => (fun w => Eq.trans (b := .ok (.value (.bool (decide ((rc : Int) ≤ (nx : Int))))) w) (by kernel_rfl) (by rw [decide_eq_false (by omega)])) w) <| hl_val M 21 rfl (by decide) (by kernel_rfl) (by kernel_rfl) (want_on 10 true rfl 15 rfl (by kernel_rfl)) (some 26) rfl (.bool false) (fun _ _ => by kernel_rfl) <| hl_val M 22 rfl (by decide) (by kernel_rfl) (by kernel_rfl) (want_on 21 false rfl 26 rfl (by kernel_rfl)) (some 27) rfl (.pointer (some ⟨e, 0, none⟩)) (fun _ _ => by kernel_rfl) <| hl_val M 23 rfl (by decide) (by kernel_rfl) (by kernel_rfl) (want_on 21 false rfl 26 rfl (by kernel_rfl)) (some 28) rfl (.pointer (some ⟨e, 0, none⟩)) (fun _ _ => by kernel_rfl) <| hl_val M 24 rfl (by decide) (by kernel_rfl) (by kernel_rfl) (want_on 21 false rfl 26 rfl (by kernel_rfl)) (some 29) rfl (.pointer (some ⟨e, 1, none⟩)) (fun _ _ => by kernel_rfl) <| hl_cell M 25 rfl (by decide) (by kernel_rfl) (by kernel_rfl) (want_on 21 false rfl 26 rfl (by kernel_rfl)) (some 30) rfl 86 _ rfl e 1 (by kernel_rfl) (.func (.func 49) #[] #[.pointer (some ⟨md, 0, none⟩)]) (fun _ => by kernel_rfl) (fun w M => M.cell 0 rfl (by decide) rfl) <| hl_val M 26 rfl (by decide) (by kernel_rfl) (by kernel_rfl) (want_on 21 false rfl 26 rfl (by kernel_rfl)) (some 31) rfl (.int .u64 (n : Int)) (fun _ _ => by kernel_rfl) <| hl_val M 28 rfl (by decide) (by kernel_rfl) (by kernel_rfl) (want_on 21 false rfl 26 rfl (by kernel_rfl)) (some 33) rfl (.pointer (some ⟨e, 0, none⟩)) (fun _ _ => by kernel_rfl) <| hl_val M 29 rfl (by decide) (by kernel_rfl) (by kernel_rfl) (want_on 21 false rfl 26 rfl (by kernel_rfl)) (some 34) rfl (.pointer (some ⟨e, 0, none⟩)) (fun _ _ => by kernel_rfl) <| hl_val M 30 rfl (by decide) (by kernel_rfl) (by kernel_rfl) (want_on 21 false rfl 26 rfl (by kernel_rfl)) (some 35) rfl (.pointer (some ⟨e, 2, none⟩)) (fun _ _ => by kernel_rfl) <| hl_val M 31 rfl (by decide) (by kernel_rfl) (by kernel_rfl) (want_on 21 false rfl 26 rfl (by kernel_rfl)) (some 36) rfl (.pointer (some ⟨e, 4, none⟩)) (fun _ _ => by kernel_rfl) <| hl_cell M 32 rfl (by decide) (by kernel_rfl) (by kernel_rfl) (want_on 21 false rfl 26 rfl (by kernel_rfl)) (some 37) rfl 24 _ rfl e 4 (by kernel_rfl) (.int .u64 (rk : Int)) (fun _ => by kernel_rfl) (fun w M => M.cell 0 rfl (by decide) rfl) <| hl_one 27 (by decide) (by kernel_rfl) rfl <| pl_call M (want_on 21 false rfl 26 rfl (by kernel_rfl)) (some 32) rfl 49 #[.int .u64 (n : Int), .pointer (some ⟨md, 0, none⟩)] (.int .u64 ((n - mt : Nat) : Int)) (fun _ => by kernel_rfl) (fun w M => c_age hn w M.laid (M.there (.cons _ (.cons_cons _ (List.nil_sublist _))))) fun u3 M => nT ?_
    refine ⟨M, ?_⟩
    by_cases c3 : ((n - mt : Nat) : Int) < (rk : Int)
    ·refine hl_val M 33 rfl (by decide) (by kernel_rfl) (by kernel_rfl) (want_on 21 false rfl 26 rfl (by kernel_rfl)) (some 38) rfl (.bool false) (fun w _ => (fun w => Eq.trans (b := .ok (.value (.bool (decide ((rk : Int) ≤ ((n - mt : Nat) : Int))))) w) (by kernel_rfl) (by rw [decide_eq_false (by omega)])) w) <| hl_val M 34 rfl (by decide) (by kernel_rfl) (by kernel_rfl) (want_on 10 true rfl 15 rfl (by kernel_rfl)) (some 39) rfl (.bool false) (fun _ _ => by kernel_rfl) <| qV M 35 40 (.bool false) <| hl_end (by kernel_rfl) (by kernel_rfl) rfl <| rV 1 <| nT <| au_then <| wp_ret ?_
     have e0 : wnB sd fi rc rk lf nx mt n = false := by unfold wnB; simp only [c0, c1, Bool.false_and, Bool.true_and, Bool.not_true, Bool.not_false]; exact decide_eq_false (by omega)
     exact bodyPost_ret (v := .bool false) (results_tmp1 Tryz.results33 _ _ _ (by kernel_rfl)) (by kernel_rfl) ⟨by rw [e0], ro_T hT M⟩
    ·refine hl_val M 33 rfl (by decide) (by kernel_rfl) (by kernel_rfl) (want_on 21 false rfl 26 rfl (by kernel_rfl)) (some 38) rfl (.bool true) (fun w _ => (fun w => Eq.trans (b := .ok (.value (.bool (decide ((rk : Int) ≤ ((n - mt : Nat) : Int))))) w) (by kernel_rfl) (by rw [decide_eq_true (by omega)])) w) <| hl_val M 34 rfl (by decide) (by kernel_rfl) (by kernel_rfl) (want_on 10 true rfl 15 rfl (by kernel_rfl)) (some 39) rfl (.bool true) (fun _ _ => by kernel_rfl) <| qV M 35 40 (.bool true) <| hl_end (by kernel_rfl) (by kernel_rfl) rfl <| rV 1 <| nT <| au_then <| wp_ret ?_
     have e0 : wnB sd fi rc rk lf nx mt n = true := by unfold wnB; simp only [c0, c1, Bool.false_and, Bool.true_and, Bool.not_true, Bool.not_false]; exact decide_eq_true (by omega)
     exact bodyPost_ret (v := .bool true) (results_tmp1 Tryz.results33 _ _ _ (by kernel_rfl)) (by kernel_rfl) ⟨by rw [e0], ro_T hT M⟩
   ·refine hl_val M 20 rfl (by decide) (by kernel_rfl) (by kernel_rfl) (want_on 10 true rfl 15 rfl (by kernel_rfl)) (some 25) rfl (.bool true) (fun w _ => (fun w => Eq.trans (b := .ok (.value (.bool (decide ((rc : Int) ≤ (nx : Int))))) w) (by kernel_rfl) (by rw [decide_eq_true (by omega)])) w) <| hl_val M 21 rfl (by decide) (by kernel_rfl) (by kernel_rfl) (want_on 10 true rfl 15 rfl (by kernel_rfl)) (some 26) rfl (.bool true) (fun _ _ => by kernel_rfl) <| hl_skip M 22 rfl (by decide) (by kernel_rfl) (by kernel_rfl) (want_off 21 false rfl 26 rfl (by kernel_rfl)) (some 27) rfl <| hl_skip M 23 rfl (by decide) (by kernel_rfl) (by kernel_rfl) (want_off 21 false rfl 26 rfl (by kernel_rfl)) (some 28) rfl <| hl_skip M 24 rfl (by decide) (by kernel_rfl) (by kernel_rfl) (want_off 21 false rfl 26 rfl (by kernel_rfl)) (some 29) rfl <| hl_skip M 25 rfl (by decide) (by kernel_rfl) (by kernel_rfl) (want_off 21 false rfl 26 rfl (by kernel_rfl)) (some 30) rfl <| hl_skip M 26 rfl (by decide) (by kernel_rfl) (by kernel_rfl) (want_off 21 false rfl 26 rfl (by kernel_rfl)) (some 31) rfl <| hl_skip M 27 rfl (by decide) (by kernel_rfl) (by kernel_rfl) (want_off 21 false rfl 26 rfl (by kernel_rfl)) (some 32) rfl <| hl_skip M 28 rfl (by decide) (by kernel_rfl) (by kernel_rfl) (want_off 21 false rfl 26 rfl (by kernel_rfl)) (some 33) rfl <| hl_skip M 29 rfl (by decide) (by kernel_rfl) (by kernel_rfl) (want_off 21 false rfl 26 rfl (by kernel_rfl)) (some 34) rfl <| hl_skip M 30 rfl (by decide) (by kernel_rfl) (by kernel_rfl) (want_off 21 false rfl 26 rfl (by kernel_rfl)) (some 35) rfl <| hl_skip M 31 rfl (by decide) (by kernel_rfl) (by kernel_rfl) (want_off 21 false rfl 26 rfl (by kernel_rfl)) (some 36) rfl <| hl_skip M 32 rfl (by decide) (by kernel_rfl) (by kernel_rfl) (want_off 21 false rfl 26 rfl (by kernel_rfl)) (some 37) rfl <| hl_skip M 33 rfl (by decide) (by kernel_rfl) (by kernel_rfl) (want_off 21 false rfl 26 rfl (by kernel_rfl)) (some 38) rfl <| hl_val M 34 rfl (by decide) (by kernel_rfl) (by kernel_rfl) (want_on 10 true rfl 15 rfl (by kernel_rfl)) (some 39) rfl (.bool true) (fun _ _ => by kernel_rfl) <| qV M 35 40 (.bool true) ?_
    refine hl_end (by kernel_rfl) (by kernel_rfl) rfl <| rV 1 <| nT <| au_then <| wp_ret ?_
    have e0 : wnB sd fi rc rk lf nx mt n = true := by unfold wnB; simp only [c0, c1, Bool.false_and, Bool.true_and, Bool.not_true, Bool.not_false]; exact decide_eq_true (by omega)
    exact bodyPost_ret (v := .bool true) (results_tmp1 Tryz.results33 _ _ _ (by kernel_rfl)) (by kernel_rfl) ⟨by rw [e0], ro_T hT M⟩
 ·refine hl_cell M 3 rfl (by decide) (by kernel_rfl) (by kernel_rfl) (want_no rfl) (some 8) rfl 4 _ rfl e 9 (by kernel_rfl) (.bool false) (fun _ => by kernel_rfl) (fun w M => M.cell 0 rfl (by decide) (congrArg Value.bool c0)) <| qV M 4 9 (.bool false) <| hl_skip M 5 rfl (by decide) (by kernel_rfl) (by kernel_rfl) (want_off 4 true rfl 9 rfl (by kernel_rfl)) (some 10) rfl <| hl_skip M 6 rfl (by decide) (by kernel_rfl) (by kernel_rfl) (want_off 4 true rfl 9 rfl (by kernel_rfl)) (some 11) rfl <| hl_skip M 7 rfl (by decide) (by kernel_rfl) (by kernel_rfl) (want_off 4 true rfl 9 rfl (by kernel_rfl)) (some 12) rfl <| hl_skip M 8 rfl (by decide) (by kernel_rfl) (by kernel_rfl) (want_off 4 true rfl 9 rfl (by kernel_rfl)) (some 13) rfl <| qV M 9 14 (.bool false) <| qV M 10 15 (.bool false) <| hl_skip M 11 rfl (by decide) (by kernel_rfl) (by kernel_rfl) (want_off 10 true rfl 15 rfl (by kernel_rfl)) (some 16) rfl <| hl_skip M 12 rfl (by decide) (by kernel_rfl) (by kernel_rfl) (want_off 10 true rfl 15 rfl (by kernel_rfl)) (some 17) rfl <| hl_skip M 13 rfl (by decide) (by kernel_rfl) (by kernel_rfl) (want_off 10 true rfl 15 rfl (by kernel_rfl)) (some 18) rfl <| hl_skip M 14 rfl (by decide) (by kernel_rfl) (by kernel_rfl) (want_off 10 true rfl 15 rfl (by kernel_rfl)) (some 19) rfl <| hl_skip M 15 rfl (by decide) (by kernel_rfl) (by kernel_rfl) (want_off 10 true rfl 15 rfl (by kernel_rfl)) (some 20) rfl <| hl_skip M 16 rfl (by decide) (by kernel_rfl) (by kernel_rfl) (want_off 10 true rfl 15 rfl (by kernel_rfl)) (some 21) rfl <| hl_skip M 17 rfl (by decide) (by kernel_rfl) (by kernel_rfl) (want_off 10 true rfl 15 rfl (by kernel_rfl)) (some 22) rfl <| hl_skip M 18 rfl (by decide) (by kernel_rfl) (by kernel_rfl) (want_off 10 true rfl 15 rfl (by kernel_rfl)) (some 23) rfl ?_
  refine hl_skip M 19 rfl (by decide) (by kernel_rfl) (by kernel_rfl) (want_off 10 true rfl 15 rfl (by kernel_rfl)) (some 24) rfl <| hl_skip M 20 rfl (by decide) (by kernel_rfl) (by kernel_rfl) (want_off 10 true rfl 15 rfl (by kernel_rfl)) (some 25) rfl <| hl_skip M 21 rfl (by decide) (by kernel_rfl) (by kernel_rfl) (want_off 10 true rfl 15 rfl (by kernel_rfl)) (some 26) rfl <| hl_skip M 22 rfl (by decide) (by kernel_rfl) (by kernel_rfl) (want_und 21 false rfl 26 rfl (by kernel_rfl)) (some 27) rfl <| hl_skip M 23 rfl (by decide) (by kernel_rfl) (by kernel_rfl) (want_und 21 false rfl 26 rfl (by kernel_rfl)) (some 28) rfl <| hl_skip M 24 rfl (by decide) (by kernel_rfl) (by kernel_rfl) (want_und 21 false rfl 26 rfl (by kernel_rfl)) (some 29) rfl <| hl_skip M 25 rfl (by decide) (by kernel_rfl) (by kernel_rfl) (want_und 21 false rfl 26 rfl (by kernel_rfl)) (some 30) rfl <| hl_skip M 26 rfl (by decide) (by kernel_rfl) (by kernel_rfl) (want_und 21 false rfl 26 rfl (by kernel_rfl)) (some 31) rfl <| hl_skip M 27 rfl (by decide) (by kernel_rfl) (by kernel_rfl) (want_und 21 false rfl 26 rfl (by kernel_rfl)) (some 32) rfl <| hl_skip M 28 rfl (by decide) (by kernel_rfl) (by kernel_rfl) (want_und 21 false rfl 26 rfl (by kernel_rfl)) (some 33) rfl <| hl_skip M 29 rfl (by decide) (by kernel_rfl) (by kernel_rfl) (want_und 21 false rfl 26 rfl (by kernel_rfl)) (some 34) rfl <| hl_skip M 30 rfl (by decide) (by kernel_rfl) (by kernel_rfl) (want_und 21 false rfl 26 rfl (by kernel_rfl)) (some 35) rfl <| hl_skip M 31 rfl (by decide) (by kernel_rfl) (by kernel_rfl) (want_und 21 false rfl 26 rfl (by kernel_rfl)) (some 36) rfl <| hl_skip M 32 rfl (by decide) (by kernel_rfl) (by kernel_rfl) (want_und 21 false rfl 26 rfl (by kernel_rfl)) (some 37) rfl <| hl_skip M 33 rfl (by decide) (by kernel_rfl) (by kernel_rfl) (want_und 21 false rfl 26 rfl (by kernel_rfl)) (some 38) rfl <| hl_skip M 34 rfl (by decide) (by kernel_rfl) (by kernel_rfl) (want_off 10 true rfl 15 rfl (by kernel_rfl)) (some 39) rfl ?_
  refine qV M 35 40 (.bool false) <| hl_end (by kernel_rfl) (by kernel_rfl) rfl <| rV 1 <| nT <| au_then <| wp_ret ?_
  have e0 : wnB sd fi rc rk lf nx mt n = false := by unfold wnB; simp only [c0, Bool.false_and, Bool.true_and, Bool.not_true, Bool.not_false]
  exact bodyPost_ret (v := .bool false) (results_tmp1 Tryz.results33 _ _ _ (by kernel_rfl)) (by kernel_rfl) ⟨by rw [e0], ro_T hT M⟩
open Go.RowKit
theorem wrapU_suc (a : Nat) (h : a + 1 < 18446744073709551616) : IntKind.wrap .u64 ((a : Int) + 1) = ((a + 1 : Nat) : Int) := by
 rw [IntKind.wrap_u64]
 omega
def slZ (sd : Yb) (nx : Nat) (s : Yb) : Int := sf sd (nS (nx : Int)) ⟨#[]⟩ s 0
def slN (sd : Yb) (nx : Nat) (s : Yb) : Nat := if slZ sd nx s = 0 then nx else 0
def slC (sd : Yb) (nx : Nat) (s : Yb) : ByteArray := if slZ sd nx s = 0 then sealS sd (nS (nx : Int)) ⟨#[]⟩ s else ⟨#[]⟩
def slX (sd : Yb) (nx : Nat) (s : Yb) : Nat := if slZ sd nx s = 0 then nx + 1 else nx
def opZ (rv : Yb) (i : Nat) (c : Yb) : Int := if sf rv (nS (i : Int)) ⟨#[]⟩ c 16 = 0 then (if tgX rv (nS (i : Int)) ⟨#[]⟩ c = c.extract (c.size - 16) c.size then 0 else 100) else sf rv (nS (i : Int)) ⟨#[]⟩ c 16
def opC (rv : Yb) (i : Nat) (c : Yb) : ByteArray := if opZ rv i c = 0 then opS rv (nS (i : Int)) c else ⟨#[]⟩
def opU (su : Bool) (rv : Yb) (i : Nat) (c : Yb) : Bool := if opZ rv i c = 0 then true else su
def opQ (sz : Nat) (q : List Nat) (rv : Yb) (i : Nat) (c : Yb) : List Nat := if opZ rv i c = 0 then mk sz q i else q
def opF (sd : Yb) (ct lf sz mt : Nat) (q : List Nat) (n i : Nat) : Int := if ovB sd lf mt n = true then 180 else if ct ≤ i then 180 else my sz q i
theorem c_ASeal (sd : Yb) (nx : Nat) (s : Yb) (w : World) (hL : Laid w) : Cs 64 #[.string sd, .string (nS (nx : Int)), .string ⟨#[]⟩, .string s] w (.tuple #[.string (slC sd nx s), .int .i64 (slZ sd nx s)]) := by
 by_cases h : slZ sd nx s = 0
 ·unfold slC
  rw [if_pos h, h]
  exact c_SealA _ _ _ _ h w hL
 ·unfold slC
  rw [if_neg h]
  exact c_SealB _ _ _ _ h w hL
theorem c_AOpen (rv : Yb) (i : Nat) (c : Yb) (w : World) (hL : Laid w) : Cs 67 #[.string rv, .string (nS (i : Int)), .string ⟨#[]⟩, .string c] w (.tuple #[.string (opC rv i c), .int .i64 (opZ rv i c)]) := by
 unfold opC
 by_cases h : sf rv (nS (i : Int)) ⟨#[]⟩ c 16 = 0
 ·by_cases h2 : tgX rv (nS (i : Int)) ⟨#[]⟩ c = c.extract (c.size - 16) c.size
  ·have e : opZ rv i c = 0 := by unfold opZ; rw [if_pos h, if_pos h2]
   rw [if_pos e, e]
   exact c_OpenA _ _ _ _ h h2 w hL
  ·have e : opZ rv i c = 100 := by unfold opZ; rw [if_pos h, if_neg h2]
   rw [if_neg (by rw [e]; decide), e]
   exact c_OpenB _ _ _ _ h h2 w hL
 ·have e : opZ rv i c = sf rv (nS (i : Int)) ⟨#[]⟩ c 16 := by unfold opZ; rw [if_neg h]
  rw [if_neg (by rw [e]; exact h), e]
  exact c_OpenC _ _ _ _ h w hL
theorem c_seal {e wd md : Nat} {rc ct rk lf sz nx : Nat} {sd rv : Yb} {fi su : Bool} {s : Yb} (hx : nx + 1 < 18446744073709551616) (w : World) (hL : Laid w)  (hT : There w [⟨e, .cells (av 12 (ls [.pointer (some ⟨wd, 0, none⟩), .func (.func 49) #[] #[.pointer (some ⟨md, 0, none⟩)], .int .u64 (rc : Int), .int .u64 (ct : Int), .int .u64 (rk : Int), .int .u64 (lf : Int), .int .i64 (sz : Int), .string sd, .string rv, .bool (fi), .bool (su), .int .u64 (nx : Int)])) 89⟩]) : Calls Tryz.prog 45 #[.pointer (some ⟨e, 0, none⟩), .string s] w fun r w' => r = .returned (.tuple #[.int .u64 ((slN sd nx s : Nat) : Int), .string (slC sd nx s), .int .i64 (slZ sd nx s)]) ∧ Grw w w' [e] ∧ w'.heap[e]? = some (.cells (av 12 (ls [.pointer (some ⟨wd, 0, none⟩), .func (.func 49) #[] #[.pointer (some ⟨md, 0, none⟩)], .int .u64 (rc : Int), .int .u64 (ct : Int), .int .u64 (rk : Int), .int .u64 (lf : Int), .int .i64 (sz : Int), .string sd, .string rv, .bool (fi), .bool (su), .int .u64 ((slX sd nx s : Nat) : Int)])) 89) := by
 go_enter Tryz.func45, Tryz.ntmps45
 have M : Mem ⟨w, [e]⟩ [⟨e, .cells (av 12 (ls [.pointer (some ⟨wd, 0, none⟩), .func (.func 49) #[] #[.pointer (some ⟨md, 0, none⟩)], .int .u64 (rc : Int), .int .u64 (ct : Int), .int .u64 (rk : Int), .int .u64 (lf : Int), .int .i64 (sz : Int), .string sd, .string rv, .bool (fi), .bool (su), .int .u64 (nx : Int)])) 89⟩] w := Mem.startT hL hT
 refine sq <| sR <| rV 3 <| ZE M 13 0 11 <| rV 1 <| nT <| wp_seq <| rg_held M [⟨e, .cells (av 12 (ls [.pointer (some ⟨wd, 0, none⟩), .func (.func 49) #[] #[.pointer (some ⟨md, 0, none⟩)], .int .u64 (rc : Int), .int .u64 (ct : Int), .int .u64 (rk : Int), .int .u64 (lf : Int), .int .i64 (sz : Int), .string sd, .string rv, .bool (fi), .bool (su), .int .u64 (nx : Int)])) 89⟩] 12 rfl (by kernel_rfl) (by kernel_rfl) (fun _ _ d _ _ h => by cases d <;> exact h) fun u1 M => ?_
 replace M : Mem ⟨w, [e]⟩ [⟨e, .cells (av 12 (ls [.pointer (some ⟨wd, 0, none⟩), .func (.func 49) #[] #[.pointer (some ⟨md, 0, none⟩)], .int .u64 (rc : Int), .int .u64 (ct : Int), .int .u64 (rk : Int), .int .u64 (lf : Int), .int .i64 (sz : Int), .string sd, .string rv, .bool (fi), .bool (su), .int .u64 (nx : Int)])) 89⟩] u1 := M
 refine qV M 0 15 (.pointer (some ⟨e, 0, none⟩)) <| qV M 1 16 (.pointer (some ⟨e, 0, none⟩)) <| qV M 2 17 (.pointer (some ⟨e, 7, none⟩)) <| hl_cell M 3 rfl (by decide) (by kernel_rfl) (by kernel_rfl) (want_no rfl) (some 18) rfl 9 _ rfl e 7 (by kernel_rfl) (.string sd) (fun _ => by kernel_rfl) (fun w M => M.cell 0 rfl (by decide) rfl) <| qV M 4 19 (.int .u64 (nx : Int)) <| qV M 6 21 (.string s) <| hl_one 5 (by decide) (by kernel_rfl) rfl <| ZC M 20 (fun w M => c_Nonce (nx : Int) w M.laid) fun u2 M => nT ?_
 refine ⟨M, ?_⟩
 refine hl_one 7 (by decide) (by kernel_rfl) rfl <| ZC M 22 (fun w M => c_ASeal sd nx s w M.laid) fun u3 M => nT ?_
 refine ⟨M, ?_⟩
 refine qV M 8 14 (.tuple #[.string (slC sd nx s), .int .i64 (slZ sd nx s)]) <| qV M 9 23 (.string (slC sd nx s)) <| qV M 10 24 (.int .i64 (slZ sd nx s)) <| qV M 11 8 (.string (slC sd nx s)) <| hl_end (by kernel_rfl) (by kernel_rfl) rfl <| rV 1 <| nT <| au_then <| wp_seq <| sR <| rV 1 ?_
 by_cases c0 : (slZ sd nx s) = 0
 ·refine pH 26 (.bool false) (jD ((slZ sd nx s) = 0) (c0)) <| nT <| cF <| wp_skip <| au_then <| sR <| rV 3 <| ZE M 31 0 11 <| pH 32 (.int .u64 ((nx + 1 : Nat) : Int)) (fun w => Eq.trans (b := .ok (.value (.int .u64 (IntKind.wrap .u64 (((nx : Nat) : Int) + 1)))) w) (by kernel_rfl) (by rw [wrapU_suc nx (by omega)])) <| rV 2 <| pP M 0 rfl 11 (.int .u64 ((nx + 1 : Nat) : Int)) (ls [.pointer (some ⟨wd, 0, none⟩), .func (.func 49) #[] #[.pointer (some ⟨md, 0, none⟩)], .int .u64 (rc : Int), .int .u64 (ct : Int), .int .u64 (rk : Int), .int .u64 (lf : Int), .int .i64 (sz : Int), .string sd, .string rv, .bool (fi), .bool (su), .int .u64 ((nx + 1 : Nat) : Int)]) (by decide) (put_ls _ 11 _ _ rfl) fun u4 M => ?_
  replace M : Mem ⟨w, [e]⟩ [⟨e, .cells (av 12 (ls [.pointer (some ⟨wd, 0, none⟩), .func (.func 49) #[] #[.pointer (some ⟨md, 0, none⟩)], .int .u64 (rc : Int), .int .u64 (ct : Int), .int .u64 (rk : Int), .int .u64 (lf : Int), .int .i64 (sz : Int), .string sd, .string rv, .bool (fi), .bool (su), .int .u64 ((nx + 1 : Nat) : Int)])) 89⟩] u4 := M
  refine nT <| sq <| wp_ret ?_
  have e0 : slN sd nx s = nx := by unfold slN; rw [if_pos c0]
  have e1 : slX sd nx s = nx + 1 := by unfold slX; rw [if_pos c0]
  have e2 : slC sd nx s = sealS sd (nS (nx : Int)) ⟨#[]⟩ s := by unfold slC; rw [if_pos c0]
  exact bodyPost_ret (v := .tuple #[.int .u64 (nx : Int), .string (slC sd nx s), .int .i64 0]) (results_t3 Tryz.results45 _ _ _ _ _ (by kernel_rfl) (by kernel_rfl) (by kernel_rfl)) (by kernel_rfl) ⟨by rw [e0, c0], M.old, by rw [e1]; exact M.get 0 rfl⟩
 ·refine pH 26 (.bool true) (jU ((slZ sd nx s) = 0) (c0)) <| nT <| cT <| sq <| wp_ret <| au_then_ret ?_
  have e0 : slN sd nx s = 0 := by unfold slN; rw [if_neg c0]
  have e1 : slX sd nx s = nx := by unfold slX; rw [if_neg c0]
  have e2 : slC sd nx s = ⟨#[]⟩ := by unfold slC; rw [if_neg c0]
  exact bodyPost_ret (v := .tuple #[.int .u64 0, .string ⟨#[]⟩, .int .i64 (slZ sd nx s)]) (results_t3 Tryz.results45 _ _ _ _ _ (by kernel_rfl) (by kernel_rfl) (by kernel_rfl)) (by kernel_rfl) ⟨by rw [e0, e2]; rfl, M.old, by rw [e1]; exact M.get 0 rfl⟩
theorem c_openFault {e wd k md : Nat} {rc ct rk lf sz nx mt : Nat} {sd rv : Yb} {fi su : Bool} {h : Nat} {m : NI} {q : List Nat} {n i : Nat} (hs : 1 ≤ sz) (hh : h < 18446744073709551616) (I : Inv sz h m q) (hn : n < 18446744073709551616) (hi : i < 18446744073709551616) (w : World) (hL : Laid w)  (hT : There w [⟨e, .cells (av 12 (ls [.pointer (some ⟨wd, 0, none⟩), .func (.func 49) #[] #[.pointer (some ⟨md, 0, none⟩)], .int .u64 (rc : Int), .int .u64 (ct : Int), .int .u64 (rk : Int), .int .u64 (lf : Int), .int .i64 (sz : Int), .string sd, .string rv, .bool (fi), .bool (su), .int .u64 (nx : Int)])) 89⟩, ⟨wd, .cells (av 3 (ls [.int .u64 (sz : Int), .int .u64 (h : Int), .slice (some ⟨k, 0, none⟩) (nW sz) (nW sz)])) 121⟩, ⟨k, .cells (av (nW sz) (w64 m)) 24⟩, ⟨md, .cells (av 1 (ls [.int .u64 (mt : Int)])) 24⟩]) : Cs 46 #[.pointer (some ⟨e, 0, none⟩), .int .u64 (n : Int), .int .u64 (i : Int)] w (.int .i64 (opF sd ct lf sz mt q n i)) := by
 go_enter Tryz.func46, Tryz.ntmps46
 have M : Mem ⟨w, [e, wd, k, md]⟩ [⟨e, .cells (av 12 (ls [.pointer (some ⟨wd, 0, none⟩), .func (.func 49) #[] #[.pointer (some ⟨md, 0, none⟩)], .int .u64 (rc : Int), .int .u64 (ct : Int), .int .u64 (rk : Int), .int .u64 (lf : Int), .int .i64 (sz : Int), .string sd, .string rv, .bool (fi), .bool (su), .int .u64 (nx : Int)])) 89⟩, ⟨wd, .cells (av 3 (ls [.int .u64 (sz : Int), .int .u64 (h : Int), .slice (some ⟨k, 0, none⟩) (nW sz) (nW sz)])) 121⟩, ⟨k, .cells (av (nW sz) (w64 m)) 24⟩, ⟨md, .cells (av 1 (ls [.int .u64 (mt : Int)])) 24⟩] w := Mem.startT hL hT
 refine sq <| wp_seq <| sR <| rV 2 ?_
 rcases Bool.eq_false_or_eq_true (ovB sd lf mt n) with c0 | c0
 ·refine pC M 9 31 #[.pointer (some ⟨e, 0, none⟩), .int .u64 (n : Int)] (.bool true) (fun w M => call_val (c_over hn w M.laid (M.there (.cons_cons _ (.cons _ (.cons _ (.cons_cons _ (List.nil_sublist _))))))) (congrArg Value.bool c0)) fun u1 M => rV 9 <| nT <| cT <| sq <| wp_ret <| au_then_ret ?_
  have e0 : (opF sd ct lf sz mt q n i) = 180 := by unfold opF; rw [if_pos c0]
  exact bodyPost_ret (v := .int .i64 180) (results_tmp1 Tryz.results46 _ _ _ (by kernel_rfl)) (by kernel_rfl) ⟨by rw [e0], ro_T hT M⟩
 ·refine pC M 9 31 #[.pointer (some ⟨e, 0, none⟩), .int .u64 (n : Int)] (.bool false) (fun w M => call_val (c_over hn w M.laid (M.there (.cons_cons _ (.cons _ (.cons _ (.cons_cons _ (List.nil_sublist _))))))) (congrArg Value.bool c0)) fun u1 M => rV 6 <| pl_cell M (want_on 3 false rfl 10 rfl (by kernel_rfl)) (some 16) rfl 24 _ rfl e 3 (by kernel_rfl) (.int .u64 (ct : Int)) (fun _ => by kernel_rfl) (fun w M => M.cell 0 rfl (by decide) rfl) ?_
  by_cases c1 : (i : Int) < (ct : Int)
  ·refine pl_val (want_on 3 false rfl 10 rfl (by kernel_rfl)) (some 17) rfl (.bool false) (fun w => Eq.trans (b := .ok (.value (.bool (decide ((ct : Int) ≤ (i : Int))))) w) (by kernel_rfl) (by rw [decide_eq_false (by omega)])) <| rV 1 <| nT <| cF <| wp_skip <| au_then <| sR <| rV 3 <| ZE M 22 0 0 <| rV 1 <| pC M 24 66 #[.pointer (some ⟨wd, 0, none⟩), .int .u64 (i : Int)] (.int .i64 (my sz q i)) (fun w M => a_May hs hh hi I w M.laid (M.there (.cons _ (.cons_cons _ (.cons_cons _ (List.nil_sublist _)))))) fun u2 M => rV 1 <| nT <| wp_ret ?_
   have e0 : (opF sd ct lf sz mt q n i) = (my sz q i) := by unfold opF; rw [if_neg (Bool.eq_false_iff.1 c0), if_neg (by omega)]
   exact bodyPost_ret (v := .int .i64 (my sz q i)) (results_tmp1 Tryz.results46 _ _ _ (by kernel_rfl)) (by kernel_rfl) ⟨by rw [e0], ro_T hT M⟩
  ·refine pl_val (want_on 3 false rfl 10 rfl (by kernel_rfl)) (some 17) rfl (.bool true) (fun w => Eq.trans (b := .ok (.value (.bool (decide ((ct : Int) ≤ (i : Int))))) w) (by kernel_rfl) (by rw [decide_eq_true (by omega)])) <| rV 1 <| nT <| cT <| sq <| wp_ret <| au_then_ret ?_
   have e0 : (opF sd ct lf sz mt q n i) = 180 := by unfold opF; rw [if_neg (Bool.eq_false_iff.1 c0), if_pos (by omega)]
   exact bodyPost_ret (v := .int .i64 180) (results_tmp1 Tryz.results46 _ _ _ (by kernel_rfl)) (by kernel_rfl) ⟨by rw [e0], ro_T hT M⟩
theorem c_open {e wd k md : Nat} {rc ct rk lf sz nx : Nat} {sd rv : Yb} {fi su : Bool} {h : Nat} {m : NI} {q : List Nat} {i : Nat} {c : Yb} (hs : 1 ≤ sz) (hh : h < 18446744073709551616) (I : Inv sz h m q) (hi : i < 18446744073709551616) (w : World) (hL : Laid w)  (hT : There w [⟨e, .cells (av 12 (ls [.pointer (some ⟨wd, 0, none⟩), .func (.func 49) #[] #[.pointer (some ⟨md, 0, none⟩)], .int .u64 (rc : Int), .int .u64 (ct : Int), .int .u64 (rk : Int), .int .u64 (lf : Int), .int .i64 (sz : Int), .string sd, .string rv, .bool (fi), .bool (su), .int .u64 (nx : Int)])) 89⟩, ⟨wd, .cells (av 3 (ls [.int .u64 (sz : Int), .int .u64 (h : Int), .slice (some ⟨k, 0, none⟩) (nW sz) (nW sz)])) 121⟩, ⟨k, .cells (av (nW sz) (w64 m)) 24⟩]) : Calls Tryz.prog 47 #[.pointer (some ⟨e, 0, none⟩), .int .u64 (i : Int), .string c] w fun r w' => ∃ x : Nat × (Nat → Int), r = .returned (.tuple #[.string (opC rv i c), .int .i64 (opZ rv i c)]) ∧ (Inv sz x.1 x.2 (opQ sz q rv i c) ∧ x.1 < 18446744073709551616) ∧ OkT w w' [⟨e, .cells (av 12 (ls [.pointer (some ⟨wd, 0, none⟩), .func (.func 49) #[] #[.pointer (some ⟨md, 0, none⟩)], .int .u64 (rc : Int), .int .u64 (ct : Int), .int .u64 (rk : Int), .int .u64 (lf : Int), .int .i64 (sz : Int), .string sd, .string rv, .bool (fi), .bool (su), .int .u64 (nx : Int)])) 89⟩, ⟨wd, .cells (av 3 (ls [.int .u64 (sz : Int), .int .u64 ((h : Int)), .slice (some ⟨k, 0, none⟩) (nW sz) (nW sz)])) 121⟩, ⟨k, .cells (av (nW sz) (w64 m)) 24⟩] [⟨e, .cells (av 12 (ls [.pointer (some ⟨wd, 0, none⟩), .func (.func 49) #[] #[.pointer (some ⟨md, 0, none⟩)], .int .u64 (rc : Int), .int .u64 (ct : Int), .int .u64 (rk : Int), .int .u64 (lf : Int), .int .i64 (sz : Int), .string sd, .string rv, .bool (fi), .bool (opU su rv i c), .int .u64 (nx : Int)])) 89⟩, ⟨wd, .cells (av 3 (ls [.int .u64 (sz : Int), .int .u64 (((x.1 : Nat) : Int)), .slice (some ⟨k, 0, none⟩) (nW sz) (nW sz)])) 121⟩, ⟨k, .cells (av (nW sz) (w64 x.2)) 24⟩] := by
 go_enter Tryz.func47, Tryz.ntmps47
 have M : Mem ⟨w, [e, wd, k]⟩ [⟨e, .cells (av 12 (ls [.pointer (some ⟨wd, 0, none⟩), .func (.func 49) #[] #[.pointer (some ⟨md, 0, none⟩)], .int .u64 (rc : Int), .int .u64 (ct : Int), .int .u64 (rk : Int), .int .u64 (lf : Int), .int .i64 (sz : Int), .string sd, .string rv, .bool (fi), .bool (su), .int .u64 (nx : Int)])) 89⟩, ⟨wd, .cells (av 3 (ls [.int .u64 (sz : Int), .int .u64 (h : Int), .slice (some ⟨k, 0, none⟩) (nW sz) (nW sz)])) 121⟩, ⟨k, .cells (av (nW sz) (w64 m)) 24⟩] w := Mem.startT hL hT
 refine sq <| wp_seq <| rg_held M [⟨e, .cells (av 12 (ls [.pointer (some ⟨wd, 0, none⟩), .func (.func 49) #[] #[.pointer (some ⟨md, 0, none⟩)], .int .u64 (rc : Int), .int .u64 (ct : Int), .int .u64 (rk : Int), .int .u64 (lf : Int), .int .i64 (sz : Int), .string sd, .string rv, .bool (fi), .bool (su), .int .u64 (nx : Int)])) 89⟩, ⟨wd, .cells (av 3 (ls [.int .u64 (sz : Int), .int .u64 (h : Int), .slice (some ⟨k, 0, none⟩) (nW sz) (nW sz)])) 121⟩, ⟨k, .cells (av (nW sz) (w64 m)) 24⟩] 12 rfl (by kernel_rfl) (by kernel_rfl) (fun _ _ d _ _ h => by cases d <;> exact h) fun u1 M => ?_
 replace M : Mem ⟨w, [e, wd, k]⟩ [⟨e, .cells (av 12 (ls [.pointer (some ⟨wd, 0, none⟩), .func (.func 49) #[] #[.pointer (some ⟨md, 0, none⟩)], .int .u64 (rc : Int), .int .u64 (ct : Int), .int .u64 (rk : Int), .int .u64 (lf : Int), .int .i64 (sz : Int), .string sd, .string rv, .bool (fi), .bool (su), .int .u64 (nx : Int)])) 89⟩, ⟨wd, .cells (av 3 (ls [.int .u64 (sz : Int), .int .u64 (h : Int), .slice (some ⟨k, 0, none⟩) (nW sz) (nW sz)])) 121⟩, ⟨k, .cells (av (nW sz) (w64 m)) 24⟩] u1 := M
 refine qV M 0 11 (.pointer (some ⟨e, 0, none⟩)) <| qV M 1 12 (.pointer (some ⟨e, 0, none⟩)) <| qV M 2 13 (.pointer (some ⟨e, 8, none⟩)) <| hl_cell M 3 rfl (by decide) (by kernel_rfl) (by kernel_rfl) (want_no rfl) (some 14) rfl 9 _ rfl e 8 (by kernel_rfl) (.string rv) (fun _ => by kernel_rfl) (fun w M => M.cell 0 rfl (by decide) rfl) <| qV M 4 15 (.int .u64 (i : Int)) <| qV M 6 17 (.string c) <| hl_one 5 (by decide) (by kernel_rfl) rfl <| ZC M 16 (fun w M => c_Nonce (i : Int) w M.laid) fun u2 M => nT ?_
 refine ⟨M, ?_⟩
 refine hl_one 7 (by decide) (by kernel_rfl) rfl <| ZC M 18 (fun w M => c_AOpen rv i c w M.laid) fun u3 M => nT ?_
 refine ⟨M, ?_⟩
 refine qV M 8 10 (.tuple #[.string (opC rv i c), .int .i64 (opZ rv i c)]) <| qV M 9 19 (.string (opC rv i c)) <| qV M 10 20 (.int .i64 (opZ rv i c)) <| qV M 11 8 (.string (opC rv i c)) <| hl_end (by kernel_rfl) (by kernel_rfl) rfl <| rV 1 <| nT <| au_then <| wp_seq <| sR <| rV 1 ?_
 by_cases c0 : (opZ rv i c) = 0
 ·refine pH 22 (.bool false) (jD ((opZ rv i c) = 0) (c0)) <| nT <| cF <| wp_skip <| au_then <| sR <| rV 3 <| ZE M 27 0 0 <| rV 1 <| pl_callM M (want_no rfl) (some 29) rfl 68 #[.pointer (some ⟨wd, 0, none⟩), .int .u64 (i : Int)] [⟨e, .cells (av 12 (ls [.pointer (some ⟨wd, 0, none⟩), .func (.func 49) #[] #[.pointer (some ⟨md, 0, none⟩)], .int .u64 (rc : Int), .int .u64 (ct : Int), .int .u64 (rk : Int), .int .u64 (lf : Int), .int .i64 (sz : Int), .string sd, .string rv, .bool (fi), .bool (su), .int .u64 (nx : Int)])) 89⟩] [⟨wd, .cells (av 3 (ls [.int .u64 (sz : Int), .int .u64 (h : Int), .slice (some ⟨k, 0, none⟩) (nW sz) (nW sz)])) 121⟩, ⟨k, .cells (av (nW sz) (w64 m)) 24⟩] [] (by simp only [List.append_assoc, List.cons_append, List.nil_append, List.append_nil]) (fun x : Nat × (Nat → Int) => .int .i64 (my sz q i)) (fun x : Nat × (Nat → Int) => [⟨wd, .cells (av 3 (ls [.int .u64 (sz : Int), .int .u64 ((x.1 : Nat) : Int), .slice (some ⟨k, 0, none⟩) (nW sz) (nW sz)])) 121⟩, ⟨k, .cells (av (nW sz) (w64 x.2)) 24⟩]) (fun x : Nat × (Nat → Int) => Inv sz x.1 x.2 (mk sz q i) ∧ x.1 < 18446744073709551616) (fun _ => by kernel_rfl) (fun w hL hT => a_Mark hs hh hi I w hL hT) ?_
  rintro ⟨h2, m2⟩ u4 ⟨I2, hh2⟩ M
  replace M : Mem ⟨w, [e, wd, k]⟩ [⟨e, .cells (av 12 (ls [.pointer (some ⟨wd, 0, none⟩), .func (.func 49) #[] #[.pointer (some ⟨md, 0, none⟩)], .int .u64 (rc : Int), .int .u64 (ct : Int), .int .u64 (rk : Int), .int .u64 (lf : Int), .int .i64 (sz : Int), .string sd, .string rv, .bool (fi), .bool (su), .int .u64 (nx : Int)])) 89⟩, ⟨wd, .cells (av 3 (ls [.int .u64 (sz : Int), .int .u64 (h2 : Int), .slice (some ⟨k, 0, none⟩) (nW sz) (nW sz)])) 121⟩, ⟨k, .cells (av (nW sz) (w64 m2)) 24⟩] u4 := by simpa only [List.append_assoc, List.cons_append, List.nil_append, List.append_nil] using M
  refine nT <| sR <| rV 3 <| pP M 0 rfl 10 (.bool true) (ls [.pointer (some ⟨wd, 0, none⟩), .func (.func 49) #[] #[.pointer (some ⟨md, 0, none⟩)], .int .u64 (rc : Int), .int .u64 (ct : Int), .int .u64 (rk : Int), .int .u64 (lf : Int), .int .i64 (sz : Int), .string sd, .string rv, .bool (fi), .bool true, .int .u64 (nx : Int)]) (by decide) (put_ls _ 10 _ _ rfl) fun u5 M => ?_
  replace M : Mem ⟨w, [e, wd, k]⟩ [⟨e, .cells (av 12 (ls [.pointer (some ⟨wd, 0, none⟩), .func (.func 49) #[] #[.pointer (some ⟨md, 0, none⟩)], .int .u64 (rc : Int), .int .u64 (ct : Int), .int .u64 (rk : Int), .int .u64 (lf : Int), .int .i64 (sz : Int), .string sd, .string rv, .bool (fi), .bool true, .int .u64 (nx : Int)])) 89⟩, ⟨wd, .cells (av 3 (ls [.int .u64 (sz : Int), .int .u64 (h2 : Int), .slice (some ⟨k, 0, none⟩) (nW sz) (nW sz)])) 121⟩, ⟨k, .cells (av (nW sz) (w64 m2)) 24⟩] u5 := M
  refine nT <| sq <| wp_ret ?_
  have e1 : opU su rv i c = true := by unfold opU; rw [if_pos c0]
  have e2 : opQ sz q rv i c = mk sz q i := by unfold opQ; rw [if_pos c0]
  exact bodyPost_ret (v := .tuple #[.string (opC rv i c), .int .i64 0]) (results_tmp2 Tryz.results47 _ _ _ _ (by kernel_rfl) (by kernel_rfl)) (by kernel_rfl) ⟨(h2, m2), by rw [c0], by rw [e2]; exact ⟨I2, hh2⟩, by rw [e1]; exact Mem.okT0 (T := [⟨e, _⟩, ⟨wd, _⟩, ⟨k, _⟩]) M⟩
 ·refine pH 22 (.bool true) (jU ((opZ rv i c) = 0) (c0)) <| nT <| cT <| sq <| wp_ret <| au_then_ret ?_
  have e1 : opU su rv i c = su := by unfold opU; rw [if_neg c0]
  have e2 : opQ sz q rv i c = q := by unfold opQ; rw [if_neg c0]
  have e3 : opC rv i c = ⟨#[]⟩ := by unfold opC; rw [if_neg c0]
  exact bodyPost_ret (v := .tuple #[.string ⟨#[]⟩, .int .i64 (opZ rv i c)]) (results_tmp2 Tryz.results47 _ _ _ _ (by kernel_rfl) (by kernel_rfl)) (by kernel_rfl) ⟨(h, m), by rw [e3], by rw [e2]; exact ⟨I, hh⟩, by rw [e1]; exact Mem.okT0 (T := [⟨e, _⟩, ⟨wd, _⟩, ⟨k, _⟩]) M⟩
theorem c_wipeE {e wd md : Nat} {rc ct rk lf sz nx : Nat} {sd rv : Yb} {fi su : Bool} (w : World) (hL : Laid w)  (hT : There w [⟨e, .cells (av 12 (ls [.pointer (some ⟨wd, 0, none⟩), .func (.func 49) #[] #[.pointer (some ⟨md, 0, none⟩)], .int .u64 (rc : Int), .int .u64 (ct : Int), .int .u64 (rk : Int), .int .u64 (lf : Int), .int .i64 (sz : Int), .string sd, .string rv, .bool (fi), .bool (su), .int .u64 (nx : Int)])) 89⟩]) : Calls Tryz.prog 52 #[.pointer (some ⟨e, 0, none⟩)] w fun r w' => r = .returned (.tuple #[]) ∧ Grw w w' [e] ∧ w'.heap[e]? = some (.cells (av 12 (ls [.pointer (some ⟨wd, 0, none⟩), .func (.func 49) #[] #[.pointer (some ⟨md, 0, none⟩)], .int .u64 (rc : Int), .int .u64 (ct : Int), .int .u64 (rk : Int), .int .u64 (lf : Int), .int .i64 (sz : Int), .string ⟨#[]⟩, .string ⟨#[]⟩, .bool (fi), .bool (su), .int .u64 (nx : Int)])) 89) := by
 go_enter Tryz.func52, Tryz.ntmps52
 have M : Mem ⟨w, [e]⟩ [⟨e, .cells (av 12 (ls [.pointer (some ⟨wd, 0, none⟩), .func (.func 49) #[] #[.pointer (some ⟨md, 0, none⟩)], .int .u64 (rc : Int), .int .u64 (ct : Int), .int .u64 (rk : Int), .int .u64 (lf : Int), .int .i64 (sz : Int), .string sd, .string rv, .bool (fi), .bool (su), .int .u64 (nx : Int)])) 89⟩] w := Mem.startT hL hT
 refine rg_lit <| rV 4 <| pP M 0 rfl 7 (.string ⟨#[]⟩) (ls [.pointer (some ⟨wd, 0, none⟩), .func (.func 49) #[] #[.pointer (some ⟨md, 0, none⟩)], .int .u64 (rc : Int), .int .u64 (ct : Int), .int .u64 (rk : Int), .int .u64 (lf : Int), .int .i64 (sz : Int), .string ⟨#[]⟩, .string rv, .bool (fi), .bool (su), .int .u64 (nx : Int)]) (by decide) (put_ls _ 7 _ _ rfl) fun u1 M => ?_
 replace M : Mem ⟨w, [e]⟩ [⟨e, .cells (av 12 (ls [.pointer (some ⟨wd, 0, none⟩), .func (.func 49) #[] #[.pointer (some ⟨md, 0, none⟩)], .int .u64 (rc : Int), .int .u64 (ct : Int), .int .u64 (rk : Int), .int .u64 (lf : Int), .int .i64 (sz : Int), .string ⟨#[]⟩, .string rv, .bool (fi), .bool (su), .int .u64 (nx : Int)])) 89⟩] u1 := M
 refine rV 2 <| pP M 0 rfl 8 (.string ⟨#[]⟩) (ls [.pointer (some ⟨wd, 0, none⟩), .func (.func 49) #[] #[.pointer (some ⟨md, 0, none⟩)], .int .u64 (rc : Int), .int .u64 (ct : Int), .int .u64 (rk : Int), .int .u64 (lf : Int), .int .i64 (sz : Int), .string ⟨#[]⟩, .string ⟨#[]⟩, .bool (fi), .bool (su), .int .u64 (nx : Int)]) (by decide) (put_ls _ 8 _ _ rfl) fun u2 M => ?_
 replace M : Mem ⟨w, [e]⟩ [⟨e, .cells (av 12 (ls [.pointer (some ⟨wd, 0, none⟩), .func (.func 49) #[] #[.pointer (some ⟨md, 0, none⟩)], .int .u64 (rc : Int), .int .u64 (ct : Int), .int .u64 (rk : Int), .int .u64 (lf : Int), .int .i64 (sz : Int), .string ⟨#[]⟩, .string ⟨#[]⟩, .bool (fi), .bool (su), .int .u64 (nx : Int)])) 89⟩] u2 := M
 refine pl_nil ?_
 exact bodyPost_end (v := .tuple #[]) (results_none Tryz.results52 _ _) (by kernel_rfl) ⟨rfl, M.old, M.get 0 rfl⟩
theorem c_there {p e : Nat} (w : World) (hL : Laid w)  (hT : There w [⟨p, .cells (av 1 (ls [.pointer (some ⟨e, 0, none⟩)])) 91⟩]) : Cs 30 #[.pointer (some ⟨p, 0, none⟩)] w (.bool true) := by
 go_enter Tryz.func30, Tryz.ntmps30
 have M : Mem ⟨w, [p]⟩ [⟨p, .cells (av 1 (ls [.pointer (some ⟨e, 0, none⟩)])) 91⟩] w := Mem.startT hL hT
 refine sq <| sR <| rV 6 <| pl_cell M (want_on 2 true rfl 5 rfl (by kernel_rfl)) (some 9) rfl 85 _ rfl p 0 (by kernel_rfl) (.pointer (some ⟨e, 0, none⟩)) (fun _ => by kernel_rfl) (fun w M => M.cell 0 rfl (by decide) rfl) <| rV 3 <| nT <| wp_ret ?_
 exact bodyPost_ret (v := .bool true) (results_tmp1 Tryz.results30 _ _ _ (by kernel_rfl)) (by kernel_rfl) ⟨rfl, ro_T hT M⟩
theorem n_there  (w : World) (hL : Laid w)  : Cs 30 #[.pointer none] w (.bool false) := by
 go_enter Tryz.func30, Tryz.ntmps30
 have M := Mem.start hL
 refine sq <| sq <| wp_ret ?_
 exact b1 M
end Go.Proofs.YtenafinbaanicaaGreatDoor
