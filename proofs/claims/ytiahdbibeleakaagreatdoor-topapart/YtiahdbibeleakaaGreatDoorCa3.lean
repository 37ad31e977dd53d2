/- Part 3 of the walks and facts. -/
import Derived.Test.YtiahdbibeleakaaGreatDoorCa2
import Derived.ScopeJumps
import Derived.Shelf.Strings.Repeat
set_option maxHeartbeats 16000000
set_option maxRecDepth 100000
set_option linter.unusedSimpArgs false
set_option linter.unusedVariables false
namespace Go.Proofs.YtiahdbibeleakaaGreatDoor.Pol
open Go.RowKit
theorem q18 : (256 : Int) ^ 18 = 22300745198530623141535718272648361505980416 := by decide
theorem q17 : (256 : Int) ^ 17 = 87112285931760246646623899502532662132736 := by decide
theorem V18 (s : NI) : V 256 18 s = V 256 16 s + s 16 * 340282366920938463463374607431768211456 + s 17 * 87112285931760246646623899502532662132736 := by
 have : V 256 18 s = V 256 16 s + s 16 * 256 ^ 16 + s 17 * 256 ^ 17 := rfl
 rw [this, p256, q17]
theorem d1_val (a : NI) (h : ∀ i, i < 18 → 0 ≤ a i ∧ a i < 1099511627776) : V 256 18 (d1 a) = V 256 18 a % 1361129467683753853853498429727072845824 + 5 * (V 256 18 a / 1361129467683753853853498429727072845824) ∧ (∀ i, i < 18 → 0 ≤ d1 a i ∧ d1 a i < 256 + 5 * (V 256 18 a / 1361129467683753853853498429727072845824)) ∧ 0 ≤ V 256 18 a / 1361129467683753853853498429727072845824 ∧ V 256 18 a / 1361129467683753853853498429727072845824 < 144115188075855872 := by
 have C := chain8 a 18 (fun i hi => by have := h i hi; omega)
 have D := C.dig
 have s16 := D 16 (by decide)
 have s17 := D 17 (by decide)
 have s0 := D 0 (by decide)
 have n0 := V_nn 256 (by decide) 18 a (fun i hi => (h i hi).1)
 have n1 := V_le 256 (by decide) 4311810306 (by decide) 18 a (fun i hi => by have := h i hi; omega)
 rw [q18] at n1
 have c0 := C.c0
 have hv := C.val
 rw [q18, V18] at hv
 have l0 := V_nn 256 (by decide) 16 (st 255 8 a 18) (fun i hi => (D i (by omega)).1)
 have l1 := V_lt 256 (by decide) 16 (st 255 8 a 18) (fun i hi => (D i (by omega)).2)
 rw [p256] at l1
 have et : dtop a = st 255 8 a 18 16 / 4 + st 255 8 a 18 17 * 64 + cy 8 a 18 * 16384 := by
  have cb : cy 8 a 18 < 281474976710656 := by omega
  have t1 : sl (st 255 8 a 18 17) 6 = st 255 8 a 18 17 * 64 := sl_eq _ 6 (by omega) (by omega)
  have t2 : uo (st 255 8 a 18 16 / 4) (st 255 8 a 18 17 * 64) = st 255 8 a 18 16 / 4 + st 255 8 a 18 17 * 64 := uo_add 6 _ _ (by omega) (by show _ < (64 : Int); omega) (by omega) (by show _ + _ * (64 : Int) < _; omega)
  have t3 : sl (cy 8 a 18) 14 = cy 8 a 18 * 16384 := sl_eq _ 14 (by omega) (by omega)
  show uo (uo (sr (st 255 8 a 18 16) 2) (sl (st 255 8 a 18 17) 6)) (sl (cy 8 a 18) 14) = _
  rw [sr2, t1, t2, t3]
  exact uo_add 14 _ _ (by omega) (by show _ < (16384 : Int); omega) (by omega) (by show _ + _ * (16384 : Int) < _; omega)
 have eq : dtop a = V 256 18 a / 1361129467683753853853498429727072845824 := by
  rw [et, ← hv]
  omega
 have q0 : 0 ≤ V 256 18 a / 1361129467683753853853498429727072845824 := by omega
 have q1 : V 256 18 a / 1361129467683753853853498429727072845824 < 144115188075855872 := by omega
 have e0 : d0 a = upd (upd (st 255 8 a 18) 16 (st 255 8 a 18 16 % 4)) 17 0 := by
  show upd (upd (st 255 8 a 18) 16 (un (st 255 8 a 18 16) 3)) 17 0 = _
  rw [un2 _ s16.1 (by omega)]
 have e00 : d0 a 0 = st 255 8 a 18 0 := by
  rw [e0, up_ne _ _ _ (by decide), up_ne _ _ _ (by decide)]
 have e1 : d1 a = upd (d0 a) 0 (st 255 8 a 18 0 + 5 * (V 256 18 a / 1361129467683753853853498429727072845824)) := by
  unfold d1
  rw [eq, e00]
  generalize V 256 18 a / 1361129467683753853853498429727072845824 = q at *
  rw [um_eq 5 q (by omega) (by omega), ua_eq _ _ (by omega) (by omega)]
 refine ⟨?_, ?_, q0, q1⟩
 ·rw [e1, V0 _ _ _ _ (by decide), e00, e0, V_upd _ 18 _ _ _ (by decide), V_upd _ 18 _ _ _ (by decide), up_ne _ _ _ (by decide), V18, p256, q17, ← hv]
  generalize st 255 8 a 18 16 = x at *
  generalize st 255 8 a 18 17 = y at *
  generalize cy 8 a 18 = z at *
  generalize V 256 16 (st 255 8 a 18) = l at *
  omega
 ·intro i hi
  have d := D i hi
  rw [e1]
  by_cases c : i = 0
  ·subst c
   rw [up_at]
   omega
  ·rw [up_ne _ _ _ c, e0]
   by_cases c2 : i = 17
   ·subst c2
    rw [up_at]
    omega
   ·rw [up_ne _ _ _ c2]
    by_cases c3 : i = 16
    ·subst c3
     rw [up_at]
     omega
    ·rw [up_ne _ _ _ c3]
     omega
structure DGood (h : NI) : Prop where
 part : ∀ i, i < 18 → 0 ≤ h i ∧ h i < 256
 lt : V 256 18 h < 1361129467683753853853498429727072845824
theorem DGood.nn {h : NI} (g : DGood h) : 0 ≤ V 256 18 h := V_nn _ (by decide) 18 h (fun i hi => (g.part i hi).1)
theorem dc_val (a : NI) (h : ∀ i, i < 18 → 0 ≤ a i ∧ a i < 4096) : DGood (dcF a) ∧ ∃ k, V 256 18 a = V 256 18 (dcF a) + k * 1361129467683753853853498429727072845819 := by
 have n0 := V_nn 256 (by decide) 18 a (fun i hi => (h i hi).1)
 have n1 := V_le 256 (by decide) 17 (by decide) 18 a (fun i hi => by have := h i hi; omega)
 rw [q18] at n1
 obtain ⟨a1, a2, a3, a4⟩ := d1_val a (fun i hi => by have := h i hi; omega)
 have q1 : V 256 18 a / 1361129467683753853853498429727072845824 < 1048576 := by omega
 obtain ⟨b1, b2, b3, b4⟩ := d1_val (d1 a) (fun i hi => by have := a2 i hi; omega)
 rw [a1] at b1 b2 b3
 have q2 : (V 256 18 a % 1361129467683753853853498429727072845824 + 5 * (V 256 18 a / 1361129467683753853853498429727072845824)) / 1361129467683753853853498429727072845824 ≤ 1 := by
  generalize V 256 18 a = v at *
  omega
 obtain ⟨c1, c2, c3, c4⟩ := d1_val (d1 (d1 a)) (fun i hi => by have := b2 i hi; omega)
 have l2 : V 256 18 (d1 (d1 a)) < 1361129467683753853853498429727072845824 := by
  rw [b1]
  generalize V 256 18 a = v at *
  omega
 have n2 : 0 ≤ V 256 18 (d1 (d1 a)) := V_nn 256 (by decide) 18 _ (fun i hi => (b2 i hi).1)
 have e3 : V 256 18 (d1 (d1 (d1 a))) = V 256 18 (d1 (d1 a)) := by
  rw [c1]
  omega
 have C := chain8 (d1 (d1 (d1 a))) 18 (fun i hi => by have := c2 i hi; omega)
 have hc := (C.cut (by decide)).2
 rw [q18, e3, Int.emod_eq_of_lt n2 (by omega)] at hc
 have e4 : V 256 18 (dcF a) = V 256 18 (d1 (d1 a)) := hc
 refine ⟨⟨C.dig, by rw [e4]; exact l2⟩, V 256 18 a / 1361129467683753853853498429727072845824 + (V 256 18 a % 1361129467683753853853498429727072845824 + 5 * (V 256 18 a / 1361129467683753853853498429727072845824)) / 1361129467683753853853498429727072845824, ?_⟩
 rw [e4, b1]
 generalize V 256 18 a = v at *
 omega
theorem dlo_at (T : NI) : ∀ n k, dlo T n k = if k < n then T k else 0
 | 0, k => by rw [if_neg (by omega)]; rfl
 | n + 1, k => by
  unfold dlo
  by_cases e : k = n
  ·subst e
   rw [up_at, if_pos (by omega)]
  ·rw [up_ne _ _ _ e, dlo_at T n k]
   by_cases h : k < n
   ·rw [if_pos h, if_pos (by omega)]
   ·rw [if_neg h, if_neg (by omega)]
theorem dhi_at (T : NI) : ∀ n k, dhi T n k = if k < n then uo (sr (T (16 + k)) 2) (un (sl (T (17 + k)) 6) 255) else 0
 | 0, k => by rw [if_neg (by omega)]; rfl
 | n + 1, k => by
  unfold dhi
  by_cases e : k = n
  ·subst e
   rw [up_at, if_pos (by omega)]
  ·rw [up_ne _ _ _ e, dhi_at T n k]
   by_cases h : k < n
   ·rw [if_pos h, if_pos (by omega)]
   ·rw [if_neg h, if_neg (by omega)]
theorem hi_val (x y : Int) (hx : 0 ≤ x ∧ x < 256) (hy : 0 ≤ y ∧ y < 256) : uo (sr x 2) (un (sl y 6) 255) = x / 4 + (y % 4) * 64 := by
 have t1 : sl y 6 = y * 64 := sl_eq _ 6 (by omega) (by omega)
 rw [sr2, t1, un8 _ (by omega) (by omega), show y * 64 % 256 = (y % 4) * 64 by omega]
 exact uo_add 6 _ _ (by omega) (by show _ < (64 : Int); omega) (by omega) (by show _ + _ * (64 : Int) < _; omega)
theorem hi_sum (T : NI) : ∀ n, 4 * V 256 n (fun k => T (16 + k) / 4 + (T (17 + k) % 4) * 64) = V 256 n (fun k => T (16 + k)) - T 16 % 4 + 256 ^ n * (T (16 + n) % 4)
 | 0 => by
  simp [V]
  omega
 | n + 1 => by
  have ih := hi_sum T n
  unfold V
  simp only
  rw [Int.mul_add, ih, Int.pow_succ, show 16 + (n + 1) = 17 + n by omega]
  have e := Int.emod_add_mul_ediv (T (16 + n)) 4
  generalize T (16 + n) % 4 = r at *
  generalize T (16 + n) / 4 = q at *
  rw [← e]
  grind
theorem dl3_at (T : NI) : ∀ n k, dl3 T n k = if k < n then ua (dl2 T k) (um 5 (dhi T 17 k)) else dl2 T k
 | 0, k => by rw [if_neg (by omega)]; rfl
 | n + 1, k => by
  unfold dl3
  by_cases e : k = n
  ·subst e
   rw [up_at, dl3_at T k k, if_neg (by omega), if_pos (by omega)]
  ·rw [up_ne _ _ _ e, dl3_at T n k]
   by_cases h : k < n
   ·rw [if_pos h, if_pos (by omega)]
   ·rw [if_neg h, if_neg (by omega)]
theorem dt_val (x y : NI) (gx : DGood x) (gy : DGood y) : DGood (dtF x y) ∧ ∃ k, V 256 18 x * V 256 18 y = V 256 18 (dtF x y) + k * 1361129467683753853853498429727072845819 := by
 obtain ⟨h1, h2⟩ := tp_val 256 36 18 x y (fun i j hi hj => by omega) 65536 (by decide) (by decide) (fun i j hi hj => by
  have a := gx.part i hi
  have c := gy.part j hj
  exact ⟨Int.mul_nonneg a.1 c.1, Int.mul_le_mul (show x i ≤ 256 by omega) (show y j ≤ 256 by omega) c.1 (by decide)⟩) 18 (Nat.le_refl _)
 have C := chain8 (tp 18 x y 18) 36 (fun i _ => by have := h1 i; omega)
 have D := C.dig
 have w0 : 0 ≤ V 256 18 x * V 256 18 y := Int.mul_nonneg gx.nn gy.nn
 have w1 : V 256 18 x * V 256 18 y ≤ 1361129467683753853853498429727072845824 * 1361129467683753853853498429727072845824 := Int.mul_le_mul (Int.le_of_lt gx.lt) (Int.le_of_lt gy.lt) gy.nn (by decide)
 have q33 : (256 : Int) ^ 33 = 1361129467683753853853498429727072845824 * 1361129467683753853853498429727072845824 * 16 := by decide
 have q36 : (256 : Int) ^ 36 = 1361129467683753853853498429727072845824 * 1361129467683753853853498429727072845824 * 268435456 := by decide
 have hc := (C.cut (by decide)).2
 rw [h2, q36, Int.emod_eq_of_lt w0 (by omega)] at hc
 have hT : V 256 36 (dT x y) = V 256 18 x * V 256 18 y := hc
 have hd : ∀ i, i < 36 → 0 ≤ dT x y i ∧ dT x y i < 256 := D
 clear hc D C h1 h2
 unfold dtF
 rw [← hT]
 generalize dT x y = T at *
 have s1 := V_split 256 33 3 T
 have s1' : V 256 36 T = V 256 33 T + 256 ^ 33 * V 256 3 (fun i => T (33 + i)) := s1
 have z0 := V_nn 256 (by decide) 3 (fun i => T (33 + i)) (fun i hi => (hd (33 + i) (by omega)).1)
 have z1 := V_nn 256 (by decide) 33 T (fun i hi => (hd i (by omega)).1)
 have z2 : V 256 3 (fun i => T (33 + i)) = 0 := by
  rw [q33] at s1'
  omega
 have z3 : T 33 = 0 := by
  have e : V 256 3 (fun i => T (33 + i)) = 0 + T 33 * 256 ^ 0 + T 34 * 256 ^ 1 + T 35 * 256 ^ 2 := rfl
  have a := hd 33 (by decide)
  have b := hd 34 (by decide)
  have c := hd 35 (by decide)
  rw [z2] at e
  simp at e
  omega
 rw [z2, Int.mul_zero, Int.add_zero] at s1'
 have s2 := V_split 256 16 17 T
 have s2' : V 256 33 T = V 256 16 T + 256 ^ 16 * V 256 17 (fun i => T (16 + i)) := s2
 have hs := hi_sum T 17
 rw [show T (16 + 17) = 0 from z3] at hs
 have t16 := hd 16 (by decide)
 have ehi : ∀ k, k < 17 → dhi T 17 k = T (16 + k) / 4 + (T (17 + k) % 4) * 64 := fun k hk => by
  rw [dhi_at, if_pos hk, hi_val _ _ (hd (16 + k) (by omega)) (hd (17 + k) (by omega))]
 have hhi : ∀ k, k < 18 → 0 ≤ dhi T 17 k ∧ dhi T 17 k < 256 := fun k hk => by
  by_cases c : k < 17
  ·have a := hd (16 + k) (by omega)
   rw [ehi k c]
   omega
  ·rw [dhi_at, if_neg c]
   decide
 have hlo : ∀ k, k < 18 → 0 ≤ dl2 T k ∧ dl2 T k < 256 := fun k hk => by
  unfold dl2
  by_cases c : k = 16
  ·subst c
   rw [up_at, dlo_at, if_pos (by decide), un2 _ t16.1 (by omega)]
   omega
  ·rw [up_ne _ _ _ c, dlo_at]
   split
   ·exact hd k (by omega)
   ·decide
 have e3 : ∀ k, k < 18 → dl3 T 18 k = dl2 T k + 5 * dhi T 17 k := fun k hk => by
  have a := hlo k hk
  have b := hhi k hk
  rw [dl3_at, if_pos hk, um_eq _ _ (by omega) (by omega), ua_eq _ _ (by omega) (by omega)]
 obtain ⟨g, k, hk⟩ := dc_val (dl3 T 18) (fun i hi => by
  have a := hlo i hi
  have b := hhi i hi
  rw [e3 i hi]
  omega)
 refine ⟨g, k + V 256 17 (fun k => T (16 + k) / 4 + (T (17 + k) % 4) * 64), ?_⟩
 have f1 : V 256 18 (dhi T 17) = V 256 17 (fun k => T (16 + k) / 4 + (T (17 + k) % 4) * 64) := by
  have : V 256 18 (dhi T 17) = V 256 17 (dhi T 17) + dhi T 17 17 * 256 ^ 17 := rfl
  rw [this, V_congr 256 17 _ _ ehi, dhi_at, if_neg (by decide)]
  omega
 have f2 : V 256 18 (dl2 T) = V 256 16 T + (T 16 % 4) * 340282366920938463463374607431768211456 := by
  unfold dl2
  rw [V_upd _ 18 _ _ _ (by decide), p256, V18, V_congr 256 16 (dlo T 17) T (fun i hi => by rw [dlo_at, if_pos (by omega)]), dlo_at, dlo_at, if_pos (by decide), if_neg (by decide), un2 _ t16.1 (by omega)]
  omega
 have f3 : V 256 18 (dl3 T 18) = V 256 18 (dl2 T) + 5 * V 256 18 (dhi T 17) := by
  rw [V_congr 256 18 _ (fun k => dl2 T k + 5 * dhi T 17 k) e3, V_add, V_mul]
 rw [p256] at s2'
 rw [f2, f1, hk] at f3
 rw [s1', s2']
 generalize V 256 17 (fun i => T (16 + i)) = u at *
 generalize V 256 17 (fun k => T (16 + k) / 4 + (T (17 + k) % 4) * 64) = z at *
 omega
theorem dw_val (a : NI) (g : DGood a) : (∀ i, i < 18 → 0 ≤ dwF a i ∧ dwF a i < 256) ∧ V 256 18 (dwF a) = V 256 18 a % 1361129467683753853853498429727072845819 := by
 obtain ⟨gc, k, hk⟩ := dc_val a (fun i hi => by have := g.part i hi; omega)
 have n0 := gc.nn
 have n1 := gc.lt
 have p0 := gc.part 0 (by decide)
 have e1 : dg a = upd (dcF a) 0 (dcF a 0 + 5) := by
  unfold dg
  rw [ua_eq _ _ (by omega) (by omega)]
 have vg : V 256 18 (dg a) = V 256 18 (dcF a) + 5 := by
  rw [e1, V0 _ _ _ _ (by decide)]
  omega
 have C := chain8 (dg a) 18 (fun i hi => by
  have := gc.part i hi
  rw [e1]
  by_cases c : i = 0
  ·subst c
   rw [up_at]
   omega
  ·rw [up_ne _ _ _ c]
   omega)
 have hc := (C.cut (by decide)).2
 rw [q18, vg, Int.emod_eq_of_lt (by omega) (by omega)] at hc
 have hG : V 256 18 (dG a) = V 256 18 (dcF a) + 5 := hc
 have D : ∀ i, i < 18 → 0 ≤ dG a i ∧ dG a i < 256 := C.dig
 have s16 := D 16 (by decide)
 have s17 := D 17 (by decide)
 have l0 := V_nn 256 (by decide) 16 (dG a) (fun i hi => (D i (by omega)).1)
 have l1 := V_lt 256 (by decide) 16 (dG a) (fun i hi => (D i (by omega)).2)
 rw [p256] at l1
 have hv := V18 (dG a)
 rw [hG] at hv
 have em : V 256 18 a % 1361129467683753853853498429727072845819 = V 256 18 (dcF a) % 1361129467683753853853498429727072845819 := by
  rw [hk, Int.add_mul_emod_self_right]
 rw [em]
 unfold dwF
 by_cases c : 4 ≤ dG a 16
 ·rw [if_pos c, un2 _ s16.1 (by omega)]
  have e4 : dG a 16 = 4 := by omega
  refine ⟨fun i hi => ?_, ?_⟩
  ·by_cases c2 : i = 16
   ·subst c2
    rw [up_at]
    omega
   ·rw [up_ne _ _ _ c2]
    exact D i hi
  ·rw [V_upd _ 18 _ _ _ (by decide), hG, e4, p256]
   omega
 ·rw [if_neg c]
  refine ⟨gc.part, ?_⟩
  rw [Int.emod_eq_of_lt n0 (by omega)]
theorem rk_at (key : Yb) : ∀ n i, rk key n i = if i < n then bt key i else 0
 | 0, i => by rw [if_neg (by omega)]; rfl
 | n + 1, i => by
  have := bt_nn key n
  unfold rk
  by_cases e : i = n
  ·subst e
   rw [up_at, if_pos (by omega), cv64_eq _ this.1 (by omega)]
  ·rw [up_ne _ _ _ e, rk_at key n i]
   by_cases h : i < n
   ·rw [if_pos h, if_pos (by omega)]
   ·rw [if_neg h, if_neg (by omega)]
theorem un15 (x : Int) (h : 0 ≤ x ∧ x < 256) : un x 15 = x % 16 := un4 x h.1 (by omega)
theorem un252 (x : Int) (h0 : 0 ≤ x ∧ x < 256) : un x 252 = x - x % 4 := by
 have h : ∀ n : Nat, n < 256 → un (n : Int) 252 = (n : Int) - (n : Int) % 4 := by decide +kernel
 have := h x.toNat (by omega)
 rwa [show ((x.toNat : Nat) : Int) = x by omega] at this
theorem dr_at (key : Yb) (i : Nat) (hi : i < 18) : drF key i = pd (rB (bt key)) 16 i := by
 have hb := bt_nn key
 have e : ∀ k, k < 16 → rk key 16 k = bt key k := fun k hk => by rw [rk_at, if_pos hk]
 have e2 : ∀ k, ¬ k < 16 → rk key 16 k = 0 := fun k hk => by rw [rk_at, if_neg hk]
 have x15 : ∀ k, k < 16 → un (rk key 16 k) 15 = bt key k % 16 := fun k hk => by rw [e k hk, un15 _ (hb k)]
 have x3 : ∀ k, k < 16 → un (rk key 16 k) 252 = bt key k - bt key k % 4 := fun k hk => by rw [e k hk, un252 _ (hb k)]
 unfold drF dm2 dm1
 generalize rk key 16 = f at *
 have hc : i = 0 ∨ i = 1 ∨ i = 2 ∨ i = 3 ∨ i = 4 ∨ i = 5 ∨ i = 6 ∨ i = 7 ∨ i = 8 ∨ i = 9 ∨ i = 10 ∨ i = 11 ∨ i = 12 ∨ i = 13 ∨ i = 14 ∨ i = 15 ∨ i = 16 ∨ i = 17 := by omega
 rcases hc with rfl | rfl | rfl | rfl | rfl | rfl | rfl | rfl | rfl | rfl | rfl | rfl | rfl | rfl | rfl | rfl | rfl | rfl
 ·exact e 0 (by decide)
 ·exact e 1 (by decide)
 ·exact e 2 (by decide)
 ·exact x15 3 (by decide)
 ·exact x3 4 (by decide)
 ·exact e 5 (by decide)
 ·exact e 6 (by decide)
 ·exact x15 7 (by decide)
 ·exact x3 8 (by decide)
 ·exact e 9 (by decide)
 ·exact e 10 (by decide)
 ·exact x15 11 (by decide)
 ·exact x3 12 (by decide)
 ·exact e 13 (by decide)
 ·exact e 14 (by decide)
 ·exact x15 15 (by decide)
 ·exact e2 16 (by decide)
 ·exact e2 17 (by decide)
theorem dr_val (key : Yb) : DGood (drF key) ∧ V 256 18 (drF key) = V 256 16 (rB (bt key)) := by
 have e := dr_at key
 have h : V 256 18 (drF key) = V 256 16 (rB (bt key)) := by rw [V_congr 256 18 _ _ e, V_pd _ _ _ 18 (by decide)]
 have l1 := V_lt 256 (by decide) 16 (rB (bt key)) (fun i _ => (rB_nn _ (bt_nn key) i).2)
 rw [p256] at l1
 exact ⟨⟨fun i hi => by rw [e i hi]; exact pd_nn _ _ (rB_nn _ (bt_nn key)) i, by rw [h]; omega⟩, h⟩
theorem dpa_at (h : NI) (p : Yb) : ∀ n i, dpa h p n i = if i < n then ua (h i) (cv .u64 (bt p i)) else h i
 | 0, i => by rw [if_neg (by omega)]; rfl
 | n + 1, i => by
  unfold dpa
  by_cases e : i = n
  ·subst e
   rw [up_at, dpa_at h p i i, if_neg (by omega), if_pos (by omega)]
  ·rw [up_ne _ _ _ e, dpa_at h p n i]
   by_cases c : i < n
   ·rw [if_pos c, if_pos (by omega)]
   ·rw [if_neg c, if_neg (by omega)]
theorem dpp_val (h : NI) (g : DGood h) (p : Yb) (hp : p.size ≤ 16) : (∀ i, i < 18 → 0 ≤ dpp h p i ∧ dpp h p i < 4096) ∧ V 256 18 (dpp h p) = V 256 18 h + qN (bt p) p.size := by
 have e : ∀ i, i < 18 → dpa h p p.size i = h i + pd (bt p) p.size i := fun i hi => by
  have a := g.part i hi
  have b := bt_nn p i
  rw [dpa_at]
  unfold pd
  split
  ·rw [cv64_eq _ b.1 (by omega), ua_eq _ _ (by omega) (by omega)]
  ·rw [Int.add_zero]
 have hn := g.part p.size (by omega)
 have en : dpa h p p.size p.size = h p.size := by
  rw [dpa_at, if_neg (by omega)]
 have e2 : dpp h p = upd (dpa h p p.size) p.size (h p.size + 1) := by
  unfold dpp
  rw [en, ua_eq _ _ (by omega) (by omega)]
 refine ⟨fun i hi => ?_, ?_⟩
 ·have a := g.part i hi
  have b := pd_nn (bt p) p.size (bt_nn p) i
  rw [e2]
  by_cases c : i = p.size
  ·rw [c, up_at]
   omega
  ·rw [up_ne _ _ _ c, e i hi]
   omega
 ·rw [e2, V_upd _ 18 _ _ _ (by omega), en, V_congr 256 18 _ (fun i => h i + pd (bt p) p.size i) e, V_add, V_pd _ _ _ 18 (by omega)]
  unfold qN
  rw [show h p.size + 1 - h p.size = 1 by omega]
  omega
theorem dgood0 : DGood (fun _ => 0) := ⟨fun _ _ => by decide, by decide⟩
theorem dpc_val (s : Yb) (j : Nat) (hj : 16 * j ≤ s.size) : qN (bt (dpc s j)) (dpc s j).size = qS s j := by
 have hs : (dpc s j).size = min 16 (s.size - 16 * j) := by
  rw [dpc_size]
  omega
 unfold qS
 rw [hs]
 unfold qN
 rw [V_congr 256 _ (bt (dpc s j)) (fun i => bt s (16 * j + i)) (fun i hi => by
  unfold dpc
  rw [bt_sub s _ _ i (by omega) (by omega)])]
theorem dsm_val (s : Yb) (r : NI) (gr : DGood r) : ∀ j, 16 * j ≤ s.size + 15 → DGood (dsm s r j) ∧ V 256 18 (dsm s r j) % 1361129467683753853853498429727072845819 = hN (V 256 18 r) (qS s) j
 | 0, _ => ⟨dgood0, (by decide : V 256 18 (fun _ => 0) % 1361129467683753853853498429727072845819 = 0)⟩
 | j + 1, hj => by
  obtain ⟨g, h⟩ := dsm_val s r gr j (by omega)
  obtain ⟨p1, p2⟩ := dpp_val (dsm s r j) g (dpc s j) (by rw [dpc_size]; omega)
  rw [dpc_val s j (by omega)] at p2
  obtain ⟨g1, k1, hk1⟩ := dc_val _ p1
  obtain ⟨g2, k2, hk2⟩ := dt_val _ r g1 gr
  refine ⟨g2, hN_step h (k := k2 + k1 * V 256 18 r) ?_⟩
  rw [← p2, hk1, Int.add_mul, hk2, Int.add_mul]
  have : k1 * 1361129467683753853853498429727072845819 * V 256 18 r = k1 * V 256 18 r * 1361129467683753853853498429727072845819 := by
   rw [Int.mul_right_comm]
  rw [this, Int.add_assoc]
  rfl
theorem dig_val (s : NI) (n : Nat) (h : ∀ i, i < n → 0 ≤ s i ∧ s i < 256) (i : Nat) (hi : i < n) : dgt (V 256 n s) i = s i := by
 have sp := V_split 256 i (1 + (n - i - 1)) s
 rw [show i + (1 + (n - i - 1)) = n by omega] at sp
 have sp2 := V_split 256 1 (n - i - 1) (fun k => s (i + k))
 have sp3 : V 256 1 (fun k => s (i + k)) = s i := by
  show 0 + s (i + 0) * 256 ^ 0 = _
  simp
 rw [sp3] at sp2
 have l0 := V_nn 256 (by decide) i s (fun k hk => (h k (by omega)).1)
 have l1 := V_lt 256 (by decide) i s (fun k hk => (h k (by omega)).2)
 have B0 : (0 : Int) < 256 ^ i := Int.pow_pos (by decide)
 have := h i hi
 unfold dgt
 rw [sp, sp2, Int.add_mul_ediv_left _ _ (by omega), Int.ediv_eq_zero_of_lt l0 l1, Int.zero_add]
 rw [show (256 : Int) ^ 1 = 256 from rfl, Int.add_mul_emod_self_left]
 omega
theorem dm16 (i : Nat) (hi : i < 16) : ∃ Q : Int, (256 : Int) ^ i * (256 * Q) = 340282366920938463463374607431768211456 := ⟨256 ^ (15 - i), (by decide +kernel : ∀ i, i < 16 → (256 : Int) ^ i * (256 * 256 ^ (15 - i)) = 340282366920938463463374607431768211456) i hi⟩
theorem dgt_more (X Y : Int) (i : Nat) (hi : i < 16) : dgt (X + 340282366920938463463374607431768211456 * Y) i = dgt X i := by
 obtain ⟨Q, hQ⟩ := dm16 i hi
 have h := dgt_add X Y (256 ^ i) Q (Int.pow_pos (by decide))
 rw [hQ] at h
 exact h
theorem st_dig (g : NI) : ∀ n i, i < n → st 255 8 g n i = un (ua (g i) (cy 8 g i)) 255
 | 0, i, h => absurd h (by omega)
 | n + 1, i, h => by
  unfold st
  by_cases e : i = n
  ·subst e
   rw [up_at]
  ·rw [up_ne _ _ _ e, st_dig g n i (by omega)]
theorem dby_val (g : NI) (hg : ∀ i, i < 16 → 0 ≤ g i ∧ g i < 4096) (i : Nat) (hi : i < 16) : dby g i = dgt (V 256 16 g) i := by
 have C := chain8 g 16 (fun i hi => by have := hg i hi; omega)
 have Ci := chain8 g i (fun k hk => by have := hg k (by omega); omega)
 have hv := C.val
 rw [p256] at hv
 have c0 := Ci.c0
 have c1 := Ci.c1
 have a := hg i hi
 have e : dby g i = st 255 8 g 16 i := by
  rw [st_dig g 16 i hi]
  unfold dby
  rw [cv8_eq, un8 _ (by rw [ua_eq _ _ (by omega) (by omega)]; omega) (by rw [ua_eq _ _ (by omega) (by omega)]; omega)]
 rw [e, ← dig_val _ 16 C.dig i hi, ← hv, Int.mul_comm (cy 8 g 16), dgt_more _ _ i hi]
theorem dt_tag (key s : Yb) : dtS key s = tagS key s := by
 obtain ⟨gr, er⟩ := dr_val key
 obtain ⟨g, h⟩ := dsm_val s (drF key) gr ((s.size + 15) / 16) (by omega)
 obtain ⟨w1, w2⟩ := dw_val _ g
 have w1' : ∀ i, i < 18 → 0 ≤ dh key s i ∧ dh key s i < 256 := w1
 have w2' : V 256 18 (dh key s) = hN (V 256 16 (rB (bt key))) (qS s) ((s.size + 15) / 16) := by
  rw [← er, ← h]
  exact w2
 have eg : ∀ i, i < 16 → dsg key (dh key s) i = dh key s i + bt key (16 + i) := fun i hi => by
  have a := w1' i (by omega)
  have b := bt_nn key (16 + i)
  unfold dsg
  rw [cv64_eq _ b.1 (by omega), ua_eq _ _ (by omega) (by omega)]
 unfold dtS tagS tagZ
 congr 1
 refine List.map_congr_left fun i hi => ?_
 have hi' := List.mem_range.1 hi
 rw [dby_val _ (fun k hk => by
  have a := w1' k (by omega)
  have b := bt_nn key (16 + k)
  rw [eg k hk]
  omega) i hi', V_congr 256 16 _ _ eg, V_add, ← w2', V18]
 rw [← dgt_more (V 256 16 (dh key s) + V 256 16 (fun i => bt key (16 + i))) (dh key s 16 + dh key s 17 * 256) i hi']
 congr 1
 omega
open Go.RowKit
theorem wrap8_bv (b : BitVec 8) : IntKind.wrap .u8 (b.toNat : Int) = (b.toNat : Int) := by
 have := b.isLt
 simp [IntKind.wrap, IntKind.signed, IntKind.bits]
 omega
theorem bv8_nat (n : Nat) (h : n < 256) : (BitVec.ofInt 8 (n : Int)).toNat = n := by
 rw [BitVec.toNat_ofInt]
 omega
theorem ob8_nn (x y : Int) : 0 ≤ ob8 x y ∧ ob8 x y < 256 := by
 unfold ob8
 rw [wrap8_bv]
 have := (BitVec.ofInt 8 x ||| BitVec.ofInt 8 y).isLt
 omega
theorem ob8_zero (x y : Int) (hx : 0 ≤ x ∧ x < 256) (hy : 0 ≤ y ∧ y < 256) : ob8 x y = 0 ↔ x = 0 ∧ y = 0 := by
 obtain ⟨n, rfl⟩ : ∃ n : Nat, x = (n : Int) := ⟨x.toNat, by omega⟩
 obtain ⟨m, rfl⟩ : ∃ m : Nat, y = (m : Int) := ⟨y.toNat, by omega⟩
 unfold ob8
 rw [wrap8_bv, BitVec.toNat_or, bv8_nat n (by omega), bv8_nat m (by omega)]
 have : n ||| m = 0 ↔ n = 0 ∧ m = 0 := Nat.or_eq_zero_iff
 omega
theorem xb_zero (x y : Int) (hx : 0 ≤ x ∧ x < 256) (hy : 0 ≤ y ∧ y < 256) : xb x y = 0 ↔ x = y := by
 obtain ⟨n, rfl⟩ : ∃ n : Nat, x = (n : Int) := ⟨x.toNat, by omega⟩
 obtain ⟨m, rfl⟩ : ∃ m : Nat, y = (m : Int) := ⟨y.toNat, by omega⟩
 unfold xb
 rw [wrap8_bv, BitVec.toNat_xor, bv8_nat n (by omega), bv8_nat m (by omega)]
 have : n ^^^ m = 0 ↔ n = m := ⟨fun h => by
  have e : n ^^^ m ^^^ m = m := by rw [h, Nat.zero_xor]
  rw [Nat.xor_assoc, Nat.xor_self, Nat.xor_zero] at e
  exact e, fun h => by rw [h, Nat.xor_self]⟩
 omega
def ul (a b : Yb) : Nat → Int
 | 0 => 0
 | j + 1 => ob8 (ul a b j) (xb (bt a j) (bt b j))
theorem ul_nn (a b : Yb) (n : Nat) : 0 ≤ ul a b n ∧ ul a b n < 256 := by
 cases n with
 | zero => exact ⟨by simp [ul], by simp [ul]⟩
 | succ n => exact ob8_nn _ _
theorem ul_zero (a b : Yb) : ∀ n, ul a b n = 0 ↔ ∀ i, i < n → bt a i = bt b i
 | 0 => ⟨fun _ i hi => absurd hi (by omega), fun _ => rfl⟩
 | n + 1 => by
  show ob8 (ul a b n) (xb (bt a n) (bt b n)) = 0 ↔ _
  rw [ob8_zero _ _ (ul_nn a b n) (xb_nn _ _), ul_zero a b n, xb_zero _ _ (bt_nn a n) (bt_nn b n)]
  constructor
  ·rintro ⟨h1, h2⟩ i hi
   by_cases e : i = n
   ·rw [e, h2]
   ·exact h1 i (by omega)
  ·intro h
   exact ⟨fun i hi => h i (by omega), h n (by omega)⟩
theorem bt_ext (a b : Yb) (hs : a.size = b.size) (h : ∀ i, i < a.size → bt a i = bt b i) : a = b := by
 have e : sb a = sb b := by
  refine List.ext_getElem? fun i => ?_
  by_cases hi : i < a.size
  ·rw [sb_get a i hi, sb_get b i (by omega), h i hi]
  ·rw [List.getElem?_eq_none (by rw [sb_length]; omega), List.getElem?_eq_none (by rw [sb_length]; omega)]
 rw [← bs_sb a, e, bs_sb]
theorem ul_eq (a b : Yb) (hs : a.size = b.size) : (ul a b a.size = 0) ↔ a = b := by
 rw [ul_zero]
 constructor
 ·exact bt_ext a b hs
 ·rintro rfl i _
  rfl
theorem toList_ne {a b : Yb} (h : a ≠ b) : (a.toList == b.toList) = false := by
 rw [ByteArray.toList_eq, ByteArray.toList_eq, beq_eq_false_iff_ne]
 intro e
 exact h (ByteArray.ext (Array.toList_inj.1 e))
theorem c_sameA (x y : Yb) (h : x.size ≠ y.size) (w : World) (hL : Laid w)  : Cs 76 #[.string x, .string y] w (.bool false) := by
 go_enter Tryz.func76, Tryz.ntmps76
 have M := Mem.start hL
 refine sq <| wp_seq <| sR <| rV 4 ?_
 refine ZS 11 ((x.size : Int) = (y.size : Int)) ?_
 refine nT <| cT <| sq <| wp_ret <| au_then_ret ?_
 exact b1 M
theorem c_sameB (x y : Yb) (h : x.size = y.size) (e : x = y) (hz : x.size ≤ 200000) (w : World) (hL : Laid w)  : Cs 76 #[.string x, .string y] w (.bool true) := by
 go_enter Tryz.func76, Tryz.ntmps76
 have M := Mem.start hL
 refine sq <| wp_seq <| sR <| rV 4 ?_
 refine ZD 11 ((x.size : Int) = (y.size : Int)) ?_
 refine nT <| cF <| wp_skip <| au_then <| sq ?_
 refine wp_seq <| sq ?_
 refine wp_block ?_
 refine au_loop (fun j a w' => ∃ v1 : NV, a = (fm ([.string x, .string y, undef, undef, .bool false, .int .u8 (ul x y j), v1 6, .string x, .int .i64 (x.size : Int), .string y, .int .i64 (y.size : Int), .bool false, .string x, .int .i64 (x.size : Int), .int .i64 (j : Int)] ++ vr v1 15 12 ++ [undef, undef])) ∧ Mem ⟨w, []⟩ [] w') x.size (exS M) ?_ ?_
 ·intro j a u0 hj hI
  obtain ⟨v1, rfl, M⟩ := hI
  refine sR ?_
  refine ZT 15 ((j : Int) < (x.size : Int)) ?_
  refine nT <| wp_seq <| cT <| wp_skip <| au_then ?_
  refine wp_seq ?_
  refine wp_block ?_
  refine sq ?_
  refine rg_tail M 9 (by kernel_rfl) (by kernel_rfl) ?_
  simp only [List.take_succ_cons, List.take_zero]
  refine kR 3 ?_
  refine kH 20 (.int .u8 (bt x j)) (run_ixS 9 Tryz.underlying9 _ _ rfl x (by kernel_rfl) .i64 j (by kernel_rfl) (by omega)) ?_
  refine kR 2 ?_
  refine kH 23 (.int .u8 (bt y j)) (run_ixS 9 Tryz.underlying9 _ _ rfl y (by kernel_rfl) .i64 j (by kernel_rfl) (by omega)) ?_
  refine kR 2 ?_
  refine kl_nil fun u1 M => ?_
  refine rV 1 ?_
  refine pl_nil ?_
  refine au_block ?_
  refine au_then ?_
  refine rg_lit ?_
  refine ZI 26 ((j : Int) + 1) ((j + 1 : Nat) : Int) ?_
  refine rV 1 <| nT ?_
  exact exS M
 ·intro a u0 hI
  obtain ⟨v1, rfl, M⟩ := hI
  refine sR ?_
  refine ZF 15 ((x.size : Int) < (x.size : Int)) ?_
  refine nT <| wp_seq <| cF ?_
  refine wp_exit ?_
  refine au_then_exit ?_
  refine au_then_exit ?_
  refine au_block_exit ?_
  refine au_then <| sR <| rV 1 ?_
  refine pH 28 (.bool true) (jT (ul x y x.size = 0) ((ul_eq x y h).2 e)) ?_
  refine rV 1 <| nT <| wp_ret ?_
  exact b1 M
theorem c_sameC (x y : Yb) (h : x.size = y.size) (e : x ≠ y) (hz : x.size ≤ 200000) (w : World) (hL : Laid w)  : Cs 76 #[.string x, .string y] w (.bool false) := by
 go_enter Tryz.func76, Tryz.ntmps76
 have M := Mem.start hL
 refine sq <| wp_seq <| sR <| rV 4 ?_
 refine ZD 11 ((x.size : Int) = (y.size : Int)) ?_
 refine nT <| cF <| wp_skip <| au_then <| sq ?_
 refine wp_seq <| sq ?_
 refine wp_block ?_
 refine au_loop (fun j a w' => ∃ v1 : NV, a = (fm ([.string x, .string y, undef, undef, .bool false, .int .u8 (ul x y j), v1 6, .string x, .int .i64 (x.size : Int), .string y, .int .i64 (y.size : Int), .bool false, .string x, .int .i64 (x.size : Int), .int .i64 (j : Int)] ++ vr v1 15 12 ++ [undef, undef])) ∧ Mem ⟨w, []⟩ [] w') x.size (exS M) ?_ ?_
 ·intro j a u0 hj hI
  obtain ⟨v1, rfl, M⟩ := hI
  refine sR ?_
  refine ZT 15 ((j : Int) < (x.size : Int)) ?_
  refine nT <| wp_seq <| cT <| wp_skip <| au_then ?_
  refine wp_seq ?_
  refine wp_block ?_
  refine sq ?_
  refine rg_tail M 9 (by kernel_rfl) (by kernel_rfl) ?_
  simp only [List.take_succ_cons, List.take_zero]
  refine kR 3 ?_
  refine kH 20 (.int .u8 (bt x j)) (run_ixS 9 Tryz.underlying9 _ _ rfl x (by kernel_rfl) .i64 j (by kernel_rfl) (by omega)) ?_
  refine kR 2 ?_
  refine kH 23 (.int .u8 (bt y j)) (run_ixS 9 Tryz.underlying9 _ _ rfl y (by kernel_rfl) .i64 j (by kernel_rfl) (by omega)) ?_
  refine kR 2 ?_
  refine kl_nil fun u1 M => ?_
  refine rV 1 ?_
  refine pl_nil ?_
  refine au_block ?_
  refine au_then ?_
  refine rg_lit ?_
  refine ZI 26 ((j : Int) + 1) ((j + 1 : Nat) : Int) ?_
  refine rV 1 <| nT ?_
  exact exS M
 ·intro a u0 hI
  obtain ⟨v1, rfl, M⟩ := hI
  refine sR ?_
  refine ZF 15 ((x.size : Int) < (x.size : Int)) ?_
  refine nT <| wp_seq <| cF ?_
  refine wp_exit ?_
  refine au_then_exit ?_
  refine au_then_exit ?_
  refine au_block_exit ?_
  refine au_then <| sR <| rV 1 ?_
  refine pH 28 (.bool false) (jF (ul x y x.size = 0) (fun k => e ((ul_eq x y h).1 k))) ?_
  refine rV 1 <| nT <| wp_ret ?_
  exact b1 M
theorem c_same (x y : Yb) (hz : x.size ≤ 200000) (w : World) (hL : Laid w) : Cs 76 #[.string x, .string y] w (.bool (decide (x = y))) := by
 by_cases h : x.size = y.size
 ·by_cases e : x = y
  ·rw [decide_eq_true e]
   exact c_sameB x y h e hz w hL
  ·rw [decide_eq_false e]
   exact c_sameC x y h e hz w hL
 ·rw [decide_eq_false (fun e => h (by rw [e]))]
  exact c_sameA x y h w hL
theorem c_Tag (key s : Yb) (hk : key.size = 32) (hz : s.size ≤ 200000) (w : World) (hL : Laid w) : Cs 104 #[.string key, .string s] w (.tuple #[.string (tagS key s), .int .i64 0]) := by
 rw [← tg_val key s hk]
 exact c_TagA key s hk hz w hL
theorem d_Tag (key s : Yb) (hk : key.size = 32) (hz : s.size ≤ 200000) (w : World) (hL : Laid w) : Cs 51 #[.string key, .string s] w (.tuple #[.string (tagS key s), .int .i64 0]) := by
 rw [← dt_tag key s]
 exact d_TagA key s hk hz w hL
theorem tagS_size (key s : Yb) : (tagS key s).size = 16 := by
 unfold tagS
 rw [bs_size]
 simp
end Go.Proofs.YtiahdbibeleakaaGreatDoor.Pol
namespace Go.Proofs.YtiahdbibeleakaaGreatDoor
open Go.RowKit
def wb (n : Int) (i : Nat) : Int := cv .u8 (sr n (8 * i))
def wbs (n : Int) : Nat → (Nat → Int)
 | 0 => fun _ => 0
 | j + 1 => upd (wbs n j) j (wb n j)
theorem wbs_at (n : Int) : ∀ m, ∀ i, i < m → wbs n m i = wb n i
 | 0, i, h => absurd h (by omega)
 | m + 1, i, h => by
  unfold wbs upd
  by_cases e : i = m
  ·rw [if_pos e, e]
  ·rw [if_neg e, wbs_at n m i (by omega)]
theorem wbs_map (n : Int) : (List.range 8).map (wbs n 8) = (List.range 8).map (wb n) := List.map_congr_left fun i hi => wbs_at n 8 i (List.mem_range.1 hi)
theorem wb_nn (n : Int) : ∀ y ∈ (List.range 8).map (wb n), 0 ≤ y ∧ y < 256 := fun y hy => by
 obtain ⟨i, _, rfl⟩ := List.mem_map.1 hy
 exact cv8_nn _
def wS (n : Int) : ByteArray := bs ((List.range 8).map (wb n))
theorem wS_size (n : Int) : (wS n).size = 8 := by
 unfold wS
 rw [bs_size]
 simp
def zB (n : Nat) : ByteArray := bs ((List.range n).map fun _ => 0)
theorem zB_size (n : Nat) : (zB n).size = n := by
 unfold zB
 rw [bs_size]
 simp
theorem z_nn (n : Nat) : ∀ x ∈ (List.range n).map fun _ => (0 : Int), 0 ≤ x ∧ x < 256 := fun x hx => by
 obtain ⟨i, _, rfl⟩ := List.mem_map.1 hx
 decide
theorem z_rep (n : Nat) : List.replicate n (0 : Int) = (List.range n).map fun _ => 0 := by
 apply List.ext_getElem?
 intro i
 by_cases h : i < n
 ·simp [h]
 ·rw [List.getElem?_eq_none (by simp; omega), List.getElem?_eq_none (by simp; omega)]
theorem rem16 (n : Nat) : Int.tmod (n : Int) 16 = ((n % 16 : Nat) : Int) := by
 rw [Int.tmod_eq_emod_of_nonneg (by omega)]
 omega
def nS (n : Int) : ByteArray := zB 4 ++ wS n
theorem nS_size (n : Int) : (nS n).size = 12 := by
 unfold nS
 rw [ByteArray.size_append, zB_size, wS_size]
theorem c_word (n : Int) (w : World) (hL : Laid w)  : Cs 72 #[.int .u64 n] w (.string (wS n)) := by
 go_enter Tryz.func72, Tryz.ntmps72
 have M := Mem.start hL
 refine sq <| sR <| pN M 3 (.cells (av 8 (w8 (fun _ => 0))) 156) fun g1 u1 M => nT <| wp_seq <| sq <| wp_block ?_
 refine au_loop (fun j a w' => ∃ v1 : NV, a = (fm ([.int .u64 n, v1 1, .string ⟨#[]⟩, .pointer (some ⟨g1, 0, none⟩), v1 4, .int .i64 (j : Int)] ++ vr v1 6 12)) ∧ Mem ⟨w, []⟩ [⟨g1, .cells (av 8 (w8 (wbs n j))) 156⟩] w') 8 (exS M) ?_ ?_
 ·intro j a u0 hj hI
  obtain ⟨v1, rfl, M⟩ := hI
  refine sR <| ZT 6 ((j : Int) < 8) <| nT <| wp_seq <| cT <| wp_skip <| au_then <| wp_seq <| wp_block <| sq <| rg_lit <| rV 3 <| ZI 11 (8 * (j : Int)) ((8 * j : Nat) : Int) <| pH 12 (.int .u64 (sr n (8 * j))) (Pol.run_shrU 33 3 _ _ rfl _ .i64 (8 * j) (by kernel_rfl) (by kernel_rfl) (by omega)) <| rV 1 <| ZX 14 .i64 g1 (j) 8 ?_
  refine ZP8 M 0 j (cv .u8 (sr n (8 * j))) fun u2 M => pl_nil <| au_block <| au_then <| rg_lit <| ZI 15 ((j : Int) + 1) ((j + 1 : Nat) : Int) <| rV 1 <| nT ?_
  exact exS M
 ·intro a u0 hI
  obtain ⟨v1, rfl, M⟩ := hI
  refine sR <| ZF 6 (8 < 8) <| nT <| wp_seq <| cF <| wp_exit <| au_then_exit <| au_then_exit <| au_block_exit <| au_then <| sR <| rV 1 <| pl_back M (want_no rfl) (some 17) rfl _ rfl 0 g1 8 8 (by kernel_rfl) _ rfl ((List.range 8).map (wbs n 8)) 8 (sb_av 8 _ _) (by simp) (by rw [wbs_map]; exact wb_nn _) ?_
  rw [wbs_map]
  refine rV 1 <| nT <| wp_ret ?_
  exact b1 M
theorem d_eight (n : Int) (w : World) (hL : Laid w)  : Cs 29 #[.int .u64 n] w (.string (wS n)) := by
 go_enter Tryz.func29, Tryz.ntmps29
 have M := Mem.start hL
 refine sq <| sR <| ZM M 5 (fun g1 => .slice (some ⟨g1, 0, none⟩) 8 8) (.cells (av 8 (w8 (fun _ => 0))) 5) fun g1 u1 M => rV 1 <| nT <| wp_seq <| sq <| wp_block ?_
 refine au_loop (fun j a w' => ∃ v1 : NV, a = (fm ([.int .u64 n, v1 1, .string ⟨#[]⟩, .slice (some ⟨g1, 0, none⟩) 8 8, .int .i64 (j : Int)] ++ vr v1 5 16)) ∧ Mem ⟨w, []⟩ [⟨g1, .cells (av 8 (w8 (wbs n j))) 5⟩] w') 8 (exS M) ?_ ?_
 ·intro j a u0 hj hI
  obtain ⟨v1, rfl, M⟩ := hI
  refine wp_seq <| sR <| rV 1 <| ZT 7 ((j : Int) < 8) <| nT <| cT <| wp_skip <| au_then <| wp_seq <| wp_block <| rg_lit <| rV 4 <| ZI 14 (8 * (j : Int)) ((8 * j : Nat) : Int) <| ZQ 15 .u64 (cv .u64 ((8 * j : Nat) : Int)) (cvu64 _ (by omega)) <| pH 16 (.int .u64 (sr n (8 * j))) (Pol.run_shrU 33 106 _ _ rfl _ .u64 (8 * j) (by kernel_rfl) (by kernel_rfl) (by omega)) <| rV 1 ?_
  refine pH 18 (.pointer (some ⟨g1, j, none⟩)) (run_ix0 44 5 Tryz.underlying44 inz5 _ _ rfl g1 8 8 (by kernel_rfl) .i64 j (by kernel_rfl) (by omega)) <| ZP8 M 0 j (cv .u8 (sr n (8 * j))) fun u2 M => pl_nil <| au_block <| au_then <| rg_lit <| rV 1 <| ZI 9 ((j : Int) + 1) ((j + 1 : Nat) : Int) <| rV 1 <| nT ?_
  exact exS M
 ·intro a u0 hI
  obtain ⟨v1, rfl, M⟩ := hI
  refine wp_seq <| sR <| rV 1 <| ZF 7 (8 < 8) <| nT <| cF <| wp_exit <| au_then_exit <| au_then_exit <| au_block_exit <| au_then <| sR <| rV 1 <| pl_back M (want_no rfl) (some 20) rfl _ rfl 0 g1 8 8 (by kernel_rfl) _ rfl ((List.range 8).map (wbs n 8)) 8 (sb_av 8 _ _) (by simp) (by rw [wbs_map]; exact wb_nn _) ?_
  rw [wbs_map]
  refine rV 1 <| nT <| wp_ret ?_
  exact b1 M
def pn (m : Nat) : Nat := (16 - m % 16) % 16
theorem pn_lt (m : Nat) : pn m < 16 := Nat.mod_lt _ (by decide)
theorem pn_sum (m : Nat) : (m + pn m) % 16 = 0 := by
 unfold pn
 omega
theorem d_pad (s : Yb) (w : World) (hL : Laid w)  : Cs 53 #[.string s] w (.string (zB (pn s.size))) := by
 go_enter Tryz.func53, Tryz.ntmps53
 have M := Mem.start hL
 refine sq <| sR <| rV 2 <| ZQ 5 .i64 (Int.tmod ((s.size : Nat) : Int) 16) (rem16 (s.size)) <| ZI 6 (16 - ((s.size % 16 : Nat) : Int)) ((16 - s.size % 16 : Nat) : Int) <| zJ 7 (.int .i64 ((pn s.size : Nat) : Int)) (.int .i64 (Int.tmod ((16 - s.size % 16 : Nat) : Int) 16)) (by rw [rem16]; rfl) ?_
 obtain ⟨i0, hi0, hz0, hz1, hz2⟩ := info_parts repExtra.infoByte
 have hpn := pn_lt s.size
 refine pl_makeZ M (want_no rfl) (some 8) rfl 44 5 i0 Tryz.underlying44 hi0 hz0 hz1 (by omega) _ _ rfl .i64 .i64 (pn s.size) (by kernel_rfl) (by kernel_rfl) (by omega) ?_
 intro g1 Z9 u1 hZ9 M
 rw [z_rep] at hZ9
 refine pl_back M (want_no rfl) (some 9) rfl _ rfl 0 g1 (pn s.size) (pn s.size) (by kernel_rfl) _ rfl ((List.range (pn s.size)).map fun _ => 0) _ hZ9 (by simp) (z_nn _) <| rV 1 <| nT <| wp_ret ?_
 exact b1 M
section
variable {P : Program} {ops : Array Oper} {o o2 : Oper} {a : Act} {w : World} {Q : Exit → Act → World → Prop} {S : World → Prop} {n fuel : Nat} {listed : Array Bool}
theorem hl_two (i j : Nat) (hin : i < n) (hjn : j < n) (hr : Region.ready .any ops listed = [i, j]) (hi : ops.toList[i]? = some o) (hj : ops.toList[j]? = some o2)
  (h : PL P ops (Exit.then (fun a' w' => S w' ∧ HL P ops Q S n fuel (listed.setIfInBounds i true) a' w') Q) [o] a w)
  (h2 : PL P ops (Exit.then (fun a' w' => S w' ∧ HL P ops Q S n fuel (listed.setIfInBounds j true) a' w') Q) [o2] a w) : HL P ops Q S n (fuel + 1) listed a w := by
 refine ⟨fun hQ hB inv => ⟨fun h0 => (by rw [hr] at h0; cases h0), fun m hm => ?_⟩⟩
 have hm' := hm
 rw [hr] at hm
 rcases List.mem_cons.1 hm with rfl | hm
 ·exact wpOp_mono (fun a' w' h3 => ⟨fun _ => h3.1, h3.2.out hQ hB (inv.set hm' hin)⟩) (wpOp_one (by rw [← Array.getElem?_toList]; exact hi) h.out)
 ·obtain rfl := List.mem_singleton.1 hm
  exact wpOp_mono (fun a' w' h3 => ⟨fun _ => h3.1, h3.2.out hQ hB (inv.set hm' hjn)⟩) (wpOp_one (by rw [← Array.getElem?_toList]; exact hj) h2.out)
end
theorem c_Nonce (n : Int) (w : World) (hL : Laid w)  : Cs 47 #[.int .u64 n] w (.string (nS n)) := by
 go_enter Tryz.func47, Tryz.ntmps47
 have M := Mem.start hL
 refine sq <| wp_seq <| rgh M [] 5 fun u1 M => qV M 2 5 (.int .u64 n) ?_
 refine hl_two 0 3 (by decide) (by decide) (by kernel_rfl) rfl rfl ?_ ?_
 ·refine ZM M 3 (fun g1 => .slice (some ⟨g1, 0, none⟩) 4 4) (.cells (av 4 (w8 (fun _ => 0))) 5) fun g1 u2 M => nT ?_
  refine ⟨(M.drop (.cons _ (.slnil))), ?_⟩
  refine hl_two 1 3 (by decide) (by decide) (by kernel_rfl) rfl rfl ?_ ?_
  ·refine pl_back M (want_no rfl) (some 4) rfl _ rfl 0 g1 4 4 (by kernel_rfl) _ rfl ((List.range 4).map fun _ => 0) 4 (sb_av 4 _ _) (by simp) (z_nn _) <| nT ?_
   refine ⟨(M.drop (.cons _ (.slnil))), ?_⟩
   refine qO 3 ?_
   refine ZC M 6 (fun w M => c_word n w M.laid) fun u3 M => nT ?_
   refine ⟨(M.drop (.cons _ (.slnil))), ?_⟩
   refine qH (M.drop (.cons _ (.slnil))) 4 7 (.string (nS n)) (fun w _ => (run_cat 9 9 _ _ rfl (zB 4) (wS n) (by kernel_rfl) (by kernel_rfl) (by rw [zB_size, wS_size]; decide)) w) <| qZ ?_
   refine rV 1 <| nT <| au_then <| wp_ret ?_
   exact b1 M
  ·refine ZC M 6 (fun w M => c_word n w M.laid) fun u4 M => nT ?_
   refine ⟨(M.drop (.cons _ (.slnil))), ?_⟩
   refine qO 1 ?_
   refine pl_back M (want_no rfl) (some 4) rfl _ rfl 0 g1 4 4 (by kernel_rfl) _ rfl ((List.range 4).map fun _ => 0) 4 (sb_av 4 _ _) (by simp) (z_nn _) <| nT ?_
   refine ⟨(M.drop (.cons _ (.slnil))), ?_⟩
   refine qH (M.drop (.cons _ (.slnil))) 4 7 (.string (nS n)) (fun w _ => (run_cat 9 9 _ _ rfl (zB 4) (wS n) (by kernel_rfl) (by kernel_rfl) (by rw [zB_size, wS_size]; decide)) w) <| qZ ?_
   refine rV 1 <| nT <| au_then <| wp_ret ?_
   exact b1 M
 ·refine ZC M 6 (fun w M => c_word n w M.laid) fun u5 M => nT ?_
  refine ⟨M, ?_⟩
  refine qO 0 ?_
  refine ZM M 3 (fun g2 => .slice (some ⟨g2, 0, none⟩) 4 4) (.cells (av 4 (w8 (fun _ => 0))) 5) fun g2 u6 M => nT ?_
  refine ⟨(M.drop (.cons _ (.slnil))), ?_⟩
  refine qO 1 ?_
  refine pl_back M (want_no rfl) (some 4) rfl _ rfl 0 g2 4 4 (by kernel_rfl) _ rfl ((List.range 4).map fun _ => 0) 4 (sb_av 4 _ _) (by simp) (z_nn _) <| nT ?_
  refine ⟨(M.drop (.cons _ (.slnil))), ?_⟩
  refine qH (M.drop (.cons _ (.slnil))) 4 7 (.string (nS n)) (fun w _ => (run_cat 9 9 _ _ rfl (zB 4) (wS n) (by kernel_rfl) (by kernel_rfl) (by rw [zB_size, wS_size]; decide)) w) <| qZ ?_
  refine rV 1 <| nT <| au_then <| wp_ret ?_
  exact b1 M
theorem d_Nonce (n : Int) (w : World) (hL : Laid w)  : Cs 13 #[.int .u64 n] w (.string (nS n)) := by
 go_enter Tryz.func13, Tryz.ntmps13
 have M := Mem.start hL
 refine sq <| wp_seq <| rgh M [] 5 fun u1 M => qV M 2 5 (.int .u64 n) ?_
 refine hl_two 0 3 (by decide) (by decide) (by kernel_rfl) rfl rfl ?_ ?_
 ·refine ZM M 3 (fun g1 => .slice (some ⟨g1, 0, none⟩) 4 4) (.cells (av 4 (w8 (fun _ => 0))) 5) fun g1 u2 M => nT ?_
  refine ⟨(M.drop (.cons _ (.slnil))), ?_⟩
  refine hl_two 1 3 (by decide) (by decide) (by kernel_rfl) rfl rfl ?_ ?_
  ·refine pl_back M (want_no rfl) (some 4) rfl _ rfl 0 g1 4 4 (by kernel_rfl) _ rfl ((List.range 4).map fun _ => 0) 4 (sb_av 4 _ _) (by simp) (z_nn _) <| nT ?_
   refine ⟨(M.drop (.cons _ (.slnil))), ?_⟩
   refine qO 3 ?_
   refine ZC M 6 (fun w M => d_eight n w M.laid) fun u3 M => nT ?_
   refine ⟨(M.drop (.cons _ (.slnil))), ?_⟩
   refine qH (M.drop (.cons _ (.slnil))) 4 7 (.string (nS n)) (fun w _ => (run_cat 9 9 _ _ rfl (zB 4) (wS n) (by kernel_rfl) (by kernel_rfl) (by rw [zB_size, wS_size]; decide)) w) <| qZ ?_
   refine rV 1 <| nT <| au_then <| wp_ret ?_
   exact b1 M
  ·refine ZC M 6 (fun w M => d_eight n w M.laid) fun u4 M => nT ?_
   refine ⟨(M.drop (.cons _ (.slnil))), ?_⟩
   refine qO 1 ?_
   refine pl_back M (want_no rfl) (some 4) rfl _ rfl 0 g1 4 4 (by kernel_rfl) _ rfl ((List.range 4).map fun _ => 0) 4 (sb_av 4 _ _) (by simp) (z_nn _) <| nT ?_
   refine ⟨(M.drop (.cons _ (.slnil))), ?_⟩
   refine qH (M.drop (.cons _ (.slnil))) 4 7 (.string (nS n)) (fun w _ => (run_cat 9 9 _ _ rfl (zB 4) (wS n) (by kernel_rfl) (by kernel_rfl) (by rw [zB_size, wS_size]; decide)) w) <| qZ ?_
   refine rV 1 <| nT <| au_then <| wp_ret ?_
   exact b1 M
 ·refine ZC M 6 (fun w M => d_eight n w M.laid) fun u5 M => nT ?_
  refine ⟨M, ?_⟩
  refine qO 0 ?_
  refine ZM M 3 (fun g2 => .slice (some ⟨g2, 0, none⟩) 4 4) (.cells (av 4 (w8 (fun _ => 0))) 5) fun g2 u6 M => nT ?_
  refine ⟨(M.drop (.cons _ (.slnil))), ?_⟩
  refine qO 1 ?_
  refine pl_back M (want_no rfl) (some 4) rfl _ rfl 0 g2 4 4 (by kernel_rfl) _ rfl ((List.range 4).map fun _ => 0) 4 (sb_av 4 _ _) (by simp) (z_nn _) <| nT ?_
  refine ⟨(M.drop (.cons _ (.slnil))), ?_⟩
  refine qH (M.drop (.cons _ (.slnil))) 4 7 (.string (nS n)) (fun w _ => (run_cat 9 9 _ _ rfl (zB 4) (wS n) (by kernel_rfl) (by kernel_rfl) (by rw [zB_size, wS_size]; decide)) w) <| qZ ?_
  refine rV 1 <| nT <| au_then <| wp_ret ?_
  exact b1 M
theorem sfA (key nonce ad s : Yb) (m : Nat) (_hm : m ≤ 16) (h : key.size ≠ 32) (w : World) (hL : Laid w)  : Cs 69 #[.string key, .string nonce, .string ad, .string s, .int .i64 (m : Int)] w (.int .i64 2) := by
 go_enter Tryz.func69, Tryz.ntmps69
 have M := Mem.start hL
 refine sq <| wp_seq <| wp_block <| wp_seq <| sR <| rV 2 <| ZS 14 ((key.size : Int) = 32) <| rV 1 <| nT <| cT <| wp_skip <| au_then <| cT <| sq <| wp_ret <| au_block_ret ?_
 refine au_then_ret ?_
 exact b1 M
theorem sfB (key nonce ad s : Yb) (m : Nat) (_hm : m ≤ 16) (h : key.size = 32) (h2 : nonce.size ≠ 12) (w : World) (hL : Laid w)  : Cs 69 #[.string key, .string nonce, .string ad, .string s, .int .i64 (m : Int)] w (.int .i64 2) := by
 go_enter Tryz.func69, Tryz.ntmps69
 have M := Mem.start hL
 refine sq <| wp_seq <| wp_block <| wp_seq <| sR <| rV 2 <| ZD 14 ((key.size : Int) = 32) <| rV 1 <| nT <| cF <| rg_lit <| rV 2 <| ZS 17 ((nonce.size : Int) = 12) <| rV 1 <| nT <| cT ?_
 refine sq <| wp_ret <| au_block_ret <| au_then_ret ?_
 exact b1 M
theorem sfC (key nonce ad s : Yb) (m : Nat) (_hm : m ≤ 16) (hk : key.size = 32 ∧ nonce.size = 12) (h : 65536 < ad.size) (w : World) (hL : Laid w)  : Cs 69 #[.string key, .string nonce, .string ad, .string s, .int .i64 (m : Int)] w (.int .i64 4) := by
 go_enter Tryz.func69, Tryz.ntmps69
 have M := Mem.start hL
 refine sq <| wp_seq <| wp_block <| wp_seq <| sR <| rV 2 <| ZD 14 ((key.size : Int) = 32) <| rV 1 <| nT <| cF <| rg_lit <| rV 2 <| ZD 17 ((nonce.size : Int) = 12) <| rV 1 <| nT <| cF ?_
 refine wp_seq <| sR <| rV 2 <| ZT 21 ((65536 : Int) < (ad.size : Int)) <| rV 1 <| nT <| cT <| wp_skip <| au_then <| cT <| sq <| wp_ret <| au_block_ret <| au_then_ret ?_
 exact b1 M
theorem sfD (key nonce ad s : Yb) (m : Nat) (_hm : m ≤ 16) (hk : key.size = 32 ∧ nonce.size = 12) (h : ¬ 65536 < ad.size) (h2 : 65536 + m < s.size) (w : World) (hL : Laid w)  : Cs 69 #[.string key, .string nonce, .string ad, .string s, .int .i64 (m : Int)] w (.int .i64 4) := by
 go_enter Tryz.func69, Tryz.ntmps69
 have M := Mem.start hL
 refine sq <| wp_seq <| wp_block <| wp_seq <| sR <| rV 2 <| ZD 14 ((key.size : Int) = 32) <| rV 1 <| nT <| cF <| rg_lit <| rV 2 <| ZD 17 ((nonce.size : Int) = 12) <| rV 1 <| nT <| cF ?_
 refine wp_seq <| sR <| rV 2 <| ZF 21 ((65536 : Int) < (ad.size : Int)) <| rV 1 <| nT <| cF <| rg_lit <| rV 3 <| ZI 25 (65536 + (m : Int)) ((65536 + m : Nat) : Int) <| ZT 26 (((65536 + m : Nat) : Int) < (s.size : Int)) <| rV 1 <| nT <| cT <| sq <| wp_ret ?_
 refine au_block_ret <| au_then_ret ?_
 exact b1 M
theorem sfE (key nonce ad s : Yb) (m : Nat) (_hm : m ≤ 16) (hk : key.size = 32 ∧ nonce.size = 12) (h : ¬ 65536 < ad.size) (h2 : s.size < m) (w : World) (hL : Laid w)  : Cs 69 #[.string key, .string nonce, .string ad, .string s, .int .i64 (m : Int)] w (.int .i64 100) := by
 go_enter Tryz.func69, Tryz.ntmps69
 have M := Mem.start hL
 refine sq <| wp_seq <| wp_block <| wp_seq <| sR <| rV 2 <| ZD 14 ((key.size : Int) = 32) <| rV 1 <| nT <| cF <| rg_lit <| rV 2 <| ZD 17 ((nonce.size : Int) = 12) <| rV 1 <| nT <| cF ?_
 refine wp_seq <| sR <| rV 2 <| ZF 21 ((65536 : Int) < (ad.size : Int)) <| rV 1 <| nT <| cF <| rg_lit <| rV 3 <| ZI 25 (65536 + (m : Int)) ((65536 + m : Nat) : Int) <| ZF 26 (((65536 + m : Nat) : Int) < (s.size : Int)) <| rV 1 <| nT <| cF <| sR <| rV 3 ?_
 refine ZT 31 ((s.size : Int) < (m : Int)) <| rV 1 <| nT <| cT <| sq <| wp_ret <| au_block_ret <| au_then_ret ?_
 exact b1 M
theorem sfF (key nonce ad s : Yb) (m : Nat) (_hm : m ≤ 16) (hk : key.size = 32 ∧ nonce.size = 12) (h : ¬ 65536 < ad.size) (h2 : ¬ 65536 + m < s.size) (h3 : ¬ s.size < m) (w : World) (hL : Laid w)  : Cs 69 #[.string key, .string nonce, .string ad, .string s, .int .i64 (m : Int)] w (.int .i64 0) := by
 go_enter Tryz.func69, Tryz.ntmps69
 have M := Mem.start hL
 refine sq <| wp_seq <| wp_block <| wp_seq <| sR <| rV 2 <| ZD 14 ((key.size : Int) = 32) <| rV 1 <| nT <| cF <| rg_lit <| rV 2 <| ZD 17 ((nonce.size : Int) = 12) <| rV 1 <| nT <| cF ?_
 refine wp_seq <| sR <| rV 2 <| ZF 21 ((65536 : Int) < (ad.size : Int)) <| rV 1 <| nT <| cF <| rg_lit <| rV 3 <| ZI 25 (65536 + (m : Int)) ((65536 + m : Nat) : Int) <| ZF 26 (((65536 + m : Nat) : Int) < (s.size : Int)) <| rV 1 <| nT <| cF <| sR <| rV 3 ?_
 refine ZF 31 ((s.size : Int) < (m : Int)) <| rV 1 <| nT <| cF <| wp_skip <| au_block <| au_then <| sq <| wp_ret ?_
 exact b1 M
def sf (key nonce ad s : Yb) (m : Nat) : Int := if key.size ≠ 32 ∨ nonce.size ≠ 12 then 2 else if 65536 < ad.size ∨ 65536 + m < s.size then 4 else if s.size < m then 100 else 0
theorem c_fault (key nonce ad s : Yb) (m : Nat) (hm : m ≤ 16) (w : World) (hL : Laid w) : Cs 69 #[.string key, .string nonce, .string ad, .string s, .int .i64 (m : Int)] w (.int .i64 (sf key nonce ad s m)) := by
 unfold sf
 by_cases h : key.size = 32
 ·by_cases h2 : nonce.size = 12
  ·rw [if_neg (by omega)]
   by_cases h3 : 65536 < ad.size
   ·rw [if_pos (.inl h3)]
    exact sfC key nonce ad s m hm ⟨h, h2⟩ h3 w hL
   ·by_cases h4 : 65536 + m < s.size
    ·rw [if_pos (.inr h4)]
     exact sfD key nonce ad s m hm ⟨h, h2⟩ h3 h4 w hL
    ·rw [if_neg (by omega)]
     by_cases h5 : s.size < m
     ·rw [if_pos h5]
      exact sfE key nonce ad s m hm ⟨h, h2⟩ h3 h5 w hL
     ·rw [if_neg h5]
      exact sfF key nonce ad s m hm ⟨h, h2⟩ h3 h4 h5 w hL
  ·rw [if_pos (.inr h2)]
   exact sfB key nonce ad s m hm h h2 w hL
 ·rw [if_pos (.inl h)]
  exact sfA key nonce ad s m hm h w hL
open Go.RowKit
def j1 (ad : Yb) : List UInt8 := ad.data.toList ++ List.replicate (pn ad.size) 0
def j1c (ad c : Yb) : List UInt8 := j1 ad ++ c.data.toList
def j2 (ad c : Yb) : List UInt8 := j1c ad c ++ List.replicate (pn (ad.size + pn ad.size + c.size)) 0
def m1 (ad : Yb) : List UInt8 := (wS (ad.size : Int)).data.toList
def m2 (ad c : Yb) : List UInt8 := m1 ad ++ (wS (c.size : Int)).data.toList
def mS (ad c : Yb) : ByteArray := ⟨(m2 ad c).toArray⟩
def jn (ad c : Yb) : ByteArray := ⟨(j2 ad c ++ m2 ad c).toArray⟩
theorem dl_len (s : Yb) : s.data.toList.length = s.size := rfl
theorem j1_len (ad : Yb) : (j1 ad).length = ad.size + pn ad.size := by
 unfold j1
 rw [List.length_append, dl_len, List.length_replicate]
theorem j1c_len (ad c : Yb) : (j1c ad c).length = ad.size + pn ad.size + c.size := by
 unfold j1c
 rw [List.length_append, dl_len, j1_len]
theorem j2_len (ad c : Yb) : (j2 ad c).length = ad.size + pn ad.size + c.size + pn (ad.size + pn ad.size + c.size) := by
 unfold j2
 rw [List.length_append, j1c_len, List.length_replicate]
theorem m1_len (ad : Yb) : (m1 ad).length = 8 := by
 unfold m1
 rw [dl_len, wS_size]
theorem m2_len (ad c : Yb) : (m2 ad c).length = 16 := by
 unfold m2
 rw [List.length_append, dl_len, wS_size, m1_len]
theorem rep_more (l : List UInt8) (j : Nat) : l ++ List.replicate j 0 ++ [UInt8.ofNat (0 : Int).toNat] = l ++ List.replicate (j + 1) 0 := by
 rw [List.append_assoc, List.replicate_succ']
 rfl
theorem rep_len (l : List UInt8) (n j : Nat) (h : l.length = n) : (l ++ List.replicate j 0).length = n + j := by
 rw [List.length_append, List.length_replicate, h]
theorem c_joined (ad c : Yb) (gt : Nat) (w : World) (hL : Laid w) (hz : ad.size + c.size ≤ 150000) (hg : gt < w.heap.size) (h0 : w.cell? ⟨gt, 0, none⟩ = some (.string ad)) (h1 : w.cell? ⟨gt, 1, none⟩ = some (.string c)) : Cs 105 #[.slice (some ⟨gt, 0, none⟩) 2 2] w (.string (jn ad c)) := by
 have hpa := pn_lt ad.size
 go_enter Tryz.func105, Tryz.ntmps105
 have M := Mem.start hL
 refine sq <| sR <| pN M 3 (.cells (av 2 bF0) 182) ?_
 intro k1 u1 M
 refine pN M 4 (.cells (av 2 bF0) 182) ?_
 intro k2 u2 M
 refine pl_nil ?_
 have hS := SN.start2 M
 clear M
 have M := hS.mem hL
 refine au_then <| wp_seq <| sq <| wp_block <| wp_loop_rounds 3 ?_
 refine rounds_go <| sq <| wp_seq <| cT <| wp_skip <| au_then <| wp_seq <| wp_block <| sR <| pH 11 (.pointer (some ⟨gt, 0, none⟩)) (run_ix0 48 9 Tryz.underlying48 inz9 _ _ rfl gt 2 2 (by kernel_rfl) .i64 0 (by kernel_rfl) (by decide)) <| pE M 12 gt 0 (.string ad) (fun w M => M.oldc (hS.cell hg h0) (by simp)) <| rV 1 <| nT <| sR <| rV 1 <| pl_callr (want_no rfl) (some 14) rfl 140 #[.pointer (some ⟨k1, 0, none⟩), .string ad] (.tuple #[.int .i64 (ad.size : Int), .nilIface]) _ (fun _ => by kernel_rfl) ((hS.next M).wstr hL ad (by show 0 + ad.size ≤ _; omega)) ?_
 intro u3 hS9
 clear M hS
 have hS : SN w [⟨k1, ad.data.toList⟩, ⟨k2, []⟩] [] u3 := hS9
 have M := hS.mem hL
 refine nT <| wp_seq <| wp_block ?_
 obtain ⟨N0, hN0⟩ : ∃ N, N = pn ad.size := ⟨_, rfl⟩
 have hP0 : N0 = (16 - ad.size % 16) % 16 := hN0
 refine au_loop (fun j a u => ∃ v1 : NV, a = (fm ([.slice (some ⟨gt, 0, none⟩) 2 2, v1 1, .string ⟨#[]⟩, .pointer (some ⟨k1, 0, none⟩), .pointer (some ⟨k2, 0, none⟩), v1 5, .string ad, .slice (some ⟨gt, 0, none⟩) 2 2, .int .i64 2, .int .i64 0] ++ vr v1 10 18)) ∧ SN w [⟨k1, ad.data.toList ++ List.replicate j 0⟩, ⟨k2, []⟩] [] u) N0 (exS (by rw [List.replicate_zero, List.append_nil]; exact hS.next M)) ?_ ?_
 ·intro j a u0 hj hI
  clear M hS
  obtain ⟨v1, rfl, hS⟩ := hI
  have M := hS.mem hL
  refine wp_seq <| sR ?_
  refine pl_callr (want_no rfl) (some 15) rfl 141 #[.pointer (some ⟨k1, 0, none⟩)] (.int .i64 ((ad.size + j : Nat) : Int)) _ (fun _ => by kernel_rfl) (by have h9 := (hS.next M).len hL; rw [rep_len _ _ _ (dl_len ad)] at h9; exact h9) ?_
  intro u4 hS9
  clear M hS
  have hS : SN w [⟨k1, ad.data.toList ++ List.replicate j 0⟩, ⟨k2, []⟩] [] u4 := hS9
  have M := hS.mem hL
  refine ZQ 16 .i64 (Int.tmod ((ad.size + j : Nat) : Int) 16) (rem16 (ad.size + j)) <| ZS 17 ((((ad.size + j) % 16 : Nat) : Int) = 0) <| nT <| cT <| wp_skip <| au_then <| wp_block <| rg_lit ?_
  refine pl_callr (want_no rfl) (some 18) rfl 128 #[.pointer (some ⟨k1, 0, none⟩), .int .u8 0] .nilIface _ (fun _ => by kernel_rfl) ((hS.next M).wbyte hL 0 (by decide) (by decide) (by rw [rep_len _ _ _ (dl_len ad)]; omega)) ?_
  intro u5 hS9
  clear M hS
  have hS : SN w [⟨k1, ad.data.toList ++ List.replicate (j + 1) 0⟩, ⟨k2, []⟩] [] u5 := (by rw [← rep_more]; exact hS9)
  have M := hS.mem hL
  refine pl_nil <| au_block <| au_then ?_
  exact exS hS
 ·intro a u0 hI
  clear M hS
  obtain ⟨v1, rfl, hS⟩ := hI
  have M := hS.mem hL
  refine wp_seq <| sR ?_
  refine pl_callr (want_no rfl) (some 15) rfl 141 #[.pointer (some ⟨k1, 0, none⟩)] (.int .i64 ((ad.size + N0 : Nat) : Int)) _ (fun _ => by kernel_rfl) (by have h9 := (hS.next M).len hL; rw [rep_len _ _ _ (dl_len ad)] at h9; exact h9) ?_
  intro u6 hS9
  clear M hS
  have hS : SN w [⟨k1, ad.data.toList ++ List.replicate N0 0⟩, ⟨k2, []⟩] [] u6 := hS9
  have M := hS.mem hL
  refine ZQ 16 .i64 (Int.tmod ((ad.size + N0 : Nat) : Int) 16) (rem16 (ad.size + N0)) <| ZD 17 ((((ad.size + N0) % 16 : Nat) : Int) = 0) <| nT <| cF <| wp_exit <| au_then_exit <| au_then_exit <| au_block_exit <| au_then ?_
  replace hS : SN w [⟨k1, (j1 ad)⟩, ⟨k2, []⟩] [] u6 := (by have h9 := hS.next M; rw [hN0] at h9; exact h9)
  clear M
  have M := hS.mem hL
  refine rg_lit <| rV 2 <| ZQ 21 .u64 (cv .u64 (ad.size : Int)) (cvu64 _ (by omega)) <| pC M 22 72 #[.int .u64 (ad.size : Int)] (.string (wS (ad.size : Int))) (fun w M => c_word _ w M.laid) fun u7 M => pl_callr (want_no rfl) (some 23) rfl 140 #[.pointer (some ⟨k2, 0, none⟩), .string (wS (ad.size : Int))] (.tuple #[.int .i64 ((wS (ad.size : Int)).size : Int), .nilIface]) _ (fun _ => by kernel_rfl) (((hS.next M).perm (.swap _ _ _)).wstr hL (wS (ad.size : Int)) (by rw [wS_size]; show 0 + 8 ≤ _; omega)) ?_
  intro u8 hS9
  clear M hS
  have hS : SN w [⟨k1, (j1 ad)⟩, ⟨k2, (m1 ad)⟩] [] u8 := hS9.perm (.swap _ _ _)
  have M := hS.mem hL
  refine pl_nil <| au_block <| au_then <| rg_lit <| rV 2 <| nT <| rounds_go <| sq <| wp_seq <| cT <| wp_skip <| au_then <| wp_seq <| wp_block <| sR <| pH 11 (.pointer (some ⟨gt, 1, none⟩)) (run_ix0 48 9 Tryz.underlying48 inz9 _ _ rfl gt 2 2 (by kernel_rfl) .i64 1 (by kernel_rfl) (by decide)) ?_
  refine pE M 12 gt 1 (.string c) (fun w M => M.oldc (hS.cell hg h1) (by simp)) <| rV 1 <| nT <| sR <| rV 1 <| pl_callr (want_no rfl) (some 14) rfl 140 #[.pointer (some ⟨k1, 0, none⟩), .string c] (.tuple #[.int .i64 (c.size : Int), .nilIface]) _ (fun _ => by kernel_rfl) ((hS.next M).wstr hL c (by rw [j1_len]; omega)) ?_
  intro u9 hS9
  clear M hS
  have hS : SN w [⟨k1, (j1c ad c)⟩, ⟨k2, (m1 ad)⟩] [] u9 := hS9
  have M := hS.mem hL
  refine nT <| wp_seq <| wp_block ?_
  obtain ⟨N1, hN1⟩ : ∃ N, N = pn (ad.size + pn ad.size + c.size) := ⟨_, rfl⟩
  have hP1 : N1 = (16 - (ad.size + pn ad.size + c.size) % 16) % 16 := hN1
  refine au_loop (fun j a u => ∃ v2 : NV, a = (fm ([.slice (some ⟨gt, 0, none⟩) 2 2, v2 1, .string ⟨#[]⟩, .pointer (some ⟨k1, 0, none⟩), .pointer (some ⟨k2, 0, none⟩), v2 5, .string c, .slice (some ⟨gt, 0, none⟩) 2 2, .int .i64 2, .int .i64 1] ++ vr v2 10 18)) ∧ SN w [⟨k1, (j1c ad c) ++ List.replicate j 0⟩, ⟨k2, (m1 ad)⟩] [] u) N1 (exS (by rw [List.replicate_zero, List.append_nil]; exact hS.next M)) ?_ ?_
  ·intro j a u0 hj hI
   clear M hS
   obtain ⟨v2, rfl, hS⟩ := hI
   have M := hS.mem hL
   refine wp_seq <| sR ?_
   refine pl_callr (want_no rfl) (some 15) rfl 141 #[.pointer (some ⟨k1, 0, none⟩)] (.int .i64 (((ad.size + pn ad.size + c.size) + j : Nat) : Int)) _ (fun _ => by kernel_rfl) (by have h9 := (hS.next M).len hL; rw [rep_len _ _ _ (j1c_len ad c)] at h9; exact h9) ?_
   intro u10 hS9
   clear M hS
   have hS : SN w [⟨k1, (j1c ad c) ++ List.replicate j 0⟩, ⟨k2, (m1 ad)⟩] [] u10 := hS9
   have M := hS.mem hL
   refine ZQ 16 .i64 (Int.tmod (((ad.size + pn ad.size + c.size) + j : Nat) : Int) 16) (rem16 ((ad.size + pn ad.size + c.size) + j)) <| ZS 17 (((((ad.size + pn ad.size + c.size) + j) % 16 : Nat) : Int) = 0) <| nT <| cT <| wp_skip <| au_then <| wp_block <| rg_lit ?_
   refine pl_callr (want_no rfl) (some 18) rfl 128 #[.pointer (some ⟨k1, 0, none⟩), .int .u8 0] .nilIface _ (fun _ => by kernel_rfl) ((hS.next M).wbyte hL 0 (by decide) (by decide) (by rw [rep_len _ _ _ (j1c_len ad c)]; omega)) ?_
   intro u11 hS9
   clear M hS
   have hS : SN w [⟨k1, (j1c ad c) ++ List.replicate (j + 1) 0⟩, ⟨k2, (m1 ad)⟩] [] u11 := (by rw [← rep_more]; exact hS9)
   have M := hS.mem hL
   refine pl_nil <| au_block <| au_then ?_
   exact exS hS
  ·intro a u0 hI
   clear M hS
   obtain ⟨v2, rfl, hS⟩ := hI
   have M := hS.mem hL
   refine wp_seq <| sR ?_
   refine pl_callr (want_no rfl) (some 15) rfl 141 #[.pointer (some ⟨k1, 0, none⟩)] (.int .i64 (((ad.size + pn ad.size + c.size) + N1 : Nat) : Int)) _ (fun _ => by kernel_rfl) (by have h9 := (hS.next M).len hL; rw [rep_len _ _ _ (j1c_len ad c)] at h9; exact h9) ?_
   intro u12 hS9
   clear M hS
   have hS : SN w [⟨k1, (j1c ad c) ++ List.replicate N1 0⟩, ⟨k2, (m1 ad)⟩] [] u12 := hS9
   have M := hS.mem hL
   refine ZQ 16 .i64 (Int.tmod (((ad.size + pn ad.size + c.size) + N1 : Nat) : Int) 16) (rem16 ((ad.size + pn ad.size + c.size) + N1)) <| ZD 17 (((((ad.size + pn ad.size + c.size) + N1) % 16 : Nat) : Int) = 0) <| nT <| cF <| wp_exit <| au_then_exit <| au_then_exit <| au_block_exit <| au_then ?_
   replace hS : SN w [⟨k1, (j2 ad c)⟩, ⟨k2, (m1 ad)⟩] [] u12 := (by have h9 := hS.next M; rw [hN1] at h9; exact h9)
   clear M
   have M := hS.mem hL
   refine rg_lit <| rV 2 <| ZQ 21 .u64 (cv .u64 (c.size : Int)) (cvu64 _ (by omega)) <| pC M 22 72 #[.int .u64 (c.size : Int)] (.string (wS (c.size : Int))) (fun w M => c_word _ w M.laid) fun u13 M => pl_callr (want_no rfl) (some 23) rfl 140 #[.pointer (some ⟨k2, 0, none⟩), .string (wS (c.size : Int))] (.tuple #[.int .i64 ((wS (c.size : Int)).size : Int), .nilIface]) _ (fun _ => by kernel_rfl) (((hS.next M).perm (.swap _ _ _)).wstr hL (wS (c.size : Int)) (by rw [m1_len, wS_size]; decide)) ?_
   intro u14 hS9
   clear M hS
   have hS : SN w [⟨k1, (j2 ad c)⟩, ⟨k2, (m2 ad c)⟩] [] u14 := hS9.perm (.swap _ _ _)
   have M := hS.mem hL
   refine pl_nil <| au_block <| au_then <| rg_lit <| rV 2 <| nT <| rounds_go <| sq <| wp_seq <| cF <| wp_exit <| au_then_exit <| au_then_exit <| au_block_exit <| au_then <| sR ?_
   refine pl_callr (want_no rfl) (some 25) rfl 129 #[.pointer (some ⟨k2, 0, none⟩)] (.string (mS ad c)) _ (fun _ => by kernel_rfl) (((hS.next M).perm (.swap _ _ _)).str hL (fun e => by have := m2_len ad c; rw [e] at this; cases this)) ?_
   intro u15 hS9
   clear M hS
   have hS : SN w [⟨k1, (j2 ad c)⟩, ⟨k2, (m2 ad c)⟩] [] u15 := hS9.perm (.swap _ _ _)
   have M := hS.mem hL
   refine pl_callr (want_no rfl) (some 26) rfl 140 #[.pointer (some ⟨k1, 0, none⟩), .string (mS ad c)] (.tuple #[.int .i64 ((mS ad c).size : Int), .nilIface]) _ (fun _ => by kernel_rfl) ((hS.next M).wstr hL (mS ad c) (by rw [j2_len]; show _ + (m2 ad c).length ≤ _; rw [m2_len]; have := pn_lt (ad.size + pn ad.size + c.size); omega)) ?_
   intro u16 hS9
   clear M hS
   have hS : SN w [⟨k1, (j2 ad c ++ m2 ad c)⟩, ⟨k2, (m2 ad c)⟩] [] u16 := hS9
   have M := hS.mem hL
   refine nT <| sR <| pl_callr (want_no rfl) (some 27) rfl 129 #[.pointer (some ⟨k1, 0, none⟩)] (.string (jn ad c)) _ (fun _ => by kernel_rfl) ((hS.next M).str hL (fun e => by have := j2_len ad c; have h3 := congrArg List.length e; rw [List.length_append, m2_len] at h3; simp at h3)) ?_
   intro u17 hS9
   clear M hS
   have hS : SN w [⟨k1, (j2 ad c ++ m2 ad c)⟩, ⟨k2, (m2 ad c)⟩] [] u17 := hS9
   have M := hS.mem hL
   refine rV 1 <| nT <| wp_ret ?_
   exact bX (.string (jn ad c)) ⟨rfl, (hS.next M).bel⟩
open Go.RowKit
def tx2 (ad c : Yb) : Nat → Value := fun i => if i = 0 then .string ad else .string c
def otk (key nonce : Yb) : ByteArray := (blk (fw key nonce 0)).extract 0 32
theorem otk_size (key nonce : Yb) : (otk key nonce).size = 32 := by
 unfold otk
 rw [ByteArray.size_extract, blk_size]
 rfl
theorem jn_size (ad c : Yb) : (jn ad c).size ≤ ad.size + c.size + 48 := by
 have h : (jn ad c).size = (j2 ad c ++ m2 ad c).length := rfl
 rw [h, List.length_append, j2_len, m2_len]
 have := pn_lt ad.size
 have := pn_lt (ad.size + pn ad.size + c.size)
 omega
def tgO (key nonce ad c : Yb) : ByteArray := Pol.tagS (otk key nonce) (jn ad c)
theorem tgO_size (key nonce ad c : Yb) : (tgO key nonce ad c).size = 16 := Pol.tagS_size _ _
def tn (key nonce s : Yb) : ByteArray := oS (fw key nonce 1) s
theorem tn_size (key nonce s : Yb) : (tn key nonce s).size = s.size := oS_size _ _
def sealS (key nonce ad s : Yb) : ByteArray := tn key nonce s ++ tgO key nonce ad (tn key nonce s)
theorem sealS_size (key nonce ad s : Yb) : (sealS key nonce ad s).size = s.size + 16 := by
 unfold sealS
 rw [ByteArray.size_append, tn_size, tgO_size]
theorem sf_zero {key nonce ad s : Yb} {m : Nat} (h : sf key nonce ad s m = 0) : (key.size = 32 ∧ nonce.size = 12) ∧ ad.size ≤ 65536 ∧ s.size ≤ 65536 + m ∧ m ≤ s.size := by
 unfold sf at h
 split at h
 ·cases h
 ·split at h
  ·cases h
  ·split at h
   ·cases h
   ·omega
theorem sf_ok {key nonce ad s : Yb} {m : Nat} (hk : key.size = 32 ∧ nonce.size = 12) (ha : ad.size ≤ 65536) (hs : s.size ≤ 65536 + m) (hm : m ≤ s.size) : sf key nonce ad s m = 0 := by
 unfold sf
 rw [if_neg (by omega), if_neg (by omega), if_neg (by omega)]
theorem c_Turn1 (key nonce s : Yb) (hm : key.size = 32 ∧ nonce.size = 12) (hz : s.size ≤ 65536) (w : World) (hL : Laid w) : Cs 70 #[.string key, .string nonce, .int .u32 1, .string s] w (.tuple #[.string (tn key nonce s), .int .i64 0]) := c_TurnA key nonce 1 (by decide) s (by omega) hm (by omega) w hL
theorem c_tagOf (key nonce ad c : Yb) (hm : key.size = 32 ∧ nonce.size = 12) (hz : ad.size + c.size ≤ 150000) (w : World) (hL : Laid w)  : Cs 71 #[.string key, .string nonce, .string ad, .string c] w (.string (tgO key nonce ad c)) := by
 go_enter Tryz.func71, Tryz.ntmps71
 have M := Mem.start hL
 refine sq <| sR <| rV 2 <| ZC M 16 (fun w M => c_BlockA key nonce 0 hm w M.laid) fun u1 M => rV 5 <| nT <| wp_seq <| rgh M [] 11 fun u2 M => qV M 0 20 (.string (blk (fw key nonce 0))) <| qH M 1 21 (.string (otk key nonce)) (fun w _ => (run_strh 9 Tryz.underlying9 _ _ rfl (blk (fw key nonce 0)) (by kernel_rfl) .i64 32 (by kernel_rfl) (by rw [blk_size]; decide) _ rfl) w) <| qV M 2 22 (.string ad) <| qV M 3 23 (.string c) <| qO 4 ?_
 refine ZM M 24 (fun g1 => .slice (some ⟨g1, 0, none⟩) 2 2) (.cells (av 2 (tx2 ad c)) 9) fun g1 u3 M => nT ?_
 refine ⟨(M.drop (.cons _ (.slnil))), ?_⟩
 refine qO 5 ?_
 refine ZC M 25 (fun w M => c_joined ad c g1 w M.laid hz (Array.getElem?_eq_some_iff.1 (M.get 0 rfl)).1 (cell_av (M.get 0 rfl) (by decide)) (cell_av (M.get 0 rfl) (by decide))) fun u4 M => ?_
 refine nT ?_
 refine ⟨(M.drop (.cons _ (.slnil))), ?_⟩
 refine qO 6 ?_
 refine pC M 26 104 #[.string (otk key nonce), .string (jn ad c)] (.tuple #[.string (tgO key nonce ad c), .int .i64 0]) (fun w M => Pol.c_Tag _ _ (otk_size key nonce) (by have := jn_size ad c; omega) w M.laid) fun u5 M => nT ?_
 refine ⟨(M.drop (.cons _ (.slnil))), ?_⟩
 have qM := M.drop (.cons _ (.slnil))
 refine qV qM 7 19 (.tuple #[.string (tgO key nonce ad c), .int .i64 0]) <| qV qM 8 27 (.string (tgO key nonce ad c)) <| qV qM 9 28 (.int .i64 0) <| qV qM 10 11 (.string (tgO key nonce ad c)) <| qZ ?_
 refine rV 1 <| nT <| au_then <| sq <| wp_ret ?_
 exact b1 M
theorem c_SealA (key nonce ad s : Yb) (h : sf key nonce ad s 0 = 0) (w : World) (hL : Laid w)  : Cs 46 #[.string key, .string nonce, .string ad, .string s] w (.tuple #[.string (sealS key nonce ad s), .int .i64 0]) := by
 go_enter Tryz.func46, Tryz.ntmps46
 have M := Mem.start hL
 refine sq <| wp_seq <| sR <| rV 4 <| ZC M 17 (fun w M => c_fault key nonce ad s 0 (by decide) w M.laid) fun u1 M => rV 1 <| nT <| sR <| rV 1 <| wD 19 h <| nT <| cF <| wp_skip <| au_then <| sR <| rV 3 ?_
 refine ZC M 25 (fun w M => c_Turn1 key nonce s (sf_zero h).1 (by have := sf_zero h; omega) w M.laid) fun u2 M => rV 5 <| nT <| sR <| rV 5 <| ZC M 33 (fun w M => c_tagOf key nonce ad (tn key nonce s) (sf_zero h).1 (by have := sf_zero h; rw [tn_size]; omega) w M.laid) fun u3 M => pH 34 (.string (sealS key nonce ad s)) (run_cat 9 9 _ _ rfl (tn key nonce s) (tgO key nonce ad (tn key nonce s)) (by kernel_rfl) (by kernel_rfl) (by rw [tn_size, tgO_size]; have := sf_zero h; omega)) <| rV 2 <| nT <| wp_ret ?_
 exact b1 M
theorem c_SealB (key nonce ad s : Yb) (h : sf key nonce ad s 0 ≠ 0) (w : World) (hL : Laid w)  : Cs 46 #[.string key, .string nonce, .string ad, .string s] w (.tuple #[.string ⟨#[]⟩, .int .i64 (sf key nonce ad s 0)]) := by
 go_enter Tryz.func46, Tryz.ntmps46
 have M := Mem.start hL
 refine sq <| wp_seq <| sR <| rV 4 <| ZC M 17 (fun w M => c_fault key nonce ad s 0 (by decide) w M.laid) fun u1 M => rV 1 <| nT <| sR <| rV 1 <| wU 19 h <| nT <| cT <| sq <| wp_ret <| au_then_ret ?_
 exact b1 M
theorem cx_size (s : Yb) : (s.extract 0 (s.size - 16)).size = s.size - 16 := by
 rw [ByteArray.size_extract]
 omega
def tgX (key nonce ad s : Yb) : ByteArray := tgO key nonce ad (s.extract 0 (s.size - 16))
def opS (key nonce s : Yb) : ByteArray := tn key nonce (s.extract 0 (s.size - 16))
theorem c_OpenA (key nonce ad s : Yb) (h : sf key nonce ad s 16 = 0) (e : tgX key nonce ad s = s.extract (s.size - 16) s.size) (w : World) (hL : Laid w)  : Cs 49 #[.string key, .string nonce, .string ad, .string s] w (.tuple #[.string (opS key nonce s), .int .i64 0]) := by
 go_enter Tryz.func49, Tryz.ntmps49
 have M := Mem.start hL
 have hs16 : 16 ≤ s.size := (sf_zero h).2.2.2
 have hs17 : s.size ≤ 65536 + 16 := (sf_zero h).2.2.1
 refine sq <| wp_seq <| sR <| rV 4 <| ZC M 17 (fun w M => c_fault key nonce ad s 16 (by decide) w M.laid) fun u1 M => rV 1 <| nT <| sR <| rV 1 <| wD 19 h <| nT <| cF <| wp_skip <| au_then <| wp_seq <| rgh M [] 11 fun u2 M => ?_
 refine qV M 0 21 (.string s) <| qV M 1 22 (.string s) <| qV M 2 23 (.int .i64 (s.size : Int)) ?_
 refine qH M 3 24 (.int .i64 ((s.size - 16 : Nat) : Int)) (fun w _ => (fun w => Eq.trans (b := .ok (.value (.int .i64 (IntKind.wrap .i64 ((s.size : Int) - 16)))) w) (by kernel_rfl) (by rw [wrap64 (by omega) (by omega)]; congr 3 <;> omega)) w) ?_
 refine qH M 4 25 (.string (s.extract 0 (s.size - 16))) (fun w _ => (run_strh 9 Tryz.underlying9 _ _ rfl s (by kernel_rfl) .i64 (s.size - 16) (by kernel_rfl) (by omega) _ rfl) w) <| qV M 5 26 (.string s) <| qV M 6 27 (.string s) <| qV M 7 28 (.int .i64 (s.size : Int)) ?_
 refine qH M 8 29 (.int .i64 ((s.size - 16 : Nat) : Int)) (fun w _ => (fun w => Eq.trans (b := .ok (.value (.int .i64 (IntKind.wrap .i64 ((s.size : Int) - 16)))) w) (by kernel_rfl) (by rw [wrap64 (by omega) (by omega)]; congr 3 <;> omega)) w) ?_
 refine qH M 9 30 (.string (s.extract (s.size - 16) s.size)) (fun w _ => (run_strl 9 Tryz.underlying9 _ _ rfl s (by kernel_rfl) .i64 (s.size - 16) (by kernel_rfl) (by omega) _ rfl) w) <| qV M 10 11 (.string (s.extract 0 (s.size - 16))) <| qZ ?_
 refine rV 1 <| nT <| au_then <| wp_seq <| sR <| rV 4 <| ZC M 35 (fun w M => c_tagOf key nonce ad (s.extract 0 (s.size - 16)) (sf_zero h).1 (by have := sf_zero h; rw [cx_size]; omega) w M.laid) fun u3 M => rV 1 ?_
 refine pC M 37 76 #[.string (tgX key nonce ad s), .string (s.extract (s.size - 16) s.size)] (.bool true) (fun w M => (by rw [← decide_eq_true e]; exact Pol.c_same _ _ (by show (tgO key nonce ad (s.extract 0 (s.size - 16))).size ≤ _; rw [tgO_size]; decide) w M.laid)) fun u4 M => ?_
 refine rV 1 <| nT <| cF <| wp_skip <| au_then <| sR <| rV 3 <| ZC M 42 (fun w M => c_Turn1 key nonce (s.extract 0 (s.size - 16)) (sf_zero h).1 (by have := sf_zero h; rw [cx_size]; omega) w M.laid) fun u5 M => rV 4 <| nT <| wp_ret ?_
 exact b1 M
theorem c_OpenB (key nonce ad s : Yb) (h : sf key nonce ad s 16 = 0) (e : tgX key nonce ad s ≠ s.extract (s.size - 16) s.size) (w : World) (hL : Laid w)  : Cs 49 #[.string key, .string nonce, .string ad, .string s] w (.tuple #[.string ⟨#[]⟩, .int .i64 100]) := by
 go_enter Tryz.func49, Tryz.ntmps49
 have M := Mem.start hL
 have hs16 : 16 ≤ s.size := (sf_zero h).2.2.2
 have hs17 : s.size ≤ 65536 + 16 := (sf_zero h).2.2.1
 refine sq <| wp_seq <| sR <| rV 4 <| ZC M 17 (fun w M => c_fault key nonce ad s 16 (by decide) w M.laid) fun u1 M => rV 1 <| nT <| sR <| rV 1 <| wD 19 h <| nT <| cF <| wp_skip <| au_then <| wp_seq <| rgh M [] 11 fun u2 M => ?_
 refine qV M 0 21 (.string s) <| qV M 1 22 (.string s) <| qV M 2 23 (.int .i64 (s.size : Int)) ?_
 refine qH M 3 24 (.int .i64 ((s.size - 16 : Nat) : Int)) (fun w _ => (fun w => Eq.trans (b := .ok (.value (.int .i64 (IntKind.wrap .i64 ((s.size : Int) - 16)))) w) (by kernel_rfl) (by rw [wrap64 (by omega) (by omega)]; congr 3 <;> omega)) w) ?_
 refine qH M 4 25 (.string (s.extract 0 (s.size - 16))) (fun w _ => (run_strh 9 Tryz.underlying9 _ _ rfl s (by kernel_rfl) .i64 (s.size - 16) (by kernel_rfl) (by omega) _ rfl) w) <| qV M 5 26 (.string s) <| qV M 6 27 (.string s) <| qV M 7 28 (.int .i64 (s.size : Int)) ?_
 refine qH M 8 29 (.int .i64 ((s.size - 16 : Nat) : Int)) (fun w _ => (fun w => Eq.trans (b := .ok (.value (.int .i64 (IntKind.wrap .i64 ((s.size : Int) - 16)))) w) (by kernel_rfl) (by rw [wrap64 (by omega) (by omega)]; congr 3 <;> omega)) w) ?_
 refine qH M 9 30 (.string (s.extract (s.size - 16) s.size)) (fun w _ => (run_strl 9 Tryz.underlying9 _ _ rfl s (by kernel_rfl) .i64 (s.size - 16) (by kernel_rfl) (by omega) _ rfl) w) <| qV M 10 11 (.string (s.extract 0 (s.size - 16))) <| qZ ?_
 refine rV 1 <| nT <| au_then <| wp_seq <| sR <| rV 4 <| ZC M 35 (fun w M => c_tagOf key nonce ad (s.extract 0 (s.size - 16)) (sf_zero h).1 (by have := sf_zero h; rw [cx_size]; omega) w M.laid) fun u3 M => rV 1 ?_
 refine pC M 37 76 #[.string (tgX key nonce ad s), .string (s.extract (s.size - 16) s.size)] (.bool false) (fun w M => (by rw [← decide_eq_false e]; exact Pol.c_same _ _ (by show (tgO key nonce ad (s.extract 0 (s.size - 16))).size ≤ _; rw [tgO_size]; decide) w M.laid)) fun u4 M => ?_
 refine rV 1 <| nT <| cT <| sq <| wp_ret <| au_then_ret ?_
 exact b1 M
theorem c_OpenC (key nonce ad s : Yb) (h : sf key nonce ad s 16 ≠ 0)  (w : World) (hL : Laid w)  : Cs 49 #[.string key, .string nonce, .string ad, .string s] w (.tuple #[.string ⟨#[]⟩, .int .i64 (sf key nonce ad s 16)]) := by
 go_enter Tryz.func49, Tryz.ntmps49
 have M := Mem.start hL
 refine sq <| wp_seq <| sR <| rV 4 <| ZC M 17 (fun w M => c_fault key nonce ad s 16 (by decide) w M.laid) fun u1 M => rV 1 <| nT <| sR <| rV 1 <| wU 19 h <| nT <| cT <| sq <| wp_ret <| au_then_ret ?_
 exact b1 M
open Go.RowKit
theorem zB_list (n : Nat) : (zB n).data.toList = List.replicate n 0 := by
 unfold zB bs
 simp only [List.map_map]
 apply List.ext_getElem?
 intro i
 by_cases h : i < n
 ·simp [h]
 ·rw [List.getElem?_eq_none (by simp; omega), List.getElem?_eq_none (by simp; omega)]
theorem pn_shift (a b : Nat) (h : a % 16 = 0) : pn (a + b) = pn b := by
 unfold pn
 omega
def q1 (ad : Yb) : ByteArray := ad ++ zB (pn ad.size)
def q2 (ad c : Yb) : ByteArray := q1 ad ++ c
def q3 (ad c : Yb) : ByteArray := q2 ad c ++ zB (pn c.size)
def q4 (ad c : Yb) : ByteArray := q3 ad c ++ wS (ad.size : Int)
theorem q1_size (ad : Yb) : (q1 ad).size = ad.size + pn ad.size := by
 unfold q1
 rw [ByteArray.size_append, zB_size]
theorem q2_size (ad c : Yb) : (q2 ad c).size = ad.size + pn ad.size + c.size := by
 unfold q2
 rw [ByteArray.size_append, q1_size]
theorem q3_size (ad c : Yb) : (q3 ad c).size = ad.size + pn ad.size + c.size + pn c.size := by
 unfold q3
 rw [ByteArray.size_append, q2_size, zB_size]
theorem q4_size (ad c : Yb) : (q4 ad c).size = ad.size + pn ad.size + c.size + pn c.size + 8 := by
 unfold q4
 rw [ByteArray.size_append, q3_size, wS_size]
theorem jn_eq (ad c : Yb) : q4 ad c ++ wS (c.size : Int) = jn ad c := by
 apply ByteArray.ext
 apply Array.ext'
 show _ = j2 ad c ++ m2 ad c
 unfold q4 q3 q2 q1 j2 m2 m1 j1c j1
 rw [pn_shift _ _ (pn_sum ad.size)]
 simp only [ByteArray.data_append, Array.toList_append, zB_list, List.append_assoc]
theorem dotk (key nonce : Yb) (hm : key.size = 32 ∧ nonce.size = 12) : (dbk key nonce 0).extract 0 32 = otk key nonce := by
 unfold otk
 rw [blk_dbk key nonce 0 hm.1 hm.2 (by decide) (by decide)]
theorem d_Turn1 (key nonce s : Yb) (hm : key.size = 32 ∧ nonce.size = 12) (hz : s.size ≤ 65536) (w : World) (hL : Laid w) : Cs 28 #[.string key, .string nonce, .int .u32 1, .string s] w (.tuple #[.string (tn key nonce s), .int .i64 0]) := by
 unfold tn
 rw [oS_dT key nonce 1 s hm.1 hm.2 (by decide) (by decide)]
 exact d_TurnA key nonce 1 (by decide) s (by omega) hm (by omega) w hL
theorem d_tag (key nonce ad c : Yb) (hm : key.size = 32 ∧ nonce.size = 12) (hz : ad.size + c.size ≤ 150000) (w : World) (hL : Laid w)  : Cs 27 #[.string key, .string nonce, .string ad, .string c] w (.string (tgO key nonce ad c)) := by
 go_enter Tryz.func27, Tryz.ntmps27
 have M := Mem.start hL
 refine sq <| wp_seq <| rgh M [] 28 fun u1 M => qV M 0 12 (.string key) <| qV M 1 13 (.string nonce) <| qV M 4 16 (.string ad) <| qV M 5 17 (.string ad) <| qV M 8 20 (.string c) <| qV M 10 22 (.string c) <| qV M 13 25 (.string ad) <| qV M 14 26 (.int .i64 (ad.size : Int)) <| qH M 15 27 (.int .u64 (ad.size : Int)) (fun w _ => (fun w => Eq.trans (b := .ok (.value (.int .u64 (cv .u64 (ad.size : Int)))) w) (by kernel_rfl) (by rw [cvu64 _ (by omega)])) w) <| qV M 18 30 (.string c) <| qV M 19 31 (.int .i64 (c.size : Int)) <| qH M 20 32 (.int .u64 (c.size : Int)) (fun w _ => (fun w => Eq.trans (b := .ok (.value (.int .u64 (cv .u64 (c.size : Int)))) w) (by kernel_rfl) (by rw [cvu64 _ (by omega)])) w) <| qO 2 ?_
 refine ZC M 14 (fun w M => d_Block key nonce 0 hm.1 hm.2 w M.laid) fun u2 M => nT ?_
 refine ⟨M, ?_⟩
 refine qH M 3 15 (.string (otk key nonce)) (fun w _ => (run_strh 9 Tryz.underlying9 _ _ rfl (dbk key nonce 0) (by kernel_rfl) .i64 32 (by kernel_rfl) (by rw [dbk_size]; decide) _ (dotk key nonce hm)) w) <| qO 6 ?_
 refine ZC M 18 (fun w M => d_pad ad w M.laid) fun u3 M => nT ?_
 refine ⟨M, ?_⟩
 refine qH M 7 19 (.string (q1 ad)) (fun w _ => (run_cat 9 9 _ _ rfl ad (zB (pn ad.size)) (by kernel_rfl) (by kernel_rfl) (by rw [zB_size]; have hpa := pn_lt ad.size; have hpc := pn_lt c.size; omega)) w) <| qH M 9 21 (.string (q2 ad c)) (fun w _ => (run_cat 9 9 _ _ rfl (q1 ad) c (by kernel_rfl) (by kernel_rfl) (by rw [q1_size]; have hpa := pn_lt ad.size; have hpc := pn_lt c.size; omega)) w) <| qO 11 ?_
 refine ZC M 23 (fun w M => d_pad c w M.laid) fun u4 M => nT ?_
 refine ⟨M, ?_⟩
 refine qH M 12 24 (.string (q3 ad c)) (fun w _ => (run_cat 9 9 _ _ rfl (q2 ad c) (zB (pn c.size)) (by kernel_rfl) (by kernel_rfl) (by rw [q2_size, zB_size]; have hpa := pn_lt ad.size; have hpc := pn_lt c.size; omega)) w) <| qO 16 ?_
 refine pC M 28 29 #[.int .u64 (ad.size : Int)] (.string (wS (ad.size : Int))) (fun w M => d_eight _ w M.laid) fun u5 M => nT ?_
 refine ⟨M, ?_⟩
 refine qH M 17 29 (.string (q4 ad c)) (fun w _ => (run_cat 9 9 _ _ rfl (q3 ad c) (wS (ad.size : Int)) (by kernel_rfl) (by kernel_rfl) (by rw [q3_size, wS_size]; have hpa := pn_lt ad.size; have hpc := pn_lt c.size; omega)) w) <| qO 21 ?_
 refine pC M 33 29 #[.int .u64 (c.size : Int)] (.string (wS (c.size : Int))) (fun w M => d_eight _ w M.laid) fun u6 M => nT ?_
 refine ⟨M, ?_⟩
 refine qH M 22 34 (.string (jn ad c)) (fun w _ => (fun w => Eq.trans (run_cat 9 9 _ _ rfl (q4 ad c) (wS (c.size : Int)) (by kernel_rfl) (by kernel_rfl) (by rw [q4_size, wS_size]; have hpa := pn_lt ad.size; have hpc := pn_lt c.size; omega) w) (by rw [jn_eq])) w) <| qO 23 ?_
 refine pC M 35 51 #[.string (otk key nonce), .string (jn ad c)] (.tuple #[.string (tgO key nonce ad c), .int .i64 0]) (fun w M => Pol.d_Tag _ _ (otk_size key nonce) (by have := jn_size ad c; omega) w M.laid) fun u7 M => nT ?_
 refine ⟨M, ?_⟩
 refine qV M 24 11 (.tuple #[.string (tgO key nonce ad c), .int .i64 0]) <| qV M 25 36 (.string (tgO key nonce ad c)) <| qV M 26 37 (.int .i64 0) <| qV M 27 9 (.string (tgO key nonce ad c)) <| qZ ?_
 refine rV 1 <| nT <| au_then <| sq <| wp_ret ?_
 exact b1 M
theorem d_OpenA (key nonce ad s : Yb) (hm : key.size = 32 ∧ nonce.size = 12) (hz : ad.size + s.size ≤ 5000) (h : ¬ s.size < 16) (e : tgX key nonce ad s = s.extract (s.size - 16) s.size) (w : World) (hL : Laid w)  : Cs 12 #[.string key, .string nonce, .string ad, .string s] w (.tuple #[.string (opS key nonce s), .int .i64 0]) := by
 go_enter Tryz.func12, Tryz.ntmps12
 have M := Mem.start hL
 refine sq <| wp_seq <| sR <| rV 2 <| pC M 15 26 #[.string key, .string nonce] (.bool true) (fun w M => (by rw [← decide_eq_true hm]; exact d_may key nonce w M.laid)) fun u1 M => rV 1 <| nT <| cF <| wp_skip <| au_then <| wp_seq <| sR <| rV 2 <| ZF 19 ((65536 : Int) < (ad.size : Int)) <| rV 3 <| ZF 23 ((65552 : Int) < (s.size : Int)) ?_
 refine rV 1 <| nT <| cF <| wp_skip <| au_then <| wp_seq <| sR <| rV 2 <| ZF 27 ((s.size : Int) < 16) <| nT <| cF <| wp_skip <| au_then <| sR <| rV 3 <| ZI 31 ((s.size : Int) - 16) ((s.size - 16 : Nat) : Int) ?_
 refine pH 32 (.string (s.extract 0 (s.size - 16))) (run_strh 9 Tryz.underlying9 _ _ rfl s (by kernel_rfl) .i64 (s.size - 16) (by kernel_rfl) (by omega) _ rfl) <| rV 1 <| nT <| wp_seq <| wp_seq <| rgh M [] 10 fun u2 M => qV M 0 33 (.string key) <| qV M 1 34 (.string nonce) <| qV M 2 35 (.string ad) <| qV M 3 36 (.string (s.extract 0 (s.size - 16))) <| qV M 5 38 (.string s) <| qV M 6 39 (.string s) <| qV M 7 40 (.int .i64 (s.size : Int)) ?_
 refine qH M 8 41 (.int .i64 ((s.size - 16 : Nat) : Int)) (fun w _ => (fun w => Eq.trans (b := .ok (.value (.int .i64 (IntKind.wrap .i64 ((s.size : Int) - 16)))) w) (by kernel_rfl) (by rw [wrap64 (by omega) (by omega)]; congr 3 <;> omega)) w) ?_
 refine qH M 9 42 (.string (s.extract (s.size - 16) s.size)) (fun w _ => (run_strl 9 Tryz.underlying9 _ _ rfl s (by kernel_rfl) .i64 (s.size - 16) (by kernel_rfl) (by omega) _ rfl) w) <| qO 4 ?_
 refine ZC M 37 (fun w M => d_tag key nonce ad (s.extract 0 (s.size - 16)) hm (by rw [cx_size]; omega) w M.laid) fun u3 M => nT ?_
 refine ⟨M, ?_⟩
 refine qZ ?_
 refine zJ 43 (.bool false) (.bool (!((tgX key nonce ad s).toList == (s.extract (s.size - 16) s.size).toList))) (by rw [e, beq_self_eq_true]; rfl) <| nT <| au_then <| cF <| wp_skip <| au_then <| sR <| rV 3 <| ZC M 48 (fun w M => d_Turn1 key nonce (s.extract 0 (s.size - 16)) hm (by rw [cx_size]; omega) w M.laid) fun u4 M => rV 5 <| nT <| sq <| wp_ret ?_
 exact b1 M
theorem d_OpenB (key nonce ad s : Yb) (hm : key.size = 32 ∧ nonce.size = 12) (hz : ad.size + s.size ≤ 5000) (h : ¬ s.size < 16) (e : tgX key nonce ad s ≠ s.extract (s.size - 16) s.size) (w : World) (hL : Laid w)  : Cs 12 #[.string key, .string nonce, .string ad, .string s] w (.tuple #[.string ⟨#[]⟩, .int .i64 100]) := by
 go_enter Tryz.func12, Tryz.ntmps12
 have M := Mem.start hL
 refine sq <| wp_seq <| sR <| rV 2 <| pC M 15 26 #[.string key, .string nonce] (.bool true) (fun w M => (by rw [← decide_eq_true hm]; exact d_may key nonce w M.laid)) fun u1 M => rV 1 <| nT <| cF <| wp_skip <| au_then <| wp_seq <| sR <| rV 2 <| ZF 19 ((65536 : Int) < (ad.size : Int)) <| rV 3 <| ZF 23 ((65552 : Int) < (s.size : Int)) ?_
 refine rV 1 <| nT <| cF <| wp_skip <| au_then <| wp_seq <| sR <| rV 2 <| ZF 27 ((s.size : Int) < 16) <| nT <| cF <| wp_skip <| au_then <| sR <| rV 3 <| ZI 31 ((s.size : Int) - 16) ((s.size - 16 : Nat) : Int) ?_
 refine pH 32 (.string (s.extract 0 (s.size - 16))) (run_strh 9 Tryz.underlying9 _ _ rfl s (by kernel_rfl) .i64 (s.size - 16) (by kernel_rfl) (by omega) _ rfl) <| rV 1 <| nT <| wp_seq <| wp_seq <| rgh M [] 10 fun u2 M => qV M 0 33 (.string key) <| qV M 1 34 (.string nonce) <| qV M 2 35 (.string ad) <| qV M 3 36 (.string (s.extract 0 (s.size - 16))) <| qV M 5 38 (.string s) <| qV M 6 39 (.string s) <| qV M 7 40 (.int .i64 (s.size : Int)) ?_
 refine qH M 8 41 (.int .i64 ((s.size - 16 : Nat) : Int)) (fun w _ => (fun w => Eq.trans (b := .ok (.value (.int .i64 (IntKind.wrap .i64 ((s.size : Int) - 16)))) w) (by kernel_rfl) (by rw [wrap64 (by omega) (by omega)]; congr 3 <;> omega)) w) ?_
 refine qH M 9 42 (.string (s.extract (s.size - 16) s.size)) (fun w _ => (run_strl 9 Tryz.underlying9 _ _ rfl s (by kernel_rfl) .i64 (s.size - 16) (by kernel_rfl) (by omega) _ rfl) w) <| qO 4 ?_
 refine ZC M 37 (fun w M => d_tag key nonce ad (s.extract 0 (s.size - 16)) hm (by rw [cx_size]; omega) w M.laid) fun u3 M => nT ?_
 refine ⟨M, ?_⟩
 refine qZ ?_
 refine zJ 43 (.bool true) (.bool (!((tgX key nonce ad s).toList == (s.extract (s.size - 16) s.size).toList))) (by rw [Pol.toList_ne e]; rfl) <| nT <| au_then <| cT <| sq <| wp_ret <| au_then_ret ?_
 exact b1 M
theorem d_OpenC (key nonce ad s : Yb) (hm : key.size = 32 ∧ nonce.size = 12) (hz : ad.size + s.size ≤ 5000) (h : s.size < 16) (w : World) (hL : Laid w)  : Cs 12 #[.string key, .string nonce, .string ad, .string s] w (.tuple #[.string ⟨#[]⟩, .int .i64 100]) := by
 go_enter Tryz.func12, Tryz.ntmps12
 have M := Mem.start hL
 refine sq <| wp_seq <| sR <| rV 2 <| pC M 15 26 #[.string key, .string nonce] (.bool true) (fun w M => (by rw [← decide_eq_true hm]; exact d_may key nonce w M.laid)) fun u1 M => rV 1 <| nT <| cF <| wp_skip <| au_then <| wp_seq <| sR <| rV 2 <| ZF 19 ((65536 : Int) < (ad.size : Int)) <| rV 3 <| ZF 23 ((65552 : Int) < (s.size : Int)) ?_
 refine rV 1 <| nT <| cF <| wp_skip <| au_then <| wp_seq <| sR <| rV 2 <| ZT 27 ((s.size : Int) < 16) <| nT <| cT <| sq <| wp_ret <| au_then_ret ?_
 exact b1 M
open Go.RowKit
theorem xb_xb (x k : Int) (h0 : 0 ≤ x) (h1 : x < 256) : xb (xb x k) k = x := by
 obtain ⟨a, rfl⟩ : ∃ a : Nat, x = (a : Int) := ⟨x.toNat, by omega⟩
 have hw : ∀ b : BitVec 8, IntKind.wrap .u8 (b.toNat : Int) = (b.toNat : Int) := fun b => by
  have := b.isLt
  simp [IntKind.wrap, IntKind.signed, IntKind.bits]
  omega
 have ho : ∀ b : BitVec 8, BitVec.ofInt 8 (b.toNat : Int) = b := fun b => by
  apply BitVec.eq_of_toNat_eq
  rw [BitVec.toNat_ofInt]
  have := b.isLt
  omega
 unfold xb
 rw [hw, hw, ho, BitVec.xor_assoc, BitVec.xor_self, BitVec.xor_zero, BitVec.toNat_ofInt]
 omega
theorem bt_oS (f : NI) (s : Yb) (i : Nat) (h : i < s.size) : bt (oS f s) i = ob f s i := by
 rw [oS_bs, bt_bs _ (fun x hx => by obtain ⟨j, _, rfl⟩ := List.mem_map.1 hx; exact ob_nn f s j), List.getD_eq_getElem?_getD, List.getElem?_map, List.getElem?_range h]
 rfl
theorem sb_map (s : Yb) : sb s = (List.range s.size).map (bt s) := by
 rw [dl_zero s (bt s)]
 exact List.map_congr_left fun i _ => if_neg (by omega)
theorem oS_oS (f : NI) (s : Yb) : oS f (oS f s) = s := by
 rw [oS_bs, oS_size]
 have e : (List.range s.size).map (ob f (oS f s)) = (List.range s.size).map (bt s) := List.map_congr_left fun i hi => by
  have hb := bt_nn s i
  show xb (bt (oS f s) i) (bl (sw f (i / 64)) (i % 64)) = _
  rw [bt_oS f s i (List.mem_range.1 hi)]
  exact xb_xb _ _ hb.1 hb.2
 rw [e, ← sb_map, bs_sb]
theorem ext_left (a b : Yb) : (a ++ b).extract 0 a.size = a := by
 apply ByteArray.ext
 rw [ByteArray.data_extract, ByteArray.data_append]
 show (a.data ++ b.data).extract 0 a.data.size = a.data
 rw [Array.extract_append]
 simp
theorem ext_right (a b : Yb) : (a ++ b).extract a.size (a ++ b).size = b := by
 apply ByteArray.ext
 rw [ByteArray.data_extract, ByteArray.data_append, ByteArray.size_append]
 show (a.data ++ b.data).extract a.data.size (a.data.size + b.data.size) = b.data
 rw [Array.extract_append, Array.extract_empty_of_size_le_start (Nat.le_refl _), Array.empty_append, Nat.sub_self, Nat.add_sub_cancel_left]
 exact Array.extract_size
theorem seal_cx (key nonce ad s : Yb) : (sealS key nonce ad s).extract 0 ((sealS key nonce ad s).size - 16) = tn key nonce s := by
 have h : (sealS key nonce ad s).size - 16 = (tn key nonce s).size := by
  rw [sealS_size, tn_size]
  omega
 rw [h]
 exact ext_left _ _
theorem seal_tx (key nonce ad s : Yb) : (sealS key nonce ad s).extract ((sealS key nonce ad s).size - 16) (sealS key nonce ad s).size = tgO key nonce ad (tn key nonce s) := by
 have h : (sealS key nonce ad s).size - 16 = (tn key nonce s).size := by
  rw [sealS_size, tn_size]
  omega
 rw [h]
 exact ext_right _ _
theorem seal_tg (key nonce ad s : Yb) : tgX key nonce ad (sealS key nonce ad s) = (sealS key nonce ad s).extract ((sealS key nonce ad s).size - 16) (sealS key nonce ad s).size := by
 unfold tgX
 rw [seal_cx, seal_tx]
theorem seal_op (key nonce ad s : Yb) : opS key nonce (sealS key nonce ad s) = s := by
 unfold opS
 rw [seal_cx]
 exact oS_oS _ _
theorem seal_ok {key nonce ad s : Yb} (h : sf key nonce ad s 0 = 0) : sf key nonce ad (sealS key nonce ad s) 16 = 0 := by
 obtain ⟨h1, h2, h3, h4⟩ := sf_zero h
 exact sf_ok h1 h2 (by rw [sealS_size]; omega) (by rw [sealS_size]; omega)
end Go.Proofs.YtiahdbibeleakaaGreatDoor
namespace Go.Proofs.YtiahdbibeleakaaGreatDoor.Bla
open Go.RowKit
theorem inz84 : (Tryz.prog.info? 84).map (·.size) = some 1 := by kernel_rfl
theorem inz5 : (Tryz.prog.info? 5).map (·.size) = some 1 := by kernel_rfl
theorem inz203 : (Tryz.prog.info? 203).map (·.size) = some 8 := by kernel_rfl
theorem inz228 : (Tryz.prog.info? 228).map (·.size) = some 16 := by kernel_rfl
theorem inz9 : (Tryz.prog.info? 9).map (·.size) = some 1 := by kernel_rfl
theorem inz236 : (Tryz.prog.info? 236).map (·.size) = some 160 := by kernel_rfl
theorem _root_.Go.Proofs.YtiahdbibeleakaaGreatDoor.Mem.oldcB {c : Ctx} {L : List Blk} {W : World} (M : Mem c L W) {g k : Nat} {v : Value} (hc : c.w.cell? ⟨g, k, none⟩ = some v) (hr : g ∉ c.r) : W.cell? ⟨g, k, none⟩ = some v := by
 have hlt : g < c.w.heap.size := by
  refine Classical.byContradiction fun hn => ?_
  have : c.w.heap[g]? = none := Array.getElem?_eq_none (by omega)
  simp [World.cell?, this] at hc
 rw [← hc]
 unfold World.cell?
 simp only
 rw [M.old.block g hlt hr]
theorem wrap64 {x : Int} (h0 : -9223372036854775808 ≤ x) (h1 : x < 9223372036854775808) : IntKind.wrap .i64 x = x := by
 simp [IntKind.wrap, IntKind.signed, IntKind.bits, go_sem]
 omega
theorem quo4 (j : Nat) (hj : j < 1000000) : IntKind.wrap .i64 ((j : Int).tdiv 4) = ((j / 4 : Nat) : Int) := by
 rw [Int.tdiv_eq_ediv_of_nonneg (by omega), wrap64 (by omega) (by omega)]
 omega
theorem rem4 (n : Nat) : Int.tmod (n : Int) 4 = ((n % 4 : Nat) : Int) := by
 rw [Int.tmod_eq_emod_of_nonneg (by omega)]
 omega
theorem run_shlV {P : Program} {a : Act} {o : Oper} (t rt : TypeId) (x y : Operand) (ho : o.op = .binOp .shl t x y rt) (k : Int) (ky : IntKind) (m : Nat) (hx : a.eval x = .int .u32 k) (hy : a.eval y = .int ky (m : Int)) (_hm : m ≤ 32) (w : World) :
  (execOp a.eval o).run P w = .ok (.value (.int .u32 (vl k m))) w := by
 unfold execOp vl
 simp [ho, hx, hy, eqGuard, binOp]
theorem run_ixP {P : Program} {a : Act} {o : Oper} (t : TypeId) (len : Nat) (elem : TypeId) (sz : Nat) (hu : P.underlying t = some (.array len elem)) (hs : (P.info? elem).map (·.size) = some sz) (hag : ∀ w, (isAgg elem).run P w = .ok true w) (x ix : Operand) (ho : o.op = .index t x ix) (F : NV) (n : Nat) (hx : a.eval x = .agg (av n F)) (k : IntKind) (i : Nat) (hi : a.eval ix = .int k (i : Int)) (hlt : i < len) (hn : i * sz + sz ≤ n) (w : World) :
  (execOp a.eval o).run P w = .ok (.value (.agg (av sz (fun j => F (i * sz + j))))) w := by
 have he : (av n F).extract (i * sz) (i * sz + sz) = av sz (fun j => F (i * sz + j)) := by
  apply Array.ext_getElem?
  intro j
  rw [Array.getElem?_extract]
  by_cases hj : j < sz
  ·rw [if_pos (by rw [av_size]; omega), av_get _ _ _ (by omega), av_get _ _ _ hj]
  ·rw [if_neg (by rw [av_size]; omega), Array.getElem?_eq_none (by rw [av_size]; omega)]
 cases hq : P.info? elem with
 | none => simp [hq] at hs
 | some u =>
  have hsz : u.size = sz := by simpa [hq] using hs
  unfold execOp
  simp [ho, hx, hi, Instr.index, asIntOf, run_underlying hu, sizeOf, typeInfo, hq, hsz, hlt, part, hag, he]
theorem pl_laid {P : Program} {ops : Array Oper} {rest : List Oper} {o : Oper} {a : Act} {w : World} {c : Ctx} {L : List Blk} {Q : Exit → Act → World → Prop} (M : Mem c L w) (hw : Region.wanted o (yielded ops a.tmps) = true) (d : Option Tmp) (hd : o.dst = d) (ty : TypeId) (x : Operand) (ho : o.op = .load ty x) (hx : a.eval x = .pointer (some ⟨0, 0, none⟩)) (t : TypeDesc) (hu : P.underlying ty = some t) (ht : t.isRow = true) (hz : (P.info? ty).map (·.size) = some 160)
  (h : PL P ops Q rest (a.put d (.agg (av 160 (w8 fun i => (OF i : Int))))) w) : PL P ops Q (o :: rest) a w := by
 refine pl_to hw d hd _ w ?_ h
 unfold execOp
 have hl := run_loadAt_mid (P := P) w 0 0 ty (av 160 (w8 fun i => (OF i : Int))).toList t (fun j v hv => by
  obtain ⟨hj, rfl⟩ := av_toList_get _ _ _ _ hv
  rw [Nat.zero_add]
  exact M.laid.o j hj) hu ht (by rw [hz]; simp [av_size])
 simp only [ho, hx, Sem.run_bind, hl, Result.andThen_ok, Sem.run_pure, Array.toArray_toList]
def rot (x : Int) (n : Nat) : Int := vo (vl x (32 - n)) (sr x n)
def r8 (a b c d e f g h : Int) : Nat → Int
 | 0 => a
 | 1 => b
 | 2 => c
 | 3 => d
 | 4 => e
 | 5 => f
 | 6 => g
 | 7 => h
 | _ => 0
def r4 (a b c d : Int) : Nat → Int
 | 0 => a
 | 1 => b
 | 2 => c
 | 3 => d
 | _ => 0
def HB : Nat → Int := r8 1779033703 3144134277 1013904242 2773480762 1359893119 2600822924 528734635 1541459225
def wo (rs : NI) : Nat → (Nat → Int)
 | 0 => fun _ => 0
 | j + 1 => upd (wo rs j) (j / 4) (vo (wo rs j (j / 4)) (vl (cv .u32 (rs j)) (j % 4 * 8)))
def spB (x : NI) : Nat → Int := fun i => if i < 8 then x i else HB (i - 8)
def spC (x : NI) (ct : Int) : Nat → Int := upd (upd (spB x) 12 (vx (spB x 12) (cv .u32 ct))) 13 (vx (upd (spB x) 12 (vx (spB x 12) (cv .u32 ct)) 13) (cv .u32 (sr ct 32)))
def spr (x : NI) (ct : Int) (last : Bool) : Nat → Int := if last then upd (spC x ct) 14 (vt (spC x ct 14)) else spC x ct
theorem run_ixL {P : Program} {a : Act} {o : Oper} (t elem : TypeId) (hu : P.underlying t = some (.slice elem)) (hs : (P.info? elem).map (·.size) = some 1) (x ix : Operand) (ho : o.op = .indexAddr t x ix) (g off len cap : Nat) (hx : a.eval x = .slice (some ⟨g, off, none⟩) len cap) (k : IntKind) (i : Nat) (hi : a.eval ix = .int k (i : Int)) (hlt : i < len) (w : World) :
  (execOp a.eval o).run P w = .ok (.value (.pointer (some ⟨g, off + i, none⟩))) w := by
 cases hq : P.info? elem with
 | none => simp [hq] at hs
 | some u =>
  have hsz : u.size = 1 := by simpa [hq] using hs
  unfold execOp
  simp [ho, hx, hi, Instr.indexAt, asIntOf, run_underlying hu, sizeOf, typeInfo, hq, hsz, add_at, hlt]
theorem c_rl16 (x : Int) (w : World) (hL : Laid w)  : Cs 179 #[.int .u32 x, .int .i64 (-16)] w (.int .u32 (rot x 16)) := by
 go_enter Tryz.func179, Tryz.ntmps179
 have M := Mem.start hL
 refine sq <| sq <| sq <| wp_ret ?_
 exact b1 M
theorem c_turned16 (x : Int) (w : World) (hL : Laid w)  : Cs 170 #[.int .u32 x, .int .i64 16] w (.int .u32 (rot x 16)) := by
 go_enter Tryz.func170, Tryz.ntmps170
 have M := Mem.start hL
 refine sq <| sR <| rV 3 <| ZC M 8 (fun w M => c_rl16 x w M.laid) fun u1 M => rV 1 <| nT <| wp_ret ?_
 exact b1 M
theorem c_rl12 (x : Int) (w : World) (hL : Laid w)  : Cs 179 #[.int .u32 x, .int .i64 (-12)] w (.int .u32 (rot x 12)) := by
 go_enter Tryz.func179, Tryz.ntmps179
 have M := Mem.start hL
 refine sq <| sq <| sq <| wp_ret ?_
 exact b1 M
theorem c_turned12 (x : Int) (w : World) (hL : Laid w)  : Cs 170 #[.int .u32 x, .int .i64 12] w (.int .u32 (rot x 12)) := by
 go_enter Tryz.func170, Tryz.ntmps170
 have M := Mem.start hL
 refine sq <| sR <| rV 3 <| ZC M 8 (fun w M => c_rl12 x w M.laid) fun u1 M => rV 1 <| nT <| wp_ret ?_
 exact b1 M
theorem c_rl8 (x : Int) (w : World) (hL : Laid w)  : Cs 179 #[.int .u32 x, .int .i64 (-8)] w (.int .u32 (rot x 8)) := by
 go_enter Tryz.func179, Tryz.ntmps179
 have M := Mem.start hL
 refine sq <| sq <| sq <| wp_ret ?_
 exact b1 M
theorem c_turned8 (x : Int) (w : World) (hL : Laid w)  : Cs 170 #[.int .u32 x, .int .i64 8] w (.int .u32 (rot x 8)) := by
 go_enter Tryz.func170, Tryz.ntmps170
 have M := Mem.start hL
 refine sq <| sR <| rV 3 <| ZC M 8 (fun w M => c_rl8 x w M.laid) fun u1 M => rV 1 <| nT <| wp_ret ?_
 exact b1 M
theorem c_rl7 (x : Int) (w : World) (hL : Laid w)  : Cs 179 #[.int .u32 x, .int .i64 (-7)] w (.int .u32 (rot x 7)) := by
 go_enter Tryz.func179, Tryz.ntmps179
 have M := Mem.start hL
 refine sq <| sq <| sq <| wp_ret ?_
 exact b1 M
theorem c_turned7 (x : Int) (w : World) (hL : Laid w)  : Cs 170 #[.int .u32 x, .int .i64 7] w (.int .u32 (rot x 7)) := by
 go_enter Tryz.func170, Tryz.ntmps170
 have M := Mem.start hL
 refine sq <| sR <| rV 3 <| ZC M 8 (fun w M => c_rl7 x w M.laid) fun u1 M => rV 1 <| nT <| wp_ret ?_
 exact b1 M
theorem c_first  (w : World) (hL : Laid w)  : Cs 142 #[] w (.agg (av 8 (w32 HB))) := by
 go_enter Tryz.func142, Tryz.ntmps142
 have M := Mem.start hL
 refine sR <| pN M 0 (.cells (av 8 (w32 (fun _ => 0))) 203) fun g1 u1 M => nT <| sR <| rV 1 <| ZG M 0 8 (w32 HB) fun u2 M => nT <| wp_ret ?_
 exact bc Tryz.results142 M 0 8 (w32 HB) ⟨rfl, below_grown M.old⟩
theorem c_words (rs : NI) (g n cap : Nat) (hn : n ≤ 64) (w : World) (hL : Laid w) (hc : ∀ i, i < n → w.cell? ⟨g, i, none⟩ = some (.int .u8 (rs i))) : Cs 167 #[.slice (some ⟨g, 0, none⟩) n cap] w (.agg (av 16 (w32 (wo rs n)))) := by
 go_enter Tryz.func167, Tryz.ntmps167
 have M := Mem.start hL
 refine sR <| pN M 2 (.cells (av 16 (w32 (fun _ => 0))) 131) fun g1 u1 M => nT <| sR <| pN M 3 (.cells (av 16 (w32 (fun _ => 0))) 131) fun g2 u2 M => nT <| wp_seq <| sq <| wp_block ?_
 refine au_loop (fun j a w' => ∃ v1 : NV, a = (fm ([.slice (some ⟨g, 0, none⟩) n cap, v1 1, .pointer (some ⟨g1, 0, none⟩), .pointer (some ⟨g2, 0, none⟩)] ++ vr v1 4 2 ++ [.slice (some ⟨g, 0, none⟩) n cap, .int .i64 (n : Int), .int .i64 (j : Int)] ++ vr v1 9 18)) ∧ Mem ⟨w, []⟩ [⟨g1, .cells (av 16 (w32 (fun _ => 0))) 131⟩, ⟨g2, .cells (av 16 (w32 (wo rs j))) 131⟩] w') n (exS M) ?_ ?_
 ·intro j a u0 hj hI
  obtain ⟨v1, rfl, M⟩ := hI
  refine sR <| ZT 9 ((j : Int) < (n : Int)) <| nT <| wp_seq <| cT <| wp_skip <| au_then <| wp_seq <| wp_block <| sR <| rV 1 <| pH 11 (.pointer (some ⟨g, j, none⟩)) (fun w => Eq.trans (run_ixL 44 5 Tryz.underlying44 inz5 _ _ rfl g 0 n cap (by kernel_rfl) .i64 j (by kernel_rfl) hj w) (by rw [Nat.zero_add])) <| pE M 12 g j (.int .u8 (rs j)) (fun w M => M.oldcB (hc j hj) (by simp)) <| rV 2 <| nT <| rg_tail M 12 (by kernel_rfl) (by kernel_rfl) ?_
  simp only [List.take_succ_cons, List.take_zero]
  refine kR 1 <| eQ 14 .i64 (IntKind.wrap .i64 ((j : Int).tdiv 4)) (quo4 j (by omega)) <| eX 15 .i64 g2 ((j / 4 : Nat)) 16 <| eE M 16 1 ((j / 4 : Nat)) <| kR 3 <| eQ 20 .i64 (Int.tmod (j : Int) 4) (rem4 j) <| eI 21 (((j % 4 : Nat) : Int) * 8) ((j % 4 * 8 : Nat) : Int) <| kH 22 (.int .u32 (vl (cv .u32 (rs j)) (j % 4 * 8))) (run_shlV 84 3 _ _ rfl _ .i64 (j % 4 * 8) (by kernel_rfl) (by kernel_rfl) (by omega)) <| kR 1 <| eX 24 .i64 g2 ((j / 4 : Nat)) 16 <| kl_nil fun u3 M => ZP32 M 1 ((j / 4 : Nat)) (vo ((wo rs j) ((j / 4 : Nat))) (vl (cv .u32 (rs j)) (j % 4 * 8))) fun u4 M => pl_nil <| au_block <| au_then <| rg_lit ?_
  refine ZI 25 ((j : Int) + 1) ((j + 1 : Nat) : Int) <| rV 1 <| nT ?_
  exact exS M
 ·intro a u0 hI
  obtain ⟨v1, rfl, M⟩ := hI
  refine sR <| ZF 9 ((n : Int) < (n : Int)) <| nT <| wp_seq <| cF <| wp_exit <| au_then_exit <| au_then_exit <| au_block_exit <| au_then <| sR <| pA M 26 1 16 (w32 (wo rs n)) <| ZG M 0 16 (w32 (wo rs n)) fun u5 M => nT <| wp_ret ?_
  exact bc Tryz.results167 M 0 16 (w32 (wo rs n)) ⟨rfl, below_grown M.old⟩
def spA (x : NI) : Nat → Int := fun i => if i < 8 then x i else 0
theorem spA_cp (x : NI) : ∀ j, j < 16 → (if 0 ≤ j ∧ j < 0 + 8 then w32 x (0 + (j - 0)) else w32 (fun _ => 0) j) = w32 (spA x) j := fun j hj => by
 unfold w32 spA
 by_cases h : j < 8
 ·rw [if_pos (by omega), if_pos h]
  congr 2
  omega
 ·rw [if_neg (by omega), if_neg h]
theorem spB_cp (x : NI) : ∀ j, j < 16 → (if 8 ≤ j ∧ j < 8 + 8 then w32 HB (0 + (j - 8)) else w32 (spA x) j) = w32 (spB x) j := fun j hj => by
 unfold w32 spA spB
 by_cases h : j < 8
 ·rw [if_neg (by omega), if_pos h, if_pos h]
 ·rw [if_pos (by omega), if_neg h, Nat.zero_add]
theorem c_spread_true (x : NI) (ct : Int) (w : World) (hL : Laid w)  : Cs 168 #[.agg (av 8 (w32 x)), .int .u64 ct, .bool true] w (.agg (av 16 (w32 (spr x ct true)))) := by
 go_enter Tryz.func168, Tryz.ntmps168
 have M := Mem.start hL
 refine sR <| pN M 3 (.cells (av 8 (w32 x)) 203) fun g1 u1 M => pN M 6 (.cells (av 16 (w32 (fun _ => 0))) 131) fun g2 u2 M => nT <| sR <| pN M 7 (.cells (av 16 (w32 (fun _ => 0))) 131) fun g3 u3 M => nT <| sR <| ZC M 9 (fun w M => c_first w M.laid) fun u4 M => pN M 8 (.cells (av 8 (w32 (fun _ => 0))) 203) fun g4 u5 M => ZG M 3 8 (w32 HB) fun u6 M => nT <| wp_seq <| rg_tail M 2 (by kernel_rfl) (by kernel_rfl) ?_
 simp only [List.take_succ_cons, List.take_zero]
 refine kR 2 <| kl_nil fun u7 M => pl_copyB M (want_no rfl) (some 12) rfl 246 246 3 84 Tryz.underlying246 inz84 2 g3 16 131 (w32 (fun _ => 0)) rfl 0 g1 8 203 (w32 x) rfl 0 8 16 0 8 8 8 rfl (by decide) (by decide) (fun _ _ => rfl) (w32 (spA x)) (spA_cp x) (fun _ => by kernel_rfl) fun u8 M => nT <| wp_seq <| rg_tail M 2 (by kernel_rfl) (by kernel_rfl) ?_
 simp only [List.take_succ_cons, List.take_zero]
 refine kR 2 <| kl_nil fun u9 M => pl_copyB M (want_no rfl) (some 15) rfl 246 246 3 84 Tryz.underlying246 inz84 2 g3 16 131 (w32 (spA x)) rfl 3 g4 8 203 (w32 HB) rfl 8 8 8 0 8 8 8 rfl (by decide) (by decide) (fun _ _ => rfl) (w32 (spB x)) (spB_cp x) (fun _ => by kernel_rfl) fun u10 M => nT <| sR <| rV 1 <| ZE M 17 2 12 <| rV 4 ?_
 refine ZP32 M 2 12 (vx ((spB x) 12) (cv .u32 ct)) fun u11 M => nT <| sR <| rV 1 ?_
 refine ZE M 23 2 13 <| rV 5 <| ZP32 M 2 13 (vx ((upd (spB x) 12 (vx ((spB x) 12) (cv .u32 ct))) 13) (cv .u32 (sr ct 32))) fun u12 M => nT ?_
 refine wp_seq <| sq <| cT <| rg_lit <| rV 1 <| ZE M 31 2 14 <| rV 2 ?_
 refine ZP32 M 2 14 (vt ((upd (upd (spB x) 12 (vx ((spB x) 12) (cv .u32 ct))) 13 (vx ((upd (spB x) 12 (vx ((spB x) 12) (cv .u32 ct))) 13) (cv .u32 (sr ct 32)))) 14)) fun u13 M => nT <| sR ?_
 refine pA M 34 2 16 (w32 (upd (upd (upd (spB x) 12 (vx ((spB x) 12) (cv .u32 ct))) 13 (vx ((upd (spB x) 12 (vx ((spB x) 12) (cv .u32 ct))) 13) (cv .u32 (sr ct 32)))) 14 (vt ((upd (upd (spB x) 12 (vx ((spB x) 12) (cv .u32 ct))) 13 (vx ((upd (spB x) 12 (vx ((spB x) 12) (cv .u32 ct))) 13) (cv .u32 (sr ct 32)))) 14)))) <| ZG M 1 16 (w32 (upd (upd (upd (spB x) 12 (vx ((spB x) 12) (cv .u32 ct))) 13 (vx ((upd (spB x) 12 (vx ((spB x) 12) (cv .u32 ct))) 13) (cv .u32 (sr ct 32)))) 14 (vt ((upd (upd (spB x) 12 (vx ((spB x) 12) (cv .u32 ct))) 13 (vx ((upd (spB x) 12 (vx ((spB x) 12) (cv .u32 ct))) 13) (cv .u32 (sr ct 32)))) 14)))) fun u14 M => nT <| wp_ret ?_
 exact bc Tryz.results168 M 1 16 (w32 (spr x ct true)) ⟨rfl, below_grown M.old⟩
theorem c_spread_false (x : NI) (ct : Int) (w : World) (hL : Laid w)  : Cs 168 #[.agg (av 8 (w32 x)), .int .u64 ct, .bool false] w (.agg (av 16 (w32 (spr x ct false)))) := by
 go_enter Tryz.func168, Tryz.ntmps168
 have M := Mem.start hL
 refine sR <| pN M 3 (.cells (av 8 (w32 x)) 203) fun g1 u1 M => pN M 6 (.cells (av 16 (w32 (fun _ => 0))) 131) fun g2 u2 M => nT <| sR <| pN M 7 (.cells (av 16 (w32 (fun _ => 0))) 131) fun g3 u3 M => nT <| sR <| ZC M 9 (fun w M => c_first w M.laid) fun u4 M => pN M 8 (.cells (av 8 (w32 (fun _ => 0))) 203) fun g4 u5 M => ZG M 3 8 (w32 HB) fun u6 M => nT <| wp_seq <| rg_tail M 2 (by kernel_rfl) (by kernel_rfl) ?_
 simp only [List.take_succ_cons, List.take_zero]
 refine kR 2 <| kl_nil fun u7 M => pl_copyB M (want_no rfl) (some 12) rfl 246 246 3 84 Tryz.underlying246 inz84 2 g3 16 131 (w32 (fun _ => 0)) rfl 0 g1 8 203 (w32 x) rfl 0 8 16 0 8 8 8 rfl (by decide) (by decide) (fun _ _ => rfl) (w32 (spA x)) (spA_cp x) (fun _ => by kernel_rfl) fun u8 M => nT <| wp_seq <| rg_tail M 2 (by kernel_rfl) (by kernel_rfl) ?_
 simp only [List.take_succ_cons, List.take_zero]
 refine kR 2 <| kl_nil fun u9 M => pl_copyB M (want_no rfl) (some 15) rfl 246 246 3 84 Tryz.underlying246 inz84 2 g3 16 131 (w32 (spA x)) rfl 3 g4 8 203 (w32 HB) rfl 8 8 8 0 8 8 8 rfl (by decide) (by decide) (fun _ _ => rfl) (w32 (spB x)) (spB_cp x) (fun _ => by kernel_rfl) fun u10 M => nT <| sR <| rV 1 <| ZE M 17 2 12 <| rV 4 ?_
 refine ZP32 M 2 12 (vx ((spB x) 12) (cv .u32 ct)) fun u11 M => nT <| sR <| rV 1 ?_
 refine ZE M 23 2 13 <| rV 5 <| ZP32 M 2 13 (vx ((upd (spB x) 12 (vx ((spB x) 12) (cv .u32 ct))) 13) (cv .u32 (sr ct 32))) fun u12 M => nT ?_
 refine wp_seq <| sq <| cF <| wp_skip <| au_then <| sR <| pA M 34 2 16 (w32 (upd (upd (spB x) 12 (vx ((spB x) 12) (cv .u32 ct))) 13 (vx ((upd (spB x) 12 (vx ((spB x) 12) (cv .u32 ct))) 13) (cv .u32 (sr ct 32))))) <| ZG M 1 16 (w32 (upd (upd (spB x) 12 (vx ((spB x) 12) (cv .u32 ct))) 13 (vx ((upd (spB x) 12 (vx ((spB x) 12) (cv .u32 ct))) 13) (cv .u32 (sr ct 32))))) fun u13 M => nT <| wp_ret ?_
 exact bc Tryz.results168 M 1 16 (w32 (spr x ct false)) ⟨rfl, below_grown M.old⟩
theorem c_spread (x : NI) (ct : Int) (last : Bool) (w : World) (hL : Laid w) : Cs 168 #[.agg (av 8 (w32 x)), .int .u64 ct, .bool last] w (.agg (av 16 (w32 (spr x ct last)))) := by
 cases last
 ·exact c_spread_false x ct w hL
 ·exact c_spread_true x ct w hL
open Go.RowKit
def mA1 (v : NI) (x : Int) (i j : Nat) : Int := va (v i) (va (v j) x)
def mD1 (v : NI) (x : Int) (i j l : Nat) : Int := rot (vx (v l) (mA1 v x i j)) 16
def mC1 (v : NI) (x : Int) (i j k l : Nat) : Int := va (v k) (mD1 v x i j l)
def mB1 (v : NI) (x : Int) (i j k l : Nat) : Int := rot (vx (v j) (mC1 v x i j k l)) 12
def mA2 (v : NI) (x y : Int) (i j k l : Nat) : Int := va (mA1 v x i j) (va (mB1 v x i j k l) y)
def mD2 (v : NI) (x y : Int) (i j k l : Nat) : Int := rot (vx (mD1 v x i j l) (mA2 v x y i j k l)) 8
def mC2 (v : NI) (x y : Int) (i j k l : Nat) : Int := va (mC1 v x i j k l) (mD2 v x y i j k l)
def mB2 (v : NI) (x y : Int) (i j k l : Nat) : Int := rot (vx (mB1 v x i j k l) (mC2 v x y i j k l)) 7
def mxF (v : NI) (x y : Int) (i j k l : Nat) : Nat → Int := upd (upd (upd (upd v i (mA2 v x y i j k l)) j (mB2 v x y i j k l)) k (mC2 v x y i j k l)) l (mD2 v x y i j k l)
theorem c_mix (v : NI) (x y : Int) (p0 p1 p2 p3 : Nat) (h4 : p0 < 16) (h1 : p1 < 16) (h2 : p2 < 16) (h3 : p3 < 16) (g gt : Nat) (w : World) (hL : Laid w) (hg : w.heap[g]? = some (.cells (av 16 (w32 v)) 131)) (h0 : 2 < g) (hne : gt ≠ g) (ha0 : w.cell? ⟨gt, 0, none⟩ = some (.int .i64 (p0 : Int))) (ha1 : w.cell? ⟨gt, 1, none⟩ = some (.int .i64 (p1 : Int))) (ha2 : w.cell? ⟨gt, 2, none⟩ = some (.int .i64 (p2 : Int))) (ha3 : w.cell? ⟨gt, 3, none⟩ = some (.int .i64 (p3 : Int))) : Calls Tryz.prog 169 #[.int .u32 x, .int .u32 y, .slice (some ⟨gt, 0, none⟩) 4 4, .pointer (some ⟨g, 0, none⟩)] w fun r w' => r = .returned (.tuple #[]) ∧ Grw w w' [g] ∧ w'.heap[g]? = some (.cells (av 16 (w32 (mxF v x y p0 p1 p2 p3))) 131) := by
 go_enter Tryz.func169, Tryz.ntmps169
 have M := Mem.startp hL hg h0
 refine wp_seq <| rg_tail M 23 (by kernel_rfl) (by kernel_rfl) ?_
 simp only [List.take_succ_cons, List.take_zero]
 refine kR 2 <| kE M 13 gt 0 (.int .i64 (p0 : Int)) (fun w M => M.oldcB ha0 (by simpa using hne)) <| eX 14 .i64 g (p0) 16 <| eE M 15 0 p0 <| kR 2 <| kE M 18 gt 1 (.int .i64 (p1 : Int)) (fun w M => M.oldcB ha1 (by simpa using hne)) <| eX 19 .i64 g (p1) 16 <| eE M 20 0 p1 <| kR 2 <| kE M 23 gt 2 (.int .i64 (p2 : Int)) (fun w M => M.oldcB ha2 (by simpa using hne)) <| eX 24 .i64 g (p2) 16 <| eE M 25 0 p2 <| kR 2 <| kE M 28 gt 3 (.int .i64 (p3 : Int)) (fun w M => M.oldcB ha3 (by simpa using hne)) <| eX 29 .i64 g (p3) 16 <| eE M 30 0 p3 ?_
 refine kR 3 <| kl_nil fun u1 M => ?_
 replace M := M.nf
 refine rV 1 <| nT <| sq <| sR <| rV 3 <| pC M 39 170 #[.int .u32 (vx (v p3) (mA1 v x p0 p1)), .int .i64 16] (.int .u32 (mD1 v x p0 p1 p3)) (fun w M => c_turned16 _ w M.laid) fun u2 M => rV 1 <| nT <| sq <| sR <| rV 3 <| pC M 46 170 #[.int .u32 (vx (v p1) (mC1 v x p0 p1 p2 p3)), .int .i64 12] (.int .u32 (mB1 v x p0 p1 p2 p3)) (fun w M => c_turned12 _ w M.laid) fun u3 M => rV 1 <| nT <| sq <| sR ?_
 refine rV 3 <| pC M 55 170 #[.int .u32 (vx (mD1 v x p0 p1 p3) (mA2 v x y p0 p1 p2 p3)), .int .i64 8] (.int .u32 (mD2 v x y p0 p1 p2 p3)) (fun w M => c_turned8 _ w M.laid) fun u4 M => rV 1 <| nT <| sq <| sR <| rV 3 <| pC M 62 170 #[.int .u32 (vx (mB1 v x p0 p1 p2 p3) (mC2 v x y p0 p1 p2 p3)), .int .i64 7] (.int .u32 (mB2 v x y p0 p1 p2 p3)) (fun w M => c_turned7 _ w M.laid) fun u5 M => rV 1 <| nT <| rgh M [] 23 fun u6 M => ?_
 replace M := M.nf
 have qM := M.drop (.cons _ (.slnil))
 refine qV qM 0 63 (.slice (some ⟨gt, 0, none⟩) 4 4) <| qV qM 1 64 (.pointer (some ⟨gt, 0, none⟩)) <| qC qM 2 65 gt 0 (.int .i64 (p0 : Int)) (fun w M => M.oldcB ha0 (by simpa using hne)) <| qV qM 3 66 (.slice (some ⟨gt, 0, none⟩) 4 4) <| qV qM 4 67 (.pointer (some ⟨gt, 1, none⟩)) <| qC qM 5 68 gt 1 (.int .i64 (p1 : Int)) (fun w M => M.oldcB ha1 (by simpa using hne)) <| qV qM 6 69 (.slice (some ⟨gt, 0, none⟩) 4 4) <| qV qM 7 70 (.pointer (some ⟨gt, 2, none⟩)) <| qC qM 8 71 gt 2 (.int .i64 (p2 : Int)) (fun w M => M.oldcB ha2 (by simpa using hne)) <| qV qM 9 72 (.slice (some ⟨gt, 0, none⟩) 4 4) <| qV qM 10 73 (.pointer (some ⟨gt, 3, none⟩)) <| qC qM 11 74 gt 3 (.int .i64 (p3 : Int)) (fun w M => M.oldcB ha3 (by simpa using hne)) <| qV qM 12 75 (.int .u32 (mA2 v x y p0 p1 p2 p3)) <| qV qM 13 76 (.int .u32 (mB2 v x y p0 p1 p2 p3)) <| qV qM 14 77 (.int .u32 (mC2 v x y p0 p1 p2 p3)) <| qV qM 15 78 (.int .u32 (mD2 v x y p0 p1 p2 p3)) ?_
 refine qH qM 16 79 (.pointer (some ⟨g, p0, none⟩)) (fun w _ => (run_ix1 131 16 84 Tryz.underlying131 inz84 _ _ rfl g (by kernel_rfl) .i64 (p0) (by kernel_rfl) (by omega)) w) <| qO 17 ?_
 refine ZP32 M 0 p0 (mA2 v x y p0 p1 p2 p3) fun u7 M => ?_
 replace M := M.nf
 refine nT ?_
 refine ⟨(M.drop (.cons _ (.slnil))), ?_⟩
 refine qH (M.drop (.cons _ (.slnil))) 18 80 (.pointer (some ⟨g, p1, none⟩)) (fun w _ => (run_ix1 131 16 84 Tryz.underlying131 inz84 _ _ rfl g (by kernel_rfl) .i64 (p1) (by kernel_rfl) (by omega)) w) <| qO 19 ?_
 refine ZP32 M 0 p1 (mB2 v x y p0 p1 p2 p3) fun u8 M => ?_
 replace M := M.nf
 refine nT ?_
 refine ⟨(M.drop (.cons _ (.slnil))), ?_⟩
 refine qH (M.drop (.cons _ (.slnil))) 20 81 (.pointer (some ⟨g, p2, none⟩)) (fun w _ => (run_ix1 131 16 84 Tryz.underlying131 inz84 _ _ rfl g (by kernel_rfl) .i64 (p2) (by kernel_rfl) (by omega)) w) <| qO 21 ?_
 refine ZP32 M 0 p2 (mC2 v x y p0 p1 p2 p3) fun u9 M => ?_
 replace M := M.nf
 refine nT ?_
 refine ⟨(M.drop (.cons _ (.slnil))), ?_⟩
 refine qH (M.drop (.cons _ (.slnil))) 22 82 (.pointer (some ⟨g, p3, none⟩)) (fun w _ => (run_ix1 131 16 84 Tryz.underlying131 inz84 _ _ rfl g (by kernel_rfl) .i64 (p3) (by kernel_rfl) (by omega)) w) <| qZ ?_
 refine ZP32 M 0 p3 (mD2 v x y p0 p1 p2 p3) fun u10 M => ?_
 replace M := M.nf
 refine nT ?_
 exact bodyPost_end (v := .tuple #[]) (results_none Tryz.results169 _ _) (by kernel_rfl) ⟨rfl, M.old, M.get 0 rfl⟩
def ow (j : Nat) : Nat → Value := w8 fun i => (OF (j * 16 + i) : Int)
theorem OF_lt (i : Nat) : OF i < 16 := by
 by_cases h : i < 160
 ·have h2 : ((List.range 160).all fun i => decide (OF i < 16)) = true := by decide +kernel
  simpa using List.all_eq_true.1 h2 i (List.mem_range.2 h)
 ·unfold OF
  rw [List.getD_eq_getElem?_getD, List.getElem?_eq_none (by simp; omega)]
  decide
def rn1 (m v : NI) (j : Nat) : Nat → Int := mxF v (m (OF (j * 16 + 0))) (m (OF (j * 16 + 1))) 0 4 8 12
def rn2 (m v : NI) (j : Nat) : Nat → Int := mxF (rn1 m v j) (m (OF (j * 16 + 2))) (m (OF (j * 16 + 3))) 1 5 9 13
def rn3 (m v : NI) (j : Nat) : Nat → Int := mxF (rn2 m v j) (m (OF (j * 16 + 4))) (m (OF (j * 16 + 5))) 2 6 10 14
def rn4 (m v : NI) (j : Nat) : Nat → Int := mxF (rn3 m v j) (m (OF (j * 16 + 6))) (m (OF (j * 16 + 7))) 3 7 11 15
def rn5 (m v : NI) (j : Nat) : Nat → Int := mxF (rn4 m v j) (m (OF (j * 16 + 8))) (m (OF (j * 16 + 9))) 0 5 10 15
def rn6 (m v : NI) (j : Nat) : Nat → Int := mxF (rn5 m v j) (m (OF (j * 16 + 10))) (m (OF (j * 16 + 11))) 1 6 11 12
def rn7 (m v : NI) (j : Nat) : Nat → Int := mxF (rn6 m v j) (m (OF (j * 16 + 12))) (m (OF (j * 16 + 13))) 2 7 8 13
def rn8 (m v : NI) (j : Nat) : Nat → Int := mxF (rn7 m v j) (m (OF (j * 16 + 14))) (m (OF (j * 16 + 15))) 3 4 9 14
def rd (m v : NI) : Nat → (Nat → Int)
 | 0 => v
 | j + 1 => rn8 m (rd m v j) j
def ad (x y : NI) : Nat → (Nat → Int)
 | 0 => x
 | j + 1 => upd (ad x y j) j (vx (ad x y j j) (vx (y j) (y (8 + j))))
def mixV (x rs : NI) (n : Nat) (ct : Int) (last : Bool) : Nat → Int := fun i => vx (x i) (vx (rd (wo rs n) (spr x ct last) 10 i) (rd (wo rs n) (spr x ct last) 10 (8 + i)))
theorem lt8 {p : Nat → Prop} (h : p 0 ∧ p 1 ∧ p 2 ∧ p 3 ∧ p 4 ∧ p 5 ∧ p 6 ∧ p 7) : ∀ i, i < 8 → p i
 | 0, _ => h.1
 | 1, _ => h.2.1
 | 2, _ => h.2.2.1
 | 3, _ => h.2.2.2.1
 | 4, _ => h.2.2.2.2.1
 | 5, _ => h.2.2.2.2.2.1
 | 6, _ => h.2.2.2.2.2.2.1
 | 7, _ => h.2.2.2.2.2.2.2
 | n + 8, h => absurd h (by omega)
theorem ad_av (x y : NI) : av 8 (w32 (ad x y 8)) = av 8 (w32 fun i => vx (x i) (vx (y i) (y (8 + i)))) := by
 refine av_congr fun i hi => ?_
 unfold w32
 congr 1
 revert i
 exact lt8 ⟨by simp [ad, upd], by simp [ad, upd], by simp [ad, upd], by simp [ad, upd], by simp [ad, upd], by simp [ad, upd], by simp [ad, upd], by simp [ad, upd]⟩
theorem c_mixed (x rs : NI) (g n cap : Nat) (hn : n ≤ 64) (ct : Int) (last : Bool) (w : World) (hL : Laid w) (hc : ∀ i, i < n → w.cell? ⟨g, i, none⟩ = some (.int .u8 (rs i))) : Cs 144 #[.agg (av 8 (w32 x)), .slice (some ⟨g, 0, none⟩) n cap, .int .u64 ct, .bool (last)] w (.agg (av 8 (w32 (mixV x rs n ct last)))) := by
 go_enter Tryz.func144, Tryz.ntmps144
 have M := Mem.start hL
 refine sR <| pN M 4 (.cells (av 8 (w32 x)) 203) fun g1 u1 M => ?_
 replace M := M.nf
 refine pN M 8 (.cells (av 8 (w32 (fun _ => 0))) 203) fun g2 u2 M => ?_
 replace M := M.nf
 refine nT <| sR <| rV 1 <| ZC M 16 (fun w M => c_words rs g n cap hn w M.laid (fun i hi => M.oldcB (hc i hi) (by simp))) fun u3 M => pN M 9 (.cells (av 16 (w32 (fun _ => 0))) 131) fun g3 u4 M => ?_
 replace M := M.nf
 refine ZG M 2 16 (w32 (wo rs n)) fun u5 M => ?_
 replace M := M.nf
 refine nT <| sR <| pA M 17 0 8 (w32 x) <| rV 2 <| ZC M 20 (fun w M => c_spread x ct last w M.laid) fun u6 M => pN M 10 (.cells (av 16 (w32 (fun _ => 0))) 131) fun g4 u7 M => ?_
 replace M := M.nf
 refine ZG M 3 16 (w32 (spr x ct last)) fun u8 M => ?_
 replace M := M.nf
 refine nT <| sq <| wp_seq <| sR <| pl_laid M (want_no rfl) (some 22) rfl 236 _ rfl (by kernel_rfl) _ Tryz.underlying236 rfl inz236 <| rV 1 <| nT <| wp_block ?_
 refine au_loop (fun j a w' => ∃ v1 : NV, a = (fm ([.agg (av 8 (w32 x)), .slice (some ⟨g, 0, none⟩) n cap, .int .u64 ct, .bool (last), .pointer (some ⟨g1, 0, none⟩)] ++ vr v1 5 3 ++ [.pointer (some ⟨g2, 0, none⟩), .pointer (some ⟨g3, 0, none⟩), .pointer (some ⟨g4, 0, none⟩), .func (.func 169) #[] #[.pointer (some ⟨g4, 0, none⟩)]] ++ vr v1 12 10 ++ [.agg (av 160 (w8 fun i => (OF i : Int))), .int .i64 (j : Int)] ++ vr v1 24 109)) ∧ Mem ⟨w, []⟩ [⟨g1, .cells (av 8 (w32 x)) 203⟩, ⟨g2, .cells (av 8 (w32 (fun _ => 0))) 203⟩, ⟨g3, .cells (av 16 (w32 (wo rs n))) 131⟩, ⟨g4, .cells (av 16 (w32 (rd (wo rs n) (spr x ct last) j))) 131⟩] w') 10 (exS M) ?_ ?_
 ·intro j a u0 hj hI
  obtain ⟨v1, rfl, M⟩ := hI
  refine sR <| ZT 24 ((j : Int) < 10) <| nT <| wp_seq <| cT <| wp_skip <| au_then <| wp_seq <| wp_block <| sR <| pH 25 (.agg (av 16 (ow j))) (run_ixP 236 10 228 16 Tryz.underlying236 inz228 (fun _ => by kernel_rfl) _ _ rfl (w8 fun i => (OF i : Int)) 160 (by kernel_rfl) .i64 j (by kernel_rfl) (by omega) (by omega)) <| pN M 13 (.cells (av 16 (w8 (fun _ => 0))) 228) fun g5 u9 M => ?_
  replace M := M.nf
  refine ZG M 4 16 (ow j) fun u10 M => ?_
  replace M := M.nf
  refine nT <| wp_seq <| rgh M [⟨g1, .cells (av 8 (w32 x)) 203⟩, ⟨g2, .cells (av 8 (w32 (fun _ => 0))) 203⟩, ⟨g3, .cells (av 16 (w32 (wo rs n))) 131⟩, ⟨g5, .cells (av 16 (ow j)) 228⟩] 10 fun u11 M => ?_
  replace M := M.nf
  have qM := M.drop (.cons_cons _ (.cons_cons _ (.cons_cons _ (.cons _ (.cons_cons _ (.slnil))))))
  refine qV qM 0 26 (.func (.func 169) #[] #[.pointer (some ⟨g4, 0, none⟩)]) <| qV qM 1 27 (.pointer (some ⟨g5, 0, none⟩)) <| qE qM 2 28 3 0 <| qH qM 3 29 (.pointer (some ⟨g3, (OF (j * 16 + 0)), none⟩)) (fun w _ => (run_ix1 131 16 84 Tryz.underlying131 inz84 _ _ rfl g3 (by kernel_rfl) .u8 (OF (j * 16 + 0)) (by kernel_rfl) (OF_lt _)) w) <| qC qM 4 30 g3 (OF (j * 16 + 0)) (.int .u32 ((wo rs n) (OF (j * 16 + 0)))) (fun w M => M.cell 2 rfl (OF_lt _) rfl) <| qV qM 5 31 (.pointer (some ⟨g5, 1, none⟩)) <| qE qM 6 32 3 1 <| qH qM 7 33 (.pointer (some ⟨g3, (OF (j * 16 + 1)), none⟩)) (fun w _ => (run_ix1 131 16 84 Tryz.underlying131 inz84 _ _ rfl g3 (by kernel_rfl) .u8 (OF (j * 16 + 1)) (by kernel_rfl) (OF_lt _)) w) <| qC qM 8 34 g3 (OF (j * 16 + 1)) (.int .u32 ((wo rs n) (OF (j * 16 + 1)))) (fun w M => M.cell 2 rfl (OF_lt _) rfl) <| qO 9 ?_
  refine ZM M 35 (fun g6 => .slice (some ⟨g6, 0, none⟩) 4 4) (.cells (av 4 (wi (r4 0 4 8 12))) 3) fun g6 u12 M => ?_
  replace M := M.nf
  refine nT ?_
  refine ⟨(M.drop (.cons_cons _ (.cons_cons _ (.cons_cons _ (.cons _ (.cons_cons _ (.cons _ (.slnil)))))))), ?_⟩
  refine qZ ?_
  refine ZY M 36 3 (.tuple #[]) (.cells (av 16 (w32 (rn1 (wo rs n) (rd (wo rs n) (spr x ct last) j) j))) 131) (fun w M => c_mix (rd (wo rs n) (spr x ct last) j) _ _ 0 4 8 12 (by decide) (by decide) (by decide) (by decide) g4 g6 w M.laid (M.get 3 rfl) (M.ne0 3 rfl) (nodup_at M.nodup (i := 5) (j := 3) rfl rfl (by decide)) (M.cell 5 rfl (by decide) rfl) (M.cell 5 rfl (by decide) rfl) (M.cell 5 rfl (by decide) rfl) (M.cell 5 rfl (by decide) rfl)) fun u13 M => ?_
  replace M := M.nf
  refine nT <| au_then <| wp_seq <| rgh M [⟨g1, .cells (av 8 (w32 x)) 203⟩, ⟨g2, .cells (av 8 (w32 (fun _ => 0))) 203⟩, ⟨g3, .cells (av 16 (w32 (wo rs n))) 131⟩, ⟨g5, .cells (av 16 (ow j)) 228⟩, ⟨g6, .cells (av 4 (wi (r4 0 4 8 12))) 3⟩] 10 fun u14 M => ?_
  replace M := M.nf
  have qM := M.drop (.cons_cons _ (.cons_cons _ (.cons_cons _ (.cons _ (.cons_cons _ (.cons_cons _ (.slnil)))))))
  refine qV qM 0 37 (.func (.func 169) #[] #[.pointer (some ⟨g4, 0, none⟩)]) <| qV qM 1 38 (.pointer (some ⟨g5, 2, none⟩)) <| qE qM 2 39 3 2 <| qH qM 3 40 (.pointer (some ⟨g3, (OF (j * 16 + 2)), none⟩)) (fun w _ => (run_ix1 131 16 84 Tryz.underlying131 inz84 _ _ rfl g3 (by kernel_rfl) .u8 (OF (j * 16 + 2)) (by kernel_rfl) (OF_lt _)) w) <| qC qM 4 41 g3 (OF (j * 16 + 2)) (.int .u32 ((wo rs n) (OF (j * 16 + 2)))) (fun w M => M.cell 2 rfl (OF_lt _) rfl) <| qV qM 5 42 (.pointer (some ⟨g5, 3, none⟩)) <| qE qM 6 43 3 3 <| qH qM 7 44 (.pointer (some ⟨g3, (OF (j * 16 + 3)), none⟩)) (fun w _ => (run_ix1 131 16 84 Tryz.underlying131 inz84 _ _ rfl g3 (by kernel_rfl) .u8 (OF (j * 16 + 3)) (by kernel_rfl) (OF_lt _)) w) <| qC qM 8 45 g3 (OF (j * 16 + 3)) (.int .u32 ((wo rs n) (OF (j * 16 + 3)))) (fun w M => M.cell 2 rfl (OF_lt _) rfl) <| qO 9 ?_
  refine ZM M 46 (fun g7 => .slice (some ⟨g7, 0, none⟩) 4 4) (.cells (av 4 (wi (r4 1 5 9 13))) 3) fun g7 u15 M => ?_
  replace M := M.nf
  refine nT ?_
  refine ⟨(M.drop (.cons_cons _ (.cons_cons _ (.cons_cons _ (.cons _ (.cons_cons _ (.cons_cons _ (.cons _ (.slnil))))))))), ?_⟩
  refine qZ ?_
  refine ZY M 47 3 (.tuple #[]) (.cells (av 16 (w32 (rn2 (wo rs n) (rd (wo rs n) (spr x ct last) j) j))) 131) (fun w M => c_mix (rn1 (wo rs n) (rd (wo rs n) (spr x ct last) j) j) _ _ 1 5 9 13 (by decide) (by decide) (by decide) (by decide) g4 g7 w M.laid (M.get 3 rfl) (M.ne0 3 rfl) (nodup_at M.nodup (i := 6) (j := 3) rfl rfl (by decide)) (M.cell 6 rfl (by decide) rfl) (M.cell 6 rfl (by decide) rfl) (M.cell 6 rfl (by decide) rfl) (M.cell 6 rfl (by decide) rfl)) fun u16 M => ?_
  replace M := M.nf
  refine nT <| au_then <| wp_seq <| rgh M [⟨g1, .cells (av 8 (w32 x)) 203⟩, ⟨g2, .cells (av 8 (w32 (fun _ => 0))) 203⟩, ⟨g3, .cells (av 16 (w32 (wo rs n))) 131⟩, ⟨g5, .cells (av 16 (ow j)) 228⟩, ⟨g6, .cells (av 4 (wi (r4 0 4 8 12))) 3⟩, ⟨g7, .cells (av 4 (wi (r4 1 5 9 13))) 3⟩] 10 fun u17 M => ?_
  replace M := M.nf
  have qM := M.drop (.cons_cons _ (.cons_cons _ (.cons_cons _ (.cons _ (.cons_cons _ (.cons_cons _ (.cons_cons _ (.slnil))))))))
  refine qV qM 0 48 (.func (.func 169) #[] #[.pointer (some ⟨g4, 0, none⟩)]) <| qV qM 1 49 (.pointer (some ⟨g5, 4, none⟩)) <| qE qM 2 50 3 4 <| qH qM 3 51 (.pointer (some ⟨g3, (OF (j * 16 + 4)), none⟩)) (fun w _ => (run_ix1 131 16 84 Tryz.underlying131 inz84 _ _ rfl g3 (by kernel_rfl) .u8 (OF (j * 16 + 4)) (by kernel_rfl) (OF_lt _)) w) <| qC qM 4 52 g3 (OF (j * 16 + 4)) (.int .u32 ((wo rs n) (OF (j * 16 + 4)))) (fun w M => M.cell 2 rfl (OF_lt _) rfl) <| qV qM 5 53 (.pointer (some ⟨g5, 5, none⟩)) <| qE qM 6 54 3 5 <| qH qM 7 55 (.pointer (some ⟨g3, (OF (j * 16 + 5)), none⟩)) (fun w _ => (run_ix1 131 16 84 Tryz.underlying131 inz84 _ _ rfl g3 (by kernel_rfl) .u8 (OF (j * 16 + 5)) (by kernel_rfl) (OF_lt _)) w) <| qC qM 8 56 g3 (OF (j * 16 + 5)) (.int .u32 ((wo rs n) (OF (j * 16 + 5)))) (fun w M => M.cell 2 rfl (OF_lt _) rfl) <| qO 9 ?_
  refine ZM M 57 (fun g8 => .slice (some ⟨g8, 0, none⟩) 4 4) (.cells (av 4 (wi (r4 2 6 10 14))) 3) fun g8 u18 M => ?_
  replace M := M.nf
  refine nT ?_
  refine ⟨(M.drop (.cons_cons _ (.cons_cons _ (.cons_cons _ (.cons _ (.cons_cons _ (.cons_cons _ (.cons_cons _ (.cons _ (.slnil)))))))))), ?_⟩
  refine qZ ?_
  refine ZY M 58 3 (.tuple #[]) (.cells (av 16 (w32 (rn3 (wo rs n) (rd (wo rs n) (spr x ct last) j) j))) 131) (fun w M => c_mix (rn2 (wo rs n) (rd (wo rs n) (spr x ct last) j) j) _ _ 2 6 10 14 (by decide) (by decide) (by decide) (by decide) g4 g8 w M.laid (M.get 3 rfl) (M.ne0 3 rfl) (nodup_at M.nodup (i := 7) (j := 3) rfl rfl (by decide)) (M.cell 7 rfl (by decide) rfl) (M.cell 7 rfl (by decide) rfl) (M.cell 7 rfl (by decide) rfl) (M.cell 7 rfl (by decide) rfl)) fun u19 M => ?_
  replace M := M.nf
  refine nT <| au_then <| wp_seq <| rgh M [⟨g1, .cells (av 8 (w32 x)) 203⟩, ⟨g2, .cells (av 8 (w32 (fun _ => 0))) 203⟩, ⟨g3, .cells (av 16 (w32 (wo rs n))) 131⟩, ⟨g5, .cells (av 16 (ow j)) 228⟩, ⟨g6, .cells (av 4 (wi (r4 0 4 8 12))) 3⟩, ⟨g7, .cells (av 4 (wi (r4 1 5 9 13))) 3⟩, ⟨g8, .cells (av 4 (wi (r4 2 6 10 14))) 3⟩] 10 fun u20 M => ?_
  replace M := M.nf
  have qM := M.drop (.cons_cons _ (.cons_cons _ (.cons_cons _ (.cons _ (.cons_cons _ (.cons_cons _ (.cons_cons _ (.cons_cons _ (.slnil)))))))))
  refine qV qM 0 59 (.func (.func 169) #[] #[.pointer (some ⟨g4, 0, none⟩)]) <| qV qM 1 60 (.pointer (some ⟨g5, 6, none⟩)) <| qE qM 2 61 3 6 <| qH qM 3 62 (.pointer (some ⟨g3, (OF (j * 16 + 6)), none⟩)) (fun w _ => (run_ix1 131 16 84 Tryz.underlying131 inz84 _ _ rfl g3 (by kernel_rfl) .u8 (OF (j * 16 + 6)) (by kernel_rfl) (OF_lt _)) w) <| qC qM 4 63 g3 (OF (j * 16 + 6)) (.int .u32 ((wo rs n) (OF (j * 16 + 6)))) (fun w M => M.cell 2 rfl (OF_lt _) rfl) <| qV qM 5 64 (.pointer (some ⟨g5, 7, none⟩)) <| qE qM 6 65 3 7 <| qH qM 7 66 (.pointer (some ⟨g3, (OF (j * 16 + 7)), none⟩)) (fun w _ => (run_ix1 131 16 84 Tryz.underlying131 inz84 _ _ rfl g3 (by kernel_rfl) .u8 (OF (j * 16 + 7)) (by kernel_rfl) (OF_lt _)) w) <| qC qM 8 67 g3 (OF (j * 16 + 7)) (.int .u32 ((wo rs n) (OF (j * 16 + 7)))) (fun w M => M.cell 2 rfl (OF_lt _) rfl) <| qO 9 ?_
  refine ZM M 68 (fun g9 => .slice (some ⟨g9, 0, none⟩) 4 4) (.cells (av 4 (wi (r4 3 7 11 15))) 3) fun g9 u21 M => ?_
  replace M := M.nf
  refine nT ?_
  refine ⟨(M.drop (.cons_cons _ (.cons_cons _ (.cons_cons _ (.cons _ (.cons_cons _ (.cons_cons _ (.cons_cons _ (.cons_cons _ (.cons _ (.slnil))))))))))), ?_⟩
  refine qZ ?_
  refine ZY M 69 3 (.tuple #[]) (.cells (av 16 (w32 (rn4 (wo rs n) (rd (wo rs n) (spr x ct last) j) j))) 131) (fun w M => c_mix (rn3 (wo rs n) (rd (wo rs n) (spr x ct last) j) j) _ _ 3 7 11 15 (by decide) (by decide) (by decide) (by decide) g4 g9 w M.laid (M.get 3 rfl) (M.ne0 3 rfl) (nodup_at M.nodup (i := 8) (j := 3) rfl rfl (by decide)) (M.cell 8 rfl (by decide) rfl) (M.cell 8 rfl (by decide) rfl) (M.cell 8 rfl (by decide) rfl) (M.cell 8 rfl (by decide) rfl)) fun u22 M => ?_
  replace M := M.nf
  refine nT <| au_then <| wp_seq <| rgh M [⟨g1, .cells (av 8 (w32 x)) 203⟩, ⟨g2, .cells (av 8 (w32 (fun _ => 0))) 203⟩, ⟨g3, .cells (av 16 (w32 (wo rs n))) 131⟩, ⟨g5, .cells (av 16 (ow j)) 228⟩, ⟨g6, .cells (av 4 (wi (r4 0 4 8 12))) 3⟩, ⟨g7, .cells (av 4 (wi (r4 1 5 9 13))) 3⟩, ⟨g8, .cells (av 4 (wi (r4 2 6 10 14))) 3⟩, ⟨g9, .cells (av 4 (wi (r4 3 7 11 15))) 3⟩] 10 fun u23 M => ?_
  replace M := M.nf
  have qM := M.drop (.cons_cons _ (.cons_cons _ (.cons_cons _ (.cons _ (.cons_cons _ (.cons_cons _ (.cons_cons _ (.cons_cons _ (.cons_cons _ (.slnil))))))))))
  refine qV qM 0 70 (.func (.func 169) #[] #[.pointer (some ⟨g4, 0, none⟩)]) <| qV qM 1 71 (.pointer (some ⟨g5, 8, none⟩)) <| qE qM 2 72 3 8 <| qH qM 3 73 (.pointer (some ⟨g3, (OF (j * 16 + 8)), none⟩)) (fun w _ => (run_ix1 131 16 84 Tryz.underlying131 inz84 _ _ rfl g3 (by kernel_rfl) .u8 (OF (j * 16 + 8)) (by kernel_rfl) (OF_lt _)) w) <| qC qM 4 74 g3 (OF (j * 16 + 8)) (.int .u32 ((wo rs n) (OF (j * 16 + 8)))) (fun w M => M.cell 2 rfl (OF_lt _) rfl) <| qV qM 5 75 (.pointer (some ⟨g5, 9, none⟩)) <| qE qM 6 76 3 9 <| qH qM 7 77 (.pointer (some ⟨g3, (OF (j * 16 + 9)), none⟩)) (fun w _ => (run_ix1 131 16 84 Tryz.underlying131 inz84 _ _ rfl g3 (by kernel_rfl) .u8 (OF (j * 16 + 9)) (by kernel_rfl) (OF_lt _)) w) <| qC qM 8 78 g3 (OF (j * 16 + 9)) (.int .u32 ((wo rs n) (OF (j * 16 + 9)))) (fun w M => M.cell 2 rfl (OF_lt _) rfl) <| qO 9 ?_
  refine ZM M 79 (fun g10 => .slice (some ⟨g10, 0, none⟩) 4 4) (.cells (av 4 (wi (r4 0 5 10 15))) 3) fun g10 u24 M => ?_
  replace M := M.nf
  refine nT ?_
  refine ⟨(M.drop (.cons_cons _ (.cons_cons _ (.cons_cons _ (.cons _ (.cons_cons _ (.cons_cons _ (.cons_cons _ (.cons_cons _ (.cons_cons _ (.cons _ (.slnil)))))))))))), ?_⟩
  refine qZ ?_
  refine ZY M 80 3 (.tuple #[]) (.cells (av 16 (w32 (rn5 (wo rs n) (rd (wo rs n) (spr x ct last) j) j))) 131) (fun w M => c_mix (rn4 (wo rs n) (rd (wo rs n) (spr x ct last) j) j) _ _ 0 5 10 15 (by decide) (by decide) (by decide) (by decide) g4 g10 w M.laid (M.get 3 rfl) (M.ne0 3 rfl) (nodup_at M.nodup (i := 9) (j := 3) rfl rfl (by decide)) (M.cell 9 rfl (by decide) rfl) (M.cell 9 rfl (by decide) rfl) (M.cell 9 rfl (by decide) rfl) (M.cell 9 rfl (by decide) rfl)) fun u25 M => ?_
  replace M := M.nf
  refine nT <| au_then <| wp_seq <| rgh M [⟨g1, .cells (av 8 (w32 x)) 203⟩, ⟨g2, .cells (av 8 (w32 (fun _ => 0))) 203⟩, ⟨g3, .cells (av 16 (w32 (wo rs n))) 131⟩, ⟨g5, .cells (av 16 (ow j)) 228⟩, ⟨g6, .cells (av 4 (wi (r4 0 4 8 12))) 3⟩, ⟨g7, .cells (av 4 (wi (r4 1 5 9 13))) 3⟩, ⟨g8, .cells (av 4 (wi (r4 2 6 10 14))) 3⟩, ⟨g9, .cells (av 4 (wi (r4 3 7 11 15))) 3⟩, ⟨g10, .cells (av 4 (wi (r4 0 5 10 15))) 3⟩] 10 fun u26 M => ?_
  replace M := M.nf
  have qM := M.drop (.cons_cons _ (.cons_cons _ (.cons_cons _ (.cons _ (.cons_cons _ (.cons_cons _ (.cons_cons _ (.cons_cons _ (.cons_cons _ (.cons_cons _ (.slnil)))))))))))
  refine qV qM 0 81 (.func (.func 169) #[] #[.pointer (some ⟨g4, 0, none⟩)]) <| qV qM 1 82 (.pointer (some ⟨g5, 10, none⟩)) <| qE qM 2 83 3 10 <| qH qM 3 84 (.pointer (some ⟨g3, (OF (j * 16 + 10)), none⟩)) (fun w _ => (run_ix1 131 16 84 Tryz.underlying131 inz84 _ _ rfl g3 (by kernel_rfl) .u8 (OF (j * 16 + 10)) (by kernel_rfl) (OF_lt _)) w) <| qC qM 4 85 g3 (OF (j * 16 + 10)) (.int .u32 ((wo rs n) (OF (j * 16 + 10)))) (fun w M => M.cell 2 rfl (OF_lt _) rfl) <| qV qM 5 86 (.pointer (some ⟨g5, 11, none⟩)) <| qE qM 6 87 3 11 <| qH qM 7 88 (.pointer (some ⟨g3, (OF (j * 16 + 11)), none⟩)) (fun w _ => (run_ix1 131 16 84 Tryz.underlying131 inz84 _ _ rfl g3 (by kernel_rfl) .u8 (OF (j * 16 + 11)) (by kernel_rfl) (OF_lt _)) w) <| qC qM 8 89 g3 (OF (j * 16 + 11)) (.int .u32 ((wo rs n) (OF (j * 16 + 11)))) (fun w M => M.cell 2 rfl (OF_lt _) rfl) <| qO 9 ?_
  refine ZM M 90 (fun g11 => .slice (some ⟨g11, 0, none⟩) 4 4) (.cells (av 4 (wi (r4 1 6 11 12))) 3) fun g11 u27 M => ?_
  replace M := M.nf
  refine nT ?_
  refine ⟨(M.drop (.cons_cons _ (.cons_cons _ (.cons_cons _ (.cons _ (.cons_cons _ (.cons_cons _ (.cons_cons _ (.cons_cons _ (.cons_cons _ (.cons_cons _ (.cons _ (.slnil))))))))))))), ?_⟩
  refine qZ ?_
  refine ZY M 91 3 (.tuple #[]) (.cells (av 16 (w32 (rn6 (wo rs n) (rd (wo rs n) (spr x ct last) j) j))) 131) (fun w M => c_mix (rn5 (wo rs n) (rd (wo rs n) (spr x ct last) j) j) _ _ 1 6 11 12 (by decide) (by decide) (by decide) (by decide) g4 g11 w M.laid (M.get 3 rfl) (M.ne0 3 rfl) (nodup_at M.nodup (i := 10) (j := 3) rfl rfl (by decide)) (M.cell 10 rfl (by decide) rfl) (M.cell 10 rfl (by decide) rfl) (M.cell 10 rfl (by decide) rfl) (M.cell 10 rfl (by decide) rfl)) fun u28 M => ?_
  replace M := M.nf
  refine nT <| au_then <| wp_seq <| rgh M [⟨g1, .cells (av 8 (w32 x)) 203⟩, ⟨g2, .cells (av 8 (w32 (fun _ => 0))) 203⟩, ⟨g3, .cells (av 16 (w32 (wo rs n))) 131⟩, ⟨g5, .cells (av 16 (ow j)) 228⟩, ⟨g6, .cells (av 4 (wi (r4 0 4 8 12))) 3⟩, ⟨g7, .cells (av 4 (wi (r4 1 5 9 13))) 3⟩, ⟨g8, .cells (av 4 (wi (r4 2 6 10 14))) 3⟩, ⟨g9, .cells (av 4 (wi (r4 3 7 11 15))) 3⟩, ⟨g10, .cells (av 4 (wi (r4 0 5 10 15))) 3⟩, ⟨g11, .cells (av 4 (wi (r4 1 6 11 12))) 3⟩] 10 fun u29 M => ?_
  replace M := M.nf
  have qM := M.drop (.cons_cons _ (.cons_cons _ (.cons_cons _ (.cons _ (.cons_cons _ (.cons_cons _ (.cons_cons _ (.cons_cons _ (.cons_cons _ (.cons_cons _ (.cons_cons _ (.slnil))))))))))))
  refine qV qM 0 92 (.func (.func 169) #[] #[.pointer (some ⟨g4, 0, none⟩)]) <| qV qM 1 93 (.pointer (some ⟨g5, 12, none⟩)) <| qE qM 2 94 3 12 <| qH qM 3 95 (.pointer (some ⟨g3, (OF (j * 16 + 12)), none⟩)) (fun w _ => (run_ix1 131 16 84 Tryz.underlying131 inz84 _ _ rfl g3 (by kernel_rfl) .u8 (OF (j * 16 + 12)) (by kernel_rfl) (OF_lt _)) w) <| qC qM 4 96 g3 (OF (j * 16 + 12)) (.int .u32 ((wo rs n) (OF (j * 16 + 12)))) (fun w M => M.cell 2 rfl (OF_lt _) rfl) <| qV qM 5 97 (.pointer (some ⟨g5, 13, none⟩)) <| qE qM 6 98 3 13 <| qH qM 7 99 (.pointer (some ⟨g3, (OF (j * 16 + 13)), none⟩)) (fun w _ => (run_ix1 131 16 84 Tryz.underlying131 inz84 _ _ rfl g3 (by kernel_rfl) .u8 (OF (j * 16 + 13)) (by kernel_rfl) (OF_lt _)) w) <| qC qM 8 100 g3 (OF (j * 16 + 13)) (.int .u32 ((wo rs n) (OF (j * 16 + 13)))) (fun w M => M.cell 2 rfl (OF_lt _) rfl) <| qO 9 ?_
  refine ZM M 101 (fun g12 => .slice (some ⟨g12, 0, none⟩) 4 4) (.cells (av 4 (wi (r4 2 7 8 13))) 3) fun g12 u30 M => ?_
  replace M := M.nf
  refine nT ?_
  refine ⟨(M.drop (.cons_cons _ (.cons_cons _ (.cons_cons _ (.cons _ (.cons_cons _ (.cons_cons _ (.cons_cons _ (.cons_cons _ (.cons_cons _ (.cons_cons _ (.cons_cons _ (.cons _ (.slnil)))))))))))))), ?_⟩
  refine qZ ?_
  refine ZY M 102 3 (.tuple #[]) (.cells (av 16 (w32 (rn7 (wo rs n) (rd (wo rs n) (spr x ct last) j) j))) 131) (fun w M => c_mix (rn6 (wo rs n) (rd (wo rs n) (spr x ct last) j) j) _ _ 2 7 8 13 (by decide) (by decide) (by decide) (by decide) g4 g12 w M.laid (M.get 3 rfl) (M.ne0 3 rfl) (nodup_at M.nodup (i := 11) (j := 3) rfl rfl (by decide)) (M.cell 11 rfl (by decide) rfl) (M.cell 11 rfl (by decide) rfl) (M.cell 11 rfl (by decide) rfl) (M.cell 11 rfl (by decide) rfl)) fun u31 M => ?_
  replace M := M.nf
  refine nT <| au_then <| rgh M [⟨g1, .cells (av 8 (w32 x)) 203⟩, ⟨g2, .cells (av 8 (w32 (fun _ => 0))) 203⟩, ⟨g3, .cells (av 16 (w32 (wo rs n))) 131⟩, ⟨g5, .cells (av 16 (ow j)) 228⟩, ⟨g6, .cells (av 4 (wi (r4 0 4 8 12))) 3⟩, ⟨g7, .cells (av 4 (wi (r4 1 5 9 13))) 3⟩, ⟨g8, .cells (av 4 (wi (r4 2 6 10 14))) 3⟩, ⟨g9, .cells (av 4 (wi (r4 3 7 11 15))) 3⟩, ⟨g10, .cells (av 4 (wi (r4 0 5 10 15))) 3⟩, ⟨g11, .cells (av 4 (wi (r4 1 6 11 12))) 3⟩, ⟨g12, .cells (av 4 (wi (r4 2 7 8 13))) 3⟩] 10 fun u32 M => ?_
  replace M := M.nf
  have qM := M.drop (.cons_cons _ (.cons_cons _ (.cons_cons _ (.cons _ (.cons_cons _ (.cons_cons _ (.cons_cons _ (.cons_cons _ (.cons_cons _ (.cons_cons _ (.cons_cons _ (.cons_cons _ (.slnil)))))))))))))
  refine qV qM 0 103 (.func (.func 169) #[] #[.pointer (some ⟨g4, 0, none⟩)]) <| qV qM 1 104 (.pointer (some ⟨g5, 14, none⟩)) <| qE qM 2 105 3 14 <| qH qM 3 106 (.pointer (some ⟨g3, (OF (j * 16 + 14)), none⟩)) (fun w _ => (run_ix1 131 16 84 Tryz.underlying131 inz84 _ _ rfl g3 (by kernel_rfl) .u8 (OF (j * 16 + 14)) (by kernel_rfl) (OF_lt _)) w) <| qC qM 4 107 g3 (OF (j * 16 + 14)) (.int .u32 ((wo rs n) (OF (j * 16 + 14)))) (fun w M => M.cell 2 rfl (OF_lt _) rfl) <| qV qM 5 108 (.pointer (some ⟨g5, 15, none⟩)) <| qE qM 6 109 3 15 <| qH qM 7 110 (.pointer (some ⟨g3, (OF (j * 16 + 15)), none⟩)) (fun w _ => (run_ix1 131 16 84 Tryz.underlying131 inz84 _ _ rfl g3 (by kernel_rfl) .u8 (OF (j * 16 + 15)) (by kernel_rfl) (OF_lt _)) w) <| qC qM 8 111 g3 (OF (j * 16 + 15)) (.int .u32 ((wo rs n) (OF (j * 16 + 15)))) (fun w M => M.cell 2 rfl (OF_lt _) rfl) <| qO 9 ?_
  refine ZM M 112 (fun g13 => .slice (some ⟨g13, 0, none⟩) 4 4) (.cells (av 4 (wi (r4 3 4 9 14))) 3) fun g13 u33 M => ?_
  replace M := M.nf
  refine nT ?_
  refine ⟨(M.drop (.cons_cons _ (.cons_cons _ (.cons_cons _ (.cons _ (.cons_cons _ (.cons_cons _ (.cons_cons _ (.cons_cons _ (.cons_cons _ (.cons_cons _ (.cons_cons _ (.cons_cons _ (.cons _ (.slnil))))))))))))))), ?_⟩
  refine qZ ?_
  refine ZY M 113 3 (.tuple #[]) (.cells (av 16 (w32 (rn8 (wo rs n) (rd (wo rs n) (spr x ct last) j) j))) 131) (fun w M => c_mix (rn7 (wo rs n) (rd (wo rs n) (spr x ct last) j) j) _ _ 3 4 9 14 (by decide) (by decide) (by decide) (by decide) g4 g13 w M.laid (M.get 3 rfl) (M.ne0 3 rfl) (nodup_at M.nodup (i := 12) (j := 3) rfl rfl (by decide)) (M.cell 12 rfl (by decide) rfl) (M.cell 12 rfl (by decide) rfl) (M.cell 12 rfl (by decide) rfl) (M.cell 12 rfl (by decide) rfl)) fun u34 M => ?_
  replace M := M.nf
  refine nT <| au_block <| au_then <| rg_lit <| ZI 114 ((j : Int) + 1) ((j + 1 : Nat) : Int) <| rV 1 <| nT ?_
  exact exS (M.drop (.cons_cons _ (.cons_cons _ (.cons_cons _ (.cons_cons _ (.cons _ (.cons _ (.cons _ (.cons _ (.cons _ (.cons _ (.cons _ (.cons _ (.cons _ (.slnil)))))))))))))))
 ·intro a u0 hI
  obtain ⟨v1, rfl, M⟩ := hI
  refine sR <| ZF 24 (10 < 10) <| nT <| wp_seq <| cF <| wp_exit <| au_then_exit <| au_then_exit <| au_block_exit <| au_then <| wp_seq <| sq <| wp_block ?_
  refine au_loop (fun j a w' => ∃ v2 : NV, a = (fm ([.agg (av 8 (w32 x)), .slice (some ⟨g, 0, none⟩) n cap, .int .u64 ct, .bool (last), .pointer (some ⟨g1, 0, none⟩)] ++ vr v2 5 3 ++ [.pointer (some ⟨g2, 0, none⟩), .pointer (some ⟨g3, 0, none⟩), .pointer (some ⟨g4, 0, none⟩), .func (.func 169) #[] #[.pointer (some ⟨g4, 0, none⟩)]] ++ vr v2 12 10 ++ [.agg (av 160 (w8 fun i => (OF i : Int))), .int .i64 (10 : Int)] ++ vr v2 24 91 ++ [.int .i64 (j : Int)] ++ vr v2 116 17)) ∧ Mem ⟨w, []⟩ [⟨g1, .cells (av 8 (w32 (ad x (rd (wo rs n) (spr x ct last) 10) j))) 203⟩, ⟨g2, .cells (av 8 (w32 (fun _ => 0))) 203⟩, ⟨g3, .cells (av 16 (w32 (wo rs n))) 131⟩, ⟨g4, .cells (av 16 (w32 (rd (wo rs n) (spr x ct last) 10))) 131⟩] w') 8 (exS M) ?_ ?_
  ·intro j a u0 hj hI
   obtain ⟨v2, rfl, M⟩ := hI
   refine sR <| ZT 116 ((j : Int) < 8) <| nT <| wp_seq <| cT <| wp_skip <| au_then <| wp_seq <| wp_block <| sq <| rg_tail M 13 (by kernel_rfl) (by kernel_rfl) ?_
   simp only [List.take_succ_cons, List.take_zero]
   refine kR 1 <| eX 119 .i64 g1 (j) 8 <| eE M 120 0 j <| kR 1 <| eX 122 .i64 g4 (j) 16 <| eE M 123 3 j <| kR 1 <| eI 125 (8 + (j : Int)) ((8 + j : Nat) : Int) <| eX 126 .i64 g4 ((8 + j : Nat)) 16 <| eE M 127 3 ((8 + j : Nat)) <| kR 2 <| eX 130 .i64 g1 (j) 8 <| kl_nil fun u35 M => ?_
   replace M := M.nf
   refine ZP32 M 0 j (vx ((ad x (rd (wo rs n) (spr x ct last) 10) j) j) (vx ((rd (wo rs n) (spr x ct last) 10) j) ((rd (wo rs n) (spr x ct last) 10) ((8 + j : Nat))))) fun u36 M => ?_
   replace M := M.nf
   refine pl_nil <| au_block <| au_then <| rg_lit <| ZI 131 ((j : Int) + 1) ((j + 1 : Nat) : Int) <| rV 1 <| nT ?_
   exact exS M
  ·intro a u0 hI
   obtain ⟨v2, rfl, M⟩ := hI
   refine sR <| ZF 116 (8 < 8) <| nT <| wp_seq <| cF <| wp_exit <| au_then_exit <| au_then_exit <| au_block_exit <| au_then <| sR <| pA M 132 0 8 (w32 (ad x (rd (wo rs n) (spr x ct last) 10) 8)) <| ZG M 1 8 (w32 (ad x (rd (wo rs n) (spr x ct last) 10) 8)) fun u37 M => ?_
   replace M := M.nf
   refine nT <| wp_ret ?_
   refine bodyPost_ret (v := .agg (av 8 (w32 (mixV x rs n ct last)))) (Eq.trans (b := .ok (.agg (av 8 (w32 (ad x (rd (wo rs n) (spr x ct last) 10) 8)))) _) (results_cell_row Tryz.results144 _ _ g2 203 (av 8 (w32 (ad x (rd (wo rs n) (spr x ct last) 10) 8))) (0, 0) _ (by kernel_rfl) (M.get 1 rfl) Tryz.underlying203 rfl (by rw [av_size]; exact inz203)) (by rw [ad_av]; rfl)) (by kernel_rfl) ⟨rfl, below_grown M.old⟩
open Go.RowKit
def hF (sz : Int) (ws : NI) (gw n : Nat) (ct : Int) : Nat → Value := fun i => if i = 0 then .int .i64 sz else if i < 9 then .int .u32 (ws (i - 1)) else if i = 9 then .slice (some ⟨gw, 0, none⟩) n 64 else .int .u64 ct
theorem hF_words (sz : Int) (ws : NI) (gw n : Nat) (ct : Int) : ∀ j, j < 8 → hF sz ws gw n ct (1 + j) = w32 ws j := fun j hj => by
 unfold hF w32
 rw [if_neg (by omega), if_pos (by omega), show 1 + j - 1 = j by omega]
theorem hF_ext {sz' : Int} {ws' : NI} {gw n' : Nat} {ct' : Int} (F : NV) (h0 : F 0 = .int .i64 sz') (hw : ∀ j, j < 8 → F (1 + j) = .int .u32 (ws' j)) (h9 : F 9 = .slice (some ⟨gw, 0, none⟩) n' 64) (h10 : F 10 = .int .u64 ct') : ∀ j, j < 11 → F j = hF sz' ws' gw n' ct' j := fun j hj => by
 unfold hF
 by_cases e0 : j = 0
 ·subst e0
  rw [h0, if_pos rfl]
 ·rw [if_neg e0]
  by_cases e8 : j < 9
  ·have := hw (j - 1) (by omega)
   rw [show 1 + (j - 1) = j by omega] at this
   rw [if_pos e8, this]
  ·rw [if_neg e8]
   by_cases e9 : j = 9
   ·subst e9
    rw [if_pos rfl, h9]
   ·have e10 : j = 10 := by omega
    subst e10
    rw [if_neg e9, h10]
theorem hF_putw (sz : Int) (ws : NI) (gw n : Nat) (ct : Int) (f : NI) : ∀ j, j < 11 → (if 1 ≤ j ∧ j < 1 + 8 then w32 f (j - 1) else hF sz ws gw n ct j) = hF sz f gw n ct j :=
 hF_ext (fun j => if 1 ≤ j ∧ j < 1 + 8 then w32 f (j - 1) else hF sz ws gw n ct j) rfl (fun j hj => by
  show (if 1 ≤ 1 + j ∧ 1 + j < 1 + 8 then w32 f (1 + j - 1) else _) = _
  rw [if_pos (by omega), show 1 + j - 1 = j by omega]
  rfl) rfl rfl
theorem hF_put1 (sz : Int) (ws : NI) (gw n : Nat) (ct : Int) (v : Int) : ∀ j, j < 11 → (if j = 1 then .int .u32 v else hF sz ws gw n ct j) = hF sz (upd ws 0 v) gw n ct j :=
 hF_ext (fun j => if j = 1 then .int .u32 v else hF sz ws gw n ct j) rfl (fun j hj => by
  show (if 1 + j = 1 then _ else hF sz ws gw n ct (1 + j)) = _
  unfold upd
  by_cases e : j = 0
  ·subst e
   rfl
  ·rw [if_neg (by omega), if_neg e, hF_words sz ws gw n ct j hj]
   rfl) rfl rfl
theorem hF_putc (sz : Int) (ws : NI) (gw n : Nat) (ct : Int) (c' : Int) : ∀ j, j < 11 → (if j = 10 then .int .u64 c' else hF sz ws gw n ct j) = hF sz ws gw n c' j :=
 hF_ext (fun j => if j = 10 then .int .u64 c' else hF sz ws gw n ct j) rfl (fun j hj => by
  show (if 1 + j = 10 then _ else hF sz ws gw n ct (1 + j)) = _
  rw [if_neg (by omega), hF_words sz ws gw n ct j hj]
  rfl) rfl rfl
theorem hF_puts (sz : Int) (ws : NI) (gw n : Nat) (ct : Int) (n' : Nat) : ∀ j, j < 11 → (if j = 9 then .slice (some ⟨gw, 0, none⟩) n' 64 else hF sz ws gw n ct j) = hF sz ws gw n' ct j :=
 hF_ext (fun j => if j = 9 then .slice (some ⟨gw, 0, none⟩) n' 64 else hF sz ws gw n ct j) rfl (fun j hj => by
  show (if 1 + j = 9 then _ else hF sz ws gw n ct (1 + j)) = _
  rw [if_neg (by omega), hF_words sz ws gw n ct j hj]
  rfl) rfl rfl
def lf (l : List Int) : Nat → Int := fun i => l.getD i 0
theorem vs8_cell (l : List Int) (i : Nat) (h : i < l.length) : (vs8 l)[i]? = some (.int .u8 (lf l i)) := by
 unfold vs8 lf
 rw [List.getElem?_map, List.getD_eq_getElem?_getD, List.getElem?_eq_getElem h]
 rfl
theorem byte_vs8 (s : Yb) : byteCells s = vs8 (sb s) := by
 unfold byteCells vs8 sb
 rw [List.map_map]
 rfl
theorem vs8_append (l m : List Int) : vs8 l ++ vs8 m = vs8 (l ++ m) := by simp [vs8]
theorem cv8_nn (x : Int) : 0 ≤ cv .u8 x ∧ cv .u8 x < 256 := by
 unfold cv
 simp [IntKind.wrap, IntKind.signed, IntKind.bits]
 omega
def lo4 (x : Int) : List Int := [cv .u8 x, cv .u8 (sr x 8), cv .u8 (sr x 16), cv .u8 (sr x 24)]
def loI (f : NI) : Nat → List Int
 | 0 => []
 | j + 1 => loI f j ++ lo4 (f j)
theorem loI_length (f : NI) : ∀ j, (loI f j).length = 4 * j
 | 0 => rfl
 | j + 1 => by
  unfold loI
  rw [List.length_append, loI_length f j]
  simp [lo4]
  omega
theorem loI_nn (f : NI) : ∀ j, ∀ x ∈ loI f j, 0 ≤ x ∧ x < 256
 | 0, x, h => by simp [loI] at h
 | j + 1, x, h => by
  unfold loI at h
  rcases List.mem_append.1 h with h | h
  ·exact loI_nn f j x h
  ·simp only [lo4, List.mem_cons, List.not_mem_nil, or_false] at h
   rcases h with rfl | rfl | rfl | rfl <;> exact cv8_nn _
theorem src4 {c : Ctx} {L : List Blk} {w : World} (M : Mem c L w) (i gx Tx : Nat) (a b d e : Int) (hi : L[i]? = some ⟨gx, .cells (av 4 (w8 (r4 a b d e))) Tx⟩) : Src Tryz.prog 1 44 (.slice (some ⟨gx, 0, none⟩) 4 4) 4 (vs8 [a, b, d, e]) w :=
 Src.ofSlice w Tryz.underlying44 ⟨gx, 0, none⟩ 4 4 _ rfl (fun j u hu => by
  rw [add_at, Nat.zero_add]
  have hj : j < 4 := by
   have := (List.getElem?_eq_some_iff.1 hu).1
   simpa [vs8] using this
  rw [cell_av (M.get i hi) hj, ← hu]
  rcases j with _ | _ | _ | _ | j
  ·rfl
  ·rfl
  ·rfl
  ·rfl
  ·omega) (fun u hu => by
  obtain ⟨x, _, rfl⟩ := List.mem_map.1 hu
  rfl)
theorem info5_ex : (Tryz.prog.info? 5).isSome = true := by kernel_rfl
theorem info5_eq : Tryz.prog.info? 5 = some ((Tryz.prog.info? 5).get info5_ex) := (Option.some_get info5_ex).symm
theorem info5_z : ((Tryz.prog.info? 5).get info5_ex).zero = some (.int .u8 0) := by kernel_rfl
theorem c_low (f : NI) (w : World) (hL : Laid w)  : Cs 145 #[.agg (av 8 (w32 f))] w (.string (bs (loI f 8))) := by
 go_enter Tryz.func145, Tryz.ntmps145
 have M := Mem.start hL
 refine sR <| pN M 1 (.cells (av 8 (w32 f)) 203) fun g1 u1 M => rV 1 <| nT <| sR <| pl_make M (want_no rfl) (some 6) rfl 44 5 _ (.int .u8 0) Tryz.underlying44 info5_eq info5_z (by kernel_rfl) (by decide +kernel) _ _ rfl .i64 .i64 (by kernel_rfl) 32 (by kernel_rfl) (by omega) ?_
 intro g2 Zg2 u2 hZ M
 refine rV 1 <| nT <| wp_seq <| sR <| pA M 7 0 8 (w32 f) <| rV 1 <| nT <| wp_block ?_
 refine au_loop (fun j a w' => ∃ (v : NV) (Z : Obj), a = (fm ([.agg (av 8 (w32 f)), .pointer (some ⟨g1, 0, none⟩), .string ⟨#[]⟩, .slice (some ⟨g2, 0, none⟩) (4 * j) 32, undef, v 5, .slice (some ⟨g2, 0, none⟩) 0 32, .agg (av 8 (w32 f)), .int .i64 (j : Int)] ++ vr v 9 17 ++ [undef, undef])) ∧ SB Z 32 (vs8 (loI f j)) ∧ Mem ⟨w, []⟩ [⟨g1, .cells (av 8 (w32 f)) 203⟩, ⟨g2, Z⟩] w') 8 (exS2 Zg2 ⟨hZ, M⟩) ?_ ?_
 ·intro j a u0 hj hI
  obtain ⟨v, Z, rfl, hZ, M⟩ := hI
  refine sR <| ZT 9 ((j : Int) < 8) <| nT <| wp_seq <| cT <| wp_skip <| au_then <| wp_seq <| wp_block <| sR <| pH 10 (.int .u32 (f (j))) (run_ixA 203 8 84 Tryz.underlying203 inz84 (fun _ => by kernel_rfl) _ _ rfl (w32 f) (by kernel_rfl) .i64 (j) (by kernel_rfl) (by omega) rfl) <| rV 1 <| nT <| rg_lit <| rV 12 <| ZM M 23 (fun g3 => .slice (some ⟨g3, 0, none⟩) 4 4) (.cells (av 4 (w8 (r4 (cv .u8 (f j)) (cv .u8 (sr (f j) 8)) (cv .u8 (sr (f j) 16)) (cv .u8 (sr (f j) 24))))) 5) fun g3 u3 M => ?_
  refine pl_appX M (want_no rfl) (some 24) rfl 44 44 44 5 _ Tryz.underlying44 info5_eq (by kernel_rfl) 1 g2 (4 * j) 32 Z (vs8 (loI f j)) rfl hZ (by rw [vs8_length, loI_length]) (.slice (some ⟨g3, 0, none⟩) 4 4) 4 (vs8 (lo4 (f j))) (fun w M => src4 M 2 g3 5 (cv .u8 (f j)) (cv .u8 (sr (f j) 8)) (cv .u8 (sr (f j) 16)) (cv .u8 (sr (f j) 24)) rfl) rfl (by omega) (fun _ => by kernel_rfl) ?_
  intro Y1 u4 hY M
  rw [vs8_append] at hY
  refine rV 1 <| pl_nil <| au_block <| au_then <| rg_lit <| ZI 25 ((j : Int) + 1) ((j + 1 : Nat) : Int) <| rV 1 <| nT ?_
  exact exS2 Y1 ⟨hY, M.drop (.cons_cons _ (.cons_cons _ (.cons _ .slnil)))⟩
 ·intro a u0 hI
  obtain ⟨v, Z, rfl, hZ, M⟩ := hI
  refine sq <| wp_seq <| cF <| wp_exit <| au_then_exit <| au_then_exit <| au_block_exit <| au_then <| sR <| rV 1 <| pl_back M (want_no rfl) (some 27) rfl _ rfl 1 g2 (4 * 8) 32 (by kernel_rfl) Z rfl (loI f 8) 32 hZ (loI_length f 8) (loI_nn f 8) <| rV 1 <| nT <| wp_ret ?_
  exact b1 M
structure HS where
 ws : Nat → Int
 wl : List Int
 ct : Int
structure HS.ok (H : HS) : Prop where
 le : H.wl.length ≤ 64
 nn : ∀ x ∈ H.wl, 0 ≤ x ∧ x < 256
def fl (H : HS) : HS := if H.wl.length = 64 then ⟨mixV H.ws (lf H.wl) H.wl.length (ua H.ct 64) false, [], ua H.ct 64⟩ else H
def ab (H : HS) (b : Int) : HS := ⟨(fl H).ws, (fl H).wl ++ [b], (fl H).ct⟩
def tk (H : HS) (s : Yb) : Nat → HS
 | 0 => H
 | k + 1 => ab (tk H s k) (bt s k)
theorem fl_lt (H : HS) (h : H.ok) : (fl H).wl.length < 64 := by
 unfold fl
 split
 ·simp
 ·have := h.le
  omega
theorem fl_ok {H : HS} (h : H.ok) : (fl H).ok := by
 unfold fl
 split
 ·exact ⟨by simp, by simp⟩
 ·exact h
theorem ab_ok {H : HS} (h : H.ok) (b : Int) (hb : 0 ≤ b ∧ b < 256) : (ab H b).ok := by
 have h1 := fl_lt H h
 refine ⟨by show ((fl H).wl ++ [b]).length ≤ 64; simp; omega, fun x hx => ?_⟩
 rcases List.mem_append.1 hx with hx | hx
 ·exact (fl_ok h).nn x hx
 ·rw [List.mem_singleton.1 hx]
  exact hb
theorem tk_ok {H : HS} (h : H.ok) (s : Yb) : ∀ k, (tk H s k).ok
 | 0 => h
 | k + 1 => ab_ok (tk_ok h s k) _ (bt_nn s k)
theorem fl_id {H : HS} (h : H.wl.length < 64) : fl H = H := by
 unfold fl
 rw [if_neg (by omega)]
theorem tk_run (H : HS) (s : Yb) (k : Nat) : ∀ n, 0 < n → (fl (tk H s k)).wl.length + n ≤ 64 → tk H s (k + n) = ⟨(fl (tk H s k)).ws, (fl (tk H s k)).wl ++ (List.range n).map (fun i => bt s (k + i)), (fl (tk H s k)).ct⟩
 | 0, h, _ => absurd h (by omega)
 | 1, _, _ => rfl
 | n + 2, _, hle => by
  have ih := tk_run H s k (n + 1) (by omega) (by omega)
  show ab (tk H s (k + (n + 1))) (bt s (k + (n + 1))) = _
  unfold ab
  rw [fl_id (by rw [ih]; simp; omega), ih]
  simp only [HS.mk.injEq, true_and, and_true]
  rw [List.append_assoc, List.range_succ (n := n + 1), List.map_append]
  rfl
theorem bt_extract (s : Yb) (k : Nat) (i : Nat) : bt (s.extract k s.size) i = bt s (k + i) := by
 unfold bt
 congr 2
 have e : (s.extract k s.size).data[i]? = s.data[k + i]? := by
  have hs : s.data.size = s.size := rfl
  rw [ByteArray.data_extract, Array.getElem?_extract]
  by_cases h : k + i < s.size
  ·rw [if_pos (by omega)]
  ·rw [if_neg (by omega), Array.getElem?_eq_none (by omega)]
 rw [e]
theorem size_extract (s : Yb) (k : Nat) : (s.extract k s.size).size = s.size - k := by simp [ByteArray.size_extract]
theorem extract_extract (s : Yb) (k q : Nat) (hk : k + q ≤ s.size) : (s.extract k s.size).extract q (s.extract k s.size).size = s.extract (k + q) s.size := by
 have hs : s.size = s.data.size := rfl
 apply ByteArray.ext
 rw [ByteArray.data_extract, ByteArray.data_extract, ByteArray.data_extract, size_extract]
 apply Array.ext_getElem?
 intro i
 rw [Array.getElem?_extract, Array.getElem?_extract, Array.getElem?_extract]
 by_cases h : k + q + i < s.size
 ·rw [if_pos (by simp; omega), if_pos (by omega), if_pos (by omega), Nat.add_assoc]
 ·rw [if_neg (by simp; omega), if_neg (by omega)]
theorem extract_all (s : Yb) : s.extract 0 s.size = s := by simp
theorem sb_ext (r : Yb) (a b : Nat) (h : b ≤ r.size) : sb (r.extract a b) = (List.range (b - a)).map (fun i => bt r (a + i)) := by
 have hs : r.size = r.data.size := rfl
 apply List.ext_getElem?
 intro i
 unfold sb bt
 rw [List.getElem?_map, Array.getElem?_toList, ByteArray.data_extract, Array.getElem?_extract, List.getElem?_map]
 by_cases hi : i < b - a
 ·rw [if_pos (by omega), List.getElem?_range hi, Array.getElem?_eq_getElem (by omega), Option.map_some, Option.map_some, Array.getElem?_eq_getElem (by omega)]
  rfl
 ·rw [if_neg (by omega), List.getElem?_eq_none (by simp; omega)]
  rfl
theorem run_strl {P : Program} {a : Act} {o : Oper} (t : TypeId) (hu : P.underlying t = some .string) (x lo : Operand) (ho : o.op = .slice t x (some lo) none none) (s : Yb) (hx : a.eval x = .string s) (k : IntKind) (i : Nat) (hi : a.eval lo = .int k (i : Int)) (hle : i ≤ s.size) (v : Yb) (hv : s.extract i s.size = v) (w : World) :
  (execOp a.eval o).run P w = .ok (.value (.string v)) w := by
 subst hv
 unfold execOp
 simp [ho, hx, hi, run_sliceAt_string w t (.string s) (some (.int k i)) none none hu, run_slice_string_l w t s hu k i (by omega) (by omega)]
theorem run_strh {P : Program} {a : Act} {o : Oper} (t : TypeId) (hu : P.underlying t = some .string) (x hi : Operand) (ho : o.op = .slice t x none (some hi) none) (s : Yb) (hx : a.eval x = .string s) (k : IntKind) (i : Nat) (hh : a.eval hi = .int k (i : Int)) (hle : i ≤ s.size) (v : Yb) (hv : s.extract 0 i = v) (w : World) :
  (execOp a.eval o).run P w = .ok (.value (.string v)) w := by
 subst hv
 unfold execOp
 simp [ho, hx, hh, run_sliceAt_string w t (.string s) none (some (.int k i)) none hu, run_slice_string_h w t s hu k i (by omega) (by omega)]
theorem c_take (H : HS) (hH : H.ok) (z g gw : Nat) (Z : Obj) (s : Yb) (w : World) (hL : Laid w) (hg : w.heap[g]? = some (.cells (av 11 (hF (z : Int) H.ws gw H.wl.length H.ct)) 206)) (h0 : 2 < g) (hk : w.heap[gw]? = some Z) (k0 : 2 < gw) (hne : g ≠ gw) (hZ : SB Z 64 (vs8 H.wl)) : Calls Tryz.prog 112 #[.pointer (some ⟨g, 0, none⟩), .string s] w fun r w' => ∃ Y, r = .returned (.tuple #[]) ∧ Grw w w' [g, gw] ∧ w'.heap[g]? = some (.cells (av 11 (hF (z : Int) (tk H s s.size).ws gw (tk H s s.size).wl.length (tk H s s.size).ct)) 206) ∧ w'.heap[gw]? = some Y ∧ SB Y 64 (vs8 (tk H s s.size).wl) := by
 go_enter Tryz.func112, Tryz.ntmps112
 have M := Mem.startp2 hL hg h0 hk k0 hne
 refine wp_block <| wp_loop_ghost (fun n a w' => ∃ (v : NV) (k : Nat) (rem : Yb) (Y : Obj), k + n = s.size ∧ rem = s.extract k s.size ∧ a = (fm ([.pointer (some ⟨g, 0, none⟩), .string rem, undef, undef] ++ vr v 4 64)) ∧ SB Y 64 (vs8 (tk H s k).wl) ∧ Mem ⟨w, [g, gw]⟩ [⟨g, .cells (av 11 (hF (z : Int) (tk H s k).ws gw (tk H s k).wl.length (tk H s k).ct)) 206⟩, ⟨gw, Y⟩] w') s.size ⟨fun _ => undef, 0, s, Z, by omega, (extract_all s).symm, by kernel_rfl, hZ, M⟩ ?_
 intro n a u0 hI
 obtain ⟨v, k, rem, Y, hk2, hrem, rfl, hY, M⟩ := hI
 have hsz : rem.size = n := by rw [hrem, size_extract]; omega
 obtain ⟨G, hG⟩ : ∃ G, G = tk H s k := ⟨_, rfl⟩
 have hok : G.ok := by rw [hG]; exact tk_ok hH s k
 rw [← hG] at M hY
 rcases Nat.eq_zero_or_pos n with hn | hn
 ·refine wp_seq <| sR <| rV 2 <| ZF 7 ((0 : Int) < (rem.size : Int)) <| nT <| cF <| wp_exit <| au_then_exit <| au_then_exit <| au_block_exit ?_
  have ek : k = s.size := by omega
  rw [hG, ek] at M hY
  exact bodyPost_end (v := .tuple #[]) (results_none Tryz.results112 _ _) (by kernel_rfl) ⟨Y, rfl, M.old, M.get 0 rfl, M.get 1 rfl, hY⟩
 by_cases hf : G.wl.length = 64
 ·have hfl : fl G = ⟨mixV G.ws (lf G.wl) G.wl.length (ua G.ct 64) false, [], ua G.ct 64⟩ := by unfold fl; rw [if_pos hf]
  obtain ⟨p, hp⟩ : ∃ p, p = 0 := ⟨_, rfl⟩
  have hp1 : p < 64 := by omega
  obtain ⟨q, hq⟩ : ∃ q, q = Nat.min rem.size (64 - p) := ⟨_, rfl⟩
  have hq1 : q ≤ n := by rw [hq, hsz]; exact Nat.min_le_left _ _
  have hq2 : q ≤ 64 - p := by rw [hq]; exact Nat.min_le_right _ _
  have hq3 : 0 < q := by rw [hq, hsz]; exact Nat.lt_min.2 ⟨hn, by omega⟩
  have hmin : (if ((64 - p : Nat) : Int) < (rem.size : Int) then ((64 - p : Nat) : Int) else (rem.size : Int)) = (q : Int) := by
   have hq4 : q = if 64 - p < rem.size then 64 - p else rem.size := by rw [hq]; simp only [Nat.min_def]; split <;> split <;> omega
   rw [hq4]; split <;> split <;> omega
  have hes : (rem.extract 0 q).size = q := by rw [ByteArray.size_extract]; omega
  have hsrc : ∀ w, Src Tryz.prog 1 9 (.string (rem.extract 0 q)) q (byteCells (rem.extract 0 q)) w := fun w => by have h := Src.ofString (P := Tryz.prog) w (tx := 9) Tryz.underlying9 (rem.extract 0 q); rw [hes] at h; exact h
  have hrun := tk_run H s k q hq3 (by rw [← hG, hfl]; show 0 + q ≤ 64; omega)
  rw [← hG, hfl] at hrun
  have hbs : sb (rem.extract 0 q) = (List.range q).map (fun i => bt s (k + i)) := by rw [sb_ext _ _ _ (by omega), Nat.sub_zero]; refine List.map_congr_left fun i _ => ?_; rw [Nat.zero_add, hrem, bt_extract]
  refine wp_seq <| sR <| rV 2 <| ZT 7 ((0 : Int) < (rem.size : Int)) <| nT <| cT <| wp_skip <| au_then <| wp_block <| wp_seq <| sR <| rV 3 <| ZE M 11 0 9 <| rV 1 <| ZT 13 ((G.wl.length : Int) = 64) <| nT ?_
  refine cT <| sR <| rV 3 <| ZE M 17 0 10 <| rV 3 <| pP M 0 rfl 10 (.int .u64 (ua G.ct 64)) (hF (z : Int) G.ws gw G.wl.length (ua G.ct 64)) (by decide) (hF_putc (z : Int) G.ws gw G.wl.length G.ct (ua G.ct 64)) fun u1 M => nT <| wp_seq <| rg_tail M 16 (by kernel_rfl) (by kernel_rfl) ?_
  simp only [List.take_succ_cons, List.take_zero]
  refine kR 4 <| kL M 25 0 rfl 1 8 (w32 G.ws) (hF_words (z : Int) G.ws gw G.wl.length (ua G.ct 64)) <| kR 3 <| eE M 29 0 9 <| kR 3 <| eE M 33 0 10 <| eC M 34 (fun w M => c_mixed G.ws (lf G.wl) gw G.wl.length 64 hok.le (ua G.ct 64) false w M.laid (fun i hi => hY.cell (M.get 1 rfl) (vs8_cell G.wl i hi))) <| kR 2 <| kl_nil fun u2 M => pl_put M (want_no rfl) rfl 203 _ _ rfl 0 g 1 (by kernel_rfl) 11 206 (hF (z : Int) G.ws gw G.wl.length (ua G.ct 64)) rfl 8 (w32 (mixV G.ws (lf G.wl) G.wl.length (ua G.ct 64) false)) (hF (z : Int) (mixV G.ws (lf G.wl) G.wl.length (ua G.ct 64) false) gw G.wl.length (ua G.ct 64)) (by kernel_rfl) inz203 (by decide) (fun _ _ => rfl) (hF_putw (z : Int) G.ws gw G.wl.length (ua G.ct 64) (mixV G.ws (lf G.wl) G.wl.length (ua G.ct 64) false)) fun u3 M => nT <| rg_lit <| rV 4 <| ZE M 41 0 9 <| rV 3 <| pP M 0 rfl 9 (.slice (some ⟨gw, 0, none⟩) 0 64) (hF (z : Int) (mixV G.ws (lf G.wl) G.wl.length (ua G.ct 64) false) gw 0 (ua G.ct 64)) (by decide) (hF_puts (z : Int) (mixV G.ws (lf G.wl) G.wl.length (ua G.ct 64) false) gw G.wl.length (ua G.ct 64) 0) fun u4 M => ?_
  refine nT <| sR <| rV 5 <| ZE M 50 0 9 <| rV 1 <| ZI 52 (64 - ((0 : Nat) : Int)) ((64 - p : Nat) : Int) <| zJ 53 (.int .i64 (q : Int)) (.int .i64 (if ((64 - p : Nat) : Int) < (rem.size : Int) then ((64 - p : Nat) : Int) else (rem.size : Int))) (by rw [hmin]) <| rV 1 <| nT <| wp_seq <| rgh M [] 11 fun u5 M => ?_
  have qM := M.drop (.cons _ (.cons _ (.slnil)))
  refine qV qM 0 54 (.pointer (some ⟨g, 0, none⟩)) <| qV qM 1 55 (.pointer (some ⟨g, 0, none⟩)) <| qV qM 2 56 (.pointer (some ⟨g, 0, none⟩)) <| qV qM 3 57 (.pointer (some ⟨g, 9, none⟩)) <| qV qM 5 59 (.string rem) <| qV qM 6 60 (.int .i64 (q : Int)) <| qH qM 7 61 (.string (rem.extract 0 q)) (fun w _ => (run_strh 9 Tryz.underlying9 _ _ rfl rem (by kernel_rfl) .i64 q (by kernel_rfl) (by omega) _ rfl) w) <| qO 4 ?_
  refine ZE M 58 0 9 <| nT ?_
  refine ⟨(M.drop (.cons _ (.cons _ (.slnil)))), ?_⟩
  refine qO 8 ?_
  refine pl_appX M (want_no rfl) (some 62) rfl 44 9 44 5 _ Tryz.underlying44 info5_eq (by kernel_rfl) 1 gw 0 64 Y (vs8 []) rfl hY.take (vs8_length _) (.string (rem.extract 0 q)) q (byteCells (rem.extract 0 q)) (fun w _ => hsrc w) (by rw [byteCells_length]; exact hes) (by omega) (fun _ => by kernel_rfl) ?_
  intro Y2 u6 hY2 M
  rw [byte_vs8, vs8_append] at hY2
  refine nT ?_
  refine ⟨(M.drop (.cons _ (.cons _ (.slnil)))), ?_⟩
  have qM := M.drop (.cons _ (.cons _ (.slnil)))
  refine qV qM 9 63 (.pointer (some ⟨g, 0, none⟩)) <| qV qM 10 64 (.pointer (some ⟨g, 9, none⟩)) <| qZ ?_
  refine pP M 0 rfl 9 (.slice (some ⟨gw, 0, none⟩) (0 + q) 64) (hF (z : Int) (mixV G.ws (lf G.wl) G.wl.length (ua G.ct 64) false) gw (0 + q) (ua G.ct 64)) (by decide) (hF_puts (z : Int) (mixV G.ws (lf G.wl) G.wl.length (ua G.ct 64) false) gw 0 (ua G.ct 64) (0 + q)) fun u7 M => nT <| au_then <| rg_lit <| rV 2 ?_
  refine pH 67 (.string (s.extract (k + q) s.size)) (run_strl 9 Tryz.underlying9 _ _ rfl rem (by kernel_rfl) .i64 q (by kernel_rfl) (by omega) _ (by rw [hrem]; exact extract_extract s k q (by omega))) ?_
  refine rV 1 <| pl_nil <| au_block <| au_then ?_
  have E : (hF (z : Int) (mixV G.ws (lf G.wl) G.wl.length (ua G.ct 64) false) gw (0 + q) (ua G.ct 64)) = hF (z : Int) (tk H s (k + q)).ws gw (tk H s (k + q)).wl.length (tk H s (k + q)).ct := by rw [hrun]; simp
  have E2 : ([] ++ sb (rem.extract 0 q)) = (tk H s (k + q)).wl := by rw [hrun, hbs]
  rw [E] at M
  rw [E2] at hY2
  exact ⟨n - q, by omega, fun k_ => ([.int .i64 (q : Int), .string rem, .int .i64 (rem.size : Int), .bool true, .pointer (some ⟨g, 0, none⟩), .pointer (some ⟨g, 0, none⟩), .pointer (some ⟨g, 9, none⟩), .slice (some ⟨gw, 0, none⟩) G.wl.length 64, .int .i64 ((G.wl.length : Nat) : Int), .bool true, .pointer (some ⟨g, 0, none⟩), .pointer (some ⟨g, 0, none⟩), .pointer (some ⟨g, 10, none⟩), .int .u64 G.ct, .int .u64 (ua G.ct 64), .pointer (some ⟨g, 0, none⟩), .pointer (some ⟨g, 10, none⟩), .pointer (some ⟨g, 0, none⟩), .pointer (some ⟨g, 0, none⟩), .pointer (some ⟨g, 0, none⟩), .pointer (some ⟨g, 1, none⟩), .agg (av 8 (w32 G.ws)), .pointer (some ⟨g, 0, none⟩), .pointer (some ⟨g, 0, none⟩), .pointer (some ⟨g, 9, none⟩), .slice (some ⟨gw, 0, none⟩) G.wl.length 64, .pointer (some ⟨g, 0, none⟩), .pointer (some ⟨g, 0, none⟩), .pointer (some ⟨g, 10, none⟩), .int .u64 (ua G.ct 64), .agg (av 8 (w32 (mixV G.ws (lf G.wl) G.wl.length (ua G.ct 64) false))), .pointer (some ⟨g, 0, none⟩), .pointer (some ⟨g, 1, none⟩), .pointer (some ⟨g, 0, none⟩), .pointer (some ⟨g, 0, none⟩), .pointer (some ⟨g, 0, none⟩), .pointer (some ⟨g, 9, none⟩), .slice (some ⟨gw, 0, none⟩) G.wl.length 64, .slice (some ⟨gw, 0, none⟩) 0 64, .pointer (some ⟨g, 0, none⟩), .pointer (some ⟨g, 9, none⟩), .string rem, .int .i64 (rem.size : Int), .pointer (some ⟨g, 0, none⟩), .pointer (some ⟨g, 0, none⟩), .pointer (some ⟨g, 9, none⟩), .slice (some ⟨gw, 0, none⟩) 0 64, .int .i64 (0 : Int), .int .i64 ((64 - p : Nat) : Int), .int .i64 (q : Int), .pointer (some ⟨g, 0, none⟩), .pointer (some ⟨g, 0, none⟩), .pointer (some ⟨g, 0, none⟩), .pointer (some ⟨g, 9, none⟩), .slice (some ⟨gw, 0, none⟩) 0 64, .string rem, .int .i64 (q : Int), .string (rem.extract 0 q), .slice (some ⟨gw, 0, none⟩) (0 + q) 64, .pointer (some ⟨g, 0, none⟩), .pointer (some ⟨g, 9, none⟩), .string rem, .int .i64 (q : Int), .string (s.extract (k + q) s.size)] : List Value).getD (k_ - 4) undef, k + q, s.extract (k + q) s.size, Y2, by omega, rfl, by kernel_rfl, hY2, M⟩
 ·have hfl : fl G = G := fl_id (by have := hok.le; omega)
  obtain ⟨p, hp⟩ : ∃ p, p = G.wl.length := ⟨_, rfl⟩
  have hlt := hok.le
  have hp1 : p < 64 := by omega
  obtain ⟨q, hq⟩ : ∃ q, q = Nat.min rem.size (64 - p) := ⟨_, rfl⟩
  have hq1 : q ≤ n := by rw [hq, hsz]; exact Nat.min_le_left _ _
  have hq2 : q ≤ 64 - p := by rw [hq]; exact Nat.min_le_right _ _
  have hq3 : 0 < q := by rw [hq, hsz]; exact Nat.lt_min.2 ⟨hn, by omega⟩
  have hmin : (if ((64 - p : Nat) : Int) < (rem.size : Int) then ((64 - p : Nat) : Int) else (rem.size : Int)) = (q : Int) := by
   have hq4 : q = if 64 - p < rem.size then 64 - p else rem.size := by rw [hq]; simp only [Nat.min_def]; split <;> split <;> omega
   rw [hq4]; split <;> split <;> omega
  have hes : (rem.extract 0 q).size = q := by rw [ByteArray.size_extract]; omega
  have hsrc : ∀ w, Src Tryz.prog 1 9 (.string (rem.extract 0 q)) q (byteCells (rem.extract 0 q)) w := fun w => by have h := Src.ofString (P := Tryz.prog) w (tx := 9) Tryz.underlying9 (rem.extract 0 q); rw [hes] at h; exact h
  have hrun := tk_run H s k q hq3 (by rw [← hG, hfl]; show G.wl.length + q ≤ 64; omega)
  rw [← hG, hfl] at hrun
  have hbs : sb (rem.extract 0 q) = (List.range q).map (fun i => bt s (k + i)) := by rw [sb_ext _ _ _ (by omega), Nat.sub_zero]; refine List.map_congr_left fun i _ => ?_; rw [Nat.zero_add, hrem, bt_extract]
  refine wp_seq <| sR <| rV 2 <| ZT 7 ((0 : Int) < (rem.size : Int)) <| nT <| cT <| wp_skip <| au_then <| wp_block <| wp_seq <| sR <| rV 3 <| ZE M 11 0 9 <| rV 1 <| ZF 13 ((G.wl.length : Int) = 64) <| nT ?_
  refine cF <| wp_skip <| au_then <| sR <| rV 5 <| ZE M 50 0 9 <| rV 1 <| ZI 52 (64 - (G.wl.length : Int)) ((64 - p : Nat) : Int) <| zJ 53 (.int .i64 (q : Int)) (.int .i64 (if ((64 - p : Nat) : Int) < (rem.size : Int) then ((64 - p : Nat) : Int) else (rem.size : Int))) (by rw [hmin]) <| rV 1 <| nT <| wp_seq <| rgh M [] 11 fun u8 M => ?_
  have qM := M.drop (.cons _ (.cons _ (.slnil)))
  refine qV qM 0 54 (.pointer (some ⟨g, 0, none⟩)) <| qV qM 1 55 (.pointer (some ⟨g, 0, none⟩)) <| qV qM 2 56 (.pointer (some ⟨g, 0, none⟩)) <| qV qM 3 57 (.pointer (some ⟨g, 9, none⟩)) <| qV qM 5 59 (.string rem) <| qV qM 6 60 (.int .i64 (q : Int)) <| qH qM 7 61 (.string (rem.extract 0 q)) (fun w _ => (run_strh 9 Tryz.underlying9 _ _ rfl rem (by kernel_rfl) .i64 q (by kernel_rfl) (by omega) _ rfl) w) <| qO 4 ?_
  refine ZE M 58 0 9 <| nT ?_
  refine ⟨(M.drop (.cons _ (.cons _ (.slnil)))), ?_⟩
  refine qO 8 ?_
  refine pl_appX M (want_no rfl) (some 62) rfl 44 9 44 5 _ Tryz.underlying44 info5_eq (by kernel_rfl) 1 gw G.wl.length 64 Y (vs8 G.wl) rfl hY (vs8_length _) (.string (rem.extract 0 q)) q (byteCells (rem.extract 0 q)) (fun w _ => hsrc w) (by rw [byteCells_length]; exact hes) (by omega) (fun _ => by kernel_rfl) ?_
  intro Y2 u9 hY2 M
  rw [byte_vs8, vs8_append] at hY2
  refine nT ?_
  refine ⟨(M.drop (.cons _ (.cons _ (.slnil)))), ?_⟩
  have qM := M.drop (.cons _ (.cons _ (.slnil)))
  refine qV qM 9 63 (.pointer (some ⟨g, 0, none⟩)) <| qV qM 10 64 (.pointer (some ⟨g, 9, none⟩)) <| qZ ?_
  refine pP M 0 rfl 9 (.slice (some ⟨gw, 0, none⟩) (G.wl.length + q) 64) (hF (z : Int) G.ws gw (G.wl.length + q) G.ct) (by decide) (hF_puts (z : Int) G.ws gw G.wl.length G.ct (G.wl.length + q)) fun u10 M => nT <| au_then <| rg_lit <| rV 2 ?_
  refine pH 67 (.string (s.extract (k + q) s.size)) (run_strl 9 Tryz.underlying9 _ _ rfl rem (by kernel_rfl) .i64 q (by kernel_rfl) (by omega) _ (by rw [hrem]; exact extract_extract s k q (by omega))) ?_
  refine rV 1 <| pl_nil <| au_block <| au_then ?_
  have E : (hF (z : Int) G.ws gw (G.wl.length + q) G.ct) = hF (z : Int) (tk H s (k + q)).ws gw (tk H s (k + q)).wl.length (tk H s (k + q)).ct := by rw [hrun]; simp
  have E2 : (G.wl ++ sb (rem.extract 0 q)) = (tk H s (k + q)).wl := by rw [hrun, hbs]
  rw [E] at M
  rw [E2] at hY2
  exact ⟨n - q, by omega, fun k_ => ([.int .i64 (q : Int), .string rem, .int .i64 (rem.size : Int), .bool true, .pointer (some ⟨g, 0, none⟩), .pointer (some ⟨g, 0, none⟩), .pointer (some ⟨g, 9, none⟩), .slice (some ⟨gw, 0, none⟩) G.wl.length 64, .int .i64 ((G.wl.length : Nat) : Int), .bool false, v 14, v 15, v 16, v 17, v 18, v 19, v 20, v 21, v 22, v 23, v 24, v 25, v 26, v 27, v 28, v 29, v 30, v 31, v 32, v 33, v 34, v 35, v 36, v 37, v 38, v 39, v 40, v 41, v 42, v 43, v 44, .string rem, .int .i64 (rem.size : Int), .pointer (some ⟨g, 0, none⟩), .pointer (some ⟨g, 0, none⟩), .pointer (some ⟨g, 9, none⟩), .slice (some ⟨gw, 0, none⟩) G.wl.length 64, .int .i64 ((G.wl.length : Nat) : Int), .int .i64 ((64 - p : Nat) : Int), .int .i64 (q : Int), .pointer (some ⟨g, 0, none⟩), .pointer (some ⟨g, 0, none⟩), .pointer (some ⟨g, 0, none⟩), .pointer (some ⟨g, 9, none⟩), .slice (some ⟨gw, 0, none⟩) G.wl.length 64, .string rem, .int .i64 (q : Int), .string (rem.extract 0 q), .slice (some ⟨gw, 0, none⟩) (G.wl.length + q) 64, .pointer (some ⟨g, 0, none⟩), .pointer (some ⟨g, 9, none⟩), .string rem, .int .i64 (q : Int), .string (s.extract (k + q) s.size)] : List Value).getD (k_ - 4) undef, k + q, s.extract (k + q) s.size, Y2, by omega, rfl, by kernel_rfl, hY2, M⟩
open Go.Shelf Go.RowKit
def repRen : Go.Shelf.Ren := ⟨fun | 105 => 143 | 212 => 165 | 99 => 166 | 165 => 126 | 166 => 140 | 170 => 141 | 169 => 129 | 263 => 177 | 264 => 171 | 206 => 178 | 240 => 157 | 241 => 158 | 276 => 174 | 277 => 175 | n => n, fun | 9 => 9 | 3 => 3 | 4 => 4 | 20 => 20 | 0 => 0 | 46 => 106 | 109 => 229 | 5 => 5 | 72 => 182 | 76 => 200 | 51 => 84 | 146 => 244 | 53 => 33 | 148 => 237 | 70 => 180 | 37 => 44 | 75 => 188 | 127 => 218 | 164 => 240 | 80 => 113 | n => n, fun | n => n⟩
theorem repLays : Go.Proofs.Lays.n105 Tryz.prog repRen := {
 mixed := by kernel_rfl
 f99 := Tryz.func166.trans (congrArg some (by kernel_rfl))
 f105 := Tryz.func143.trans (congrArg some (by kernel_rfl))
 f165 := Tryz.func126.trans (congrArg some (by kernel_rfl))
 f166 := Tryz.func140.trans (congrArg some (by kernel_rfl))
 f169 := Tryz.func129.trans (congrArg some (by kernel_rfl))
 f170 := Tryz.func141.trans (congrArg some (by kernel_rfl))
 f206 := Tryz.func178.trans (congrArg some (by kernel_rfl))
 f212 := Tryz.func165.trans (congrArg some (by kernel_rfl))
 f240 := Tryz.func157.trans (congrArg some (by kernel_rfl))
 f241 := Tryz.func158.trans (congrArg some (by kernel_rfl))
 f263 := Tryz.func177.trans (congrArg some (by kernel_rfl))
 f264 := Tryz.func171.trans (congrArg some (by kernel_rfl))
 f276 := Tryz.func174.trans (congrArg some (by kernel_rfl))
 f277 := Tryz.func175.trans (congrArg some (by kernel_rfl))
 t0 := Tryz.underlying0
 a0 := Tryz.isAgg0
 z0 := Tryz.sizeOf0
 v0 := Tryz.zeroValue0
 t3 := Tryz.underlying3
 a3 := Tryz.isAgg3
 z3 := Tryz.sizeOf3
 v3 := Tryz.zeroValue3
 t4 := Tryz.underlying4
 a4 := Tryz.isAgg4
 z4 := Tryz.sizeOf4
 v4 := Tryz.zeroValue4
 t5 := Tryz.underlying5
 a5 := Tryz.isAgg5
 z5 := Tryz.sizeOf5
 v5 := Tryz.zeroValue5
 t9 := Tryz.underlying9
 a9 := Tryz.isAgg9
 z9 := Tryz.sizeOf9
 v9 := Tryz.zeroValue9
 t20 := Tryz.underlying20
 a20 := Tryz.isAgg20
 z20 := Tryz.sizeOf20
 v20 := Tryz.zeroValue20
 t37 := Tryz.underlying44
 a37 := Tryz.isAgg44
 z37 := Tryz.sizeOf44
 v37 := Tryz.zeroValue44
 t46 := Tryz.underlying106
 a46 := Tryz.isAgg106
 z46 := Tryz.sizeOf106
 v46 := Tryz.zeroValue106
 t51 := Tryz.underlying84
 a51 := Tryz.isAgg84
 z51 := Tryz.sizeOf84
 v51 := Tryz.zeroValue84
 t53 := Tryz.underlying33
 a53 := Tryz.isAgg33
 z53 := Tryz.sizeOf33
 v53 := Tryz.zeroValue33
 t70 := Tryz.underlying180
 a70 := Tryz.isAgg180
 z70 := Tryz.sizeOf180
 v70 := Tryz.zeroValue180
 t72 := Tryz.underlying182
 a72 := Tryz.isAgg182
 z72 := Tryz.sizeOf182
 v72 := Tryz.zeroValue182
 t75 := Tryz.underlying188
 a75 := Tryz.isAgg188
 z75 := Tryz.sizeOf188
 v75 := Tryz.zeroValue188
 t76 := Tryz.underlying200
 a76 := Tryz.isAgg200
 z76 := Tryz.sizeOf200
 v76 := Tryz.zeroValue200
 t109 := Tryz.underlying229
 a109 := Tryz.isAgg229
 z109 := Tryz.sizeOf229
 v109 := Tryz.zeroValue229
 t127 := Tryz.underlying218
 a127 := Tryz.isAgg218
 z127 := Tryz.sizeOf218
 v127 := Tryz.zeroValue218
 t146 := Tryz.underlying244
 a146 := Tryz.isAgg244
 z146 := Tryz.sizeOf244
 v146 := Tryz.zeroValue244
 t148 := Tryz.underlying237
 a148 := Tryz.isAgg237
 z148 := Tryz.sizeOf237
 v148 := Tryz.zeroValue237
 t164 := Tryz.underlying240
 a164 := Tryz.isAgg240
 z164 := Tryz.sizeOf240
 v164 := Tryz.zeroValue240 }
theorem repExtra : Builder.Extra Tryz.prog repRen := {
 sizeBuilder := by kernel_rfl
 liesBuilder := by kernel_rfl
 t5 := Tryz.underlying5
 a5 := Tryz.isAgg5
 z5 := Tryz.sizeOf5
 v5 := Tryz.zeroValue5
 infoByte := by kernel_rfl
 cellsByte := by kernel_rfl
 sizeByte := by kernel_rfl
 neB5 := by decide }
def zs (c : Nat) : ByteArray := ⟨(List.replicate c (0 : UInt8)).toArray⟩
theorem repeatL_one (c : Nat) : Lib.repeatL [0] c = List.replicate c 0 := by
 induction c with
 | zero => rfl
 | succ c ih => rw [Lib.repeatL, ih]; rfl
theorem c_rep (c : Nat) (w : World) (hc : c < 1000) : Cs 143 #[.string ⟨#[0]⟩, .int .i64 (c : Int)] w (.string (zs c)) := by
 have h := Any.strings_Repeat repLays repExtra ⟨#[0]⟩ c w (by omega) (by show 1 * c ≤ _; omega)
 have e : (⟨(Lib.repeatL (⟨#[0]⟩ : Yb).data.toList c).toArray⟩ : Yb) = zs c := by
  unfold zs
  rw [show (⟨#[0]⟩ : Yb).data.toList = [0] from rfl, repeatL_one]
 rw [e] at h
 exact h
open Go.RowKit
theorem pl_calln2 {P : Program} {ops : Array Oper} {rest : List Oper} {o : Oper} {a : Act} {w : World} {c : Ctx} {L : List Blk} {Q : Exit → Act → World → Prop} (M : Mem c L w) (hw : Region.wanted o (yielded ops a.tmps) = true) (d : Option Tmp) (hd : o.dst = d) (f : FuncId) (args : Array Value) (v : NV) (Zf : Nat → Obj) (R : Obj → Prop) (hrun : ∀ w, (execOp a.eval o).run P w = .ok (.enter f args) w)
  (hc : ∀ w, Mem c L w → Calls P f args w fun e w' => ∃ g k Y, e = .returned (v g) ∧ w.heap.size ≤ g ∧ w.heap.size ≤ k ∧ g ≠ k ∧ w'.heap[g]? = some (Zf k) ∧ w'.heap[k]? = some Y ∧ R Y ∧ Below w.heap.size w w') (h : ∀ g k Y w', R Y → Mem c (L ++ [⟨g, Zf k⟩, ⟨k, Y⟩]) w' → PL P ops Q rest (a.put d (v g)) w') : PL P ops Q (o :: rest) a w :=
 pl_callq hw d hd f args hrun ((hc w M).mono fun _ w' ⟨g, k, Y, he, h1, h2, h3, h4, h5, h6, hb⟩ => ⟨v g, he, h g k Y w' h6 (M.news hb (by simpa using ⟨h4, h5⟩) (by simpa using ⟨h1, h2⟩) (by simpa using h3))⟩)
theorem run_cat {P : Program} {a : Act} {o : Oper} (t rt : TypeId) (x y : Operand) (ho : o.op = .binOp .add t x y rt) (s u : Yb) (hx : a.eval x = .string s) (hy : a.eval y = .string u) (hb : s.size + u.size ≤ 9223372036854775807) (w : World) :
  (execOp a.eval o).run P w = .ok (.value (.string (s ++ u))) w := by
 have h := run_string_add_sum (P := P) (w := w) s u hb
 unfold execOp
 simp [ho, hx, hy, eqGuard, binOp, h]
theorem zs_size (c : Nat) : (zs c).size = c := by simp [zs, ByteArray.size]
theorem sb_new : SB (.cells (av 64 (w8 fun _ => 0)) 5) 64 (vs8 []) := ⟨_, 5, (0, 0), rfl, by simp [vs8], by rw [av_size]; exact Nat.le_refl _, fun i hi => by simp [vs8] at hi, fun i _ => by simp⟩
theorem key_ne (k : Yb) (h : k.size ≠ 0) : (k.toList == (⟨#[]⟩ : Yb).toList) = false := by
 have hs : k.size = k.data.size := rfl
 rw [ByteArray.toList_eq, ByteArray.toList_eq, beq_eq_false_iff_ne]
 intro e
 have := congrArg List.length e
 simp at this
 exact h (by rw [hs, this]; rfl)
theorem key_e (k : Yb) (h : k.size = 0) : k = ⟨#[]⟩ := by
 have hs : k.size = k.data.size := rfl
 apply ByteArray.ext
 exact Array.eq_empty_of_size_eq_zero (by omega)
theorem below_same {w w' : World} {g k : Nat} {Z Y : Obj} (h : Grw w w' [g, k]) (h1 : w.heap[g]? = some Z) (h2 : w'.heap[g]? = some Z) (h3 : w.heap[k]? = some Y) (h4 : w'.heap[k]? = some Y) : Below w.heap.size w w' := ⟨h.os, h.tape, h.output, h.size, fun j hj => by
 by_cases e : j = g
 ·subst e
  rw [h1, h2]
 ·by_cases e2 : j = k
  ·subst e2
   rw [h3, h4]
  ·exact h.block j hj (by simp [e, e2])⟩
def hs0 (z kl : Nat) : HS := ⟨upd HB 0 (vx (HB 0) (vx (vx 16842752 (vl (cv .u32 (kl : Int)) 8)) (cv .u32 (z : Int)))), [], 0⟩
def nw (z : Nat) (key : Yb) : HS := if key.size = 0 then hs0 z key.size else tk (hs0 z key.size) (key ++ zs (64 - key.size)) (key ++ zs (64 - key.size)).size
theorem hs0_ok (z kl : Nat) : (hs0 z kl).ok := ⟨by simp [hs0], by simp [hs0]⟩
theorem nw_ok (z : Nat) (key : Yb) : (nw z key).ok := by
 unfold nw
 split
 ·exact hs0_ok _ _
 ·exact tk_ok (hs0_ok _ _) _ _
def sumW (H : HS) : Nat → Int := mixV H.ws (lf H.wl) H.wl.length (ua H.ct (cv .u64 (H.wl.length : Int))) true
def sumV (z : Nat) (H : HS) : ByteArray := (bs (loI (sumW H) 8)).extract 0 z
def blV (z : Nat) (key s : Yb) : ByteArray := sumV z (tk (nw z key) s s.size)
theorem c_new0 (z : Nat) (key : Yb) (h1 : 1 ≤ z) (h2 : z ≤ 32) (_h3 : key.size ≤ 32) (hz : key.size = 0) (w : World) (hL : Laid w) : Calls Tryz.prog 111 #[.int .i64 (z : Int), .string key] w fun r w' => ∃ g gw Y, r = .returned (.tuple #[.pointer (some ⟨g, 0, none⟩), .int .i64 0]) ∧ w.heap.size ≤ g ∧ w.heap.size ≤ gw ∧ g ≠ gw ∧ w'.heap[g]? = some (.cells (av 11 (hF (z : Int) (nw z key).ws gw (nw z key).wl.length (nw z key).ct)) 206) ∧ w'.heap[gw]? = some Y ∧ SB Y 64 (vs8 (nw z key).wl) ∧ Below w.heap.size w w' := by
 go_enter Tryz.func111, Tryz.ntmps111
 have M := Mem.start hL
 refine sq <| wp_seq <| sR <| rV 1 <| ZF 8 ((z : Int) < 1) <| rV 2 <| ZF 11 ((32 : Int) < (z : Int)) <| rV 4 <| ZF 16 ((32 : Int) < (key.size : Int)) <| rV 1 <| nT <| cF <| wp_skip <| au_then <| wp_seq <| rg_allocs M 2 [(20, fun g => .slice (some ⟨g, 0, none⟩) 0 64, .cells (av 64 (w8 fun _ => 0)) 5)] (by kernel_rfl) (by kernel_rfl) (⟨rfl, rfl, fun _ _ => by kernel_rfl, trivial⟩) (by decide) ?_
 simp only [List.take_succ_cons, List.take_zero]
 refine kR 1 <| eC M 19 (fun w M => c_first w M.laid) <| kl_nil fun u1 g1 M => rV 1 <| pN M 22 (.cells (av 11 (hF (z : Int) HB g1 0 0)) 206) fun g2 u2 M => rV 1 <| nT <| wp_seq <| rg_tail M 17 (by kernel_rfl) (by kernel_rfl) ?_
 simp only [List.take_succ_cons, List.take_zero]
 refine kR 4 <| eE M 27 1 1 <| kR 12 <| kl_nil fun u3 M => pP M 1 rfl 1 (.int .u32 (vx (HB 0) (vx (vx 16842752 (vl (cv .u32 (key.size : Int)) 8)) (cv .u32 (z : Int))))) (hF (z : Int) (upd HB 0 (vx (HB 0) (vx (vx 16842752 (vl (cv .u32 (key.size : Int)) 8)) (cv .u32 (z : Int))))) g1 0 0) (by decide) (hF_put1 (z : Int) HB g1 0 0 (vx (HB 0) (vx (vx 16842752 (vl (cv .u32 (key.size : Int)) 8)) (cv .u32 (z : Int))))) fun u4 M => nT <| wp_seq <| sR <| rV 1 <| zJ 41 (.bool false) (.bool (!(key.toList == (⟨#[]⟩ : Yb).toList))) (by rw [key_e key hz, beq_self_eq_true]; rfl) <| nT <| cF <| wp_skip <| au_then <| sq <| wp_ret ?_
 have e : nw z key = hs0 z key.size := by unfold nw; rw [if_pos hz]
 rw [e]
 exact bX (.tuple #[.pointer (some ⟨g2, 0, none⟩), .int .i64 0]) ⟨g2, g1, (.cells (av 64 (w8 fun _ => 0)) 5), rfl, (M.ge _ (List.mem_of_getElem? (i := 1) rfl)).elim id (fun h => by cases h), (M.ge _ (List.mem_of_getElem? (i := 0) rfl)).elim id (fun h => by cases h), nodup_at M.nodup (i := 1) (j := 0) rfl rfl (by decide), M.get 1 rfl, M.get 0 rfl, sb_new, below_grown M.old⟩
theorem c_new1 (z : Nat) (key : Yb) (h1 : 1 ≤ z) (h2 : z ≤ 32) (h3 : key.size ≤ 32) (hz : ¬ key.size = 0) (w : World) (hL : Laid w) : Calls Tryz.prog 111 #[.int .i64 (z : Int), .string key] w fun r w' => ∃ g gw Y, r = .returned (.tuple #[.pointer (some ⟨g, 0, none⟩), .int .i64 0]) ∧ w.heap.size ≤ g ∧ w.heap.size ≤ gw ∧ g ≠ gw ∧ w'.heap[g]? = some (.cells (av 11 (hF (z : Int) (nw z key).ws gw (nw z key).wl.length (nw z key).ct)) 206) ∧ w'.heap[gw]? = some Y ∧ SB Y 64 (vs8 (nw z key).wl) ∧ Below w.heap.size w w' := by
 go_enter Tryz.func111, Tryz.ntmps111
 have M := Mem.start hL
 refine sq <| wp_seq <| sR <| rV 1 <| ZF 8 ((z : Int) < 1) <| rV 2 <| ZF 11 ((32 : Int) < (z : Int)) <| rV 4 <| ZF 16 ((32 : Int) < (key.size : Int)) <| rV 1 <| nT <| cF <| wp_skip <| au_then <| wp_seq <| rg_allocs M 2 [(20, fun g => .slice (some ⟨g, 0, none⟩) 0 64, .cells (av 64 (w8 fun _ => 0)) 5)] (by kernel_rfl) (by kernel_rfl) (⟨rfl, rfl, fun _ _ => by kernel_rfl, trivial⟩) (by decide) ?_
 simp only [List.take_succ_cons, List.take_zero]
 refine kR 1 <| eC M 19 (fun w M => c_first w M.laid) <| kl_nil fun u1 g1 M => rV 1 <| pN M 22 (.cells (av 11 (hF (z : Int) HB g1 0 0)) 206) fun g2 u2 M => rV 1 <| nT <| wp_seq <| rg_tail M 17 (by kernel_rfl) (by kernel_rfl) ?_
 simp only [List.take_succ_cons, List.take_zero]
 refine kR 4 <| eE M 27 1 1 <| kR 12 <| kl_nil fun u3 M => pP M 1 rfl 1 (.int .u32 (vx (HB 0) (vx (vx 16842752 (vl (cv .u32 (key.size : Int)) 8)) (cv .u32 (z : Int))))) (hF (z : Int) (upd HB 0 (vx (HB 0) (vx (vx 16842752 (vl (cv .u32 (key.size : Int)) 8)) (cv .u32 (z : Int))))) g1 0 0) (by decide) (hF_put1 (z : Int) HB g1 0 0 (vx (HB 0) (vx (vx 16842752 (vl (cv .u32 (key.size : Int)) 8)) (cv .u32 (z : Int))))) fun u4 M => nT <| wp_seq <| sR <| rV 1 <| zJ 41 (.bool true) (.bool (!(key.toList == (⟨#[]⟩ : Yb).toList))) (by rw [key_ne key hz]; rfl) <| nT <| cT <| rg_lit <| rV 4 <| ZI 46 (64 - (key.size : Int)) ((64 - key.size : Nat) : Int) <| ZC M 47 (fun w M => c_rep (64 - key.size) w (by omega)) fun u5 M => ?_
 refine pH 48 (.string (key ++ zs (64 - key.size))) (run_cat 9 9 _ _ rfl key (zs (64 - key.size)) (by kernel_rfl) (by kernel_rfl) (by rw [zs_size]; omega)) <| pl_callp2 M (want_no rfl) (some 49) rfl 112 #[.pointer (some ⟨g2, 0, none⟩), .string (key ++ zs (64 - key.size))] (.tuple #[]) 1 0 g2 g1 (.cells (av 11 (hF (z : Int) (upd HB 0 (vx (HB 0) (vx (vx 16842752 (vl (cv .u32 (key.size : Int)) 8)) (cv .u32 (z : Int))))) g1 0 0)) 206) (.cells (av 64 (w8 fun _ => 0)) 5) (.cells (av 11 (hF (z : Int) (tk (hs0 z key.size) (key ++ zs (64 - key.size)) (key ++ zs (64 - key.size)).size).ws g1 (tk (hs0 z key.size) (key ++ zs (64 - key.size)) (key ++ zs (64 - key.size)).size).wl.length (tk (hs0 z key.size) (key ++ zs (64 - key.size)) (key ++ zs (64 - key.size)).size).ct)) 206) (fun Y => SB Y 64 (vs8 (tk (hs0 z key.size) (key ++ zs (64 - key.size)) (key ++ zs (64 - key.size)).size).wl)) rfl rfl (fun _ => by kernel_rfl) (fun w M => c_take (hs0 z key.size) (hs0_ok _ _) z g2 g1 (.cells (av 64 (w8 fun _ => 0)) 5) (key ++ zs (64 - key.size)) w M.laid (M.get 1 rfl) (M.ne0 1 rfl) (M.get 0 rfl) (M.ne0 0 rfl) (nodup_at M.nodup (i := 1) (j := 0) rfl rfl (by decide)) sb_new) ?_
 intro Y1 u6 hY1 M
 refine nT <| sq <| wp_ret ?_
 have e : nw z key = tk (hs0 z key.size) (key ++ zs (64 - key.size)) (key ++ zs (64 - key.size)).size := by unfold nw; rw [if_neg hz]
 rw [e]
 exact bX (.tuple #[.pointer (some ⟨g2, 0, none⟩), .int .i64 0]) ⟨g2, g1, Y1, rfl, (M.ge _ (List.mem_of_getElem? (i := 1) rfl)).elim id (fun h => by cases h), (M.ge _ (List.mem_of_getElem? (i := 0) rfl)).elim id (fun h => by cases h), nodup_at M.nodup (i := 1) (j := 0) rfl rfl (by decide), M.get 1 rfl, M.get 0 rfl, hY1, below_grown M.old⟩
theorem c_new (z : Nat) (key : Yb) (h1 : 1 ≤ z) (h2 : z ≤ 32) (h3 : key.size ≤ 32) (w : World) (hL : Laid w) : Calls Tryz.prog 111 #[.int .i64 (z : Int), .string key] w fun r w' => ∃ g gw Y, r = .returned (.tuple #[.pointer (some ⟨g, 0, none⟩), .int .i64 0]) ∧ w.heap.size ≤ g ∧ w.heap.size ≤ gw ∧ g ≠ gw ∧ w'.heap[g]? = some (.cells (av 11 (hF (z : Int) (nw z key).ws gw (nw z key).wl.length (nw z key).ct)) 206) ∧ w'.heap[gw]? = some Y ∧ SB Y 64 (vs8 (nw z key).wl) ∧ Below w.heap.size w w' := by
 by_cases hz : key.size = 0
 ·exact c_new0 z key h1 h2 h3 hz w hL
 ·exact c_new1 z key h1 h2 h3 hz w hL
theorem c_sum (H : HS) (hH : H.ok) (z : Nat) (h1 : 1 ≤ z) (h2 : z ≤ 32) (g gw : Nat) (Z : Obj) (w : World) (hL : Laid w) (hg : w.heap[g]? = some (.cells (av 11 (hF (z : Int) H.ws gw H.wl.length H.ct)) 206)) (h0 : 2 < g) (hk : w.heap[gw]? = some Z) (k0 : 2 < gw) (hne : g ≠ gw) (hZ : SB Z 64 (vs8 H.wl)) : Cs 113 #[.pointer (some ⟨g, 0, none⟩)] w (.string (sumV z H)) := by
 go_enter Tryz.func113, Tryz.ntmps113
 have M := Mem.startp2 hL hg h0 hk k0 hne
 refine sq <| wp_seq <| sR <| rV 6 <| ZE M 10 0 0 <| ZF 11 ((z : Int) = 0) <| rV 1 <| nT <| cF <| wp_skip <| au_then <| wp_seq <| rg_allocs M 20 [(3, fun g => .pointer (some ⟨g, 0, none⟩), .cells (av 8 (w32 (fun _ => 0))) 203)] (by kernel_rfl) (by kernel_rfl) (⟨rfl, rfl, fun _ _ => by kernel_rfl, trivial⟩) (by decide) ?_
 simp only [List.take_succ_cons, List.take_zero]
 refine kR 3 <| kL M 16 0 rfl 1 8 (w32 H.ws) (hF_words (z : Int) H.ws gw H.wl.length H.ct) <| kR 3 <| eE M 20 0 9 <| kR 3 <| eE M 24 0 10 <| kR 3 <| eE M 28 0 9 <| kR 3 <| eC M 32 (fun w M => c_mixed H.ws (lf H.wl) gw H.wl.length 64 hH.le (ua H.ct (cv .u64 (H.wl.length : Int))) true w M.laid (fun i hi => hZ.cell (M.get 1 rfl) (vs8_cell H.wl i hi))) <| kl_nil fun u1 g1 M => ZG M 2 8 (w32 (sumW H)) fun u2 M => nT <| wp_seq <| rg_tail M 7 (by kernel_rfl) (by kernel_rfl) ?_
 simp only [List.take_succ_cons, List.take_zero]
 refine kA M 33 2 8 (w32 (sumW H)) <| eC M 34 (fun w M => c_low (sumW H) w M.laid) <| kR 3 <| eE M 38 0 0 <| kH 39 (.string (sumV z H)) (run_strh 9 Tryz.underlying9 _ _ rfl (bs (loI (sumW H) 8)) (by kernel_rfl) .i64 z (by kernel_rfl) (by rw [bs_size, loI_length]; omega) _ rfl) <| kl_nil fun u3 M => rV 1 <| nT <| wp_ret ?_
 exact bX (.string (sumV z H)) ⟨rfl, below_same M.old hg (M.get 0 rfl) hk (M.get 1 rfl)⟩
theorem c_blsum (z : Nat) (key s : Yb) (h1 : 1 ≤ z) (h2 : z ≤ 32) (h3 : key.size ≤ 32) (w : World) (hL : Laid w)  : Cs 90 #[.int .i64 (z : Int), .string key, .string s] w (.tuple #[.string (blV z key s), .int .i64 0]) := by
 go_enter Tryz.func90, Tryz.ntmps90
 have M := Mem.start hL
 refine sq <| sR <| rV 2 <| pl_calln2 M (want_no rfl) (some 13) rfl 111 #[.int .i64 (z : Int), .string key] (fun g1 => .tuple #[.pointer (some ⟨g1, 0, none⟩), .int .i64 0]) (fun g2 => .cells (av 11 (hF (z : Int) (nw z key).ws g2 (nw z key).wl.length (nw z key).ct)) 206) (fun Y => SB Y 64 (vs8 (nw z key).wl)) (fun _ => by kernel_rfl) (fun w M => c_new z key h1 h2 h3 w M.laid) ?_
 intro g1 g2 Y1 u1 hY1 M
 refine rV 5 <| nT <| wp_seq <| sq <| cF <| wp_skip <| au_then <| sR <| rV 2 <| pl_callp2 M (want_no rfl) (some 21) rfl 112 #[.pointer (some ⟨g1, 0, none⟩), .string s] (.tuple #[]) 0 1 g1 g2 (.cells (av 11 (hF (z : Int) (nw z key).ws g2 (nw z key).wl.length (nw z key).ct)) 206) Y1 (.cells (av 11 (hF (z : Int) (tk (nw z key) s s.size).ws g2 (tk (nw z key) s s.size).wl.length (tk (nw z key) s s.size).ct)) 206) (fun Y => SB Y 64 (vs8 (tk (nw z key) s s.size).wl)) rfl rfl (fun _ => by kernel_rfl) (fun w M => c_take (nw z key) (nw_ok _ _) z g1 g2 Y1 s w M.laid (M.get 0 rfl) (M.ne0 0 rfl) (M.get 1 rfl) (M.ne0 1 rfl) (nodup_at M.nodup (i := 0) (j := 1) rfl rfl (by decide)) hY1) ?_
 intro Y2 u2 hY2 M
 refine nT <| sR <| rV 1 <| pC M 23 113 #[.pointer (some ⟨g1, 0, none⟩)] (.string (blV z key s)) (fun w M => c_sum (tk (nw z key) s s.size) (tk_ok (nw_ok _ _) _ _) z h1 h2 g1 g2 Y2 w M.laid (M.get 0 rfl) (M.ne0 0 rfl) (M.get 1 rfl) (M.ne0 1 rfl) (nodup_at M.nodup (i := 0) (j := 1) rfl rfl (by decide)) hY2) fun u3 M => rV 2 <| nT <| wp_ret ?_
 exact b1 M
def strE : ByteArray := ⟨#[]⟩
theorem c_of (s : Yb) (w : World) (hL : Laid w)  : Cs 62 #[.string s] w (.string (blV 32 strE s)) := by
 go_enter Tryz.func62, Tryz.ntmps62
 have M := Mem.start hL
 refine sq <| sR <| rV 1 <| ZC M 7 (fun w M => c_blsum 32 strE s (by decide) (by decide) (by decide) w M.laid) fun u1 M => rV 5 <| nT <| sq <| wp_ret ?_
 exact b1 M
open Go.RowKit
theorem run_strlh {P : Program} {a : Act} {o : Oper} (t : TypeId) (hu : P.underlying t = some .string) (x lo hi : Operand) (ho : o.op = .slice t x (some lo) (some hi) none) (s : Yb) (hx : a.eval x = .string s) (k k' : IntKind) (i j : Nat) (hl : a.eval lo = .int k (i : Int)) (hh : a.eval hi = .int k' (j : Int)) (hij : i ≤ j) (hle : j ≤ s.size) (w : World) :
  (execOp a.eval o).run P w = .ok (.value (.string (s.extract i j))) w := by
 unfold execOp
 simp [ho, hx, hl, hh, run_sliceAt_string w t (.string s) (some (.int k i)) (some (.int k' j)) none hu, run_slice_string w t s k k' i j hu (by omega) (by omega) (by omega)]
open Go.RowKit
theorem bs_ext (l : List Int) (n : Nat) : (bs l).extract 0 n = bs (l.take n) := by
 apply ByteArray.ext
 rw [ByteArray.data_extract]
 unfold bs
 apply Array.ext_getElem?
 intro i
 simp only [Array.getElem?_extract, List.getElem?_toArray, List.getElem?_map, List.getElem?_take]
 by_cases h : i < n
 ·simp [h]
  intro h2
  rw [List.getElem?_eq_none (by omega)]
  rfl
 ·simp [h]
  omega
theorem sumV_eq (z : Nat) (H : HS) : sumV z H = bs ((loI (sumW H) 8).take z) := bs_ext _ _
theorem bt_out (A : Yb) (i : Nat) (h : A.size ≤ i) : bt A i = 0 := by
 have hs : A.data.size = A.size := rfl
 unfold bt
 rw [Array.getElem?_eq_none (by omega)]
 rfl
open Go.RowKit
def xb (x y : Int) : Int := IntKind.wrap .u8 (BitVec.ofInt 8 x ^^^ BitVec.ofInt 8 y).toNat
theorem xb_nn (x y : Int) : 0 ≤ xb x y ∧ xb x y < 256 := cv8_nn _
def mkF (f : NI) (m : Int) : Nat → (Nat → Int)
 | 0 => f
 | j + 1 => upd (mkF f m j) j (xb (mkF f m j j) m)
theorem mkF_eq (f : NI) (m : Int) : ∀ j i, mkF f m j i = if i < j then xb (f i) m else f i
 | 0, i => by rw [if_neg (by omega)]; rfl
 | j + 1, i => by
  unfold mkF upd
  by_cases e : i = j
  ·subst e
   rw [if_pos rfl, if_pos (by omega), mkF_eq f m i i, if_neg (by omega)]
  ·rw [if_neg e, mkF_eq f m j i]
   by_cases h : i < j
   ·rw [if_pos h, if_pos (by omega)]
   ·rw [if_neg h, if_neg (by omega)]
def mk (f : NI) (m : Int) : ByteArray := bs ((List.range 64).map fun i => xb (f i) m)
theorem mk_size (f : NI) (m : Int) : (mk f m).size = 64 := by rw [mk, bs_size]; simp
theorem sb_av (n : Nat) (F : NI) (T : TypeId) : SB (.cells (av n (w8 F)) T) n (vs8 ((List.range n).map F)) := ⟨_, T, (0, 0), rfl, by simp [vs8], by rw [av_size]; exact Nat.le_refl _, fun i hi => by
 simp [vs8] at hi
 simp [vs8, av, w8, hi], fun i _ => by simp⟩
theorem bl_size (s : Yb) : (blV 32 strE s).size = 32 := by
 unfold blV
 rw [sumV_eq, bs_size, List.length_take, loI_length]
 rfl
def keyV (key : Yb) : ByteArray := if 64 < key.size then blV 32 strE key else key
def tagV (f : NI) (s : Yb) : ByteArray := blV 32 strE (mk f 92 ++ blV 32 strE (mk f 54 ++ s))
theorem tagV_size (f : NI) (s : Yb) : (tagV f s).size = 32 := bl_size _
def hmV (key s : Yb) : ByteArray := tagV (bt (keyV key)) s
theorem bt_cp (s : Yb) (hs : s.size ≤ 64) : ∀ j, j < 64 → (if 0 ≤ j ∧ j < 0 + Nat.min s.size 64 then w8 (bt s) (j - 0) else w8 (fun _ => 0) j) = w8 (bt s) j := fun j _ => by
 have e : Nat.min s.size 64 = s.size := Nat.min_eq_left hs
 rw [e, Nat.sub_zero]
 unfold w8
 by_cases h : j < s.size
 ·rw [if_pos (by omega)]
 ·rw [if_neg (by omega), bt_out s j (by omega)]
theorem mk_back (f : NI) (m : Int) : bs ((List.range 64).map (mkF f m 64)) = mk f m := by
 unfold mk
 refine congrArg bs <| List.map_congr_left fun i hi => ?_
 rw [mkF_eq, if_pos (List.mem_range.1 hi)]
theorem mk_nn (f : NI) (m : Int) : ∀ x ∈ (List.range 64).map (mkF f m 64), 0 ≤ x ∧ x < 256 := fun x hx => by
 obtain ⟨i, hi, rfl⟩ := List.mem_map.1 hx
 rw [mkF_eq, if_pos (List.mem_range.1 hi)]
 exact xb_nn _ _
theorem c_masked (f : NI) (m : Int) (w : World) (hL : Laid w)  : Cs 173 #[.agg (av 64 (w8 f)), .int .u8 m] w (.string (mk f m)) := by
 go_enter Tryz.func173, Tryz.ntmps173
 have M := Mem.start hL
 refine sR <| pN M 2 (.cells (av 64 (w8 f)) 177) fun g1 u1 M => rV 1 <| nT <| wp_seq <| sq <| wp_block ?_
 refine au_loop (fun j a w' => ∃ v1 : NV, a = (fm ([.agg (av 64 (w8 f)), .int .u8 m, .pointer (some ⟨g1, 0, none⟩), v1 3, .string ⟨#[]⟩, v1 5, .int .i64 (j : Int)] ++ vr v1 7 11)) ∧ Mem ⟨w, []⟩ [⟨g1, .cells (av 64 (w8 (mkF f m j))) 177⟩] w') 64 (exS M) ?_ ?_
 ·intro j a u0 hj hI
  obtain ⟨v1, rfl, M⟩ := hI
  refine sR <| ZT 7 ((j : Int) < 64) <| nT <| wp_seq <| cT <| wp_skip <| au_then <| wp_seq <| wp_block <| sq <| rg_lit <| rV 1 <| ZX 10 .i64 g1 (j) 64 <| ZE M 11 0 j <| rV 2 <| ZX 14 .i64 g1 (j) 64 ?_
  refine ZP8 M 0 j (xb (mkF f m j j) m) fun u2 M => pl_nil <| au_block <| au_then <| rg_lit <| ZI 15 ((j : Int) + 1) ((j + 1 : Nat) : Int) <| rV 1 <| nT ?_
  exact exS M
 ·intro a u0 hI
  obtain ⟨v1, rfl, M⟩ := hI
  refine sR <| ZF 7 ((64 : Int) < 64) <| nT <| wp_seq <| cF <| wp_exit <| au_then_exit <| au_then_exit <| au_block_exit <| au_then <| sR <| rV 1 <| pl_back M (want_no rfl) (some 17) rfl _ rfl 0 g1 64 64 (by kernel_rfl) _ rfl ((List.range 64).map (mkF f m 64)) 64 (sb_av 64 _ _) (by simp) (mk_nn f m) ?_
  rw [mk_back]
  refine rV 1 <| nT <| wp_ret ?_
  exact b1 M
theorem c_blockA (key : Yb) (hk : 64 < key.size) (w : World) (hL : Laid w)  : Cs 123 #[.string key] w (.agg (av 64 (w8 (bt (keyV key))))) := by
 go_enter Tryz.func123, Tryz.ntmps123
 have M := Mem.start hL
 obtain ⟨K, hK⟩ : ∃ K, blV 32 strE key = K := ⟨_, rfl⟩
 have hs : K.size ≤ 64 := by rw [← hK, bl_size]; decide
 refine sR <| pN M 2 (.cells (av 64 (w8 (fun _ => 0))) 177) fun g1 u1 M => nT <| wp_seq <| sR <| rV 2 <| ZT 6 ((64 : Int) < (key.size : Int)) <| nT <| cT <| rg_lit <| rV 1 <| pC M 8 62 #[.string key] (.string K) (fun w M => (by rw [← hK]; exact c_of key w M.laid)) fun u2 M => rV 1 <| nT <| sR <| pN M 3 (.cells (av 64 (w8 (fun _ => 0))) 177) fun g2 u3 M => ?_
 refine nT <| sR <| rV 2 <| pl_copyS M (want_no rfl) (some 11) rfl 44 9 3 5 Tryz.underlying44 inz5 1 g2 64 177 (w8 (fun _ => 0)) rfl 0 64 64 K (Nat.min K.size 64) rfl (by rw [Nat.zero_add]; exact Nat.min_le_right _ _) (w8 (bt K)) (bt_cp K hs) (fun _ => by kernel_rfl) fun u4 M => nT <| sR <| pA M 12 1 64 (w8 (bt K)) <| ZG M 0 64 (w8 (bt K)) fun u5 M => nT <| wp_ret ?_
 have e : keyV key = K := by unfold keyV; rw [if_pos hk, hK]
 rw [e]
 exact bc Tryz.results123 M 0 64 (w8 (bt K)) ⟨rfl, below_grown M.old⟩
theorem c_blockB (key : Yb) (hs : ¬ 64 < key.size) (w : World) (hL : Laid w)  : Cs 123 #[.string key] w (.agg (av 64 (w8 (bt (keyV key))))) := by
 go_enter Tryz.func123, Tryz.ntmps123
 have M := Mem.start hL
 have hs : key.size ≤ 64 := by omega
 refine sR <| pN M 2 (.cells (av 64 (w8 (fun _ => 0))) 177) fun g1 u1 M => nT <| wp_seq <| sR <| rV 2 <| ZF 6 ((64 : Int) < (key.size : Int)) <| nT <| cF <| wp_skip <| au_then <| sR <| pN M 3 (.cells (av 64 (w8 (fun _ => 0))) 177) fun g2 u2 M => nT <| sR <| rV 2 ?_
 refine pl_copyS M (want_no rfl) (some 11) rfl 44 9 3 5 Tryz.underlying44 inz5 1 g2 64 177 (w8 (fun _ => 0)) rfl 0 64 64 key (Nat.min key.size 64) rfl (by rw [Nat.zero_add]; exact Nat.min_le_right _ _) (w8 (bt key)) (bt_cp key hs) (fun _ => by kernel_rfl) fun u3 M => nT <| sR <| pA M 12 1 64 (w8 (bt key)) <| ZG M 0 64 (w8 (bt key)) fun u4 M => nT <| wp_ret ?_
 have e : keyV key = key := by unfold keyV; rw [if_neg (by omega)]
 rw [e]
 exact bc Tryz.results123 M 0 64 (w8 (bt key)) ⟨rfl, below_grown M.old⟩
theorem c_block (key : Yb) (w : World) (hL : Laid w) : Cs 123 #[.string key] w (.agg (av 64 (w8 (bt (keyV key))))) := by
 by_cases h : 64 < key.size
 ·exact c_blockA key h w hL
 ·exact c_blockB key h w hL
theorem c_tag (f : NI) (s : Yb) (hs : s.size < 100000) (w : World) (hL : Laid w)  : Cs 156 #[.agg (av 64 (w8 f)), .string s] w (.string (tagV f s)) := by
 go_enter Tryz.func156, Tryz.ntmps156
 have M := Mem.start hL
 refine sR <| pN M 2 (.cells (av 64 (w8 f)) 177) fun g1 u1 M => rV 1 <| nT <| wp_seq <| rg_tail M 9 (by kernel_rfl) (by kernel_rfl) ?_
 simp only [List.take_succ_cons, List.take_zero]
 refine kA M 5 0 64 (w8 f) <| eC M 6 (fun w M => c_masked f 92 w M.laid) <| kA M 7 0 64 (w8 f) <| eC M 8 (fun w M => c_masked f 54 w M.laid) <| kR 1 <| kH 10 (.string ((mk f 54) ++ s)) (run_cat 9 9 _ _ rfl (mk f 54) s (by kernel_rfl) (by kernel_rfl) (by rw [mk_size]; omega)) <| kC M 11 62 #[.string ((mk f 54) ++ s)] (.string (blV 32 strE ((mk f 54) ++ s))) (fun w M => c_of _ w M.laid) <| kH 12 (.string ((mk f 92) ++ (blV 32 strE (mk f 54 ++ s)))) (run_cat 9 9 _ _ rfl (mk f 92) (blV 32 strE (mk f 54 ++ s)) (by kernel_rfl) (by kernel_rfl) (by rw [mk_size, bl_size]; decide)) <| kC M 13 62 #[.string ((mk f 92) ++ (blV 32 strE (mk f 54 ++ s)))] (.string (blV 32 strE ((mk f 92) ++ (blV 32 strE (mk f 54 ++ s))))) (fun w M => c_of _ w M.laid) <| kl_nil fun u2 M => rV 1 <| nT <| wp_ret ?_
 exact b1 M
theorem c_hmac (key s : Yb) (hs : s.size < 100000) (w : World) (hL : Laid w)  : Cs 125 #[.string key, .string s] w (.string (hmV key s)) := by
 go_enter Tryz.func125, Tryz.ntmps125
 have M := Mem.start hL
 refine sq <| sR <| rV 1 <| ZC M 6 (fun w M => c_block key w M.laid) fun u1 M => rV 1 <| ZC M 8 (fun w M => c_tag (bt (keyV key)) s hs w M.laid) fun u2 M => rV 1 <| nT <| wp_ret ?_
 exact b1 M
theorem c_extract (key s : Yb) (hs : s.size < 100000) (w : World) (hL : Laid w)  : Cs 98 #[.string key, .string s] w (.string (hmV key s)) := by
 go_enter Tryz.func98, Tryz.ntmps98
 have M := Mem.start hL
 refine sq <| sR <| rV 2 <| ZC M 7 (fun w M => c_hmac key s hs w M.laid) fun u1 M => rV 1 <| nT <| wp_ret ?_
 exact b1 M
open Go.RowKit
open Go.Shelf
def bF0 : Nat → Value := fun i => if i = 0 then .pointer none else .slice none 0 0
section
variable {P : Program} {ops : Array Oper} {rest : List Oper} {o : Oper} {a : Act} {w : World} {c : Ctx} {L : List Blk} {Q : Exit → Act → World → Prop} {K : Act → World → Prop} {J : Act → World → Prop}
theorem au_then_goto {i : Nat} (h : Q (.goto i) a w) : Exit.then K Q (.goto i) a w := h
theorem au_scope_ret {i : Nat} (h : Q .ret a w) : Exit.jump i J Q .ret a w := h
theorem pl_newB (M : Mem c L w) (hw : Region.wanted o (yielded ops a.tmps) = true) (d : Option Tmp) (hd : o.dst = d) (Z : Obj) (hrun : ∀ w, (execOp a.eval o).run P w = .ok (.value (.pointer (some ⟨w.heap.size, 0, none⟩))) (w.alloc Z))
  (h : ∀ g w', (∀ b ∈ L, b.g < g) → Mem c (L ++ [⟨g, Z⟩]) w' → PL P ops Q rest (a.put d (.pointer (some ⟨g, 0, none⟩))) w') : PL P ops Q (o :: rest) a w :=
 pl_to hw d hd _ _ (hrun w) (h w.heap.size _ (fun _ hb => M.lt hb) (M.new _ _ (new_below w _) (heap_alloc_new w _) (Nat.le_refl _)))
theorem pl_callr (hw : Region.wanted o (yielded ops a.tmps) = true) (d : Option Tmp) (hd : o.dst = d) (f : FuncId) (args : Array Value) (v : Value) (R : World → Prop) (hrun : ∀ w, (execOp a.eval o).run P w = .ok (.enter f args) w)
  (hc : Calls P f args w fun e w' => e = .returned v ∧ R w') (h : ∀ w', R w' → PL P ops Q rest (a.put d v) w') : PL P ops Q (o :: rest) a w :=
 pl_callq hw d hd f args hrun (hc.mono fun _ w' ⟨he, hr⟩ => ⟨v, he, h w' hr⟩)
end
theorem owns_keep {w w' : World} {B : Nat} {e : TypeId} {v : Value} {n : Nat} {xs : List Value} (h : w.ownsRow B e 1 v n xs) (hb : Below w.heap.size w w') : w'.ownsRow B e 1 v n xs := by
 obtain ⟨h1, h2⟩ := h
 refine ⟨h1, ?_⟩
 rcases h2 with h2 | ⟨g, cap, cur, h3, h4, h5, h6⟩
 ·exact .inl h2
 ·exact .inr ⟨g, cap, cur, h3, h4, by rw [hb.block g (Array.getElem?_eq_some_iff.1 h5).1]; exact h5, h6⟩
theorem bat_keep {w w' : World} {T e : TypeId} {B b : Nat} {p : Value} {xs : List Value} (h : Lib.BuilderAt T e B b p xs w) (hb : Below w.heap.size w w') : Lib.BuilderAt T e B b p xs w' := by
 obtain ⟨h1, v, h2, h3, h4⟩ := h
 exact ⟨h1, v, by rw [hb.block b (Array.getElem?_eq_some_iff.1 h2).1]; exact h2, owns_keep h3 hb, h4⟩
theorem isb_keep {w w' : World} {T e : TypeId} {B b : Nat} {xs : List Value} (h : Lib.IsBuilder T e B b xs w) (hb : Below w.heap.size w w') : Lib.IsBuilder T e B b xs w' := h.imp (bat_keep · hb) (bat_keep · hb)
theorem isb_lt {w : World} {T e : TypeId} {B b : Nat} {xs : List Value} (h : Lib.IsBuilder T e B b xs w) : b < w.heap.size := h.elim Lib.BuilderAt.lt Lib.BuilderAt.lt
structure BU (w : World) (f : NI) (g k : Nat) (l : List UInt8) (u : World) : Prop where
 bel : Below w.heap.size w u
 ge : w.heap.size ≤ g
 lt : g < k
 blk : u.heap[g]? = some (.cells (av 64 (w8 f)) 177)
 isb : Lib.IsBuilder 182 5 k k (Lib.byteCells l) u
theorem same1 {w w' : World} {g : Nat} {Z : Obj} (h : Grw w w' [g]) (h1 : w.heap[g]? = some Z) (h2 : w'.heap[g]? = some Z) : Below w.heap.size w w' := ⟨h.os, h.tape, h.output, h.size, fun j hj => by
 by_cases e : j = g
 ·subst e
  rw [h1, h2]
 ·exact h.block j hj (by simp [e])⟩
theorem below_laid {w u : World} (h : Below w.heap.size w u) (hL : Laid w) : Laid u := hL.of fun k hk => h.block k (Nat.lt_of_lt_of_le hk hL.lt)
theorem BU.ne {w u : World} {f : NI} {g k : Nat} {l : List UInt8} (h : BU w f g k l u) (hL : Laid w) : 2 < g := by have := hL.lt; have := h.ge; omega
theorem BU.mem {w u : World} {f : NI} {g k : Nat} {l : List UInt8} (h : BU w f g k l u) (hL : Laid w) : Mem ⟨u, [g]⟩ [⟨g, .cells (av 64 (w8 f)) 177⟩] u := Mem.startp (below_laid h.bel hL) h.blk (h.ne hL)
theorem BU.keep {w u : World} {f : NI} {g k : Nat} {l : List UInt8} (h : BU w f g k l u) {L : List Blk} {u' : World} (M : Mem ⟨u, [g]⟩ (⟨g, .cells (av 64 (w8 f)) 177⟩ :: L) u') : BU w f g k l u' :=
 have hb := same1 M.old h.blk (M.get 0 rfl)
 ⟨h.bel.trans (hb.mono h.bel.size), h.ge, h.lt, M.get 0 rfl, isb_keep h.isb hb⟩
theorem BU.start {w u : World} {f : NI} {g k : Nat} (M : Mem ⟨w, []⟩ [⟨g, .cells (av 64 (w8 f)) 177⟩, ⟨k, .cells (av 2 bF0) 182⟩] u) (hlt : g < k) : BU w f g k [] u :=
 ⟨below_grown M.old, (M.ge _ (List.mem_of_getElem? (i := 0) rfl)).elim id (fun h => by cases h), hlt, M.get 0 rfl, .inl ⟨Nat.le_refl _, .slice none 0 0, M.get 1 rfl, World.ownsRow_nil _ _ _ _, by simp [Value.ownBlock]⟩⟩
theorem c_len {w u : World} {f : NI} {g k : Nat} {l : List UInt8} (h : BU w f g k l u) : Cs 141 #[.pointer (some ⟨k, 0, none⟩)] u (.int .i64 (l.length : Int)) := by
 refine (Any.Builder_Len (P := Tryz.prog) (ρ := repRen) { repLays with } k k (Lib.byteCells l) u h.isb).mono ?_
 rintro r w' ⟨rfl, rfl⟩
 exact ⟨by rw [Lib.byteCells_length], Below.refl _ _⟩
theorem c_write {w u : World} {f : NI} {g k : Nat} {l : List UInt8} (h : BU w f g k l u) (s : Yb) (hl : l.length + s.size < 1000000) : Calls Tryz.prog 140 #[.pointer (some ⟨k, 0, none⟩), .string s] u fun r w' => r = .returned (.tuple #[.int .i64 s.size, .nilIface]) ∧ BU w f g k (l ++ s.data.toList) w' := by
 have hk := isb_lt h.isb
 refine (Any.Builder_WriteString (P := Tryz.prog) (ρ := repRen) { repLays with } repExtra k k (Lib.byteCells l) s u h.isb (by rw [Lib.byteCells_length]; omega) (by omega)).mono ?_
 rintro r w' ⟨rfl, h1, h2⟩
 exact ⟨rfl, h.bel.trans (h2.mono (by have := h.ge; have := h.lt; omega)), h.ge, h.lt, by rw [h2.block g h.lt]; exact h.blk, .inr (by rw [Lib.byteCells_append]; exact h1)⟩
theorem c_string {w u : World} {f : NI} {g k : Nat} {l : List UInt8} (h : BU w f g k l u) (s : Yb) (hs : s.data.toList = l) : Calls Tryz.prog 129 #[.pointer (some ⟨k, 0, none⟩)] u fun r w' => r = .returned (.string s) ∧ Below w.heap.size w w' := by
 have hk := isb_lt h.isb
 refine (Any.Builder_String_any (P := Tryz.prog) (ρ := repRen) { repLays with } repExtra k k l u h.isb (by omega)).mono ?_
 rintro r w' ⟨rfl, h2⟩
 refine ⟨?_, h.bel.trans (h2.mono (by have := h.ge; have := h.lt; omega))⟩
 rw [← hs]
def tg (f : NI) (info : Yb) : Nat → ByteArray
 | 0 => strE
 | i + 1 => tagV f (tg f info i ++ info ++ bs [((i + 1 : Nat) : Int)])
def al (f : NI) (info : Yb) : Nat → ByteArray
 | 0 => strE
 | i + 1 => al f info i ++ tg f info (i + 1)
theorem tg_size (f : NI) (info : Yb) (i : Nat) : (tg f info (i + 1)).size = 32 := tagV_size _ _
theorem tg_le (f : NI) (info : Yb) : ∀ i, (tg f info i).size ≤ 32
 | 0 => by show 0 ≤ 32; decide
 | i + 1 => by rw [tg_size]; decide
theorem al_size (f : NI) (info : Yb) : ∀ i, (al f info i).size = 32 * i
 | 0 => rfl
 | i + 1 => by
  unfold al
  rw [ByteArray.size_append, al_size f info i, tg_size]
  omega
theorem al_len (f : NI) (info : Yb) (i : Nat) : (al f info i).data.toList.length = 32 * i := by
 rw [← al_size f info i]
 rfl
theorem al_next (f : NI) (info : Yb) (i : Nat) : (al f info i).data.toList ++ (tg f info (i + 1)).data.toList = (al f info (i + 1)).data.toList := by
 show _ = (al f info i ++ tg f info (i + 1)).data.toList
 rw [ByteArray.data_append, Array.toList_append]
theorem sb_one (x : Int) (T : TypeId) : SB (.cells (av 1 (fun _ => .int .u8 x)) T) 1 (vs8 [x]) := ⟨_, T, (0, 0), rfl, by simp [vs8], by rw [av_size]; exact Nat.le_refl _, fun i hi => by
 simp [vs8] at hi
 subst hi
 rfl, fun i _ => by simp⟩
def numOf : Value → Int
 | .int _ x => x
 | _ => 0
def mu9 (N : Nat) (a : Act) : Nat := N - (numOf (a.tmps.getD 9 undef)).toNat
theorem mu9_lt {N : Nat} {a a' : Act} (x y : Nat) (h1 : a'.tmps.getD 9 undef = .int .u8 (y : Int)) (h2 : a.tmps.getD 9 undef = .int .u8 (x : Int)) (hxy : x < y) (hy : y ≤ N) : mu9 N a' < mu9 N a := by
 unfold mu9
 rw [h1, h2]
 show N - (y : Int).toNat < N - (x : Int).toNat
 omega
theorem add8 (j : Nat) (h : j < 255) : IntKind.wrap .u8 ((j : Int) + 1) = ((j + 1 : Nat) : Int) := by
 show ((j : Int) + 1) % 256 = _
 omega
theorem c_tags (f : NI) (info : Yb) (hi : info.size < 10000) (n : Nat) (hn : n ≤ 8160) (w : World) (hL : Laid w)  : Cs 124 #[.agg (av 64 (w8 f)), .string info, .int .i64 (n : Int)] w (.string (al f info ((n + 31) / 32))) := by
 go_enter Tryz.func124, Tryz.ntmps124
 have M := Mem.start hL
 obtain ⟨N, hN⟩ : ∃ N, N = (n + 31) / 32 := ⟨_, rfl⟩
 refine sR <| pN M 3 (.cells (av 64 (w8 f)) 177) fun g1 u1 M => rV 1 <| nT ?_
 refine wp_scope_jumps 0 (fun a u => ∃ (j gk : Nat) (v : NV), j ≤ N ∧ a = (fm ([.agg (av 64 (w8 f)), .string info, .int .i64 (n : Int), .pointer (some ⟨g1, 0, none⟩), undef, undef, v 6, .pointer (some ⟨gk, 0, none⟩), .string (tg f info j), .int .u8 (j : Int)] ++ vr v 10 17)) ∧ BU w f g1 gk (al f info j).data.toList u) (fun a _ => mu9 N a) rfl ?_ ?_
 ·refine sR <| pl_newB M (want_no rfl) (some 7) rfl (.cells (av 2 bF0) 182) (fun _ => by kernel_rfl) ?_
  intro g2 u2 hlt M
  replace hlt : g1 < g2 := hlt _ (List.mem_of_getElem? (i := 0) rfl)
  refine nT <| sq <| wp_seq <| wp_label <| au_then ?_
  have hB : BU w f g1 g2 (al f info 0).data.toList u2 := BU.start M hlt
  generalize g2 = gk at hB
  clear M hlt
  by_cases hj : 0 < N
  ··skip
    have M := hB.mem hL
    refine wp_seq <| sR <| ZC M 10 (fun w M => c_len (hB.keep M)) fun u3 M => rV 1 <| zJ 12 (.bool true) (.bool (decide (((al f info 0).data.toList.length : Int) < (n : Int)))) (by rw [al_len, decide_eq_true (by omega)]) <| nT <| cT <| sR <| rV 1 <| ZQ 14 .u8 (IntKind.wrap .u8 ((0 : Nat) + 1 : Int)) (add8 0 (by omega)) <| rV 1 <| nT <| sR <| pA M 15 0 64 (w8 f) <| rV 2 <| pH 18 (.string ((tg f info 0) ++ info)) (run_cat 9 9 _ _ rfl (tg f info 0) info (by kernel_rfl) (by kernel_rfl) (by have := tg_le f info 0; omega)) ?_
    refine rV 1 <| ZM M 20 (fun g3 => .slice (some ⟨g3, 0, none⟩) 1 1) (.cells (av 1 (fun _ => .int .u8 ((0 + 1 : Nat) : Int))) 5) fun g3 u4 M => pl_back M (want_no rfl) (some 21) rfl _ rfl 1 g3 1 1 (by kernel_rfl) _ rfl [((0 + 1 : Nat) : Int)] 1 (sb_one _ _) rfl (by intro x hx; rw [List.mem_singleton.1 hx]; omega) <| pH 22 (.string ((tg f info 0 ++ info) ++ (bs [((0 + 1 : Nat) : Int)]))) (run_cat 9 9 _ _ rfl (tg f info 0 ++ info) (bs [((0 + 1 : Nat) : Int)]) (by kernel_rfl) (by kernel_rfl) (by rw [ByteArray.size_append, bs_size]; have := tg_le f info 0; simp; omega)) <| pC M 23 156 #[.agg (av 64 (w8 f)), .string ((tg f info 0 ++ info) ++ (bs [((0 + 1 : Nat) : Int)]))] (.string (tg f info (0 + 1))) (fun w M => c_tag f _ (by simp only [ByteArray.size_append, bs_size]; have := tg_le f info 0; simp; omega) w M.laid) fun u5 M => rV 1 <| nT <| sR <| rV 1 <| pl_callr (want_no rfl) (some 25) rfl 140 #[.pointer (some ⟨gk, 0, none⟩), .string (tg f info (0 + 1))] (.tuple #[.int .i64 (tg f info (0 + 1)).size, .nilIface]) _ (fun _ => by kernel_rfl) (c_write (hB.keep M) (tg f info (0 + 1)) (by rw [al_len, tg_size]; omega)) ?_
    intro u6 hB2
    rw [al_next] at hB2
    refine nT <| wp_goto <| au_then_goto ?_
    exact ⟨rfl, 0 + 1, gk, fun k_ => ([.string ⟨#[]⟩, undef, undef, undef, .int .i64 ((al f info 0).data.toList.length : Int), .int .i64 (n : Int), .bool true, .int .u8 ((0 : Nat) : Int), .int .u8 ((0 + 1 : Nat) : Int), .agg (av 64 (w8 f)), .string (tg f info 0), .string info, .string ((tg f info 0) ++ info), .int .u8 ((0 + 1 : Nat) : Int), .slice (some ⟨g3, 0, none⟩) 1 1, .string (bs [((0 + 1 : Nat) : Int)]), .string ((tg f info 0 ++ info) ++ (bs [((0 + 1 : Nat) : Int)])), .string (tg f info (0 + 1)), .string (tg f info (0 + 1)), .tuple #[.int .i64 (tg f info (0 + 1)).size, .nilIface], undef] : List Value).getD (k_ - 6) undef, by omega, by kernel_rfl, hB2⟩
  ·have hjN : N = 0 := by omega
   ·have M := hB.mem hL
    refine wp_seq <| sR <| ZC M 10 (fun w M => c_len (hB.keep M)) fun u7 M => rV 1 <| zJ 12 (.bool false) (.bool (decide (((al f info 0).data.toList.length : Int) < (n : Int)))) (by rw [al_len, decide_eq_false (by omega)]) <| nT <| cF <| wp_skip <| au_then <| sR <| pl_callr (want_no rfl) (some 26) rfl 129 #[.pointer (some ⟨gk, 0, none⟩)] (.string (al f info N)) _ (fun _ => by kernel_rfl) (c_string (hB.keep M) (al f info N) (by rw [hjN])) ?_
    intro u8 hB2
    refine rV 1 <| nT <| wp_ret <| au_scope_ret ?_
    rw [← hN]
    exact bX (.string (al f info N)) ⟨rfl, hB2⟩
 ·intro a u0 hJ
  obtain ⟨j, gk, v, hjn, rfl, hB⟩ := hJ
  refine wp_seq <| wp_skip <| au_then ?_
  by_cases hj : j < N
  ··skip
    have M := hB.mem hL
    refine wp_seq <| sR <| ZC M 10 (fun w M => c_len (hB.keep M)) fun u9 M => rV 1 <| zJ 12 (.bool true) (.bool (decide (((al f info j).data.toList.length : Int) < (n : Int)))) (by rw [al_len, decide_eq_true (by omega)]) <| nT <| cT <| sR <| rV 1 <| ZQ 14 .u8 (IntKind.wrap .u8 ((j : Nat) + 1 : Int)) (add8 j (by omega)) <| rV 1 <| nT <| sR <| pA M 15 0 64 (w8 f) <| rV 2 <| pH 18 (.string ((tg f info j) ++ info)) (run_cat 9 9 _ _ rfl (tg f info j) info (by kernel_rfl) (by kernel_rfl) (by have := tg_le f info j; omega)) ?_
    refine rV 1 <| ZM M 20 (fun g4 => .slice (some ⟨g4, 0, none⟩) 1 1) (.cells (av 1 (fun _ => .int .u8 ((j + 1 : Nat) : Int))) 5) fun g4 u10 M => pl_back M (want_no rfl) (some 21) rfl _ rfl 1 g4 1 1 (by kernel_rfl) _ rfl [((j + 1 : Nat) : Int)] 1 (sb_one _ _) rfl (by intro x hx; rw [List.mem_singleton.1 hx]; omega) <| pH 22 (.string ((tg f info j ++ info) ++ (bs [((j + 1 : Nat) : Int)]))) (run_cat 9 9 _ _ rfl (tg f info j ++ info) (bs [((j + 1 : Nat) : Int)]) (by kernel_rfl) (by kernel_rfl) (by rw [ByteArray.size_append, bs_size]; have := tg_le f info j; simp; omega)) <| pC M 23 156 #[.agg (av 64 (w8 f)), .string ((tg f info j ++ info) ++ (bs [((j + 1 : Nat) : Int)]))] (.string (tg f info (j + 1))) (fun w M => c_tag f _ (by simp only [ByteArray.size_append, bs_size]; have := tg_le f info j; simp; omega) w M.laid) fun u11 M => rV 1 <| nT <| sR <| rV 1 <| pl_callr (want_no rfl) (some 25) rfl 140 #[.pointer (some ⟨gk, 0, none⟩), .string (tg f info (j + 1))] (.tuple #[.int .i64 (tg f info (j + 1)).size, .nilIface]) _ (fun _ => by kernel_rfl) (c_write (hB.keep M) (tg f info (j + 1)) (by rw [al_len, tg_size]; omega)) ?_
    intro u12 hB2
    rw [al_next] at hB2
    refine nT <| wp_goto <| au_then_goto ?_
    exact ⟨rfl, ⟨j + 1, gk, fun k_ => ([v 6, undef, undef, undef, .int .i64 ((al f info j).data.toList.length : Int), .int .i64 (n : Int), .bool true, .int .u8 (j : Int), .int .u8 ((j + 1 : Nat) : Int), .agg (av 64 (w8 f)), .string (tg f info j), .string info, .string ((tg f info j) ++ info), .int .u8 ((j + 1 : Nat) : Int), .slice (some ⟨g4, 0, none⟩) 1 1, .string (bs [((j + 1 : Nat) : Int)]), .string ((tg f info j ++ info) ++ (bs [((j + 1 : Nat) : Int)])), .string (tg f info (j + 1)), .string (tg f info (j + 1)), .tuple #[.int .i64 (tg f info (j + 1)).size, .nilIface], v 26] : List Value).getD (k_ - 6) undef, by omega, by kernel_rfl, hB2⟩, mu9_lt j (j + 1) (by kernel_rfl) (by kernel_rfl) (by omega) (by omega)⟩
  ·have hjN : N = j := by omega
   ·have M := hB.mem hL
    refine wp_seq <| sR <| ZC M 10 (fun w M => c_len (hB.keep M)) fun u13 M => rV 1 <| zJ 12 (.bool false) (.bool (decide (((al f info j).data.toList.length : Int) < (n : Int)))) (by rw [al_len, decide_eq_false (by omega)]) <| nT <| cF <| wp_skip <| au_then <| sR <| pl_callr (want_no rfl) (some 26) rfl 129 #[.pointer (some ⟨gk, 0, none⟩)] (.string (al f info N)) _ (fun _ => by kernel_rfl) (c_string (hB.keep M) (al f info N) (by rw [hjN])) ?_
    intro u14 hB2
    refine rV 1 <| nT <| wp_ret <| au_scope_ret ?_
    rw [← hN]
    exact bX (.string (al f info N)) ⟨rfl, hB2⟩
open Go.RowKit
def ws (f : Nat → ByteArray) : Nat → Value := fun i => .string (f i)
theorem put_ws (f : Nat → ByteArray) (k : Nat) (v : Yb) (j : Nat) : (if j = k then .string v else ws f j) = ws (upd f k v) j := by
 unfold ws upd
 split <;> rfl
theorem info9_ex : (Tryz.prog.info? 9).isSome = true := by kernel_rfl
theorem info9_eq : Tryz.prog.info? 9 = some ((Tryz.prog.info? 9).get info9_ex) := (Option.some_get info9_ex).symm
theorem info9_z : ((Tryz.prog.info? 9).get info9_ex).zero = some (.string ⟨#[]⟩) := by kernel_rfl
theorem run_ix0 {P : Program} {a : Act} {o : Oper} (t elem : TypeId) (hu : P.underlying t = some (.slice elem)) (hs : (P.info? elem).map (·.size) = some 1) (x ix : Operand) (ho : o.op = .indexAddr t x ix) (g len cap : Nat) (hx : a.eval x = .slice (some ⟨g, 0, none⟩) len cap) (k : IntKind) (i : Nat) (hi : a.eval ix = .int k (i : Int)) (hlt : i < len) (w : World) :
  (execOp a.eval o).run P w = .ok (.value (.pointer (some ⟨g, i, none⟩))) w := by
 have h := run_ixL (P := P) t elem hu hs x ix ho g 0 len cap hx k i hi hlt w
 rwa [Nat.zero_add] at h
theorem pl_makeS {ops : Array Oper} {rest : List Oper} {o : Oper} {a : Act} {w : World} {c : Ctx} {L : List Blk} {Q : Exit → Act → World → Prop} (M : Mem c L w) (hw : Region.wanted o (yielded ops a.tmps) = true) (d : Option Tmp) (hd : o.dst = d) (x y : Operand) (ho : o.op = .makeSlice 48 x y) (cap : Nat) (hx : a.eval x = .int .i64 (cap : Int)) (hy : a.eval y = .int .i64 (cap : Int)) (hc : cap < 1000000)
  (h : ∀ g w', Mem c (L ++ [⟨g, .cells (av cap (ws fun _ => ⟨#[]⟩)) 9⟩]) w' → PL Tryz.prog ops Q rest (a.put d (.slice (some ⟨g, 0, none⟩) cap cap)) w') : PL Tryz.prog ops Q (o :: rest) a w := by
 have hby : ((Tryz.prog.info? 9).get info9_ex).bytes ≤ 16 := by decide +kernel
 have hsz : ((Tryz.prog.info? 9).get info9_ex).size = 1 := by kernel_rfl
 have hr := run_make (P := Tryz.prog) w 48 9 _ (.string ⟨#[]⟩) Tryz.underlying48 info9_eq info9_z .i64 .i64 (cap : Int) (cap : Int) (by omega) (by omega) (by
  have := Int.mul_le_mul (show (((Tryz.prog.info? 9).get info9_ex).bytes : Int) ≤ 16 by omega) (show (cap : Int) ≤ 1000000 by omega) (by omega) (by omega)
  omega) (by omega)
 simp only [Int.toNat_natCast, hsz, Nat.mul_one] at hr
 have e : madeCells #[.string ⟨#[]⟩] cap = av cap (ws fun _ => ⟨#[]⟩) := by
  unfold madeCells av ws
  apply Array.ext_getElem?
  intro i
  by_cases hi : i < cap
  ·simp [hi, Nat.mod_one]
  ·simp [hi]
 refine pl_to hw d hd (.slice (some ⟨w.heap.size, 0, none⟩) cap cap) _ ?_ (h w.heap.size (w.alloc (.cells (av cap (ws fun _ => ⟨#[]⟩)) 9)) (M.new _ _ (new_below w _) (heap_alloc_new w _) (Nat.le_refl _)))
 unfold execOp
 simp only [ho, hx, hy, Sem.run_bind, Sem.run_pure]
 rw [hr, ← e]
 rfl
def exV (key info : Yb) (n : Nat) : ByteArray := (al (bt (keyV key)) info ((n + 31) / 32)).extract 0 n
theorem exV_size (key info : Yb) (n : Nat) : (exV key info n).size = n := by
 unfold exV
 rw [ByteArray.size_extract, al_size]
 omega
def txt (key s : Yb) (i : Nat) : ByteArray := tg (bt (keyV (hmV key s))) strE (i + 1)
theorem ba_app {A B : Yb} {i j : Nat} : (A ++ B).extract i j = A.extract i j ++ B.extract (i - A.size) (j - A.size) := by
 apply ByteArray.ext
 rw [ByteArray.data_extract, ByteArray.data_append, ByteArray.data_append, ByteArray.data_extract, ByteArray.data_extract, Array.extract_append]
 rfl
theorem ba_ext2 {A : Yb} {i j k l : Nat} : (A.extract i j).extract k l = A.extract (i + k) (min (i + l) j) := by
 apply ByteArray.ext
 rw [ByteArray.data_extract, ByteArray.data_extract, ByteArray.data_extract, Array.extract_extract]
theorem ba_none {A : Yb} {i j : Nat} (h : min j A.size ≤ i) : A.extract i j = ⟨#[]⟩ := by
 apply ByteArray.ext
 rw [ByteArray.data_extract]
 apply Array.eq_empty_of_size_eq_zero
 rw [Array.size_extract]
 have hs : A.data.size = A.size := rfl
 omega
theorem ba_whole {A : Yb} {j : Nat} (h : A.size ≤ j) : A.extract 0 j = A := by
 apply ByteArray.ext
 rw [ByteArray.data_extract]
 exact Array.extract_eq_self_of_le h
theorem al_cut (f : NI) (info : Yb) (j : Nat) : ∀ n, j < n → (al f info n).extract (j * 32) ((j + 1) * 32) = tg f info (j + 1)
 | 0, h => by omega
 | n + 1, h => by
  show (al f info n ++ tg f info (n + 1)).extract _ _ = _
  rw [ba_app, al_size]
  by_cases e : j = n
  ·subst e
   rw [ba_none (A := al f info j) (by rw [al_size]; omega), show j * 32 - 32 * j = 0 by omega, ba_whole (by rw [tg_size]; omega)]
   exact ByteArray.empty_append
  ·rw [al_cut f info j n (by omega), ba_none (A := tg f info (n + 1)) (by omega)]
   exact ByteArray.append_empty
theorem ex_cut (key s : Yb) (n j : Nat) (h : j < n) : (exV (hmV key s) strE (n * 32)).extract (j * 32) ((j + 1) * 32) = txt key s j := by
 unfold exV txt
 have h2 := Nat.mul_le_mul_right 32 (show j + 1 ≤ n by omega)
 rw [show (n * 32 + 31) / 32 = n by omega, ba_ext2, Nat.zero_add, Nat.zero_add, Nat.min_eq_left h2, al_cut _ _ j n h]
def chF (X : Yb) : Nat → (Nat → ByteArray)
 | 0 => fun _ => ⟨#[]⟩
 | j + 1 => upd (chF X j) j (X.extract (j * 32) ((j + 1) * 32))
theorem chF_eq (X : Yb) : ∀ n i, i < n → chF X n i = X.extract (i * 32) ((i + 1) * 32)
 | 0, i, h => by omega
 | n + 1, i, h => by
  unfold chF upd
  by_cases e : i = n
  ·subst e
   rw [if_pos rfl]
  ·rw [if_neg e, chF_eq X n i (by omega)]
theorem ch_av (key s : Yb) (n : Nat) : av n (ws (chF (exV (hmV key s) strE (n * 32)) n)) = av n (ws (txt key s)) := av_congr fun i hi => by
 unfold ws
 rw [chF_eq _ n i hi, ex_cut key s n i hi]
theorem c_exp (key info : Yb) (hi : info.size < 10000) (n : Nat) (hn : n ≤ 8160) (w : World) (hL : Laid w)  : Cs 97 #[.string key, .string info, .int .i64 (n : Int)] w (.tuple #[.string (exV key info n), .int .i64 0]) := by
 go_enter Tryz.func97, Tryz.ntmps97
 have M := Mem.start hL
 refine sq <| wp_seq <| sR <| rV 1 <| ZF 9 ((n : Int) < 0) <| rV 2 <| ZF 12 ((8160 : Int) < (n : Int)) <| rV 1 <| nT <| cF <| wp_skip <| au_then <| sR <| rV 1 <| ZC M 15 (fun w M => c_block key w M.laid) fun u1 M => rV 2 ?_
 refine pC M 18 124 #[.agg (av 64 (w8 (bt (keyV key)))), .string info, .int .i64 (n : Int)] (.string (al (bt (keyV key)) info ((n + 31) / 32))) (fun w M => c_tags _ info hi n hn w M.laid) fun u2 M => rV 1 <| pH 20 (.string (exV key info n)) (run_strh 9 Tryz.underlying9 _ _ rfl (al (bt (keyV key)) info ((n + 31) / 32)) (by kernel_rfl) .i64 n (by kernel_rfl) (by rw [al_size]; omega) _ rfl) <| rV 2 <| nT <| wp_ret ?_
 exact b1 M
theorem c_ch (key s : Yb) (hs : s.size < 10000) (n : Nat) (h1 : 1 ≤ n) (h3 : n ≤ 3) (w : World) (hL : Laid w) : Calls Tryz.prog 65 #[.string key, .string s, .int .i64 (n : Int)] w fun r w' => ∃ g, r = .returned (.tuple #[.slice (some ⟨g, 0, none⟩) n n, .int .i64 0]) ∧ w.heap.size ≤ g ∧ w'.heap[g]? = some (.cells (av n (ws (txt key s))) 9) ∧ Below w.heap.size w w' := by
 go_enter Tryz.func65, Tryz.ntmps65
 have M := Mem.start hL
 refine sq <| wp_seq <| sR <| rV 1 <| ZF 13 ((n : Int) < 1) <| rV 2 <| ZF 16 ((3 : Int) < (n : Int)) <| rV 1 <| nT <| cF <| wp_skip <| au_then <| sR <| rV 2 <| ZC M 21 (fun w M => c_extract key s (by omega) w M.laid) fun u1 M => rV 1 ?_
 refine ZI 23 ((n : Int) * 32) ((n * 32 : Nat) : Int) <| ZC M 24 (fun w M => c_exp (hmV key s) strE (by decide) (n * 32) (by omega) w M.laid) fun u2 M => rV 5 <| nT <| wp_seq <| sq <| cF <| wp_skip <| au_then <| sR <| rV 1 <| pl_makeS M (want_no rfl) (some 31) rfl _ _ rfl n (by kernel_rfl) (by kernel_rfl) (by omega) fun g1 u3 M => rV 1 <| nT <| wp_seq <| sq ?_
 refine wp_block ?_
 refine au_loop (fun j a w' => ∃ v1 : NV, a = (fm ([.string key, .string s, .int .i64 (n : Int)] ++ vr v1 3 3 ++ [.slice none 0 0, .int .i64 0, .string (exV (hmV key s) strE (n * 32)), .int .i64 0, .slice (some ⟨g1, 0, none⟩) n n] ++ vr v1 11 22 ++ [.int .i64 (n : Int), .int .i64 (j : Int)] ++ vr v1 35 14)) ∧ Mem ⟨w, []⟩ [⟨g1, .cells (av n (ws (chF (exV (hmV key s) strE (n * 32)) j))) 9⟩] w') n (exS M) ?_ ?_
 ·intro j a u0 hj hI
  obtain ⟨v1, rfl, M⟩ := hI
  refine sR <| ZT 35 ((j : Int) < (n : Int)) <| nT <| wp_seq <| cT <| wp_skip <| au_then <| wp_seq <| wp_block <| sq <| rg_lit <| rV 4 <| ZI 41 ((j : Int) * 32) ((j * 32 : Nat) : Int) <| rV 1 <| ZI 43 ((j : Int) + 1) ((j + 1 : Nat) : Int) <| ZI 44 (((j + 1 : Nat) : Int) * 32) (((j + 1) * 32 : Nat) : Int) ?_
  refine pH 45 (.string ((exV (hmV key s) strE (n * 32)).extract (j * 32) ((j + 1) * 32))) (run_strlh 9 Tryz.underlying9 _ _ _ rfl (exV (hmV key s) strE (n * 32)) (by kernel_rfl) .i64 .i64 (j * 32) ((j + 1) * 32) (by kernel_rfl) (by kernel_rfl) (by omega) (by rw [exV_size]; omega)) <| pH 46 (.pointer (some ⟨g1, j, none⟩)) (run_ix0 48 9 Tryz.underlying48 inz9 _ _ rfl g1 n n (by kernel_rfl) .i64 j (by kernel_rfl) (by omega)) <| pP M 0 rfl j (.string ((exV (hmV key s) strE (n * 32)).extract (j * 32) ((j + 1) * 32))) (ws (upd (chF (exV (hmV key s) strE (n * 32)) j) j ((exV (hmV key s) strE (n * 32)).extract (j * 32) ((j + 1) * 32)))) (by omega) (fun j _ => put_ws _ _ _ j) fun u4 M => pl_nil <| au_block <| au_then <| rg_lit <| ZI 47 ((j : Int) + 1) ((j + 1 : Nat) : Int) <| rV 1 <| nT ?_
  exact exS M
 ·intro a u0 hI
  obtain ⟨v1, rfl, M⟩ := hI
  refine sR <| ZF 35 ((n : Int) < (n : Int)) <| nT <| wp_seq <| cF <| wp_exit <| au_then_exit <| au_then_exit <| au_block_exit <| au_then <| sq <| wp_ret ?_
  exact bX (.tuple #[.slice (some ⟨g1, 0, none⟩) n n, .int .i64 0]) ⟨g1, rfl, (M.ge _ (List.mem_of_getElem? (i := 0) rfl)).elim id (fun h => by cases h), by rw [← ch_av]; exact M.get 0 rfl, below_grown M.old⟩
end Go.Proofs.YtiahdbibeleakaaGreatDoor.Bla
namespace Go.Proofs.YtiahdbibeleakaaGreatDoor.Mon
open Go.RowKit
section
variable {P : Program} {ops : Array Oper} {md : Region.Mode} {C : World → Prop}
def HeadQ (P : Program) (md : Region.Mode) (ops : Array Oper) (C : World → Prop) (n : Nat) (L : Array Bool → Act → Prop) : Nat → Array Bool → Act → Prop
 | 0, done, a => L done a
 | f + 1, done, a => Region.ready md ops done ≠ [] ∧ ∀ i ∈ Region.ready md ops done, i < n ∧ qOp P ops C i (HeadQ P md ops C n L f (done.setIfInBounds i true)) a
theorem HeadQ.any {n g : Nat} {L : Array Bool → Act → Prop} {Q : Exit → Act → World → Prop} (hL : ∀ done a w, C w → L done a → wpAny P md ops Q g done a w) :
  ∀ (f : Nat) (done : Array Bool) (a : Act) (w : World), C w → HeadQ P md ops C n L f done a → wpAny P md ops Q (f + g) done a w := by
 intro f
 induction f with
 | zero =>
  intro done a w hw h
  rw [Nat.zero_add]
  exact hL done a w hw h
 | succ f ih =>
  intro done a w hw h
  have e : f + 1 + g = (f + g) + 1 := by omega
  rw [e]
  exact ⟨fun h0 => absurd h0 h.1, fun i hi => wpOp_of_qOp hw (fun a' w' hw' h' => ih _ a' w' hw' h') (h.2 i hi).2⟩
theorem HeadQ.first {n i : Nat} {oi : Oper} {v : Value} {L : Array Bool → Act → Prop} (hi : ops[i]? = some oi) (hsel : ∀ (j : Nat) (o : Oper) cs b, ops[j]? = some o → o.op ≠ .select cs b)
  (hs : Region.sinkB md ops n = true) (hc : Region.chainB md ops n = true) (hn : n < ops.size) (hin : i < n) (hend : ∀ done a, L done a → ∀ j ∈ Region.ready md ops done, n ≤ j) :
  ∀ (f : Nat) (done : Array Bool) (a : Act), HeadInv md ops n done →
   (∀ j oj, ops[j]? = some oj → j ≠ i → done.getD j true = false → (∀ e ∈ oj.after, Region.binds md e = true → e.on ≠ i) → oi.apart ops oj = true) →
   i ∈ Region.ready md ops done → YieldsIn P ops C oi v a → HeadQ P md ops C n L f (done.setIfInBounds i true) (a.put oi.dst v) → HeadQ P md ops C n L (f + 1) done a := by
 intro f
 induction f with
 | zero =>
  intro done a inv _ hr hy H
  refine ⟨fun h => (by rw [h] at hr; cases hr), fun j hj => ?_⟩
  have hjn : j < n := Nat.lt_of_not_le fun h => tail_waits hs hc hn inv _ i rfl hin (mem_ready.1 hr).1 j h hj
  refine ⟨hjn, ?_⟩
  by_cases hji : j = i
  ·subst hji
   exact hy.qOp hi H
  ·have := hend _ _ H j (ready_mono hj hji)
   omega
 | succ f ih =>
  intro done a inv hfree hr hy H
  have hun := (mem_ready.1 hr).1
  refine ⟨fun h => (by rw [h] at hr; cases hr), fun j hj => ?_⟩
  have hjn : j < n := Nat.lt_of_not_le fun h => tail_waits hs hc hn inv _ i rfl hin hun j h hj
  refine ⟨hjn, ?_⟩
  by_cases hji : j = i
  ·subst hji
   exact hy.qOp hi H
  ·obtain ⟨hjun, oj, hoj, hall⟩ := mem_ready.1 hj
   have hno : ∀ e ∈ oj.after, Region.binds md e = true → e.on ≠ i := by
    intro e he hb heq
    have h1 := hall e he hb
    rw [heq, getD_both hun] at h1
    cases h1
   have h2 := qOp_put hoj (hfree j oj hoj hji hjun hno) (fun cs b => hsel i oi cs b hi) (fun cs b => hsel j oj cs b hoj) hy (H.2 j (ready_mono hj hji)).2
   refine qOp_mono (fun a' h3 => ih (done.setIfInBounds j true) a' (inv.set hj hjn) ?_ (ready_mono hr (Ne.symm hji)) h3.1 ?_) h2
   ·intro k ok hk hki hku hkn
    refine hfree k ok hk hki ?_ hkn
    by_cases hjk : j = k
    ·subst hjk
     exact hjun
    ·rw [getD_set_ne true hjk] at hku
     exact hku
   ·rw [Array.setIfInBounds_comm _ _ hji]
    exact h3.2
theorem HeadQ.lex {n g : Nat} {K : Act → Prop} (hsel : Region.noSelect ops = true) (hs : Region.sinkB md ops n = true) (hc : Region.chainB md ops n = true) (hn : n < ops.size) (l : List Oper) :
  ∀ (k : Nat) (done : Array Bool) (a : Act), (∀ j, j < l.length → l[j]? = ops[k + j]?) → k + l.length = n → HeadInv md ops n done →
  Region.lexHead md ops g l.length k done = true → wpQuiet P ops C K l a → HeadQ P md ops C n (fun d a' => Region.seqB md ops g n d = true ∧ K a') l.length done a := by
 induction l with
 | nil =>
  intro k done a _ hk _ hB h
  have e : k = n := by simpa using hk
  subst e
  exact ⟨by simpa [Region.lexHead] using hB, h⟩
 | cons o l ih =>
  intro k done a hl hk inv hB h
  have h0 : ops[k]? = some o := by simpa using (hl 0 (by simp)).symm
  simp only [List.length_cons, Region.lexHead, Bool.and_eq_true] at hB
  simp only [List.length_cons] at hk
  have hr : k ∈ Region.ready md ops done := by simpa using hB.1.1
  have hq : qOp P ops C k (wpQuiet P ops C K l) a := by
   unfold qOp
   simp only [h0]
   exact h
  obtain ⟨v, hy, hK⟩ := yieldsIn_of_qOp h0 hq
  refine HeadQ.first h0 (Region.noSelect_spec hsel) hs hc hn (by omega) (fun d a' hL => seqB_ready hL.1) l.length done a inv (Region.free_spec h0 hB.1.2) hr hy ?_
  refine ih (k + 1) _ _ (fun j hj => ?_) (by omega) (inv.set hr (by omega)) hB.2 hK
  have := hl (j + 1) (by simp; omega)
  simpa [Nat.add_assoc, Nat.add_comm 1 j] using this
theorem wp_region_quiet_tail {id : Nat} {Q : Exit → Act → World → Prop} {a : Act} {w : World} {l : List Oper} (n : Nat) (hm : P.follows .mixedOrders = true) (hB : Region.lexTailB .any l.toArray n = true) (hC : C { w with drawn := w.drawn + 1 })
  (h : wpQuiet P l.toArray C (fun a' => ∀ w', C w' → wpList P l.toArray Q (l.drop n) a' w') (l.take n) a) : (Code.region id l.toArray true).wp P Q a w := by
 simp only [Region.lexTailB, Bool.and_eq_true, decide_eq_true_eq] at hB
 obtain ⟨⟨⟨⟨hsel, hn⟩, hs⟩, hc⟩, hlex⟩ := hB
 have hn' : n < l.length := by simpa using hn
 have htl : (l.take n).length = n := by simp; omega
 have hdl : (l.drop n).length = l.toArray.size - n := by simp
 have inv : HeadInv .any l.toArray n (Array.replicate l.toArray.size false) :=
  ⟨by simp, fun j oj _ hl => (by rw [getD_replicate_false] at hl; cases hl), fun t _ ht => getD_in (by simpa using ht) (getD_replicate_false _ _)⟩
 have H := HeadQ.lex (md := .any) (g := l.toArray.size - n) hsel hs hc hn (l.take n) 0 _ a (fun j hj => by rw [htl] at hj; simp [hj]) (by simpa using htl) inv (by rw [htl]; exact hlex) h
 refine wp_region_any hm ?_
 have H2 := HeadQ.any (Q := Q) (g := l.toArray.size - n) (fun done a' w' hw' hL => by
  have := wpAny_of_seq (md := .any) (Q' := Q) (l.drop n) n done a' w' (fun j => by simp [List.getElem?_drop]) (by rw [hdl]; exact hL.1) (hL.2 w' hw')
  rwa [hdl] at this) _ _ _ _ hC H
 rw [htl, show n + (l.toArray.size - n) = l.toArray.size by omega] at H2
 exact H2
structure KW (W : World) where
 w : World
 keep : Below W.heap.size W w
def KW.next {W : World} (s : KW W) (w' : World) (h : Below s.w.heap.size s.w w') : KW W := ⟨w', s.keep.trans (h.mono s.keep.size)⟩
theorem KW.drew (W : World) : ∃ s : KW W, ({ W with drawn := W.drawn + 1 } : World) = s.w := ⟨⟨W.drew, (Below.refl _ _).drew⟩, rfl⟩
theorem keep_of {W : World} {s : KW W} {f : FuncId} {args : Array Value} {v : Value}
  (h : Calls P f args s.w fun e w' => e = .returned v ∧ Below s.w.heap.size s.w w') : Calls P f args s.w fun e w'' => e = .returned v ∧ ∃ t : KW W, w'' = t.w :=
 h.mono fun _ w' ⟨he, hb⟩ => ⟨he, s.next w' hb, rfl⟩
theorem wp_region_keep {id : Nat} {Q : Exit → Act → World → Prop} {a : Act} {w : World} {l : List Oper} (hm : P.follows .mixedOrders = true) (hB : Region.lexB .any l.toArray = true)
  (h : wpQuiet P l.toArray (fun w' => ∃ s : KW w, w' = s.w) (fun a' => ∀ s : KW w, Q .normal a' s.w) l a) : (Code.region id l.toArray true).wp P Q a w := by
 refine wp_region_quiet (C := fun w' => ∃ s : KW w, w' = s.w) hm hB (KW.drew w) ?_
 have e : (fun a' => ∀ w', (∃ s : KW w, w' = s.w) → Q .normal a' w') = fun a' => ∀ s : KW w, Q .normal a' s.w := by
  funext a'
  exact propext ⟨fun h s => h _ ⟨s, rfl⟩, fun h w' ⟨s, hs⟩ => hs ▸ h s⟩
 rw [e]
 exact h
theorem wp_region_keep_tail {id : Nat} {Q : Exit → Act → World → Prop} {a : Act} {w : World} {l : List Oper} (n : Nat) (hm : P.follows .mixedOrders = true) (hB : Region.lexTailB .any l.toArray n = true)
  (h : wpQuiet P l.toArray (fun w' => ∃ s : KW w, w' = s.w) (fun a' => ∀ s : KW w, wpList P l.toArray Q (l.drop n) a' s.w) (l.take n) a) : (Code.region id l.toArray true).wp P Q a w := by
 refine wp_region_quiet_tail (C := fun w' => ∃ s : KW w, w' = s.w) n hm hB (KW.drew w) ?_
 have e : (fun a' => ∀ w', (∃ s : KW w, w' = s.w) → wpList P l.toArray Q (l.drop n) a' w') = fun a' => ∀ s : KW w, wpList P l.toArray Q (l.drop n) a' s.w := by
  funext a'
  exact propext ⟨fun h s => h _ ⟨s, rfl⟩, fun h w' ⟨s, hs⟩ => hs ▸ h s⟩
 rw [e]
 exact h
theorem quiet_load_row {o : Oper} {a : Act} {K : Act → Prop} (ty : TypeId) (x : Operand) (ho : o.op = .load ty x) (g : Nat) (hx : a.eval x = .pointer (some ⟨g, 0, none⟩)) (t : TypeId) (cs : Array Value) (fr : Nat × Nat) (d : TypeDesc)
  (hg : ∀ w, C w → w.heap[g]? = some (.cells cs t fr)) (hu : P.underlying ty = some d) (hd : (match d with | .struct _ | .array _ _ => true | _ => false) = true) (hi : (P.info? ty).map (·.size) = some cs.size)
  (hk : K (a.put o.dst (.agg cs))) : o.quiet P a C K := by
 refine ⟨.agg cs, fun w hw => ?_, hk⟩
 unfold Oper.quietAt execOp
 simp only [ho, hx, Instr.loadAt, Instr.sureAddr, Sem.run_bind, Sem.run_pure, Result.andThen_ok, run_loadVar_row w g t ty cs fr d (hg w hw) hu hd hi]
 exact ⟨rfl, rfl⟩
end
end Go.Proofs.YtiahdbibeleakaaGreatDoor.Mon
