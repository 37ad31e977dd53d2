/- What the parts of the document mean; both tags are one. -/
import Derived.Test.YtenafinbaanicaaDoorP6
import Derived.Test.YtenafinbaanicaaDoorP9
namespace Go.Proofs.YtenafinbaanicaaDoor.Pol
open Go.RowKit

theorem q18 : (256 : Int) ^ 18 = 22300745198530623141535718272648361505980416 := by decide
theorem q17 : (256 : Int) ^ 17 = 87112285931760246646623899502532662132736 := by decide
/-- What stands ahead of the sixteenth part. -/
theorem V18 (s : Nat → Int) : V 256 18 s = V 256 16 s + s 16 * 340282366920938463463374607431768211456 + s 17 * 87112285931760246646623899502532662132736 := by
  have : V 256 18 s = V 256 16 s + s 16 * 256 ^ 16 + s 17 * 256 ^ 17 := rfl
  rw [this, p256, q17]
/-- One round: what is at 2^130 or above comes round by 5. -/
theorem d1_val (a : Nat → Int) (h : ∀ i, i < 18 → 0 ≤ a i ∧ a i < 1099511627776) : V 256 18 (d1 a) = V 256 18 a % 1361129467683753853853498429727072845824 + 5 * (V 256 18 a / 1361129467683753853853498429727072845824) ∧ (∀ i, i < 18 → 0 ≤ d1 a i ∧ d1 a i < 256 + 5 * (V 256 18 a / 1361129467683753853853498429727072845824)) ∧ 0 ≤ V 256 18 a / 1361129467683753853853498429727072845824 ∧ V 256 18 a / 1361129467683753853853498429727072845824 < 144115188075855872 := by
  have C := chain8 a 18 (fun i hi => by have := h i hi; omega)
  have D := C.dig
  have s16 := D 16 (by decide)
  have s17 := D 17 (by decide)
  have s0 := D 0 (by decide)
  have n0 := V_nn 256 (by decide) 18 a (fun i hi => (h i hi).1)
  have n1 := V_le 256 (by decide) 4311810306 (by decide) 18 a (fun i hi => by have := h i hi; omega)
  rw [q18] at n1
  have c0 := C.c0
  have hv := C.val
  rw [q18, V18] at hv
  have l0 := V_nn 256 (by decide) 16 (st 255 8 a 18) (fun i hi => (D i (by omega)).1)
  have l1 := V_lt 256 (by decide) 16 (st 255 8 a 18) (fun i hi => (D i (by omega)).2)
  rw [p256] at l1
  have et : dtop a = st 255 8 a 18 16 / 4 + st 255 8 a 18 17 * 64 + cy 8 a 18 * 16384 := by
    have cb : cy 8 a 18 < 281474976710656 := by omega
    have t1 : sl (st 255 8 a 18 17) 6 = st 255 8 a 18 17 * 64 := sl_eq _ 6 (by omega) (by omega)
    have t2 : uo (st 255 8 a 18 16 / 4) (st 255 8 a 18 17 * 64) = st 255 8 a 18 16 / 4 + st 255 8 a 18 17 * 64 := uo_add 6 _ _ (by omega) (by show _ < (64 : Int); omega) (by omega) (by show _ + _ * (64 : Int) < _; omega)
    have t3 : sl (cy 8 a 18) 14 = cy 8 a 18 * 16384 := sl_eq _ 14 (by omega) (by omega)
    show uo (uo (sr (st 255 8 a 18 16) 2) (sl (st 255 8 a 18 17) 6)) (sl (cy 8 a 18) 14) = _
    rw [sr2, t1, t2, t3]
    exact uo_add 14 _ _ (by omega) (by show _ < (16384 : Int); omega) (by omega) (by show _ + _ * (16384 : Int) < _; omega)
  have eq : dtop a = V 256 18 a / 1361129467683753853853498429727072845824 := by
    rw [et, ← hv]
    omega
  have q0 : 0 ≤ V 256 18 a / 1361129467683753853853498429727072845824 := by omega
  have q1 : V 256 18 a / 1361129467683753853853498429727072845824 < 144115188075855872 := by omega
  have e0 : d0 a = upd (upd (st 255 8 a 18) 16 (st 255 8 a 18 16 % 4)) 17 0 := by
    show upd (upd (st 255 8 a 18) 16 (un (st 255 8 a 18 16) 3)) 17 0 = _
    rw [un2 _ s16.1 (by omega)]
  have e00 : d0 a 0 = st 255 8 a 18 0 := by
    rw [e0, up_ne _ _ _ (by decide), up_ne _ _ _ (by decide)]
  have e1 : d1 a = upd (d0 a) 0 (st 255 8 a 18 0 + 5 * (V 256 18 a / 1361129467683753853853498429727072845824)) := by
    unfold d1
    rw [eq, e00]
    generalize V 256 18 a / 1361129467683753853853498429727072845824 = q at *
    rw [um_eq 5 q (by omega) (by omega), ua_eq _ _ (by omega) (by omega)]
  refine ⟨?_, ?_, q0, q1⟩
  · rw [e1, V0 _ _ _ _ (by decide), e00, e0, V_upd _ 18 _ _ _ (by decide), V_upd _ 18 _ _ _ (by decide), up_ne _ _ _ (by decide), V18, p256, q17, ← hv]
    generalize st 255 8 a 18 16 = x at *
    generalize st 255 8 a 18 17 = y at *
    generalize cy 8 a 18 = z at *
    generalize V 256 16 (st 255 8 a 18) = l at *
    omega
  · intro i hi
    have d := D i hi
    rw [e1]
    by_cases c : i = 0
    · subst c
      rw [up_at]
      omega
    · rw [up_ne _ _ _ c, e0]
      by_cases c2 : i = 17
      · subst c2
        rw [up_at]
        omega
      · rw [up_ne _ _ _ c2]
        by_cases c3 : i = 16
        · subst c3
          rw [up_at]
          omega
        · rw [up_ne _ _ _ c3]
          omega
/-- Parts of the document's number. -/
structure DGood (h : Nat → Int) : Prop where
  part : ∀ i, i < 18 → 0 ≤ h i ∧ h i < 256
  lt : V 256 18 h < 1361129467683753853853498429727072845824
theorem DGood.nn {h : Nat → Int} (g : DGood h) : 0 ≤ V 256 18 h := V_nn _ (by decide) 18 h (fun i hi => (g.part i hi).1)
theorem dc_val (a : Nat → Int) (h : ∀ i, i < 18 → 0 ≤ a i ∧ a i < 4096) : DGood (dcF a) ∧ ∃ k, V 256 18 a = V 256 18 (dcF a) + k * 1361129467683753853853498429727072845819 := by
  have n0 := V_nn 256 (by decide) 18 a (fun i hi => (h i hi).1)
  have n1 := V_le 256 (by decide) 17 (by decide) 18 a (fun i hi => by have := h i hi; omega)
  rw [q18] at n1
  obtain ⟨a1, a2, a3, a4⟩ := d1_val a (fun i hi => by have := h i hi; omega)
  have q1 : V 256 18 a / 1361129467683753853853498429727072845824 < 1048576 := by omega
  obtain ⟨b1, b2, b3, b4⟩ := d1_val (d1 a) (fun i hi => by have := a2 i hi; omega)
  rw [a1] at b1 b2 b3
  have q2 : (V 256 18 a % 1361129467683753853853498429727072845824 + 5 * (V 256 18 a / 1361129467683753853853498429727072845824)) / 1361129467683753853853498429727072845824 ≤ 1 := by
    generalize V 256 18 a = v at *
    omega
  obtain ⟨c1, c2, c3, c4⟩ := d1_val (d1 (d1 a)) (fun i hi => by have := b2 i hi; omega)
  have l2 : V 256 18 (d1 (d1 a)) < 1361129467683753853853498429727072845824 := by
    rw [b1]
    generalize V 256 18 a = v at *
    omega
  have n2 : 0 ≤ V 256 18 (d1 (d1 a)) := V_nn 256 (by decide) 18 _ (fun i hi => (b2 i hi).1)
  have e3 : V 256 18 (d1 (d1 (d1 a))) = V 256 18 (d1 (d1 a)) := by
    rw [c1]
    omega
  have C := chain8 (d1 (d1 (d1 a))) 18 (fun i hi => by have := c2 i hi; omega)
  have hc := (C.cut (by decide)).2
  rw [q18, e3, Int.emod_eq_of_lt n2 (by omega)] at hc
  have e4 : V 256 18 (dcF a) = V 256 18 (d1 (d1 a)) := hc
  refine ⟨⟨C.dig, by rw [e4]; exact l2⟩, V 256 18 a / 1361129467683753853853498429727072845824 + (V 256 18 a % 1361129467683753853853498429727072845824 + 5 * (V 256 18 a / 1361129467683753853853498429727072845824)) / 1361129467683753853853498429727072845824, ?_⟩
  rw [e4, b1]
  generalize V 256 18 a = v at *
  omega
theorem dlo_at (T : Nat → Int) : ∀ n k, dlo T n k = if k < n then T k else 0
  | 0, k => by rw [if_neg (by omega)]; rfl
  | n + 1, k => by
    unfold dlo
    by_cases e : k = n
    · subst e
      rw [up_at, if_pos (by omega)]
    · rw [up_ne _ _ _ e, dlo_at T n k]
      by_cases h : k < n
      · rw [if_pos h, if_pos (by omega)]
      · rw [if_neg h, if_neg (by omega)]
theorem dhi_at (T : Nat → Int) : ∀ n k, dhi T n k = if k < n then uo (sr (T (16 + k)) 2) (un (sl (T (17 + k)) 6) 255) else 0
  | 0, k => by rw [if_neg (by omega)]; rfl
  | n + 1, k => by
    unfold dhi
    by_cases e : k = n
    · subst e
      rw [up_at, if_pos (by omega)]
    · rw [up_ne _ _ _ e, dhi_at T n k]
      by_cases h : k < n
      · rw [if_pos h, if_pos (by omega)]
      · rw [if_neg h, if_neg (by omega)]
theorem hi_val (x y : Int) (hx : 0 ≤ x ∧ x < 256) (hy : 0 ≤ y ∧ y < 256) : uo (sr x 2) (un (sl y 6) 255) = x / 4 + (y % 4) * 64 := by
  have t1 : sl y 6 = y * 64 := sl_eq _ 6 (by omega) (by omega)
  rw [sr2, t1, un8 _ (by omega) (by omega), show y * 64 % 256 = (y % 4) * 64 by omega]
  exact uo_add 6 _ _ (by omega) (by show _ < (64 : Int); omega) (by omega) (by show _ + _ * (64 : Int) < _; omega)
/-- The digits above bit 130. -/
theorem hi_sum (T : Nat → Int) : ∀ n, 4 * V 256 n (fun k => T (16 + k) / 4 + (T (17 + k) % 4) * 64) = V 256 n (fun k => T (16 + k)) - T 16 % 4 + 256 ^ n * (T (16 + n) % 4)
  | 0 => by
    simp [V]
    omega
  | n + 1 => by
    have ih := hi_sum T n
    unfold V
    simp only
    rw [Int.mul_add, ih, Int.pow_succ, show 16 + (n + 1) = 17 + n by omega]
    have e := Int.emod_add_mul_ediv (T (16 + n)) 4
    generalize T (16 + n) % 4 = r at *
    generalize T (16 + n) / 4 = q at *
    rw [← e]
    grind
theorem dl3_at (T : Nat → Int) : ∀ n k, dl3 T n k = if k < n then ua (dl2 T k) (um 5 (dhi T 17 k)) else dl2 T k
  | 0, k => by rw [if_neg (by omega)]; rfl
  | n + 1, k => by
    unfold dl3
    by_cases e : k = n
    · subst e
      rw [up_at, dl3_at T k k, if_neg (by omega), if_pos (by omega)]
    · rw [up_ne _ _ _ e, dl3_at T n k]
      by_cases h : k < n
      · rw [if_pos h, if_pos (by omega)]
      · rw [if_neg h, if_neg (by omega)]
/-- The document's product. -/
theorem dt_val (x y : Nat → Int) (gx : DGood x) (gy : DGood y) : DGood (dtF x y) ∧ ∃ k, V 256 18 x * V 256 18 y = V 256 18 (dtF x y) + k * 1361129467683753853853498429727072845819 := by
  obtain ⟨h1, h2⟩ := tp_val 256 36 18 x y (fun i j hi hj => by omega) 65536 (by decide) (by decide) (fun i j hi hj => by
    have a := gx.part i hi
    have c := gy.part j hj
    exact ⟨Int.mul_nonneg a.1 c.1, Int.mul_le_mul (show x i ≤ 256 by omega) (show y j ≤ 256 by omega) c.1 (by decide)⟩) 18 (Nat.le_refl _)
  have C := chain8 (tp 18 x y 18) 36 (fun i _ => by have := h1 i; omega)
  have D := C.dig
  have w0 : 0 ≤ V 256 18 x * V 256 18 y := Int.mul_nonneg gx.nn gy.nn
  have w1 : V 256 18 x * V 256 18 y ≤ 1361129467683753853853498429727072845824 * 1361129467683753853853498429727072845824 := Int.mul_le_mul (Int.le_of_lt gx.lt) (Int.le_of_lt gy.lt) gy.nn (by decide)
  have q33 : (256 : Int) ^ 33 = 1361129467683753853853498429727072845824 * 1361129467683753853853498429727072845824 * 16 := by decide
  have q36 : (256 : Int) ^ 36 = 1361129467683753853853498429727072845824 * 1361129467683753853853498429727072845824 * 268435456 := by decide
  have hc := (C.cut (by decide)).2
  rw [h2, q36, Int.emod_eq_of_lt w0 (by omega)] at hc
  have hT : V 256 36 (dT x y) = V 256 18 x * V 256 18 y := hc
  have hd : ∀ i, i < 36 → 0 ≤ dT x y i ∧ dT x y i < 256 := D
  clear hc D C h1 h2
  unfold dtF
  rw [← hT]
  generalize dT x y = T at *
  have s1 := V_split 256 33 3 T
  have s1' : V 256 36 T = V 256 33 T + 256 ^ 33 * V 256 3 (fun i => T (33 + i)) := s1
  have z0 := V_nn 256 (by decide) 3 (fun i => T (33 + i)) (fun i hi => (hd (33 + i) (by omega)).1)
  have z1 := V_nn 256 (by decide) 33 T (fun i hi => (hd i (by omega)).1)
  have z2 : V 256 3 (fun i => T (33 + i)) = 0 := by
    rw [q33] at s1'
    omega
  have z3 : T 33 = 0 := by
    have e : V 256 3 (fun i => T (33 + i)) = 0 + T 33 * 256 ^ 0 + T 34 * 256 ^ 1 + T 35 * 256 ^ 2 := rfl
    have a := hd 33 (by decide)
    have b := hd 34 (by decide)
    have c := hd 35 (by decide)
    rw [z2] at e
    simp at e
    omega
  rw [z2, Int.mul_zero, Int.add_zero] at s1'
  have s2 := V_split 256 16 17 T
  have s2' : V 256 33 T = V 256 16 T + 256 ^ 16 * V 256 17 (fun i => T (16 + i)) := s2
  have hs := hi_sum T 17
  rw [show T (16 + 17) = 0 from z3] at hs
  have t16 := hd 16 (by decide)
  have ehi : ∀ k, k < 17 → dhi T 17 k = T (16 + k) / 4 + (T (17 + k) % 4) * 64 := fun k hk => by
    rw [dhi_at, if_pos hk, hi_val _ _ (hd (16 + k) (by omega)) (hd (17 + k) (by omega))]
  have hhi : ∀ k, k < 18 → 0 ≤ dhi T 17 k ∧ dhi T 17 k < 256 := fun k hk => by
    by_cases c : k < 17
    · have a := hd (16 + k) (by omega)
      rw [ehi k c]
      omega
    · rw [dhi_at, if_neg c]
      decide
  have hlo : ∀ k, k < 18 → 0 ≤ dl2 T k ∧ dl2 T k < 256 := fun k hk => by
    unfold dl2
    by_cases c : k = 16
    · subst c
      rw [up_at, dlo_at, if_pos (by decide), un2 _ t16.1 (by omega)]
      omega
    · rw [up_ne _ _ _ c, dlo_at]
      split
      · exact hd k (by omega)
      · decide
  have e3 : ∀ k, k < 18 → dl3 T 18 k = dl2 T k + 5 * dhi T 17 k := fun k hk => by
    have a := hlo k hk
    have b := hhi k hk
    rw [dl3_at, if_pos hk, um_eq _ _ (by omega) (by omega), ua_eq _ _ (by omega) (by omega)]
  obtain ⟨g, k, hk⟩ := dc_val (dl3 T 18) (fun i hi => by
    have a := hlo i hi
    have b := hhi i hi
    rw [e3 i hi]
    omega)
  refine ⟨g, k + V 256 17 (fun k => T (16 + k) / 4 + (T (17 + k) % 4) * 64), ?_⟩
  have f1 : V 256 18 (dhi T 17) = V 256 17 (fun k => T (16 + k) / 4 + (T (17 + k) % 4) * 64) := by
    have : V 256 18 (dhi T 17) = V 256 17 (dhi T 17) + dhi T 17 17 * 256 ^ 17 := rfl
    rw [this, V_congr 256 17 _ _ ehi, dhi_at, if_neg (by decide)]
    omega
  have f2 : V 256 18 (dl2 T) = V 256 16 T + (T 16 % 4) * 340282366920938463463374607431768211456 := by
    unfold dl2
    rw [V_upd _ 18 _ _ _ (by decide), p256, V18, V_congr 256 16 (dlo T 17) T (fun i hi => by rw [dlo_at, if_pos (by omega)]), dlo_at, dlo_at, if_pos (by decide), if_neg (by decide), un2 _ t16.1 (by omega)]
    omega
  have f3 : V 256 18 (dl3 T 18) = V 256 18 (dl2 T) + 5 * V 256 18 (dhi T 17) := by
    rw [V_congr 256 18 _ (fun k => dl2 T k + 5 * dhi T 17 k) e3, V_add, V_mul]
  rw [p256] at s2'
  rw [f2, f1, hk] at f3
  rw [s1', s2']
  generalize V 256 17 (fun i => T (16 + i)) = u at *
  generalize V 256 17 (fun k => T (16 + k) / 4 + (T (17 + k) % 4) * 64) = z at *
  omega
/-- The document's number at the end. -/
theorem dw_val (a : Nat → Int) (g : DGood a) : (∀ i, i < 18 → 0 ≤ dwF a i ∧ dwF a i < 256) ∧ V 256 18 (dwF a) = V 256 18 a % 1361129467683753853853498429727072845819 := by
  obtain ⟨gc, k, hk⟩ := dc_val a (fun i hi => by have := g.part i hi; omega)
  have n0 := gc.nn
  have n1 := gc.lt
  have p0 := gc.part 0 (by decide)
  have e1 : dg a = upd (dcF a) 0 (dcF a 0 + 5) := by
    unfold dg
    rw [ua_eq _ _ (by omega) (by omega)]
  have vg : V 256 18 (dg a) = V 256 18 (dcF a) + 5 := by
    rw [e1, V0 _ _ _ _ (by decide)]
    omega
  have C := chain8 (dg a) 18 (fun i hi => by
    have := gc.part i hi
    rw [e1]
    by_cases c : i = 0
    · subst c
      rw [up_at]
      omega
    · rw [up_ne _ _ _ c]
      omega)
  have hc := (C.cut (by decide)).2
  rw [q18, vg, Int.emod_eq_of_lt (by omega) (by omega)] at hc
  have hG : V 256 18 (dG a) = V 256 18 (dcF a) + 5 := hc
  have D : ∀ i, i < 18 → 0 ≤ dG a i ∧ dG a i < 256 := C.dig
  have s16 := D 16 (by decide)
  have s17 := D 17 (by decide)
  have l0 := V_nn 256 (by decide) 16 (dG a) (fun i hi => (D i (by omega)).1)
  have l1 := V_lt 256 (by decide) 16 (dG a) (fun i hi => (D i (by omega)).2)
  rw [p256] at l1
  have hv := V18 (dG a)
  rw [hG] at hv
  have em : V 256 18 a % 1361129467683753853853498429727072845819 = V 256 18 (dcF a) % 1361129467683753853853498429727072845819 := by
    rw [hk, Int.add_mul_emod_self_right]
  rw [em]
  unfold dwF
  by_cases c : 4 ≤ dG a 16
  · rw [if_pos c, un2 _ s16.1 (by omega)]
    have e4 : dG a 16 = 4 := by omega
    refine ⟨fun i hi => ?_, ?_⟩
    · by_cases c2 : i = 16
      · subst c2
        rw [up_at]
        omega
      · rw [up_ne _ _ _ c2]
        exact D i hi
    · rw [V_upd _ 18 _ _ _ (by decide), hG, e4, p256]
      omega
  · rw [if_neg c]
    refine ⟨gc.part, ?_⟩
    rw [Int.emod_eq_of_lt n0 (by omega)]
theorem rk_at (key : ByteArray) : ∀ n i, rk key n i = if i < n then bt key i else 0
  | 0, i => by rw [if_neg (by omega)]; rfl
  | n + 1, i => by
    have := bt_nn key n
    unfold rk
    by_cases e : i = n
    · subst e
      rw [up_at, if_pos (by omega), cv64_eq _ this.1 (by omega)]
    · rw [up_ne _ _ _ e, rk_at key n i]
      by_cases h : i < n
      · rw [if_pos h, if_pos (by omega)]
      · rw [if_neg h, if_neg (by omega)]
theorem un15 (x : Int) (h : 0 ≤ x ∧ x < 256) : un x 15 = x % 16 := un4 x h.1 (by omega)
theorem un252 (x : Int) (h0 : 0 ≤ x ∧ x < 256) : un x 252 = x - x % 4 := by
  have h : ∀ n : Nat, n < 256 → un (n : Int) 252 = (n : Int) - (n : Int) % 4 := by decide +kernel
  have := h x.toNat (by omega)
  rwa [show ((x.toNat : Nat) : Int) = x by omega] at this
theorem dr_at (key : ByteArray) (i : Nat) (hi : i < 18) : drF key i = pd (rB (bt key)) 16 i := by
  have hb := bt_nn key
  have e : ∀ k, k < 16 → rk key 16 k = bt key k := fun k hk => by rw [rk_at, if_pos hk]
  have e2 : ∀ k, ¬ k < 16 → rk key 16 k = 0 := fun k hk => by rw [rk_at, if_neg hk]
  have x15 : ∀ k, k < 16 → un (rk key 16 k) 15 = bt key k % 16 := fun k hk => by rw [e k hk, un15 _ (hb k)]
  have x3 : ∀ k, k < 16 → un (rk key 16 k) 252 = bt key k - bt key k % 4 := fun k hk => by rw [e k hk, un252 _ (hb k)]
  unfold drF dm2 dm1
  generalize rk key 16 = f at *
  have hc : i = 0 ∨ i = 1 ∨ i = 2 ∨ i = 3 ∨ i = 4 ∨ i = 5 ∨ i = 6 ∨ i = 7 ∨ i = 8 ∨ i = 9 ∨ i = 10 ∨ i = 11 ∨ i = 12 ∨ i = 13 ∨ i = 14 ∨ i = 15 ∨ i = 16 ∨ i = 17 := by omega
  rcases hc with rfl | rfl | rfl | rfl | rfl | rfl | rfl | rfl | rfl | rfl | rfl | rfl | rfl | rfl | rfl | rfl | rfl | rfl
  · exact e 0 (by decide)
  · exact e 1 (by decide)
  · exact e 2 (by decide)
  · exact x15 3 (by decide)
  · exact x3 4 (by decide)
  · exact e 5 (by decide)
  · exact e 6 (by decide)
  · exact x15 7 (by decide)
  · exact x3 8 (by decide)
  · exact e 9 (by decide)
  · exact e 10 (by decide)
  · exact x15 11 (by decide)
  · exact x3 12 (by decide)
  · exact e 13 (by decide)
  · exact e 14 (by decide)
  · exact x15 15 (by decide)
  · exact e2 16 (by decide)
  · exact e2 17 (by decide)
theorem dr_val (key : ByteArray) : DGood (drF key) ∧ V 256 18 (drF key) = V 256 16 (rB (bt key)) := by
  have e := dr_at key
  have h : V 256 18 (drF key) = V 256 16 (rB (bt key)) := by rw [V_congr 256 18 _ _ e, V_pd _ _ _ 18 (by decide)]
  have l1 := V_lt 256 (by decide) 16 (rB (bt key)) (fun i _ => (rB_nn _ (bt_nn key) i).2)
  rw [p256] at l1
  exact ⟨⟨fun i hi => by rw [e i hi]; exact pd_nn _ _ (rB_nn _ (bt_nn key)) i, by rw [h]; omega⟩, h⟩
theorem dpa_at (h : Nat → Int) (p : ByteArray) : ∀ n i, dpa h p n i = if i < n then ua (h i) (cv .u64 (bt p i)) else h i
  | 0, i => by rw [if_neg (by omega)]; rfl
  | n + 1, i => by
    unfold dpa
    by_cases e : i = n
    · subst e
      rw [up_at, dpa_at h p i i, if_neg (by omega), if_pos (by omega)]
    · rw [up_ne _ _ _ e, dpa_at h p n i]
      by_cases c : i < n
      · rw [if_pos c, if_pos (by omega)]
      · rw [if_neg c, if_neg (by omega)]
theorem dpp_val (h : Nat → Int) (g : DGood h) (p : ByteArray) (hp : p.size ≤ 16) : (∀ i, i < 18 → 0 ≤ dpp h p i ∧ dpp h p i < 4096) ∧ V 256 18 (dpp h p) = V 256 18 h + qN (bt p) p.size := by
  have e : ∀ i, i < 18 → dpa h p p.size i = h i + pd (bt p) p.size i := fun i hi => by
    have a := g.part i hi
    have b := bt_nn p i
    rw [dpa_at]
    unfold pd
    split
    · rw [cv64_eq _ b.1 (by omega), ua_eq _ _ (by omega) (by omega)]
    · rw [Int.add_zero]
  have hn := g.part p.size (by omega)
  have en : dpa h p p.size p.size = h p.size := by
    rw [dpa_at, if_neg (by omega)]
  have e2 : dpp h p = upd (dpa h p p.size) p.size (h p.size + 1) := by
    unfold dpp
    rw [en, ua_eq _ _ (by omega) (by omega)]
  refine ⟨fun i hi => ?_, ?_⟩
  · have a := g.part i hi
    have b := pd_nn (bt p) p.size (bt_nn p) i
    rw [e2]
    by_cases c : i = p.size
    · rw [c, up_at]
      omega
    · rw [up_ne _ _ _ c, e i hi]
      omega
  · rw [e2, V_upd _ 18 _ _ _ (by omega), en, V_congr 256 18 _ (fun i => h i + pd (bt p) p.size i) e, V_add, V_pd _ _ _ 18 (by omega)]
    unfold qN
    rw [show h p.size + 1 - h p.size = 1 by omega]
    omega
theorem dgood0 : DGood (fun _ => 0) := ⟨fun _ _ => by decide, by decide⟩
theorem dpc_val (s : ByteArray) (j : Nat) (hj : 16 * j ≤ s.size) : qN (bt (dpc s j)) (dpc s j).size = qS s j := by
  have hs : (dpc s j).size = min 16 (s.size - 16 * j) := by
    rw [dpc_size]
    omega
  unfold qS
  rw [hs]
  unfold qN
  rw [V_congr 256 _ (bt (dpc s j)) (fun i => bt s (16 * j + i)) (fun i hi => by
    unfold dpc
    rw [bt_sub s _ _ i (by omega) (by omega)])]
theorem dsm_val (s : ByteArray) (r : Nat → Int) (gr : DGood r) : ∀ j, 16 * j ≤ s.size + 15 → DGood (dsm s r j) ∧ V 256 18 (dsm s r j) % 1361129467683753853853498429727072845819 = hN (V 256 18 r) (qS s) j
  | 0, _ => ⟨dgood0, (by decide : V 256 18 (fun _ => 0) % 1361129467683753853853498429727072845819 = 0)⟩
  | j + 1, hj => by
    obtain ⟨g, h⟩ := dsm_val s r gr j (by omega)
    obtain ⟨p1, p2⟩ := dpp_val (dsm s r j) g (dpc s j) (by rw [dpc_size]; omega)
    rw [dpc_val s j (by omega)] at p2
    obtain ⟨g1, k1, hk1⟩ := dc_val _ p1
    obtain ⟨g2, k2, hk2⟩ := dt_val _ r g1 gr
    refine ⟨g2, hN_step h (k := k2 + k1 * V 256 18 r) ?_⟩
    rw [← p2, hk1, Int.add_mul, hk2, Int.add_mul]
    have : k1 * 1361129467683753853853498429727072845819 * V 256 18 r = k1 * V 256 18 r * 1361129467683753853853498429727072845819 := by
      rw [Int.mul_right_comm]
    rw [this, Int.add_assoc]
    rfl
/-- Digits of a number that is carried. -/
theorem dig_val (s : Nat → Int) (n : Nat) (h : ∀ i, i < n → 0 ≤ s i ∧ s i < 256) (i : Nat) (hi : i < n) : dgt (V 256 n s) i = s i := by
  have sp := V_split 256 i (1 + (n - i - 1)) s
  rw [show i + (1 + (n - i - 1)) = n by omega] at sp
  have sp2 := V_split 256 1 (n - i - 1) (fun k => s (i + k))
  have sp3 : V 256 1 (fun k => s (i + k)) = s i := by
    show 0 + s (i + 0) * 256 ^ 0 = _
    simp
  rw [sp3] at sp2
  have l0 := V_nn 256 (by decide) i s (fun k hk => (h k (by omega)).1)
  have l1 := V_lt 256 (by decide) i s (fun k hk => (h k (by omega)).2)
  have B0 : (0 : Int) < 256 ^ i := Int.pow_pos (by decide)
  have := h i hi
  unfold dgt
  rw [sp, sp2, Int.add_mul_ediv_left _ _ (by omega), Int.ediv_eq_zero_of_lt l0 l1, Int.zero_add]
  rw [show (256 : Int) ^ 1 = 256 from rfl, Int.add_mul_emod_self_left]
  omega
theorem dm16 (i : Nat) (hi : i < 16) : ∃ Q : Int, (256 : Int) ^ i * (256 * Q) = 340282366920938463463374607431768211456 := ⟨256 ^ (15 - i), (by decide +kernel : ∀ i, i < 16 → (256 : Int) ^ i * (256 * 256 ^ (15 - i)) = 340282366920938463463374607431768211456) i hi⟩
theorem dgt_more (X Y : Int) (i : Nat) (hi : i < 16) : dgt (X + 340282366920938463463374607431768211456 * Y) i = dgt X i := by
  obtain ⟨Q, hQ⟩ := dm16 i hi
  have h := dgt_add X Y (256 ^ i) Q (Int.pow_pos (by decide))
  rw [hQ] at h
  exact h
theorem st_dig (g : Nat → Int) : ∀ n i, i < n → st 255 8 g n i = un (ua (g i) (cy 8 g i)) 255
  | 0, i, h => absurd h (by omega)
  | n + 1, i, h => by
    unfold st
    by_cases e : i = n
    · subst e
      rw [up_at]
    · rw [up_ne _ _ _ e, st_dig g n i (by omega)]
/-- Sixteen bytes, one added to the other. -/
theorem dby_val (g : Nat → Int) (hg : ∀ i, i < 16 → 0 ≤ g i ∧ g i < 4096) (i : Nat) (hi : i < 16) : dby g i = dgt (V 256 16 g) i := by
  have C := chain8 g 16 (fun i hi => by have := hg i hi; omega)
  have Ci := chain8 g i (fun k hk => by have := hg k (by omega); omega)
  have hv := C.val
  rw [p256] at hv
  have c0 := Ci.c0
  have c1 := Ci.c1
  have a := hg i hi
  have e : dby g i = st 255 8 g 16 i := by
    rw [st_dig g 16 i hi]
    unfold dby
    rw [cv8_eq, un8 _ (by rw [ua_eq _ _ (by omega) (by omega)]; omega) (by rw [ua_eq _ _ (by omega) (by omega)]; omega)]
  rw [e, ← dig_val _ 16 C.dig i hi, ← hv, Int.mul_comm (cy 8 g 16), dgt_more _ _ i hi]
/-- The document's tag. -/
theorem dt_tag (key s : ByteArray) : dtS key s = tagS key s := by
  obtain ⟨gr, er⟩ := dr_val key
  obtain ⟨g, h⟩ := dsm_val s (drF key) gr ((s.size + 15) / 16) (by omega)
  obtain ⟨w1, w2⟩ := dw_val _ g
  have w1' : ∀ i, i < 18 → 0 ≤ dh key s i ∧ dh key s i < 256 := w1
  have w2' : V 256 18 (dh key s) = hN (V 256 16 (rB (bt key))) (qS s) ((s.size + 15) / 16) := by
    rw [← er, ← h]
    exact w2
  have eg : ∀ i, i < 16 → dsg key (dh key s) i = dh key s i + bt key (16 + i) := fun i hi => by
    have a := w1' i (by omega)
    have b := bt_nn key (16 + i)
    unfold dsg
    rw [cv64_eq _ b.1 (by omega), ua_eq _ _ (by omega) (by omega)]
  unfold dtS tagS tagZ
  congr 1
  refine List.map_congr_left fun i hi => ?_
  have hi' := List.mem_range.1 hi
  rw [dby_val _ (fun k hk => by
    have a := w1' k (by omega)
    have b := bt_nn key (16 + k)
    rw [eg k hk]
    omega) i hi', V_congr 256 16 _ _ eg, V_add, ← w2', V18]
  rw [← dgt_more (V 256 16 (dh key s) + V 256 16 (fun i => bt key (16 + i))) (dh key s 16 + dh key s 17 * 256) i hi']
  congr 1
  omega

end Go.Proofs.YtenafinbaanicaaDoor.Pol
