/- Part 10 of the walks and facts. -/
import Derived.Test.YtffimigpbcilbaaGreatDoorCnDef
import Derived.Test.YtffimigpbcilbaaGreatDoorCn9
import Derived.ScopeJumps
set_option maxHeartbeats 16000000
set_option maxRecDepth 100000
namespace Go.Proofs.YtffimigpbcilbaaGreatDoor.Bla
open Go.RowKit
theorem upd_congr {f g : NI} {k : Nat} {a b : Int} {t : Nat} (h : f t = g t) (e : a = b) : upd f k a t = upd g k b t := by
 unfold upd
 rw [h, e]
theorem mxF_congr {v u : NI} (h : ∀ t, t < 16 → v t = u t) (x y : Int) {i j k l : Nat} (hi : i < 16) (hj : j < 16) (hk : k < 16) (hl : l < 16) : ∀ t, t < 16 → mxF v x y i j k l t = mxF u x y i j k l t := by
 intro t ht
 have e1 : mA2 v x y i j k l = mA2 u x y i j k l := by simp only [mA2, mA1, mB1, mC1, mD1, h i hi, h j hj, h k hk, h l hl]
 have e2 : mB2 v x y i j k l = mB2 u x y i j k l := by simp only [mB2, mC2, mD2, mA2, mA1, mB1, mC1, mD1, h i hi, h j hj, h k hk, h l hl]
 have e3 : mC2 v x y i j k l = mC2 u x y i j k l := by simp only [mC2, mD2, mA2, mA1, mB1, mC1, mD1, h i hi, h j hj, h k hk, h l hl]
 have e4 : mD2 v x y i j k l = mD2 u x y i j k l := by simp only [mD2, mA2, mA1, mB1, mC1, mD1, h i hi, h j hj, h k hk, h l hl]
 unfold mxF
 exact upd_congr (upd_congr (upd_congr (upd_congr (h t ht) e1) e2) e3) e4
theorem rn_congr {m m' : NI} (hm : ∀ t, t < 16 → m t = m' t) {v u : NI} (h : ∀ t, t < 16 → v t = u t) (j : Nat) : ∀ t, t < 16 → rn8 m v j t = rn8 m' u j t := by
 have h1 : ∀ t, t < 16 → rn1 m v j t = rn1 m' u j t := by
  unfold rn1
  rw [hm _ (OF_lt _), hm _ (OF_lt _)]
  exact mxF_congr h _ _ (by decide) (by decide) (by decide) (by decide)
 have h2 : ∀ t, t < 16 → rn2 m v j t = rn2 m' u j t := by
  unfold rn2
  rw [hm _ (OF_lt _), hm _ (OF_lt _)]
  exact mxF_congr h1 _ _ (by decide) (by decide) (by decide) (by decide)
 have h3 : ∀ t, t < 16 → rn3 m v j t = rn3 m' u j t := by
  unfold rn3
  rw [hm _ (OF_lt _), hm _ (OF_lt _)]
  exact mxF_congr h2 _ _ (by decide) (by decide) (by decide) (by decide)
 have h4 : ∀ t, t < 16 → rn4 m v j t = rn4 m' u j t := by
  unfold rn4
  rw [hm _ (OF_lt _), hm _ (OF_lt _)]
  exact mxF_congr h3 _ _ (by decide) (by decide) (by decide) (by decide)
 have h5 : ∀ t, t < 16 → rn5 m v j t = rn5 m' u j t := by
  unfold rn5
  rw [hm _ (OF_lt _), hm _ (OF_lt _)]
  exact mxF_congr h4 _ _ (by decide) (by decide) (by decide) (by decide)
 have h6 : ∀ t, t < 16 → rn6 m v j t = rn6 m' u j t := by
  unfold rn6
  rw [hm _ (OF_lt _), hm _ (OF_lt _)]
  exact mxF_congr h5 _ _ (by decide) (by decide) (by decide) (by decide)
 have h7 : ∀ t, t < 16 → rn7 m v j t = rn7 m' u j t := by
  unfold rn7
  rw [hm _ (OF_lt _), hm _ (OF_lt _)]
  exact mxF_congr h6 _ _ (by decide) (by decide) (by decide) (by decide)
 have h8 : ∀ t, t < 16 → rn8 m v j t = rn8 m' u j t := by
  unfold rn8
  rw [hm _ (OF_lt _), hm _ (OF_lt _)]
  exact mxF_congr h7 _ _ (by decide) (by decide) (by decide) (by decide)
 exact h8
theorem rd_congr {m m' : NI} (hm : ∀ t, t < 16 → m t = m' t) {v u : NI} (h : ∀ t, t < 16 → v t = u t) : ∀ j, ∀ t, t < 16 → rd m v j t = rd m' u j t
 | 0 => h
 | j + 1 => rn_congr hm (rd_congr hm h j) j
theorem bs_ext (l : List Int) (n : Nat) : (bs l).extract 0 n = bs (l.take n) := by
 apply ByteArray.ext
 rw [ByteArray.data_extract]
 unfold bs
 apply Array.ext_getElem?
 intro i
 simp only [Array.getElem?_extract, List.getElem?_toArray, List.getElem?_map, List.getElem?_take]
 by_cases h : i < n
 ·simp [h]
  intro h2
  rw [List.getElem?_eq_none (by omega)]
  rfl
 ·simp [h]
  omega
theorem loI_congr {f g : NI} : ∀ n, (∀ i, i < n → f i = g i) → loI f n = loI g n
 | 0, _ => rfl
 | n + 1, h => by
  unfold loI
  rw [loI_congr n fun i hi => h i (by omega), h n (by omega)]
theorem sumV_eq (z : Nat) (H : HS) : sumV z H = bs ((loI (sumW H) 8).take z) := bs_ext _ _
def p4 (f : NI) (t : Nat) : Int := f (4 * t) + 256 * f (4 * t + 1) + 65536 * f (4 * t + 2) + 16777216 * f (4 * t + 3)
def cut (n : Nat) (f : NI) : Nat → Int := fun i => if i < n then f i else 0
theorem vo_sh (x c : Int) (hx0 : 0 ≤ x) (hx : x < 16777216) (hc0 : 0 ≤ c) (hc : c < 256) : vo (vl x 8) (cv .u32 c) = x * 256 + c := by
 rw [cv32 c hc0 hc]
 obtain ⟨a, rfl⟩ : ∃ a : Nat, x = (a : Int) := ⟨x.toNat, by omega⟩
 obtain ⟨b, rfl⟩ : ∃ b : Nat, c = (b : Int) := ⟨c.toNat, by omega⟩
 rw [vl_nat a 8 (by omega), vo_comm, show a * 2 ^ 8 = 2 ^ 8 * a by omega, vo_add 8 b a (by omega) (by omega)]
 omega
theorem wo_p4 (rs : NI) (hr : ∀ i, 0 ≤ rs i ∧ rs i < 256) : ∀ n, n ≤ 64 → ∀ t, wo rs n t = p4 (cut n rs) t
 | 0, _, t => by simp [p4, cut, wo]
 | n + 1, hn, t => by
  have ih := wo_p4 rs hr n (by omega)
  show upd (wo rs n) (n / 4) (vo (wo rs n (n / 4)) (vl (cv .u32 (rs n)) (n % 4 * 8))) t = _
  unfold upd
  by_cases e : t = n / 4
  ·rw [if_pos e, ← e, ih t]
   have c0 := hr (4 * t)
   have c1 := hr (4 * t + 1)
   have c2 := hr (4 * t + 2)
   have c3 := hr (4 * t + 3)
   rcases (show n % 4 = 0 ∨ n % 4 = 1 ∨ n % 4 = 2 ∨ n % 4 = 3 by omega) with h | h | h | h
   ·have hN : n = 4 * t := by omega
    subst hN
    have e1 : p4 (cut (4 * t) rs) t = 0 := by unfold p4 cut; split <;> split <;> split <;> split <;> omega
    have e2 : p4 (cut (4 * t + 1) rs) t = rs (4 * t) := by unfold p4 cut; split <;> split <;> split <;> split <;> omega
    rw [e1, e2, h, vo_vl0 _ _ (by omega) (by omega) c0.1 c0.2]
    omega
   ·have hN : n = 4 * t + 1 := by omega
    subst hN
    have e1 : p4 (cut (4 * t + 1) rs) t = rs (4 * t) := by unfold p4 cut; split <;> split <;> split <;> split <;> omega
    have e2 : p4 (cut (4 * t + 1 + 1) rs) t = rs (4 * t) + 256 * rs (4 * t + 1) := by unfold p4 cut; split <;> split <;> split <;> split <;> omega
    rw [e1, e2, h, vo_vl1 _ _ (by omega) (by omega) c1.1 c1.2]
   ·have hN : n = 4 * t + 2 := by omega
    subst hN
    have e1 : p4 (cut (4 * t + 2) rs) t = rs (4 * t) + 256 * rs (4 * t + 1) := by unfold p4 cut; split <;> split <;> split <;> split <;> omega
    have e2 : p4 (cut (4 * t + 2 + 1) rs) t = rs (4 * t) + 256 * rs (4 * t + 1) + 65536 * rs (4 * t + 2) := by unfold p4 cut; split <;> split <;> split <;> split <;> omega
    rw [e1, e2, h, vo_vl2 _ _ (by omega) (by omega) c2.1 c2.2]
   ·have hN : n = 4 * t + 3 := by omega
    subst hN
    have e1 : p4 (cut (4 * t + 3) rs) t = rs (4 * t) + 256 * rs (4 * t + 1) + 65536 * rs (4 * t + 2) := by unfold p4 cut; split <;> split <;> split <;> split <;> omega
    have e2 : p4 (cut (4 * t + 3 + 1) rs) t = rs (4 * t) + 256 * rs (4 * t + 1) + 65536 * rs (4 * t + 2) + 16777216 * rs (4 * t + 3) := by unfold p4 cut; split <;> split <;> split <;> split <;> omega
    rw [e1, e2, h, vo_vl3 _ _ (by omega) (by omega) c3.1 c3.2]
  ·rw [if_neg e, ih t]
   have hc : ∀ i, i ≠ n → cut n rs i = cut (n + 1) rs i := fun i hi => by
    unfold cut
    by_cases h1 : i < n
    ·rw [if_pos h1, if_pos (by omega)]
    ·rw [if_neg h1, if_neg (by omega)]
   unfold p4
   rw [hc _ (by omega), hc _ (by omega), hc _ (by omega), hc _ (by omega)]
theorem upd4 (f : NI) (k : Nat) (a b c d : Int) : upd (upd (upd (upd f k a) k b) k c) k d = upd f k d := by
 funext t
 unfold upd
 by_cases e : t = k
 ·rw [if_pos e, if_pos e]
 ·simp [e]
theorem wd_step (rs : NI) (hr : ∀ i, 0 ≤ rs i ∧ rs i < 256) (q : Nat) (hq : q < 16) (h0 : wd rs (4 * q) (15 - q) = 0) : wd rs (4 * q + 4) = upd (wd rs (4 * q)) (15 - q) (p4 rs (15 - q)) := by
 have i0 : (63 - 4 * q) / 4 = 15 - q := by omega
 have i1 : (63 - (4 * q + 1)) / 4 = 15 - q := by omega
 have i2 : (63 - (4 * q + 2)) / 4 = 15 - q := by omega
 have i3 : (63 - (4 * q + 3)) / 4 = 15 - q := by omega
 have j0 : 63 - 4 * q = 4 * (15 - q) + 3 := by omega
 have j1 : 63 - (4 * q + 1) = 4 * (15 - q) + 2 := by omega
 have j2 : 63 - (4 * q + 2) = 4 * (15 - q) + 1 := by omega
 have j3 : 63 - (4 * q + 3) = 4 * (15 - q) := by omega
 obtain ⟨u, hu⟩ : ∃ u, u = 15 - q := ⟨_, rfl⟩
 rw [← hu] at i0 i1 i2 i3 j0 j1 j2 j3 h0 ⊢
 have c0 := hr (4 * u)
 have c1 := hr (4 * u + 1)
 have c2 := hr (4 * u + 2)
 have c3 := hr (4 * u + 3)
 have w1 : wd rs (4 * q + 1) = upd (wd rs (4 * q)) u (rs (4 * u + 3)) := by
  show upd (wd rs (4 * q)) ((63 - 4 * q) / 4) (vo (vl (wd rs (4 * q) ((63 - 4 * q) / 4)) 8) (cv .u32 (rs (63 - 4 * q)))) = _
  rw [i0, j0, h0, vo_sh _ _ (by omega) (by omega) c3.1 c3.2]
  congr 1
  omega
 have w2 : wd rs (4 * q + 2) = upd (upd (wd rs (4 * q)) u (rs (4 * u + 3))) u (rs (4 * u + 2) + 256 * rs (4 * u + 3)) := by
  show upd (wd rs (4 * q + 1)) ((63 - (4 * q + 1)) / 4) (vo (vl (wd rs (4 * q + 1) ((63 - (4 * q + 1)) / 4)) 8) (cv .u32 (rs (63 - (4 * q + 1))))) = _
  have e : upd (wd rs (4 * q)) u (rs (4 * u + 3)) u = rs (4 * u + 3) := by simp [upd]
  rw [i1, j1, w1, e, vo_sh _ _ (by omega) (by omega) c2.1 c2.2]
  congr 1
  omega
 have w3 : wd rs (4 * q + 3) = upd (upd (upd (wd rs (4 * q)) u (rs (4 * u + 3))) u (rs (4 * u + 2) + 256 * rs (4 * u + 3))) u (rs (4 * u + 1) + 256 * rs (4 * u + 2) + 65536 * rs (4 * u + 3)) := by
  show upd (wd rs (4 * q + 2)) ((63 - (4 * q + 2)) / 4) (vo (vl (wd rs (4 * q + 2) ((63 - (4 * q + 2)) / 4)) 8) (cv .u32 (rs (63 - (4 * q + 2))))) = _
  have e : upd (upd (wd rs (4 * q)) u (rs (4 * u + 3))) u (rs (4 * u + 2) + 256 * rs (4 * u + 3)) u = rs (4 * u + 2) + 256 * rs (4 * u + 3) := by simp [upd]
  rw [i2, j2, w2, e, vo_sh _ _ (by omega) (by omega) c1.1 c1.2]
  congr 1
  omega
 show upd (wd rs (4 * q + 3)) ((63 - (4 * q + 3)) / 4) (vo (vl (wd rs (4 * q + 3) ((63 - (4 * q + 3)) / 4)) 8) (cv .u32 (rs (63 - (4 * q + 3))))) = _
 have e : upd (upd (upd (wd rs (4 * q)) u (rs (4 * u + 3))) u (rs (4 * u + 2) + 256 * rs (4 * u + 3))) u (rs (4 * u + 1) + 256 * rs (4 * u + 2) + 65536 * rs (4 * u + 3)) u = rs (4 * u + 1) + 256 * rs (4 * u + 2) + 65536 * rs (4 * u + 3) := by simp [upd]
 rw [i3, j3, w3, e, vo_sh _ _ (by omega) (by omega) c0.1 c0.2, upd4]
 congr 1
 unfold p4
 omega
theorem wd_at (rs : NI) (hr : ∀ i, 0 ≤ rs i ∧ rs i < 256) : ∀ q, q ≤ 16 → ∀ t, t < 16 → wd rs (4 * q) t = if 16 - q ≤ t then p4 rs t else 0
 | 0, _, t, ht => by rw [if_neg (by omega)]; rfl
 | q + 1, hq, t, ht => by
  have ih := wd_at rs hr q (by omega)
  have h0 := ih (15 - q) (by omega)
  rw [if_neg (by omega)] at h0
  show wd rs (4 * q + 4) t = _
  rw [wd_step rs hr q (by omega) h0]
  unfold upd
  by_cases e : t = 15 - q
  ·rw [if_pos e, if_pos (by omega), e]
  ·rw [if_neg e, ih t ht]
   by_cases h : 16 - q ≤ t
   ·rw [if_pos h, if_pos (by omega)]
   ·rw [if_neg h, if_neg (by omega)]
theorem wd_p4 (rs : NI) (hr : ∀ i, 0 ≤ rs i ∧ rs i < 256) (t : Nat) (ht : t < 16) : wd rs 64 t = p4 rs t := by
 have h := wd_at rs hr 16 (by omega) t ht
 rw [if_pos (by omega)] at h
 exact h
theorem spr_congr {x x' : NI} (h : ∀ i, i < 8 → x i = x' i) (ct : Int) (last : Bool) : ∀ t, t < 16 → spr x ct last t = spr x' ct last t := by
 have hB : ∀ t, spB x t = spB x' t := fun t => by
  unfold spB
  by_cases e : t < 8
  ·rw [if_pos e, if_pos e, h t e]
  ·rw [if_neg e, if_neg e]
 have hB2 : spB x = spB x' := funext hB
 intro t _
 unfold spr spC
 rw [hB2]
theorem mixW_congr {x x' m m' : NI} (h : ∀ i, i < 8 → x i = x' i) (hm : ∀ t, t < 16 → m t = m' t) (ct : Int) (last : Bool) : ∀ i, i < 8 → mixW x m ct last i = mixW x' m' ct last i := by
 intro i hi
 unfold mixW
 have hr := rd_congr hm (spr_congr h ct last) 10
 rw [h i hi, hr i (by omega), hr (8 + i) (by omega)]
theorem bt_ext (A : Yb) (a b i : Nat) (hb : b ≤ A.size) (hi : i < b - a) : bt (A.extract a b) i = bt A (a + i) := by
 unfold bt
 congr 2
 have hs : A.data.size = A.size := rfl
 rw [ByteArray.data_extract, Array.getElem?_extract, if_pos (by omega)]
theorem bt_out (A : Yb) (i : Nat) (h : A.size ≤ i) : bt A i = 0 := by
 have hs : A.data.size = A.size := rfl
 unfold bt
 rw [Array.getElem?_eq_none (by omega)]
 rfl
theorem bt_app (r s : Yb) (i : Nat) : bt (r ++ s) i = if i < r.size then bt r i else bt s (i - r.size) := by
 rw [bt_of_sb, sb_append, List.getD_eq_getElem?_getD]
 by_cases h : i < r.size
 ·rw [if_pos h, List.getElem?_append_left (by rw [sb_length]; exact h), ← List.getD_eq_getElem?_getD, ← bt_of_sb]
 ·rw [if_neg h, List.getElem?_append_right (by rw [sb_length]; omega), sb_length, ← List.getD_eq_getElem?_getD, ← bt_of_sb]
theorem bt_zs (c i : Nat) : bt (zs c) i = 0 := by
 unfold bt zs
 by_cases h : i < c
 ·simp [h]
 ·simp [h]
def seg (A : Yb) (a r : Nat) : List Int := (List.range r).map fun i => bt A (a + i)
theorem seg_length (A : Yb) (a r : Nat) : (seg A a r).length = r := by simp [seg]
theorem lf_seg (A : Yb) (a r i : Nat) : lf (seg A a r) i = if i < r then bt A (a + i) else 0 := by
 unfold lf seg
 rw [List.getD_eq_getElem?_getD, List.getElem?_map]
 by_cases h : i < r
 ·rw [if_pos h, List.getElem?_range h]
  rfl
 ·rw [if_neg h, List.getElem?_eq_none (by simp; omega)]
  rfl
theorem lf_seg_nn (A : Yb) (a r : Nat) : ∀ i, 0 ≤ lf (seg A a r) i ∧ lf (seg A a r) i < 256 := fun i => by
 rw [lf_seg]
 split
 ·exact bt_nn _ _
 ·omega
def PP (A : Yb) (x : NI) : Nat → (Nat → Int)
 | 0 => x
 | j + 1 => mixW (PP A x j) (wo (lf (seg A (64 * j) 64)) 64) ((64 * j + 64 : Nat) : Int) false
theorem ua_nat (a b : Nat) (h : a + b < 18446744073709551616) : ua (a : Int) (b : Int) = ((a + b : Nat) : Int) := by
 rw [ua_eq]
 omega
theorem tk_at (z kl : Nat) (A : Yb) : ∀ j, 64 * j < 1000000 → ∀ r, 0 < r → r ≤ 64 → tk (hs0 z kl) A (64 * j + r) = ⟨PP A (hs0 z kl).ws j, seg A (64 * j) r, ((64 * j : Nat) : Int)⟩
 | 0, _, r, h0, h1 => by
  have h := tk_run (hs0 z kl) A 0 r h0 (by
   rw [fl_id (H := tk (hs0 z kl) A 0) (show (hs0 z kl).wl.length < 64 by simp [hs0])]
   show (hs0 z kl).wl.length + r ≤ 64
   simpa [hs0] using h1)
  rw [fl_id (H := tk (hs0 z kl) A 0) (show (hs0 z kl).wl.length < 64 by simp [hs0])] at h
  rw [Nat.mul_zero, h]
  rfl
 | j + 1, hj, r, h0, h1 => by
  have ih := tk_at z kl A j (by omega) 64 (by omega) (by omega)
  have hf : fl (tk (hs0 z kl) A (64 * j + 64)) = ⟨PP A (hs0 z kl).ws (j + 1), [], ((64 * (j + 1) : Nat) : Int)⟩ := by
   rw [ih]
   unfold fl
   rw [if_pos (seg_length _ _ _)]
   simp only [seg_length, mixV_W]
   have e : ua ((64 * j : Nat) : Int) 64 = ((64 * j + 64 : Nat) : Int) := ua_nat (64 * j) 64 (by omega)
   rw [e]
   rfl
  have h := tk_run (hs0 z kl) A (64 * j + 64) r h0 (by rw [hf]; simpa using h1)
  rw [hf] at h
  rw [show 64 * (j + 1) + r = 64 * j + 64 + r by omega, h]
  rfl
theorem cut_seg (A : Yb) (a r : Nat) : cut r (lf (seg A a r)) = lf (seg A a r) := by
 funext i
 unfold cut
 split
 ·rfl
 ·rw [lf_seg, if_neg (by omega)]
theorem PP_pcs (A : Yb) (x : NI) : ∀ j, 64 * j ≤ A.size → A.size < 1000000 → ∀ i, i < 8 → PP A x j i = pcs A x j i
 | 0, _, _, _, _ => rfl
 | j + 1, hj, hA, i, hi => by
  have ih := PP_pcs A x j (by omega) hA
  unfold PP pcs
  rw [cv_u64 _ (by omega)]
  refine mixW_congr ih (fun t ht => ?_) _ _ i hi
  rw [wo_p4 _ (lf_seg_nn _ _ _) 64 (by omega) t, cut_seg, wd_p4 _ (bt_nn _) t ht]
  have hb : ∀ k, k < 64 → lf (seg A (64 * j) 64) k = bt (A.extract (64 * j) (64 * j + 64)) k := fun k hk => by
   rw [lf_seg, if_pos hk, bt_ext _ _ _ _ (by omega) (by omega)]
  unfold p4
  rw [hb _ (by omega), hb _ (by omega), hb _ (by omega), hb _ (by omega)]
theorem tk_app (H : HS) (s p : Yb) : ∀ k, tk (tk H s s.size) p k = tk H (s ++ p) (s.size + k)
 | 0 => by
  have h : ∀ k, k ≤ s.size → tk H (s ++ p) k = tk H s k := by
   intro k
   induction k with
   | zero => intro _; rfl
   | succ k ih =>
    intro hk
    show ab (tk H (s ++ p) k) (bt (s ++ p) k) = ab (tk H s k) (bt s k)
    rw [ih (by omega), bt_app, if_pos (by omega)]
  exact (h s.size (Nat.le_refl _)).symm
 | k + 1 => by
  show ab (tk (tk H s s.size) p k) (bt p k) = ab (tk H (s ++ p) (s.size + k)) (bt (s ++ p) (s.size + k))
  rw [tk_app H s p k, bt_app, if_neg (by omega), show s.size + k - s.size = k by omega]
theorem tk_all (H : HS) (s p : Yb) : tk H (s ++ p) (s ++ p).size = tk (tk H s s.size) p p.size := by
 rw [ByteArray.size_append, tk_app]
theorem tk_nw (z : Nat) (key s : Yb) : tk (nw z key) s s.size = tk (hs0 z key.size) (allV key s) (allV key s).size := by
 unfold nw allV
 split
 ·rfl
 ·exact (tk_all _ _ _).symm
theorem tk_end (z kl : Nat) (A : Yb) (hA : A.size < 1000000) : tk (hs0 z kl) A A.size = ⟨PP A (hs0 z kl).ws (nbl A), seg A (64 * nbl A) (A.size - 64 * nbl A), ((64 * nbl A : Nat) : Int)⟩ := by
 have hn : nbl A = (A.size - 1) / 64 := rfl
 by_cases h : A.size = 0
 ·have h0 : nbl A = 0 := by omega
  rw [h, h0]
  rfl
 ·have h1 := tk_at z kl A (nbl A) (by omega) (A.size - 64 * nbl A) (by omega) (by omega)
  rw [show 64 * nbl A + (A.size - 64 * nbl A) = A.size by omega] at h1
  exact h1
theorem sum_dfin (z kl : Nat) (A : Yb) (hA : A.size < 1000000) : ∀ i, i < 8 → sumW (tk (hs0 z kl) A A.size) i = dfin A (hs0 z kl).ws i := by
 intro i hi
 have hn : nbl A = (A.size - 1) / 64 := rfl
 rw [tk_end z kl A hA]
 unfold sumW dfin
 simp only [seg_length, mixV_W]
 rw [cv_u64 _ (by omega), cv_u64 _ (by omega), ua_nat _ _ (by omega), show 64 * nbl A + (A.size - 64 * nbl A) = A.size by omega]
 refine mixW_congr (PP_pcs A _ _ (by omega) hA) (fun t ht => ?_) _ _ i hi
 have hrs : (rst A).size = A.size - 64 * nbl A := by
  unfold rst
  rw [size_extract]
 rw [wo_p4 _ (lf_seg_nn _ _ _) _ (by omega) t, cut_seg, wd_p4 _ (bt_nn _) t ht]
 have hb : ∀ k, lf (seg A (64 * nbl A) (A.size - 64 * nbl A)) k = bt (rst A ++ zs (64 - (rst A).size)) k := fun k => by
  rw [lf_seg, bt_app, hrs]
  by_cases h : k < A.size - 64 * nbl A
  ·rw [if_pos h, if_pos h]
   unfold rst
   rw [bt_ext _ _ _ _ (by omega) h]
  ·rw [if_neg h, if_neg h, bt_zs]
 unfold p4
 rw [hb, hb, hb, hb]
theorem outL_step (h : NI) (j k : Nat) (hk : k < 4) : outL h (4 * j + k + 1) = outL h (4 * j + k) ++ [cv .u8 (sr (h j) (8 * k))] := by
 show outL h (4 * j + k) ++ _ = _
 rw [show (4 * j + k) / 4 = j by omega, show (4 * j + k) % 4 = k by omega]
theorem sr0 (x : Int) : sr x 0 = x := by
 unfold sr
 simp
theorem outL_loI (h : NI) : ∀ j, outL h (4 * j) = loI h j
 | 0 => rfl
 | j + 1 => by
  show outL h (4 * j + 3 + 1) = _
  rw [outL_step h j 3 (by omega), show 4 * j + 3 = 4 * j + 2 + 1 by rfl, outL_step h j 2 (by omega), show 4 * j + 2 = 4 * j + 1 + 1 by rfl, outL_step h j 1 (by omega), show 4 * j + 1 = 4 * j + 0 + 1 by rfl, outL_step h j 0 (by omega), Nat.add_zero, outL_loI h j]
  simp [loI, lo4, sr0]
theorem outL_take (h : NI) (z : Nat) : ∀ k, (outL h (z + k)).take z = outL h z
 | 0 => by rw [Nat.add_zero, List.take_of_length_le (by rw [outL_length]; exact Nat.le_refl _)]
 | k + 1 => by
  show (outL h (z + k) ++ _).take z = _
  rw [List.take_append_of_le_length (by rw [outL_length]; omega), outL_take h z k]
theorem doc_eq (z : Nat) (hz : z ≤ 32) (key s : Yb) (hs : s.size < 100000) (hk : key.size ≤ 32) : docS z key s = blV z key s := by
 have hA : (allV key s).size < 1000000 := by
  unfold allV
  split
  ·omega
  ·rw [ByteArray.size_append, ByteArray.size_append, zs_size]
   omega
 unfold docS docV blV
 rw [sumV_eq, tk_nw, loI_congr 8 (sum_dfin z key.size (allV key s) hA), ← outL_loI]
 congr 1
 have h := outL_take (dfin (allV key s) (hs0 z key.size).ws) z (32 - z)
 rw [show z + (32 - z) = 4 * 8 by omega] at h
 exact h.symm
open Go.RowKit
theorem xb_nn (x y : Int) : 0 ≤ xb x y ∧ xb x y < 256 := cv8_nn _
def mkF (f : NI) (m : Int) : Nat → (Nat → Int)
 | 0 => f
 | j + 1 => upd (mkF f m j) j (xb (mkF f m j j) m)
theorem mkF_eq (f : NI) (m : Int) : ∀ j i, mkF f m j i = if i < j then xb (f i) m else f i
 | 0, i => by rw [if_neg (by omega)]; rfl
 | j + 1, i => by
  unfold mkF upd
  by_cases e : i = j
  ·subst e
   rw [if_pos rfl, if_pos (by omega), mkF_eq f m i i, if_neg (by omega)]
  ·rw [if_neg e, mkF_eq f m j i]
   by_cases h : i < j
   ·rw [if_pos h, if_pos (by omega)]
   ·rw [if_neg h, if_neg (by omega)]
def mk (f : NI) (m : Int) : ByteArray := bs ((List.range 64).map fun i => xb (f i) m)
theorem mk_size (f : NI) (m : Int) : (mk f m).size = 64 := by rw [mk, bs_size]; simp
theorem bl_size (s : Yb) : (blV 32 strE s).size = 32 := by
 unfold blV
 rw [sumV_eq, bs_size, List.length_take, loI_length]
 rfl
def keyV (key : Yb) : ByteArray := if 64 < key.size then blV 32 strE key else key
def tagV (f : NI) (s : Yb) : ByteArray := blV 32 strE (mk f 92 ++ blV 32 strE (mk f 54 ++ s))
theorem tagV_size (f : NI) (s : Yb) : (tagV f s).size = 32 := bl_size _
def hmV (key s : Yb) : ByteArray := tagV (bt (keyV key)) s
theorem bt_cp (s : Yb) (hs : s.size ≤ 64) : ∀ j, j < 64 → (if 0 ≤ j ∧ j < 0 + Nat.min s.size 64 then w8 (bt s) (j - 0) else w8 (fun _ => 0) j) = w8 (bt s) j := fun j _ => by
 have e : Nat.min s.size 64 = s.size := Nat.min_eq_left hs
 rw [e, Nat.sub_zero]
 unfold w8
 by_cases h : j < s.size
 ·rw [if_pos (by omega)]
 ·rw [if_neg (by omega), bt_out s j (by omega)]
theorem mk_back (f : NI) (m : Int) : bs ((List.range 64).map (mkF f m 64)) = mk f m := by
 unfold mk
 refine congrArg bs <| List.map_congr_left fun i hi => ?_
 rw [mkF_eq, if_pos (List.mem_range.1 hi)]
theorem mk_nn (f : NI) (m : Int) : ∀ x ∈ (List.range 64).map (mkF f m 64), 0 ≤ x ∧ x < 256 := fun x hx => by
 obtain ⟨i, hi, rfl⟩ := List.mem_map.1 hx
 rw [mkF_eq, if_pos (List.mem_range.1 hi)]
 exact xb_nn _ _
theorem c_masked (f : NI) (m : Int) (w : World) (hL : Laid w)  : Cs 169 #[.agg (av 64 (w8 f)), .int .u8 m] w (.string (mk f m)) := by
 go_enter Tryz.func169, Tryz.ntmps169
 have M := Mem.start hL
 refine sR <| pN M 2 (.cells (av 64 (w8 f)) 160) fun g1 u1 M => rV 1 <| nT <| wp_seq <| sq <| wp_block ?_
 refine au_loop (fun j a w' => ∃ v1 : NV, a = (fm ([.agg (av 64 (w8 f)), .int .u8 m, .pointer (some ⟨g1, 0, none⟩), v1 3, .string ⟨#[]⟩, v1 5, .int .i64 (j : Int)] ++ vr v1 7 11)) ∧ Mem ⟨w, []⟩ [⟨g1, .cells (av 64 (w8 (mkF f m j))) 160⟩] w') 64 (exS M) ?_ ?_
 ·intro j a u0 hj hI
  obtain ⟨v1, rfl, M⟩ := hI
  refine sR <| ZT 7 ((j : Int) < 64) <| nT <| wp_seq <| cT <| wp_skip <| au_then <| wp_seq <| wp_block <| sq <| rg_lit <| rV 1 <| ZX 10 .i64 g1 (j) 64 <| ZE M 11 0 j <| rV 2 <| ZX 14 .i64 g1 (j) 64 ?_
  refine ZP8 M 0 j (xb (mkF f m j j) m) fun u2 M => pl_nil <| au_block <| au_then <| rg_lit <| ZI 15 ((j : Int) + 1) ((j + 1 : Nat) : Int) <| rV 1 <| nT ?_
  exact exS M
 ·intro a u0 hI
  obtain ⟨v1, rfl, M⟩ := hI
  refine sR <| ZF 7 ((64 : Int) < 64) <| nT <| wp_seq <| cF <| wp_exit <| au_then_exit <| au_then_exit <| au_block_exit <| au_then <| sR <| rV 1 <| pl_back M (want_no rfl) (some 17) rfl _ rfl 0 g1 64 64 (by kernel_rfl) _ rfl ((List.range 64).map (mkF f m 64)) 64 (sb_av 64 _ _) (by simp) (mk_nn f m) ?_
  rw [mk_back]
  refine rV 1 <| nT <| wp_ret ?_
  exact b1 M
theorem c_blockA (key : Yb) (hk : 64 < key.size) (w : World) (hL : Laid w)  : Cs 111 #[.string key] w (.agg (av 64 (w8 (bt (keyV key))))) := by
 go_enter Tryz.func111, Tryz.ntmps111
 have M := Mem.start hL
 obtain ⟨K, hK⟩ : ∃ K, blV 32 strE key = K := ⟨_, rfl⟩
 have hs : K.size ≤ 64 := by rw [← hK, bl_size]; decide
 refine sR <| pN M 2 (.cells (av 64 (w8 (fun _ => 0))) 160) fun g1 u1 M => nT <| wp_seq <| sR <| rV 2 <| ZT 6 ((64 : Int) < (key.size : Int)) <| nT <| cT <| rg_lit <| rV 1 <| pC M 8 45 #[.string key] (.string K) (fun w M => (by rw [← hK]; exact c_of key w M.laid)) fun u2 M => rV 1 <| nT <| sR <| pN M 3 (.cells (av 64 (w8 (fun _ => 0))) 160) fun g2 u3 M => ?_
 refine nT <| sR <| rV 2 <| pl_copyS M (want_no rfl) (some 11) rfl 61 9 3 5 Tryz.underlying61 inz5 1 g2 64 160 (w8 (fun _ => 0)) rfl 0 64 64 K (Nat.min K.size 64) rfl (by rw [Nat.zero_add]; exact Nat.min_le_right _ _) (w8 (bt K)) (bt_cp K hs) (fun _ => by kernel_rfl) fun u4 M => nT <| sR <| pA M 12 1 64 (w8 (bt K)) <| ZG M 0 64 (w8 (bt K)) fun u5 M => nT <| wp_ret ?_
 have e : keyV key = K := by unfold keyV; rw [if_pos hk, hK]
 rw [e]
 exact bc Tryz.results111 M 0 64 (w8 (bt K)) ⟨rfl, below_grown M.old⟩
theorem c_blockB (key : Yb) (hs : ¬ 64 < key.size) (w : World) (hL : Laid w)  : Cs 111 #[.string key] w (.agg (av 64 (w8 (bt (keyV key))))) := by
 go_enter Tryz.func111, Tryz.ntmps111
 have M := Mem.start hL
 have hs : key.size ≤ 64 := by omega
 refine sR <| pN M 2 (.cells (av 64 (w8 (fun _ => 0))) 160) fun g1 u1 M => nT <| wp_seq <| sR <| rV 2 <| ZF 6 ((64 : Int) < (key.size : Int)) <| nT <| cF <| wp_skip <| au_then <| sR <| pN M 3 (.cells (av 64 (w8 (fun _ => 0))) 160) fun g2 u2 M => nT <| sR <| rV 2 ?_
 refine pl_copyS M (want_no rfl) (some 11) rfl 61 9 3 5 Tryz.underlying61 inz5 1 g2 64 160 (w8 (fun _ => 0)) rfl 0 64 64 key (Nat.min key.size 64) rfl (by rw [Nat.zero_add]; exact Nat.min_le_right _ _) (w8 (bt key)) (bt_cp key hs) (fun _ => by kernel_rfl) fun u3 M => nT <| sR <| pA M 12 1 64 (w8 (bt key)) <| ZG M 0 64 (w8 (bt key)) fun u4 M => nT <| wp_ret ?_
 have e : keyV key = key := by unfold keyV; rw [if_neg (by omega)]
 rw [e]
 exact bc Tryz.results111 M 0 64 (w8 (bt key)) ⟨rfl, below_grown M.old⟩
theorem c_block (key : Yb) (w : World) (hL : Laid w) : Cs 111 #[.string key] w (.agg (av 64 (w8 (bt (keyV key))))) := by
 by_cases h : 64 < key.size
 ·exact c_blockA key h w hL
 ·exact c_blockB key h w hL
theorem c_tag (f : NI) (s : Yb) (hs : s.size < 100000) (w : World) (hL : Laid w)  : Cs 151 #[.agg (av 64 (w8 f)), .string s] w (.string (tagV f s)) := by
 go_enter Tryz.func151, Tryz.ntmps151
 have M := Mem.start hL
 refine sR <| pN M 2 (.cells (av 64 (w8 f)) 160) fun g1 u1 M => rV 1 <| nT <| wp_seq <| rg_tail M 9 (by kernel_rfl) (by kernel_rfl) ?_
 simp only [List.take_succ_cons, List.take_zero]
 refine kA M 5 0 64 (w8 f) <| eC M 6 (fun w M => c_masked f 92 w M.laid) <| kA M 7 0 64 (w8 f) <| eC M 8 (fun w M => c_masked f 54 w M.laid) <| kR 1 <| kH 10 (.string ((mk f 54) ++ s)) (run_cat 9 9 _ _ rfl (mk f 54) s (by kernel_rfl) (by kernel_rfl) (by rw [mk_size]; omega)) <| kC M 11 45 #[.string ((mk f 54) ++ s)] (.string (blV 32 strE ((mk f 54) ++ s))) (fun w M => c_of _ w M.laid) <| kH 12 (.string ((mk f 92) ++ (blV 32 strE (mk f 54 ++ s)))) (run_cat 9 9 _ _ rfl (mk f 92) (blV 32 strE (mk f 54 ++ s)) (by kernel_rfl) (by kernel_rfl) (by rw [mk_size, bl_size]; decide)) <| kC M 13 45 #[.string ((mk f 92) ++ (blV 32 strE (mk f 54 ++ s)))] (.string (blV 32 strE ((mk f 92) ++ (blV 32 strE (mk f 54 ++ s))))) (fun w M => c_of _ w M.laid) <| kl_nil fun u2 M => rV 1 <| nT <| wp_ret ?_
 exact b1 M
theorem c_hmac (key s : Yb) (hs : s.size < 100000) (w : World) (hL : Laid w)  : Cs 113 #[.string key, .string s] w (.string (hmV key s)) := by
 go_enter Tryz.func113, Tryz.ntmps113
 have M := Mem.start hL
 refine sq <| sR <| rV 1 <| ZC M 6 (fun w M => c_block key w M.laid) fun u1 M => rV 1 <| ZC M 8 (fun w M => c_tag (bt (keyV key)) s hs w M.laid) fun u2 M => rV 1 <| nT <| wp_ret ?_
 exact b1 M
theorem c_extract (key s : Yb) (hs : s.size < 100000) (w : World) (hL : Laid w)  : Cs 83 #[.string key, .string s] w (.string (hmV key s)) := by
 go_enter Tryz.func83, Tryz.ntmps83
 have M := Mem.start hL
 refine sq <| sR <| rV 2 <| ZC M 7 (fun w M => c_hmac key s hs w M.laid) fun u1 M => rV 1 <| nT <| wp_ret ?_
 exact b1 M
open Go.RowKit
open Go.Shelf
section
variable {P : Program} {ops : Array Oper} {rest : List Oper} {o : Oper} {a : Act} {w : World} {c : Ctx} {L : List Blk} {Q : Exit → Act → World → Prop} {K : Act → World → Prop} {J : Act → World → Prop}
theorem au_then_goto {i : Nat} (h : Q (.goto i) a w) : Exit.then K Q (.goto i) a w := h
theorem au_scope_ret {i : Nat} (h : Q .ret a w) : Exit.jump i J Q .ret a w := h
end
structure BU (w : World) (f : NI) (g k : Nat) (l : List UInt8) (u : World) : Prop where
 bel : Below w.heap.size w u
 ge : w.heap.size ≤ g
 lt : g < k
 blk : u.heap[g]? = some (.cells (av 64 (w8 f)) 160)
 isb : Lib.IsBuilder 177 5 k k (Lib.byteCells l) u
theorem BU.ne {w u : World} {f : NI} {g k : Nat} {l : List UInt8} (h : BU w f g k l u) (hL : Laid w) : 2 < g := by have := hL.lt; have := h.ge; omega
theorem BU.mem {w u : World} {f : NI} {g k : Nat} {l : List UInt8} (h : BU w f g k l u) (hL : Laid w) : Mem ⟨u, [g]⟩ [⟨g, .cells (av 64 (w8 f)) 160⟩] u := Mem.startp (below_laid h.bel hL) h.blk (h.ne hL)
theorem BU.keep {w u : World} {f : NI} {g k : Nat} {l : List UInt8} (h : BU w f g k l u) {L : List Blk} {u' : World} (M : Mem ⟨u, [g]⟩ (⟨g, .cells (av 64 (w8 f)) 160⟩ :: L) u') : BU w f g k l u' :=
 have hb := same1 M.old h.blk (M.get 0 rfl)
 ⟨h.bel.trans (hb.mono h.bel.size), h.ge, h.lt, M.get 0 rfl, isb_keep h.isb hb⟩
theorem BU.start {w u : World} {f : NI} {g k : Nat} (M : Mem ⟨w, []⟩ [⟨g, .cells (av 64 (w8 f)) 160⟩, ⟨k, .cells (av 2 bF0) 177⟩] u) (hlt : g < k) : BU w f g k [] u :=
 ⟨below_grown M.old, (M.ge _ (List.mem_of_getElem? (i := 0) rfl)).elim id (fun h => by cases h), hlt, M.get 0 rfl, .inl ⟨Nat.le_refl _, .slice none 0 0, M.get 1 rfl, World.ownsRow_nil _ _ _ _, by simp [Value.ownBlock]⟩⟩
theorem c_len {w u : World} {f : NI} {g k : Nat} {l : List UInt8} (h : BU w f g k l u) : Cs 143 #[.pointer (some ⟨k, 0, none⟩)] u (.int .i64 (l.length : Int)) := by
 refine (Any.Builder_Len (P := Tryz.prog) (ρ := repRen) { repLays with } k k (Lib.byteCells l) u h.isb).mono ?_
 rintro r w' ⟨rfl, rfl⟩
 exact ⟨by rw [Lib.byteCells_length], Below.refl _ _⟩
theorem c_write {w u : World} {f : NI} {g k : Nat} {l : List UInt8} (h : BU w f g k l u) (s : Yb) (hl : l.length + s.size < 1000000) : Calls Tryz.prog 142 #[.pointer (some ⟨k, 0, none⟩), .string s] u fun r w' => r = .returned (.tuple #[.int .i64 s.size, .nilIface]) ∧ BU w f g k (l ++ s.data.toList) w' := by
 have hk := isb_lt h.isb
 refine (Any.Builder_WriteString (P := Tryz.prog) (ρ := repRen) { repLays with } repExtra k k (Lib.byteCells l) s u h.isb (by rw [Lib.byteCells_length]; omega) (by omega)).mono ?_
 rintro r w' ⟨rfl, h1, h2⟩
 exact ⟨rfl, h.bel.trans (h2.mono (by have := h.ge; have := h.lt; omega)), h.ge, h.lt, by rw [h2.block g h.lt]; exact h.blk, .inr (by rw [Lib.byteCells_append]; exact h1)⟩
theorem c_string {w u : World} {f : NI} {g k : Nat} {l : List UInt8} (h : BU w f g k l u) (s : Yb) (hs : s.data.toList = l) : Calls Tryz.prog 131 #[.pointer (some ⟨k, 0, none⟩)] u fun r w' => r = .returned (.string s) ∧ Below w.heap.size w w' := by
 have hk := isb_lt h.isb
 refine (Any.Builder_String_any (P := Tryz.prog) (ρ := repRen) { repLays with } repExtra k k l u h.isb (by omega)).mono ?_
 rintro r w' ⟨rfl, h2⟩
 refine ⟨?_, h.bel.trans (h2.mono (by have := h.ge; have := h.lt; omega))⟩
 rw [← hs]
def tg (f : NI) (info : Yb) : Nat → ByteArray
 | 0 => strE
 | i + 1 => tagV f (tg f info i ++ info ++ bs [((i + 1 : Nat) : Int)])
def al (f : NI) (info : Yb) : Nat → ByteArray
 | 0 => strE
 | i + 1 => al f info i ++ tg f info (i + 1)
theorem tg_size (f : NI) (info : Yb) (i : Nat) : (tg f info (i + 1)).size = 32 := tagV_size _ _
theorem tg_le (f : NI) (info : Yb) : ∀ i, (tg f info i).size ≤ 32
 | 0 => by show 0 ≤ 32; decide
 | i + 1 => by rw [tg_size]; decide
theorem al_size (f : NI) (info : Yb) : ∀ i, (al f info i).size = 32 * i
 | 0 => rfl
 | i + 1 => by
  unfold al
  rw [ByteArray.size_append, al_size f info i, tg_size]
  omega
theorem al_len (f : NI) (info : Yb) (i : Nat) : (al f info i).data.toList.length = 32 * i := by
 rw [← al_size f info i]
 rfl
theorem al_next (f : NI) (info : Yb) (i : Nat) : (al f info i).data.toList ++ (tg f info (i + 1)).data.toList = (al f info (i + 1)).data.toList := by
 show _ = (al f info i ++ tg f info (i + 1)).data.toList
 rw [ByteArray.data_append, Array.toList_append]
theorem sb_one (x : Int) (T : TypeId) : SB (.cells (av 1 (fun _ => .int .u8 x)) T) 1 (vs8 [x]) := ⟨_, T, (0, 0), rfl, by simp [vs8], by rw [av_size]; exact Nat.le_refl _, fun i hi => by
 simp [vs8] at hi
 subst hi
 rfl, fun i _ => by simp⟩
def numOf : Value → Int
 | .int _ x => x
 | _ => 0
def mu9 (N : Nat) (a : Act) : Nat := N - (numOf (a.tmps.getD 9 undef)).toNat
theorem mu9_lt {N : Nat} {a a' : Act} (x y : Nat) (h1 : a'.tmps.getD 9 undef = .int .u8 (y : Int)) (h2 : a.tmps.getD 9 undef = .int .u8 (x : Int)) (hxy : x < y) (hy : y ≤ N) : mu9 N a' < mu9 N a := by
 unfold mu9
 rw [h1, h2]
 show N - (y : Int).toNat < N - (x : Int).toNat
 omega
theorem add8 (j : Nat) (h : j < 255) : IntKind.wrap .u8 ((j : Int) + 1) = ((j + 1 : Nat) : Int) := by
 show ((j : Int) + 1) % 256 = _
 omega
theorem c_tags (f : NI) (info : Yb) (hi : info.size < 10000) (n : Nat) (hn : n ≤ 8160) (w : World) (hL : Laid w)  : Cs 112 #[.agg (av 64 (w8 f)), .string info, .int .i64 (n : Int)] w (.string (al f info ((n + 31) / 32))) := by
 go_enter Tryz.func112, Tryz.ntmps112
 have M := Mem.start hL
 obtain ⟨N, hN⟩ : ∃ N, N = (n + 31) / 32 := ⟨_, rfl⟩
 refine sR <| pN M 3 (.cells (av 64 (w8 f)) 160) fun g1 u1 M => rV 1 <| nT ?_
 refine wp_scope_jumps 0 (fun a u => ∃ (j gk : Nat) (v : NV), j ≤ N ∧ a = (fm ([.agg (av 64 (w8 f)), .string info, .int .i64 (n : Int), .pointer (some ⟨g1, 0, none⟩), undef, undef, v 6, .pointer (some ⟨gk, 0, none⟩), .string (tg f info j), .int .u8 (j : Int)] ++ vr v 10 17)) ∧ BU w f g1 gk (al f info j).data.toList u) (fun a _ => mu9 N a) rfl ?_ ?_
 ·refine sR <| pl_newB M (want_no rfl) (some 7) rfl (.cells (av 2 bF0) 177) (fun _ => by kernel_rfl) ?_
  intro g2 u2 hlt M
  replace hlt : g1 < g2 := hlt _ (List.mem_of_getElem? (i := 0) rfl)
  refine nT <| sq <| wp_seq <| wp_label <| au_then ?_
  have hB : BU w f g1 g2 (al f info 0).data.toList u2 := BU.start M hlt
  generalize g2 = gk at hB
  clear M hlt
  by_cases hj : 0 < N
  ··skip
    have M := hB.mem hL
    refine wp_seq <| sR <| ZC M 10 (fun w M => c_len (hB.keep M)) fun u3 M => rV 1 <| zJ 12 (.bool true) (.bool (decide (((al f info 0).data.toList.length : Int) < (n : Int)))) (by rw [al_len, decide_eq_true (by omega)]) <| nT <| cT <| sR <| rV 1 <| ZQ 14 .u8 (IntKind.wrap .u8 ((0 : Nat) + 1 : Int)) (add8 0 (by omega)) <| rV 1 <| nT <| sR <| pA M 15 0 64 (w8 f) <| rV 2 <| pH 18 (.string ((tg f info 0) ++ info)) (run_cat 9 9 _ _ rfl (tg f info 0) info (by kernel_rfl) (by kernel_rfl) (by have := tg_le f info 0; omega)) ?_
    refine rV 1 <| ZM M 20 (fun g3 => .slice (some ⟨g3, 0, none⟩) 1 1) (.cells (av 1 (fun _ => .int .u8 ((0 + 1 : Nat) : Int))) 5) fun g3 u4 M => pl_back M (want_no rfl) (some 21) rfl _ rfl 1 g3 1 1 (by kernel_rfl) _ rfl [((0 + 1 : Nat) : Int)] 1 (sb_one _ _) rfl (by intro x hx; rw [List.mem_singleton.1 hx]; omega) <| pH 22 (.string ((tg f info 0 ++ info) ++ (bs [((0 + 1 : Nat) : Int)]))) (run_cat 9 9 _ _ rfl (tg f info 0 ++ info) (bs [((0 + 1 : Nat) : Int)]) (by kernel_rfl) (by kernel_rfl) (by rw [ByteArray.size_append, bs_size]; have := tg_le f info 0; simp; omega)) <| pC M 23 151 #[.agg (av 64 (w8 f)), .string ((tg f info 0 ++ info) ++ (bs [((0 + 1 : Nat) : Int)]))] (.string (tg f info (0 + 1))) (fun w M => c_tag f _ (by simp only [ByteArray.size_append, bs_size]; have := tg_le f info 0; simp; omega) w M.laid) fun u5 M => rV 1 <| nT <| sR <| rV 1 <| pl_callr (want_no rfl) (some 25) rfl 142 #[.pointer (some ⟨gk, 0, none⟩), .string (tg f info (0 + 1))] (.tuple #[.int .i64 (tg f info (0 + 1)).size, .nilIface]) _ (fun _ => by kernel_rfl) (c_write (hB.keep M) (tg f info (0 + 1)) (by rw [al_len, tg_size]; omega)) ?_
    intro u6 hB2
    rw [al_next] at hB2
    refine nT <| wp_goto <| au_then_goto ?_
    exact ⟨rfl, 0 + 1, gk, fun k_ => ([.string ⟨#[]⟩, undef, undef, undef, .int .i64 ((al f info 0).data.toList.length : Int), .int .i64 (n : Int), .bool true, .int .u8 ((0 : Nat) : Int), .int .u8 ((0 + 1 : Nat) : Int), .agg (av 64 (w8 f)), .string (tg f info 0), .string info, .string ((tg f info 0) ++ info), .int .u8 ((0 + 1 : Nat) : Int), .slice (some ⟨g3, 0, none⟩) 1 1, .string (bs [((0 + 1 : Nat) : Int)]), .string ((tg f info 0 ++ info) ++ (bs [((0 + 1 : Nat) : Int)])), .string (tg f info (0 + 1)), .string (tg f info (0 + 1)), .tuple #[.int .i64 (tg f info (0 + 1)).size, .nilIface], undef] : List Value).getD (k_ - 6) undef, by omega, by kernel_rfl, hB2⟩
  ·have hjN : N = 0 := by omega
   ·have M := hB.mem hL
    refine wp_seq <| sR <| ZC M 10 (fun w M => c_len (hB.keep M)) fun u7 M => rV 1 <| zJ 12 (.bool false) (.bool (decide (((al f info 0).data.toList.length : Int) < (n : Int)))) (by rw [al_len, decide_eq_false (by omega)]) <| nT <| cF <| wp_skip <| au_then <| sR <| pl_callr (want_no rfl) (some 26) rfl 131 #[.pointer (some ⟨gk, 0, none⟩)] (.string (al f info N)) _ (fun _ => by kernel_rfl) (c_string (hB.keep M) (al f info N) (by rw [hjN])) ?_
    intro u8 hB2
    refine rV 1 <| nT <| wp_ret <| au_scope_ret ?_
    rw [← hN]
    exact bX (.string (al f info N)) ⟨rfl, hB2⟩
 ·intro a u0 hJ
  obtain ⟨j, gk, v, hjn, rfl, hB⟩ := hJ
  refine wp_seq <| wp_skip <| au_then ?_
  by_cases hj : j < N
  ··skip
    have M := hB.mem hL
    refine wp_seq <| sR <| ZC M 10 (fun w M => c_len (hB.keep M)) fun u9 M => rV 1 <| zJ 12 (.bool true) (.bool (decide (((al f info j).data.toList.length : Int) < (n : Int)))) (by rw [al_len, decide_eq_true (by omega)]) <| nT <| cT <| sR <| rV 1 <| ZQ 14 .u8 (IntKind.wrap .u8 ((j : Nat) + 1 : Int)) (add8 j (by omega)) <| rV 1 <| nT <| sR <| pA M 15 0 64 (w8 f) <| rV 2 <| pH 18 (.string ((tg f info j) ++ info)) (run_cat 9 9 _ _ rfl (tg f info j) info (by kernel_rfl) (by kernel_rfl) (by have := tg_le f info j; omega)) ?_
    refine rV 1 <| ZM M 20 (fun g4 => .slice (some ⟨g4, 0, none⟩) 1 1) (.cells (av 1 (fun _ => .int .u8 ((j + 1 : Nat) : Int))) 5) fun g4 u10 M => pl_back M (want_no rfl) (some 21) rfl _ rfl 1 g4 1 1 (by kernel_rfl) _ rfl [((j + 1 : Nat) : Int)] 1 (sb_one _ _) rfl (by intro x hx; rw [List.mem_singleton.1 hx]; omega) <| pH 22 (.string ((tg f info j ++ info) ++ (bs [((j + 1 : Nat) : Int)]))) (run_cat 9 9 _ _ rfl (tg f info j ++ info) (bs [((j + 1 : Nat) : Int)]) (by kernel_rfl) (by kernel_rfl) (by rw [ByteArray.size_append, bs_size]; have := tg_le f info j; simp; omega)) <| pC M 23 151 #[.agg (av 64 (w8 f)), .string ((tg f info j ++ info) ++ (bs [((j + 1 : Nat) : Int)]))] (.string (tg f info (j + 1))) (fun w M => c_tag f _ (by simp only [ByteArray.size_append, bs_size]; have := tg_le f info j; simp; omega) w M.laid) fun u11 M => rV 1 <| nT <| sR <| rV 1 <| pl_callr (want_no rfl) (some 25) rfl 142 #[.pointer (some ⟨gk, 0, none⟩), .string (tg f info (j + 1))] (.tuple #[.int .i64 (tg f info (j + 1)).size, .nilIface]) _ (fun _ => by kernel_rfl) (c_write (hB.keep M) (tg f info (j + 1)) (by rw [al_len, tg_size]; omega)) ?_
    intro u12 hB2
    rw [al_next] at hB2
    refine nT <| wp_goto <| au_then_goto ?_
    exact ⟨rfl, ⟨j + 1, gk, fun k_ => ([v 6, undef, undef, undef, .int .i64 ((al f info j).data.toList.length : Int), .int .i64 (n : Int), .bool true, .int .u8 (j : Int), .int .u8 ((j + 1 : Nat) : Int), .agg (av 64 (w8 f)), .string (tg f info j), .string info, .string ((tg f info j) ++ info), .int .u8 ((j + 1 : Nat) : Int), .slice (some ⟨g4, 0, none⟩) 1 1, .string (bs [((j + 1 : Nat) : Int)]), .string ((tg f info j ++ info) ++ (bs [((j + 1 : Nat) : Int)])), .string (tg f info (j + 1)), .string (tg f info (j + 1)), .tuple #[.int .i64 (tg f info (j + 1)).size, .nilIface], v 26] : List Value).getD (k_ - 6) undef, by omega, by kernel_rfl, hB2⟩, mu9_lt j (j + 1) (by kernel_rfl) (by kernel_rfl) (by omega) (by omega)⟩
  ·have hjN : N = j := by omega
   ·have M := hB.mem hL
    refine wp_seq <| sR <| ZC M 10 (fun w M => c_len (hB.keep M)) fun u13 M => rV 1 <| zJ 12 (.bool false) (.bool (decide (((al f info j).data.toList.length : Int) < (n : Int)))) (by rw [al_len, decide_eq_false (by omega)]) <| nT <| cF <| wp_skip <| au_then <| sR <| pl_callr (want_no rfl) (some 26) rfl 131 #[.pointer (some ⟨gk, 0, none⟩)] (.string (al f info N)) _ (fun _ => by kernel_rfl) (c_string (hB.keep M) (al f info N) (by rw [hjN])) ?_
    intro u14 hB2
    refine rV 1 <| nT <| wp_ret <| au_scope_ret ?_
    rw [← hN]
    exact bX (.string (al f info N)) ⟨rfl, hB2⟩
open Go.RowKit
def ws (f : Nat → ByteArray) : Nat → Value := fun i => .string (f i)
theorem put_ws (f : Nat → ByteArray) (k : Nat) (v : Yb) (j : Nat) : (if j = k then .string v else ws f j) = ws (upd f k v) j := by
 unfold ws upd
 split <;> rfl
theorem info9_ex : (Tryz.prog.info? 9).isSome = true := by kernel_rfl
theorem info9_eq : Tryz.prog.info? 9 = some ((Tryz.prog.info? 9).get info9_ex) := (Option.some_get info9_ex).symm
theorem info9_z : ((Tryz.prog.info? 9).get info9_ex).zero = some (.string ⟨#[]⟩) := by kernel_rfl
theorem pl_makeS {ops : Array Oper} {rest : List Oper} {o : Oper} {a : Act} {w : World} {c : Ctx} {L : List Blk} {Q : Exit → Act → World → Prop} (M : Mem c L w) (hw : Region.wanted o (yielded ops a.tmps) = true) (d : Option Tmp) (hd : o.dst = d) (x y : Operand) (ho : o.op = .makeSlice 83 x y) (cap : Nat) (hx : a.eval x = .int .i64 (cap : Int)) (hy : a.eval y = .int .i64 (cap : Int)) (hc : cap < 1000000)
  (h : ∀ g w', Mem c (L ++ [⟨g, .cells (av cap (ws fun _ => ⟨#[]⟩)) 9⟩]) w' → PL Tryz.prog ops Q rest (a.put d (.slice (some ⟨g, 0, none⟩) cap cap)) w') : PL Tryz.prog ops Q (o :: rest) a w := by
 have hby : ((Tryz.prog.info? 9).get info9_ex).bytes ≤ 16 := by decide +kernel
 have hsz : ((Tryz.prog.info? 9).get info9_ex).size = 1 := by kernel_rfl
 have hr := run_make (P := Tryz.prog) w 83 9 _ (.string ⟨#[]⟩) Tryz.underlying83 info9_eq info9_z .i64 .i64 (cap : Int) (cap : Int) (by omega) (by omega) (by
  have := Int.mul_le_mul (show (((Tryz.prog.info? 9).get info9_ex).bytes : Int) ≤ 16 by omega) (show (cap : Int) ≤ 1000000 by omega) (by omega) (by omega)
  omega) (by omega)
 simp only [Int.toNat_natCast, hsz, Nat.mul_one] at hr
 have e : madeCells #[.string ⟨#[]⟩] cap = av cap (ws fun _ => ⟨#[]⟩) := by
  unfold madeCells av ws
  apply Array.ext_getElem?
  intro i
  by_cases hi : i < cap
  ·simp [hi, Nat.mod_one]
  ·simp [hi]
 refine pl_to hw d hd (.slice (some ⟨w.heap.size, 0, none⟩) cap cap) _ ?_ (h w.heap.size (w.alloc (.cells (av cap (ws fun _ => ⟨#[]⟩)) 9)) (M.new _ _ (new_below w _) (heap_alloc_new w _) (Nat.le_refl _)))
 unfold execOp
 simp only [ho, hx, hy, Sem.run_bind, Sem.run_pure]
 rw [hr, ← e]
 rfl
def exV (key info : Yb) (n : Nat) : ByteArray := (al (bt (keyV key)) info ((n + 31) / 32)).extract 0 n
theorem exV_size (key info : Yb) (n : Nat) : (exV key info n).size = n := by
 unfold exV
 rw [ByteArray.size_extract, al_size]
 omega
def txt (key s : Yb) (i : Nat) : ByteArray := tg (bt (keyV (hmV key s))) strE (i + 1)
theorem ba_app {A B : Yb} {i j : Nat} : (A ++ B).extract i j = A.extract i j ++ B.extract (i - A.size) (j - A.size) := by
 apply ByteArray.ext
 rw [ByteArray.data_extract, ByteArray.data_append, ByteArray.data_append, ByteArray.data_extract, ByteArray.data_extract, Array.extract_append]
 rfl
theorem ba_ext2 {A : Yb} {i j k l : Nat} : (A.extract i j).extract k l = A.extract (i + k) (min (i + l) j) := by
 apply ByteArray.ext
 rw [ByteArray.data_extract, ByteArray.data_extract, ByteArray.data_extract, Array.extract_extract]
theorem ba_none {A : Yb} {i j : Nat} (h : min j A.size ≤ i) : A.extract i j = ⟨#[]⟩ := by
 apply ByteArray.ext
 rw [ByteArray.data_extract]
 apply Array.eq_empty_of_size_eq_zero
 rw [Array.size_extract]
 have hs : A.data.size = A.size := rfl
 omega
theorem ba_whole {A : Yb} {j : Nat} (h : A.size ≤ j) : A.extract 0 j = A := by
 apply ByteArray.ext
 rw [ByteArray.data_extract]
 exact Array.extract_eq_self_of_le h
theorem al_cut (f : NI) (info : Yb) (j : Nat) : ∀ n, j < n → (al f info n).extract (j * 32) ((j + 1) * 32) = tg f info (j + 1)
 | 0, h => by omega
 | n + 1, h => by
  show (al f info n ++ tg f info (n + 1)).extract _ _ = _
  rw [ba_app, al_size]
  by_cases e : j = n
  ·subst e
   rw [ba_none (A := al f info j) (by rw [al_size]; omega), show j * 32 - 32 * j = 0 by omega, ba_whole (by rw [tg_size]; omega)]
   exact ByteArray.empty_append
  ·rw [al_cut f info j n (by omega), ba_none (A := tg f info (n + 1)) (by omega)]
   exact ByteArray.append_empty
theorem ex_cut (key s : Yb) (n j : Nat) (h : j < n) : (exV (hmV key s) strE (n * 32)).extract (j * 32) ((j + 1) * 32) = txt key s j := by
 unfold exV txt
 have h2 := Nat.mul_le_mul_right 32 (show j + 1 ≤ n by omega)
 rw [show (n * 32 + 31) / 32 = n by omega, ba_ext2, Nat.zero_add, Nat.zero_add, Nat.min_eq_left h2, al_cut _ _ j n h]
def chF (X : Yb) : Nat → (Nat → ByteArray)
 | 0 => fun _ => ⟨#[]⟩
 | j + 1 => upd (chF X j) j (X.extract (j * 32) ((j + 1) * 32))
theorem chF_eq (X : Yb) : ∀ n i, i < n → chF X n i = X.extract (i * 32) ((i + 1) * 32)
 | 0, i, h => by omega
 | n + 1, i, h => by
  unfold chF upd
  by_cases e : i = n
  ·subst e
   rw [if_pos rfl]
  ·rw [if_neg e, chF_eq X n i (by omega)]
theorem ch_av (key s : Yb) (n : Nat) : av n (ws (chF (exV (hmV key s) strE (n * 32)) n)) = av n (ws (txt key s)) := av_congr fun i hi => by
 unfold ws
 rw [chF_eq _ n i hi, ex_cut key s n i hi]
theorem c_exp (key info : Yb) (hi : info.size < 10000) (n : Nat) (hn : n ≤ 8160) (w : World) (hL : Laid w)  : Cs 82 #[.string key, .string info, .int .i64 (n : Int)] w (.tuple #[.string (exV key info n), .int .i64 0]) := by
 go_enter Tryz.func82, Tryz.ntmps82
 have M := Mem.start hL
 refine sq <| wp_seq <| sR <| rV 1 <| ZF 9 ((n : Int) < 0) <| rV 2 <| ZF 12 ((8160 : Int) < (n : Int)) <| rV 1 <| nT <| cF <| wp_skip <| au_then <| sR <| rV 1 <| ZC M 15 (fun w M => c_block key w M.laid) fun u1 M => rV 2 ?_
 refine pC M 18 112 #[.agg (av 64 (w8 (bt (keyV key)))), .string info, .int .i64 (n : Int)] (.string (al (bt (keyV key)) info ((n + 31) / 32))) (fun w M => c_tags _ info hi n hn w M.laid) fun u2 M => rV 1 <| pH 20 (.string (exV key info n)) (run_strh 9 Tryz.underlying9 _ _ rfl (al (bt (keyV key)) info ((n + 31) / 32)) (by kernel_rfl) .i64 n (by kernel_rfl) (by rw [al_size]; omega) _ rfl) <| rV 2 <| nT <| wp_ret ?_
 exact b1 M
theorem c_ch (key s : Yb) (hs : s.size < 10000) (n : Nat) (h1 : 1 ≤ n) (h3 : n ≤ 3) (w : World) (hL : Laid w) : Calls Tryz.prog 56 #[.string key, .string s, .int .i64 (n : Int)] w fun r w' => ∃ g, r = .returned (.tuple #[.slice (some ⟨g, 0, none⟩) n n, .int .i64 0]) ∧ w.heap.size ≤ g ∧ w'.heap[g]? = some (.cells (av n (ws (txt key s))) 9) ∧ Below w.heap.size w w' := by
 go_enter Tryz.func56, Tryz.ntmps56
 have M := Mem.start hL
 refine sq <| wp_seq <| sR <| rV 1 <| ZF 13 ((n : Int) < 1) <| rV 2 <| ZF 16 ((3 : Int) < (n : Int)) <| rV 1 <| nT <| cF <| wp_skip <| au_then <| sR <| rV 2 <| ZC M 21 (fun w M => c_extract key s (by omega) w M.laid) fun u1 M => rV 1 ?_
 refine ZI 23 ((n : Int) * 32) ((n * 32 : Nat) : Int) <| ZC M 24 (fun w M => c_exp (hmV key s) strE (by decide) (n * 32) (by omega) w M.laid) fun u2 M => rV 5 <| nT <| wp_seq <| sq <| cF <| wp_skip <| au_then <| sR <| rV 1 <| pl_makeS M (want_no rfl) (some 31) rfl _ _ rfl n (by kernel_rfl) (by kernel_rfl) (by omega) fun g1 u3 M => rV 1 <| nT <| wp_seq <| sq ?_
 refine wp_block ?_
 refine au_loop (fun j a w' => ∃ v1 : NV, a = (fm ([.string key, .string s, .int .i64 (n : Int)] ++ vr v1 3 3 ++ [.slice none 0 0, .int .i64 0, .string (exV (hmV key s) strE (n * 32)), .int .i64 0, .slice (some ⟨g1, 0, none⟩) n n] ++ vr v1 11 22 ++ [.int .i64 (n : Int), .int .i64 (j : Int)] ++ vr v1 35 14)) ∧ Mem ⟨w, []⟩ [⟨g1, .cells (av n (ws (chF (exV (hmV key s) strE (n * 32)) j))) 9⟩] w') n (exS M) ?_ ?_
 ·intro j a u0 hj hI
  obtain ⟨v1, rfl, M⟩ := hI
  refine sR <| ZT 35 ((j : Int) < (n : Int)) <| nT <| wp_seq <| cT <| wp_skip <| au_then <| wp_seq <| wp_block <| sq <| rg_lit <| rV 4 <| ZI 41 ((j : Int) * 32) ((j * 32 : Nat) : Int) <| rV 1 <| ZI 43 ((j : Int) + 1) ((j + 1 : Nat) : Int) <| ZI 44 (((j + 1 : Nat) : Int) * 32) (((j + 1) * 32 : Nat) : Int) ?_
  refine pH 45 (.string ((exV (hmV key s) strE (n * 32)).extract (j * 32) ((j + 1) * 32))) (run_strlh 9 Tryz.underlying9 _ _ _ rfl (exV (hmV key s) strE (n * 32)) (by kernel_rfl) .i64 .i64 (j * 32) ((j + 1) * 32) (by kernel_rfl) (by kernel_rfl) (by omega) (by rw [exV_size]; omega)) <| pH 46 (.pointer (some ⟨g1, j, none⟩)) (run_ix0 83 9 Tryz.underlying83 inz9 _ _ rfl g1 n n (by kernel_rfl) .i64 j (by kernel_rfl) (by omega)) <| pP M 0 rfl j (.string ((exV (hmV key s) strE (n * 32)).extract (j * 32) ((j + 1) * 32))) (ws (upd (chF (exV (hmV key s) strE (n * 32)) j) j ((exV (hmV key s) strE (n * 32)).extract (j * 32) ((j + 1) * 32)))) (by omega) (fun j _ => put_ws _ _ _ j) fun u4 M => pl_nil <| au_block <| au_then <| rg_lit <| ZI 47 ((j : Int) + 1) ((j + 1 : Nat) : Int) <| rV 1 <| nT ?_
  exact exS M
 ·intro a u0 hI
  obtain ⟨v1, rfl, M⟩ := hI
  refine sR <| ZF 35 ((n : Int) < (n : Int)) <| nT <| wp_seq <| cF <| wp_exit <| au_then_exit <| au_then_exit <| au_block_exit <| au_then <| sq <| wp_ret ?_
  exact bX (.tuple #[.slice (some ⟨g1, 0, none⟩) n n, .int .i64 0]) ⟨g1, rfl, (M.ge _ (List.mem_of_getElem? (i := 0) rfl)).elim id (fun h => by cases h), by rw [← ch_av]; exact M.get 0 rfl, below_grown M.old⟩
end Go.Proofs.YtffimigpbcilbaaGreatDoor.Bla
