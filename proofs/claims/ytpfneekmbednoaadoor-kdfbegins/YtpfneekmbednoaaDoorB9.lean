/- Both sums are one. -/
import Derived.Test.YtpfneekmbednoaaDoorB8
namespace Go.Proofs.YtpfneekmbednoaaDoor
open Go.RowKit

theorem upd_congr {f g : Nat → Int} {k : Nat} {a b : Int} {t : Nat} (h : f t = g t) (e : a = b) : upd f k a t = upd g k b t := by
  unfold upd
  rw [h, e]
theorem mxF_congr {v u : Nat → Int} (h : ∀ t, t < 16 → v t = u t) (x y : Int) {i j k l : Nat} (hi : i < 16) (hj : j < 16) (hk : k < 16) (hl : l < 16) : ∀ t, t < 16 → mxF v x y i j k l t = mxF u x y i j k l t := by
  intro t ht
  have e1 : mA2 v x y i j k l = mA2 u x y i j k l := by simp only [mA2, mA1, mB1, mC1, mD1, h i hi, h j hj, h k hk, h l hl]
  have e2 : mB2 v x y i j k l = mB2 u x y i j k l := by simp only [mB2, mC2, mD2, mA2, mA1, mB1, mC1, mD1, h i hi, h j hj, h k hk, h l hl]
  have e3 : mC2 v x y i j k l = mC2 u x y i j k l := by simp only [mC2, mD2, mA2, mA1, mB1, mC1, mD1, h i hi, h j hj, h k hk, h l hl]
  have e4 : mD2 v x y i j k l = mD2 u x y i j k l := by simp only [mD2, mA2, mA1, mB1, mC1, mD1, h i hi, h j hj, h k hk, h l hl]
  unfold mxF
  exact upd_congr (upd_congr (upd_congr (upd_congr (h t ht) e1) e2) e3) e4
theorem rn_congr {m m' : Nat → Int} (hm : ∀ t, t < 16 → m t = m' t) {v u : Nat → Int} (h : ∀ t, t < 16 → v t = u t) (j : Nat) : ∀ t, t < 16 → rn8 m v j t = rn8 m' u j t := by
  have h1 : ∀ t, t < 16 → rn1 m v j t = rn1 m' u j t := by
    unfold rn1
    rw [hm _ (OF_lt _), hm _ (OF_lt _)]
    exact mxF_congr h _ _ (by decide) (by decide) (by decide) (by decide)
  have h2 : ∀ t, t < 16 → rn2 m v j t = rn2 m' u j t := by
    unfold rn2
    rw [hm _ (OF_lt _), hm _ (OF_lt _)]
    exact mxF_congr h1 _ _ (by decide) (by decide) (by decide) (by decide)
  have h3 : ∀ t, t < 16 → rn3 m v j t = rn3 m' u j t := by
    unfold rn3
    rw [hm _ (OF_lt _), hm _ (OF_lt _)]
    exact mxF_congr h2 _ _ (by decide) (by decide) (by decide) (by decide)
  have h4 : ∀ t, t < 16 → rn4 m v j t = rn4 m' u j t := by
    unfold rn4
    rw [hm _ (OF_lt _), hm _ (OF_lt _)]
    exact mxF_congr h3 _ _ (by decide) (by decide) (by decide) (by decide)
  have h5 : ∀ t, t < 16 → rn5 m v j t = rn5 m' u j t := by
    unfold rn5
    rw [hm _ (OF_lt _), hm _ (OF_lt _)]
    exact mxF_congr h4 _ _ (by decide) (by decide) (by decide) (by decide)
  have h6 : ∀ t, t < 16 → rn6 m v j t = rn6 m' u j t := by
    unfold rn6
    rw [hm _ (OF_lt _), hm _ (OF_lt _)]
    exact mxF_congr h5 _ _ (by decide) (by decide) (by decide) (by decide)
  have h7 : ∀ t, t < 16 → rn7 m v j t = rn7 m' u j t := by
    unfold rn7
    rw [hm _ (OF_lt _), hm _ (OF_lt _)]
    exact mxF_congr h6 _ _ (by decide) (by decide) (by decide) (by decide)
  have h8 : ∀ t, t < 16 → rn8 m v j t = rn8 m' u j t := by
    unfold rn8
    rw [hm _ (OF_lt _), hm _ (OF_lt _)]
    exact mxF_congr h7 _ _ (by decide) (by decide) (by decide) (by decide)
  exact h8
theorem rd_congr {m m' : Nat → Int} (hm : ∀ t, t < 16 → m t = m' t) {v u : Nat → Int} (h : ∀ t, t < 16 → v t = u t) : ∀ j, ∀ t, t < 16 → rd m v j t = rd m' u j t
  | 0 => h
  | j + 1 => rn_congr hm (rd_congr hm h j) j
theorem bs_ext (l : List Int) (n : Nat) : (bs l).extract 0 n = bs (l.take n) := by
  apply ByteArray.ext
  rw [ByteArray.data_extract]
  unfold bs
  apply Array.ext_getElem?
  intro i
  simp only [Array.getElem?_extract, List.getElem?_toArray, List.getElem?_map, List.getElem?_take]
  by_cases h : i < n
  · simp [h]
    intro h2
    rw [List.getElem?_eq_none (by omega)]
    rfl
  · simp [h]
    omega
theorem loI_congr {f g : Nat → Int} : ∀ n, (∀ i, i < n → f i = g i) → loI f n = loI g n
  | 0, _ => rfl
  | n + 1, h => by
    unfold loI
    rw [loI_congr n fun i hi => h i (by omega), h n (by omega)]
theorem sumV_eq (z : Nat) (H : HS) : sumV z H = bs ((loI (sumW H) 8).take z) := bs_ext _ _

def p4 (f : Nat → Int) (t : Nat) : Int := f (4 * t) + 256 * f (4 * t + 1) + 65536 * f (4 * t + 2) + 16777216 * f (4 * t + 3)
def cut (n : Nat) (f : Nat → Int) : Nat → Int := fun i => if i < n then f i else 0
theorem vo_nat (x y : Nat) (hx : x < 4294967296) (hy : y < 4294967296) : vo (x : Int) (y : Int) = ((x ||| y : Nat) : Int) := by
  unfold vo
  have h1 : BitVec.ofInt 32 (x : Int) = BitVec.ofNat 32 x := by
    apply BitVec.eq_of_toNat_eq
    rw [BitVec.toNat_ofInt, BitVec.toNat_ofNat]
    omega
  have h2 : BitVec.ofInt 32 (y : Int) = BitVec.ofNat 32 y := by
    apply BitVec.eq_of_toNat_eq
    rw [BitVec.toNat_ofInt, BitVec.toNat_ofNat]
    omega
  rw [h1, h2, wrap32_nat _ (BitVec.isLt _), BitVec.toNat_or, BitVec.toNat_ofNat, BitVec.toNat_ofNat, Nat.mod_eq_of_lt (by omega), Nat.mod_eq_of_lt (by omega)]
theorem vo_add (k x c : Nat) (hx : x < 2 ^ k) (h : 2 ^ k * c + x < 4294967296) : vo (x : Int) ((2 ^ k * c : Nat) : Int) = ((2 ^ k * c + x : Nat) : Int) := by
  rw [vo_nat _ _ (by omega) (by omega), Nat.or_comm, Nat.two_pow_add_eq_or_of_lt hx c]
theorem cv32 (c : Int) (h0 : 0 ≤ c) (h1 : c < 256) : cv .u32 c = c := by
  unfold cv
  obtain ⟨n, rfl⟩ : ∃ n : Nat, c = (n : Int) := ⟨c.toNat, by omega⟩
  exact wrap32_nat n (by omega)
theorem vl_nat (x k : Nat) (h : x * 2 ^ k < 4294967296) : vl (x : Int) k = ((x * 2 ^ k : Nat) : Int) := by
  unfold vl
  rw [← wrap32_nat _ h]
  congr 1
theorem vo_sh (x c : Int) (hx0 : 0 ≤ x) (hx : x < 16777216) (hc0 : 0 ≤ c) (hc : c < 256) : vo (vl x 8) (cv .u32 c) = x * 256 + c := by
  rw [cv32 c hc0 hc]
  obtain ⟨a, rfl⟩ : ∃ a : Nat, x = (a : Int) := ⟨x.toNat, by omega⟩
  obtain ⟨b, rfl⟩ : ∃ b : Nat, c = (b : Int) := ⟨c.toNat, by omega⟩
  rw [vl_nat a 8 (by omega), vo_comm, show a * 2 ^ 8 = 2 ^ 8 * a by omega, vo_add 8 b a (by omega) (by omega)]
  omega
theorem vo_vl0 (x c : Int) (hx0 : 0 ≤ x) (hx : x < 1) (hc0 : 0 ≤ c) (hc : c < 256) : vo x (vl (cv .u32 c) 0) = x + 1 * c := by
  rw [cv32 c hc0 hc]
  obtain ⟨a, rfl⟩ : ∃ a : Nat, x = (a : Int) := ⟨x.toNat, by omega⟩
  obtain ⟨b, rfl⟩ : ∃ b : Nat, c = (b : Int) := ⟨c.toNat, by omega⟩
  rw [vl_nat b 0 (by omega), show b * 2 ^ 0 = 2 ^ 0 * b by omega, vo_add 0 a b (by omega) (by omega)]
  omega
theorem vo_vl1 (x c : Int) (hx0 : 0 ≤ x) (hx : x < 256) (hc0 : 0 ≤ c) (hc : c < 256) : vo x (vl (cv .u32 c) 8) = x + 256 * c := by
  rw [cv32 c hc0 hc]
  obtain ⟨a, rfl⟩ : ∃ a : Nat, x = (a : Int) := ⟨x.toNat, by omega⟩
  obtain ⟨b, rfl⟩ : ∃ b : Nat, c = (b : Int) := ⟨c.toNat, by omega⟩
  rw [vl_nat b 8 (by omega), show b * 2 ^ 8 = 2 ^ 8 * b by omega, vo_add 8 a b (by omega) (by omega)]
  omega
theorem vo_vl2 (x c : Int) (hx0 : 0 ≤ x) (hx : x < 65536) (hc0 : 0 ≤ c) (hc : c < 256) : vo x (vl (cv .u32 c) 16) = x + 65536 * c := by
  rw [cv32 c hc0 hc]
  obtain ⟨a, rfl⟩ : ∃ a : Nat, x = (a : Int) := ⟨x.toNat, by omega⟩
  obtain ⟨b, rfl⟩ : ∃ b : Nat, c = (b : Int) := ⟨c.toNat, by omega⟩
  rw [vl_nat b 16 (by omega), show b * 2 ^ 16 = 2 ^ 16 * b by omega, vo_add 16 a b (by omega) (by omega)]
  omega
theorem vo_vl3 (x c : Int) (hx0 : 0 ≤ x) (hx : x < 16777216) (hc0 : 0 ≤ c) (hc : c < 256) : vo x (vl (cv .u32 c) 24) = x + 16777216 * c := by
  rw [cv32 c hc0 hc]
  obtain ⟨a, rfl⟩ : ∃ a : Nat, x = (a : Int) := ⟨x.toNat, by omega⟩
  obtain ⟨b, rfl⟩ : ∃ b : Nat, c = (b : Int) := ⟨c.toNat, by omega⟩
  rw [vl_nat b 24 (by omega), show b * 2 ^ 24 = 2 ^ 24 * b by omega, vo_add 24 a b (by omega) (by omega)]
  omega
theorem wo_p4 (rs : Nat → Int) (hr : ∀ i, 0 ≤ rs i ∧ rs i < 256) : ∀ n, n ≤ 64 → ∀ t, wo rs n t = p4 (cut n rs) t
  | 0, _, t => by simp [p4, cut, wo]
  | n + 1, hn, t => by
    have ih := wo_p4 rs hr n (by omega)
    show upd (wo rs n) (n / 4) (vo (wo rs n (n / 4)) (vl (cv .u32 (rs n)) (n % 4 * 8))) t = _
    unfold upd
    by_cases e : t = n / 4
    · rw [if_pos e, ← e, ih t]
      have c0 := hr (4 * t)
      have c1 := hr (4 * t + 1)
      have c2 := hr (4 * t + 2)
      have c3 := hr (4 * t + 3)
      rcases (show n % 4 = 0 ∨ n % 4 = 1 ∨ n % 4 = 2 ∨ n % 4 = 3 by omega) with h | h | h | h
      · have hN : n = 4 * t := by omega
        subst hN
        have e1 : p4 (cut (4 * t) rs) t = 0 := by unfold p4 cut; split <;> split <;> split <;> split <;> omega
        have e2 : p4 (cut (4 * t + 1) rs) t = rs (4 * t) := by unfold p4 cut; split <;> split <;> split <;> split <;> omega
        rw [e1, e2, h, vo_vl0 _ _ (by omega) (by omega) c0.1 c0.2]
        omega
      · have hN : n = 4 * t + 1 := by omega
        subst hN
        have e1 : p4 (cut (4 * t + 1) rs) t = rs (4 * t) := by unfold p4 cut; split <;> split <;> split <;> split <;> omega
        have e2 : p4 (cut (4 * t + 1 + 1) rs) t = rs (4 * t) + 256 * rs (4 * t + 1) := by unfold p4 cut; split <;> split <;> split <;> split <;> omega
        rw [e1, e2, h, vo_vl1 _ _ (by omega) (by omega) c1.1 c1.2]
      · have hN : n = 4 * t + 2 := by omega
        subst hN
        have e1 : p4 (cut (4 * t + 2) rs) t = rs (4 * t) + 256 * rs (4 * t + 1) := by unfold p4 cut; split <;> split <;> split <;> split <;> omega
        have e2 : p4 (cut (4 * t + 2 + 1) rs) t = rs (4 * t) + 256 * rs (4 * t + 1) + 65536 * rs (4 * t + 2) := by unfold p4 cut; split <;> split <;> split <;> split <;> omega
        rw [e1, e2, h, vo_vl2 _ _ (by omega) (by omega) c2.1 c2.2]
      · have hN : n = 4 * t + 3 := by omega
        subst hN
        have e1 : p4 (cut (4 * t + 3) rs) t = rs (4 * t) + 256 * rs (4 * t + 1) + 65536 * rs (4 * t + 2) := by unfold p4 cut; split <;> split <;> split <;> split <;> omega
        have e2 : p4 (cut (4 * t + 3 + 1) rs) t = rs (4 * t) + 256 * rs (4 * t + 1) + 65536 * rs (4 * t + 2) + 16777216 * rs (4 * t + 3) := by unfold p4 cut; split <;> split <;> split <;> split <;> omega
        rw [e1, e2, h, vo_vl3 _ _ (by omega) (by omega) c3.1 c3.2]
    · rw [if_neg e, ih t]
      have hc : ∀ i, i ≠ n → cut n rs i = cut (n + 1) rs i := fun i hi => by
        unfold cut
        by_cases h1 : i < n
        · rw [if_pos h1, if_pos (by omega)]
        · rw [if_neg h1, if_neg (by omega)]
      unfold p4
      rw [hc _ (by omega), hc _ (by omega), hc _ (by omega), hc _ (by omega)]
theorem upd4 (f : Nat → Int) (k : Nat) (a b c d : Int) : upd (upd (upd (upd f k a) k b) k c) k d = upd f k d := by
  funext t
  unfold upd
  by_cases e : t = k
  · rw [if_pos e, if_pos e]
  · simp [e]
theorem wd_step (rs : Nat → Int) (hr : ∀ i, 0 ≤ rs i ∧ rs i < 256) (q : Nat) (hq : q < 16) (h0 : wd rs (4 * q) (15 - q) = 0) : wd rs (4 * q + 4) = upd (wd rs (4 * q)) (15 - q) (p4 rs (15 - q)) := by
  have i0 : (63 - 4 * q) / 4 = 15 - q := by omega
  have i1 : (63 - (4 * q + 1)) / 4 = 15 - q := by omega
  have i2 : (63 - (4 * q + 2)) / 4 = 15 - q := by omega
  have i3 : (63 - (4 * q + 3)) / 4 = 15 - q := by omega
  have j0 : 63 - 4 * q = 4 * (15 - q) + 3 := by omega
  have j1 : 63 - (4 * q + 1) = 4 * (15 - q) + 2 := by omega
  have j2 : 63 - (4 * q + 2) = 4 * (15 - q) + 1 := by omega
  have j3 : 63 - (4 * q + 3) = 4 * (15 - q) := by omega
  obtain ⟨u, hu⟩ : ∃ u, u = 15 - q := ⟨_, rfl⟩
  rw [← hu] at i0 i1 i2 i3 j0 j1 j2 j3 h0 ⊢
  have c0 := hr (4 * u)
  have c1 := hr (4 * u + 1)
  have c2 := hr (4 * u + 2)
  have c3 := hr (4 * u + 3)
  have w1 : wd rs (4 * q + 1) = upd (wd rs (4 * q)) u (rs (4 * u + 3)) := by
    show upd (wd rs (4 * q)) ((63 - 4 * q) / 4) (vo (vl (wd rs (4 * q) ((63 - 4 * q) / 4)) 8) (cv .u32 (rs (63 - 4 * q)))) = _
    rw [i0, j0, h0, vo_sh _ _ (by omega) (by omega) c3.1 c3.2]
    congr 1
    omega
  have w2 : wd rs (4 * q + 2) = upd (upd (wd rs (4 * q)) u (rs (4 * u + 3))) u (rs (4 * u + 2) + 256 * rs (4 * u + 3)) := by
    show upd (wd rs (4 * q + 1)) ((63 - (4 * q + 1)) / 4) (vo (vl (wd rs (4 * q + 1) ((63 - (4 * q + 1)) / 4)) 8) (cv .u32 (rs (63 - (4 * q + 1))))) = _
    have e : upd (wd rs (4 * q)) u (rs (4 * u + 3)) u = rs (4 * u + 3) := by simp [upd]
    rw [i1, j1, w1, e, vo_sh _ _ (by omega) (by omega) c2.1 c2.2]
    congr 1
    omega
  have w3 : wd rs (4 * q + 3) = upd (upd (upd (wd rs (4 * q)) u (rs (4 * u + 3))) u (rs (4 * u + 2) + 256 * rs (4 * u + 3))) u (rs (4 * u + 1) + 256 * rs (4 * u + 2) + 65536 * rs (4 * u + 3)) := by
    show upd (wd rs (4 * q + 2)) ((63 - (4 * q + 2)) / 4) (vo (vl (wd rs (4 * q + 2) ((63 - (4 * q + 2)) / 4)) 8) (cv .u32 (rs (63 - (4 * q + 2))))) = _
    have e : upd (upd (wd rs (4 * q)) u (rs (4 * u + 3))) u (rs (4 * u + 2) + 256 * rs (4 * u + 3)) u = rs (4 * u + 2) + 256 * rs (4 * u + 3) := by simp [upd]
    rw [i2, j2, w2, e, vo_sh _ _ (by omega) (by omega) c1.1 c1.2]
    congr 1
    omega
  show upd (wd rs (4 * q + 3)) ((63 - (4 * q + 3)) / 4) (vo (vl (wd rs (4 * q + 3) ((63 - (4 * q + 3)) / 4)) 8) (cv .u32 (rs (63 - (4 * q + 3))))) = _
  have e : upd (upd (upd (wd rs (4 * q)) u (rs (4 * u + 3))) u (rs (4 * u + 2) + 256 * rs (4 * u + 3))) u (rs (4 * u + 1) + 256 * rs (4 * u + 2) + 65536 * rs (4 * u + 3)) u = rs (4 * u + 1) + 256 * rs (4 * u + 2) + 65536 * rs (4 * u + 3) := by simp [upd]
  rw [i3, j3, w3, e, vo_sh _ _ (by omega) (by omega) c0.1 c0.2, upd4]
  congr 1
  unfold p4
  omega
theorem wd_at (rs : Nat → Int) (hr : ∀ i, 0 ≤ rs i ∧ rs i < 256) : ∀ q, q ≤ 16 → ∀ t, t < 16 → wd rs (4 * q) t = if 16 - q ≤ t then p4 rs t else 0
  | 0, _, t, ht => by rw [if_neg (by omega)]; rfl
  | q + 1, hq, t, ht => by
    have ih := wd_at rs hr q (by omega)
    have h0 := ih (15 - q) (by omega)
    rw [if_neg (by omega)] at h0
    show wd rs (4 * q + 4) t = _
    rw [wd_step rs hr q (by omega) h0]
    unfold upd
    by_cases e : t = 15 - q
    · rw [if_pos e, if_pos (by omega), e]
    · rw [if_neg e, ih t ht]
      by_cases h : 16 - q ≤ t
      · rw [if_pos h, if_pos (by omega)]
      · rw [if_neg h, if_neg (by omega)]
theorem wd_p4 (rs : Nat → Int) (hr : ∀ i, 0 ≤ rs i ∧ rs i < 256) (t : Nat) (ht : t < 16) : wd rs 64 t = p4 rs t := by
  have h := wd_at rs hr 16 (by omega) t ht
  rw [if_pos (by omega)] at h
  exact h

theorem spr_congr {x x' : Nat → Int} (h : ∀ i, i < 8 → x i = x' i) (ct : Int) (last : Bool) : ∀ t, t < 16 → spr x ct last t = spr x' ct last t := by
  have hB : ∀ t, spB x t = spB x' t := fun t => by
    unfold spB
    by_cases e : t < 8
    · rw [if_pos e, if_pos e, h t e]
    · rw [if_neg e, if_neg e]
  have hB2 : spB x = spB x' := funext hB
  intro t _
  unfold spr spC
  rw [hB2]
theorem mixW_congr {x x' m m' : Nat → Int} (h : ∀ i, i < 8 → x i = x' i) (hm : ∀ t, t < 16 → m t = m' t) (ct : Int) (last : Bool) : ∀ i, i < 8 → mixW x m ct last i = mixW x' m' ct last i := by
  intro i hi
  unfold mixW
  have hr := rd_congr hm (spr_congr h ct last) 10
  rw [h i hi, hr i (by omega), hr (8 + i) (by omega)]

theorem bt_ext (A : ByteArray) (a b i : Nat) (hb : b ≤ A.size) (hi : i < b - a) : bt (A.extract a b) i = bt A (a + i) := by
  unfold bt
  congr 2
  have hs : A.data.size = A.size := rfl
  rw [ByteArray.data_extract, Array.getElem?_extract, if_pos (by omega)]
theorem bt_out (A : ByteArray) (i : Nat) (h : A.size ≤ i) : bt A i = 0 := by
  have hs : A.data.size = A.size := rfl
  unfold bt
  rw [Array.getElem?_eq_none (by omega)]
  rfl
theorem bt_app (r s : ByteArray) (i : Nat) : bt (r ++ s) i = if i < r.size then bt r i else bt s (i - r.size) := by
  rw [bt_of_sb, sb_append, List.getD_eq_getElem?_getD]
  by_cases h : i < r.size
  · rw [if_pos h, List.getElem?_append_left (by rw [sb_length]; exact h), ← List.getD_eq_getElem?_getD, ← bt_of_sb]
  · rw [if_neg h, List.getElem?_append_right (by rw [sb_length]; omega), sb_length, ← List.getD_eq_getElem?_getD, ← bt_of_sb]
theorem bt_zs (c i : Nat) : bt (zs c) i = 0 := by
  unfold bt zs
  by_cases h : i < c
  · simp [h]
  · simp [h]

/-- The bytes of a part of a text. -/
def seg (A : ByteArray) (a r : Nat) : List Int := (List.range r).map fun i => bt A (a + i)
theorem seg_length (A : ByteArray) (a r : Nat) : (seg A a r).length = r := by simp [seg]
theorem lf_seg (A : ByteArray) (a r i : Nat) : lf (seg A a r) i = if i < r then bt A (a + i) else 0 := by
  unfold lf seg
  rw [List.getD_eq_getElem?_getD, List.getElem?_map]
  by_cases h : i < r
  · rw [if_pos h, List.getElem?_range h]
    rfl
  · rw [if_neg h, List.getElem?_eq_none (by simp; omega)]
    rfl
theorem lf_seg_nn (A : ByteArray) (a r : Nat) : ∀ i, 0 ≤ lf (seg A a r) i ∧ lf (seg A a r) i < 256 := fun i => by
  rw [lf_seg]
  split
  · exact bt_nn _ _
  · omega
def PP (A : ByteArray) (x : Nat → Int) : Nat → (Nat → Int)
  | 0 => x
  | j + 1 => mixW (PP A x j) (wo (lf (seg A (64 * j) 64)) 64) ((64 * j + 64 : Nat) : Int) false
theorem ua_nat (a b : Nat) (h : a + b < 18446744073709551616) : ua (a : Int) (b : Int) = ((a + b : Nat) : Int) := by
  rw [ua_eq]
  omega
/-- What the hash is behind some bytes. -/
theorem tk_at (z kl : Nat) (A : ByteArray) : ∀ j, 64 * j < 1000000 → ∀ r, 0 < r → r ≤ 64 → tk (hs0 z kl) A (64 * j + r) = ⟨PP A (hs0 z kl).ws j, seg A (64 * j) r, ((64 * j : Nat) : Int)⟩
  | 0, _, r, h0, h1 => by
    have h := tk_run (hs0 z kl) A 0 r h0 (by
      rw [fl_id (H := tk (hs0 z kl) A 0) (show (hs0 z kl).wl.length < 64 by simp [hs0])]
      show (hs0 z kl).wl.length + r ≤ 64
      simpa [hs0] using h1)
    rw [fl_id (H := tk (hs0 z kl) A 0) (show (hs0 z kl).wl.length < 64 by simp [hs0])] at h
    rw [Nat.mul_zero, h]
    rfl
  | j + 1, hj, r, h0, h1 => by
    have ih := tk_at z kl A j (by omega) 64 (by omega) (by omega)
    have hf : fl (tk (hs0 z kl) A (64 * j + 64)) = ⟨PP A (hs0 z kl).ws (j + 1), [], ((64 * (j + 1) : Nat) : Int)⟩ := by
      rw [ih]
      unfold fl
      rw [if_pos (seg_length _ _ _)]
      simp only [seg_length, mixV_W]
      have e : ua ((64 * j : Nat) : Int) 64 = ((64 * j + 64 : Nat) : Int) := ua_nat (64 * j) 64 (by omega)
      rw [e]
      rfl
    have h := tk_run (hs0 z kl) A (64 * j + 64) r h0 (by rw [hf]; simpa using h1)
    rw [hf] at h
    rw [show 64 * (j + 1) + r = 64 * j + 64 + r by omega, h]
    rfl
theorem cut_seg (A : ByteArray) (a r : Nat) : cut r (lf (seg A a r)) = lf (seg A a r) := by
  funext i
  unfold cut
  split
  · rfl
  · rw [lf_seg, if_neg (by omega)]
theorem PP_pcs (A : ByteArray) (x : Nat → Int) : ∀ j, 64 * j ≤ A.size → A.size < 1000000 → ∀ i, i < 8 → PP A x j i = pcs A x j i
  | 0, _, _, _, _ => rfl
  | j + 1, hj, hA, i, hi => by
    have ih := PP_pcs A x j (by omega) hA
    unfold PP pcs
    rw [cv_u64 _ (by omega)]
    refine mixW_congr ih (fun t ht => ?_) _ _ i hi
    rw [wo_p4 _ (lf_seg_nn _ _ _) 64 (by omega) t, cut_seg, wd_p4 _ (bt_nn _) t ht]
    have hb : ∀ k, k < 64 → lf (seg A (64 * j) 64) k = bt (A.extract (64 * j) (64 * j + 64)) k := fun k hk => by
      rw [lf_seg, if_pos hk, bt_ext _ _ _ _ (by omega) (by omega)]
    unfold p4
    rw [hb _ (by omega), hb _ (by omega), hb _ (by omega), hb _ (by omega)]

theorem tk_app (H : HS) (s p : ByteArray) : ∀ k, tk (tk H s s.size) p k = tk H (s ++ p) (s.size + k)
  | 0 => by
    have h : ∀ k, k ≤ s.size → tk H (s ++ p) k = tk H s k := by
      intro k
      induction k with
      | zero => intro _; rfl
      | succ k ih =>
        intro hk
        show ab (tk H (s ++ p) k) (bt (s ++ p) k) = ab (tk H s k) (bt s k)
        rw [ih (by omega), bt_app, if_pos (by omega)]
    exact (h s.size (Nat.le_refl _)).symm
  | k + 1 => by
    show ab (tk (tk H s s.size) p k) (bt p k) = ab (tk H (s ++ p) (s.size + k)) (bt (s ++ p) (s.size + k))
    rw [tk_app H s p k, bt_app, if_neg (by omega), show s.size + k - s.size = k by omega]
theorem tk_all (H : HS) (s p : ByteArray) : tk H (s ++ p) (s ++ p).size = tk (tk H s s.size) p p.size := by
  rw [ByteArray.size_append, tk_app]
theorem tk_nw (z : Nat) (key s : ByteArray) : tk (nw z key) s s.size = tk (hs0 z key.size) (allV key s) (allV key s).size := by
  unfold nw allV
  split
  · rfl
  · exact (tk_all _ _ _).symm

theorem tk_end (z kl : Nat) (A : ByteArray) (hA : A.size < 1000000) : tk (hs0 z kl) A A.size = ⟨PP A (hs0 z kl).ws (nbl A), seg A (64 * nbl A) (A.size - 64 * nbl A), ((64 * nbl A : Nat) : Int)⟩ := by
  have hn : nbl A = (A.size - 1) / 64 := rfl
  by_cases h : A.size = 0
  · have h0 : nbl A = 0 := by omega
    rw [h, h0]
    rfl
  · have h1 := tk_at z kl A (nbl A) (by omega) (A.size - 64 * nbl A) (by omega) (by omega)
    rw [show 64 * nbl A + (A.size - 64 * nbl A) = A.size by omega] at h1
    exact h1
theorem sum_dfin (z kl : Nat) (A : ByteArray) (hA : A.size < 1000000) : ∀ i, i < 8 → sumW (tk (hs0 z kl) A A.size) i = dfin A (hs0 z kl).ws i := by
  intro i hi
  have hn : nbl A = (A.size - 1) / 64 := rfl
  rw [tk_end z kl A hA]
  unfold sumW dfin
  simp only [seg_length, mixV_W]
  rw [cv_u64 _ (by omega), cv_u64 _ (by omega), ua_nat _ _ (by omega), show 64 * nbl A + (A.size - 64 * nbl A) = A.size by omega]
  refine mixW_congr (PP_pcs A _ _ (by omega) hA) (fun t ht => ?_) _ _ i hi
  have hrs : (rst A).size = A.size - 64 * nbl A := by
    unfold rst
    rw [size_extract]
  rw [wo_p4 _ (lf_seg_nn _ _ _) _ (by omega) t, cut_seg, wd_p4 _ (bt_nn _) t ht]
  have hb : ∀ k, lf (seg A (64 * nbl A) (A.size - 64 * nbl A)) k = bt (rst A ++ zs (64 - (rst A).size)) k := fun k => by
    rw [lf_seg, bt_app, hrs]
    by_cases h : k < A.size - 64 * nbl A
    · rw [if_pos h, if_pos h]
      unfold rst
      rw [bt_ext _ _ _ _ (by omega) h]
    · rw [if_neg h, if_neg h, bt_zs]
  unfold p4
  rw [hb, hb, hb, hb]

theorem outL_step (h : Nat → Int) (j k : Nat) (hk : k < 4) : outL h (4 * j + k + 1) = outL h (4 * j + k) ++ [cv .u8 (sr (h j) (8 * k))] := by
  show outL h (4 * j + k) ++ _ = _
  rw [show (4 * j + k) / 4 = j by omega, show (4 * j + k) % 4 = k by omega]
theorem sr0 (x : Int) : sr x 0 = x := by
  unfold sr
  simp
theorem outL_loI (h : Nat → Int) : ∀ j, outL h (4 * j) = loI h j
  | 0 => rfl
  | j + 1 => by
    show outL h (4 * j + 3 + 1) = _
    rw [outL_step h j 3 (by omega), show 4 * j + 3 = 4 * j + 2 + 1 by rfl, outL_step h j 2 (by omega), show 4 * j + 2 = 4 * j + 1 + 1 by rfl, outL_step h j 1 (by omega), show 4 * j + 1 = 4 * j + 0 + 1 by rfl, outL_step h j 0 (by omega), Nat.add_zero, outL_loI h j]
    simp [loI, lo4, sr0]
theorem outL_take (h : Nat → Int) (z : Nat) : ∀ k, (outL h (z + k)).take z = outL h z
  | 0 => by rw [Nat.add_zero, List.take_of_length_le (by rw [outL_length]; exact Nat.le_refl _)]
  | k + 1 => by
    show (outL h (z + k) ++ _).take z = _
    rw [List.take_append_of_le_length (by rw [outL_length]; omega), outL_take h z k]
/-- What the document says is what the program answers. -/
theorem doc_eq (z : Nat) (hz : z ≤ 32) (key s : ByteArray) (hs : s.size < 100000) (hk : key.size ≤ 32) : docS z key s = blV z key s := by
  have hA : (allV key s).size < 1000000 := by
    unfold allV
    split
    · omega
    · rw [ByteArray.size_append, ByteArray.size_append, zs_size]
      omega
  unfold docS docV blV
  rw [sumV_eq, tk_nw, loI_congr 8 (sum_dfin z key.size (allV key s) hA), ← outL_loI]
  congr 1
  have h := outL_take (dfin (allV key s) (hs0 z key.size).ws) z (32 - z)
  rw [show z + (32 - z) = 4 * 8 by omega] at h
  exact h.symm

end Go.Proofs.YtpfneekmbednoaaDoor
