/- Both are one: the words, the blocks and the texts of the program and of the document. -/
import Derived.Test.YtenafinbaanicaaDoorC8
namespace Go.Proofs.YtenafinbaanicaaDoor
open Go.RowKit

theorem cv32 (c : Int) (h0 : 0 ≤ c) (h1 : c < 256) : cv .u32 c = c := by
  unfold cv
  obtain ⟨n, rfl⟩ : ∃ n : Nat, c = (n : Int) := ⟨c.toNat, by omega⟩
  exact wrap32_nat n (by omega)
theorem vl_nat (x k : Nat) (h : x * 2 ^ k < 4294967296) : vl (x : Int) k = ((x * 2 ^ k : Nat) : Int) := by
  unfold vl
  rw [← wrap32_nat _ h]
  congr 1
theorem vo_nat (x y : Nat) (hx : x < 4294967296) (hy : y < 4294967296) : vo (x : Int) (y : Int) = ((x ||| y : Nat) : Int) := by
  unfold vo
  have h1 : BitVec.ofInt 32 (x : Int) = BitVec.ofNat 32 x := by
    apply BitVec.eq_of_toNat_eq
    rw [BitVec.toNat_ofInt, BitVec.toNat_ofNat]
    omega
  have h2 : BitVec.ofInt 32 (y : Int) = BitVec.ofNat 32 y := by
    apply BitVec.eq_of_toNat_eq
    rw [BitVec.toNat_ofInt, BitVec.toNat_ofNat]
    omega
  rw [h1, h2, wrap32_nat _ (BitVec.isLt _), BitVec.toNat_or, BitVec.toNat_ofNat, BitVec.toNat_ofNat, Nat.mod_eq_of_lt (by omega), Nat.mod_eq_of_lt (by omega)]
theorem vo_add (k x c : Nat) (hx : x < 2 ^ k) (h : 2 ^ k * c + x < 4294967296) : vo (x : Int) ((2 ^ k * c : Nat) : Int) = ((2 ^ k * c + x : Nat) : Int) := by
  rw [vo_nat _ _ (by omega) (by omega), Nat.or_comm, Nat.two_pow_add_eq_or_of_lt hx c]
theorem vo_vl0 (x c : Int) (hx0 : 0 ≤ x) (hx : x < 1) (hc0 : 0 ≤ c) (hc : c < 256) : vo x (vl (cv .u32 c) 0) = x + 1 * c := by
  rw [cv32 c hc0 hc]
  obtain ⟨a, rfl⟩ : ∃ a : Nat, x = (a : Int) := ⟨x.toNat, by omega⟩
  obtain ⟨b, rfl⟩ : ∃ b : Nat, c = (b : Int) := ⟨c.toNat, by omega⟩
  rw [vl_nat b 0 (by omega), show b * 2 ^ 0 = 2 ^ 0 * b by omega, vo_add 0 a b (by omega) (by omega)]
  omega
theorem vo_vl1 (x c : Int) (hx0 : 0 ≤ x) (hx : x < 256) (hc0 : 0 ≤ c) (hc : c < 256) : vo x (vl (cv .u32 c) 8) = x + 256 * c := by
  rw [cv32 c hc0 hc]
  obtain ⟨a, rfl⟩ : ∃ a : Nat, x = (a : Int) := ⟨x.toNat, by omega⟩
  obtain ⟨b, rfl⟩ : ∃ b : Nat, c = (b : Int) := ⟨c.toNat, by omega⟩
  rw [vl_nat b 8 (by omega), show b * 2 ^ 8 = 2 ^ 8 * b by omega, vo_add 8 a b (by omega) (by omega)]
  omega
theorem vo_vl2 (x c : Int) (hx0 : 0 ≤ x) (hx : x < 65536) (hc0 : 0 ≤ c) (hc : c < 256) : vo x (vl (cv .u32 c) 16) = x + 65536 * c := by
  rw [cv32 c hc0 hc]
  obtain ⟨a, rfl⟩ : ∃ a : Nat, x = (a : Int) := ⟨x.toNat, by omega⟩
  obtain ⟨b, rfl⟩ : ∃ b : Nat, c = (b : Int) := ⟨c.toNat, by omega⟩
  rw [vl_nat b 16 (by omega), show b * 2 ^ 16 = 2 ^ 16 * b by omega, vo_add 16 a b (by omega) (by omega)]
  omega
theorem vo_vl3 (x c : Int) (hx0 : 0 ≤ x) (hx : x < 16777216) (hc0 : 0 ≤ c) (hc : c < 256) : vo x (vl (cv .u32 c) 24) = x + 16777216 * c := by
  rw [cv32 c hc0 hc]
  obtain ⟨a, rfl⟩ : ∃ a : Nat, x = (a : Int) := ⟨x.toNat, by omega⟩
  obtain ⟨b, rfl⟩ : ∃ b : Nat, c = (b : Int) := ⟨c.toNat, by omega⟩
  rw [vl_nat b 24 (by omega), show b * 2 ^ 24 = 2 ^ 24 * b by omega, vo_add 24 a b (by omega) (by omega)]
  omega
theorem va_comm (x y : Int) : va x y = va y x := by
  rw [va_eq, va_eq]
  omega
theorem pw_no (v : Nat → Int) (p : Nat) (b : Nat → Int) (t : Nat) : ∀ m, (∀ j, j < m → t ≠ p + j / 4) → pw v p b m t = v t
  | 0, _ => rfl
  | m + 1, h => by
    unfold pw
    rw [up_ne _ _ _ (h m (by omega)), pw_no v p b t m (fun j hj => h j (by omega))]
theorem pw_done (v : Nat → Int) (p : Nat) (b : Nat → Int) (q : Nat) : ∀ d, pw v p b (4 * q + 4 + d) (p + q) = pw v p b (4 * q + 4) (p + q)
  | 0 => rfl
  | d + 1 => by
    show upd (pw v p b (4 * q + 4 + d)) (p + (4 * q + 4 + d) / 4) _ (p + q) = _
    rw [up_ne _ _ _ (by omega), pw_done v p b q d]
/-- The number of four bytes. -/
def n4 (b0 b1 b2 b3 : Int) : Int := b0 + 256 * b1 + 65536 * b2 + 16777216 * b3
theorem pw_four (v : Nat → Int) (p : Nat) (b : Nat → Int) (hb : ∀ i, 0 ≤ b i ∧ b i < 256) (q : Nat) (h0 : v (p + q) = 0) : pw v p b (4 * q + 4) (p + q) = n4 (b (4 * q)) (b (4 * q + 1)) (b (4 * q + 2)) (b (4 * q + 3)) := by
  have c0 := hb (4 * q)
  have c1 := hb (4 * q + 1)
  have c2 := hb (4 * q + 2)
  have c3 := hb (4 * q + 3)
  have s0 : pw v p b (4 * q) (p + q) = 0 := by rw [pw_no v p b _ _ (fun j hj => by omega), h0]
  have s1 : pw v p b (4 * q + 1) (p + q) = b (4 * q) := by
    unfold pw
    rw [show p + 4 * q / 4 = p + q by omega, up_at, s0, show 4 * q % 4 * 8 = 0 by omega, vo_vl0 _ _ (by omega) (by omega) c0.1 c0.2]
    omega
  have s2 : pw v p b (4 * q + 2) (p + q) = b (4 * q) + 256 * b (4 * q + 1) := by
    show upd (pw v p b (4 * q + 1)) (p + (4 * q + 1) / 4) (vo (pw v p b (4 * q + 1) (p + (4 * q + 1) / 4)) (vl (cv .u32 (b (4 * q + 1))) ((4 * q + 1) % 4 * 8))) (p + q) = _
    rw [show p + (4 * q + 1) / 4 = p + q by omega, up_at, s1, show (4 * q + 1) % 4 * 8 = 8 by omega, vo_vl1 _ _ (by omega) (by omega) c1.1 c1.2]
  have s3 : pw v p b (4 * q + 3) (p + q) = b (4 * q) + 256 * b (4 * q + 1) + 65536 * b (4 * q + 2) := by
    show upd (pw v p b (4 * q + 2)) (p + (4 * q + 2) / 4) (vo (pw v p b (4 * q + 2) (p + (4 * q + 2) / 4)) (vl (cv .u32 (b (4 * q + 2))) ((4 * q + 2) % 4 * 8))) (p + q) = _
    rw [show p + (4 * q + 2) / 4 = p + q by omega, up_at, s2, show (4 * q + 2) % 4 * 8 = 16 by omega, vo_vl2 _ _ (by omega) (by omega) c2.1 c2.2]
  show upd (pw v p b (4 * q + 3)) (p + (4 * q + 3) / 4) (vo (pw v p b (4 * q + 3) (p + (4 * q + 3) / 4)) (vl (cv .u32 (b (4 * q + 3))) ((4 * q + 3) % 4 * 8))) (p + q) = _
  rw [show p + (4 * q + 3) / 4 = p + q by omega, up_at, s3, show (4 * q + 3) % 4 * 8 = 24 by omega, vo_vl3 _ _ (by omega) (by omega) c3.1 c3.2]
  rfl
theorem pw_word (v : Nat → Int) (p : Nat) (b : Nat → Int) (hb : ∀ i, 0 ≤ b i ∧ b i < 256) (m q : Nat) (hq : 4 * q + 4 ≤ m) (h0 : v (p + q) = 0) : pw v p b m (p + q) = n4 (b (4 * q)) (b (4 * q + 1)) (b (4 * q + 2)) (b (4 * q + 3)) := by
  obtain ⟨d, rfl⟩ : ∃ d, m = 4 * q + 4 + d := ⟨m - (4 * q + 4), by omega⟩
  rw [pw_done, pw_four v p b hb q h0]
theorem wd4_n4 (s : ByteArray) : wd4 s = n4 (bt s 0) (bt s 1) (bt s 2) (bt s 3) := by
  have c0 := bt_nn s 0
  have c1 := bt_nn s 1
  have c2 := bt_nn s 2
  have c3 := bt_nn s 3
  unfold wd4
  rw [cv32 (bt s 0) c0.1 c0.2, vo_vl1 _ _ c0.1 c0.2 c1.1 c1.2, vo_vl2 _ _ (by omega) (by omega) c2.1 c2.2, vo_vl3 _ _ (by omega) (by omega) c3.1 c3.2]
  rfl
theorem bt_sub (s : ByteArray) (p q j : Nat) (hj : j < q - p) (hq : q ≤ s.size) : bt (s.extract p q) j = bt s (p + j) := by
  unfold bt
  rw [ByteArray.data_extract, Array.getElem?_extract, if_pos (by show j < min q s.data.size - p; have : s.size = s.data.size := rfl; omega)]
theorem dx_at (al : ByteArray) : ∀ n, ∀ i, i < n → dx al n i = wd4 (al.extract (4 * i) (4 * i + 4))
  | 0, i, h => absurd h (by omega)
  | n + 1, i, h => by
    unfold dx upd
    by_cases e : i = n
    · rw [if_pos e, e]
    · rw [if_neg e, dx_at al n i (by omega)]
theorem dx_out (al : ByteArray) : ∀ n, ∀ i, n ≤ i → dx al n i = 0
  | 0, _, _ => rfl
  | n + 1, i, h => by
    unfold dx
    rw [up_ne _ _ _ (by omega), dx_out al n i (by omega)]
theorem dx_n4 (al : ByteArray) (ha : al.size = 64) (i : Nat) (hi : i < 16) : dx al 16 i = n4 (bt al (4 * i)) (bt al (4 * i + 1)) (bt al (4 * i + 2)) (bt al (4 * i + 3)) := by
  rw [dx_at al 16 i hi, wd4_n4, bt_sub _ _ _ _ (by omega) (by omega), bt_sub _ _ _ _ (by omega) (by omega), bt_sub _ _ _ _ (by omega) (by omega), bt_sub _ _ _ _ (by omega) (by omega), Nat.add_zero]
theorem bt_left (a b : ByteArray) (i : Nat) (h : i < a.size) : bt (a ++ b) i = bt a i := by
  unfold bt
  rw [ByteArray.data_append, Array.getElem?_append_left h]
theorem bt_right (a b : ByteArray) (i : Nat) (h : a.size ≤ i) : bt (a ++ b) i = bt b (i - a.size) := by
  unfold bt
  rw [ByteArray.data_append, Array.getElem?_append_right h]
  rfl
theorem bt_bs (l : List Int) (h : ∀ x ∈ l, 0 ≤ x ∧ x < 256) (i : Nat) : bt (bs l) i = l.getD i 0 := by rw [bt_of_sb, sb_bs l h]
theorem nb_n4 (n : Int) (h0 : 0 ≤ n) (h1 : n < 4294967296) : n4 (nb n 0) (nb n 1) (nb n 2) (nb n 3) = n := by
  obtain ⟨m, rfl⟩ : ∃ m : Nat, n = (m : Int) := ⟨n.toNat, by omega⟩
  have hc : ∀ k : Nat, cv .u8 (k : Int) = ((k % 256 : Nat) : Int) := fun k => by
    unfold cv
    simp [IntKind.wrap, IntKind.signed, IntKind.bits]
  have hs : ∀ k : Nat, sr (m : Int) k = ((m / 2 ^ k : Nat) : Int) := fun k => by
    unfold sr
    rw [Int.fdiv_eq_ediv_of_nonneg _ (by exact Int.le_of_lt (Int.pow_pos (by decide)))]
    simp
  show n4 (cv .u8 (m : Int)) (cv .u8 (sr (m : Int) 8)) (cv .u8 (sr (m : Int) 16)) (cv .u8 (sr (m : Int) 24)) = _
  rw [hs, hs, hs, hc, hc, hc, hc]
  unfold n4
  omega
/-- The first words of a block, but for its number. -/
def fw0 (key nonce : ByteArray) : Nat → Int := pw (f2 key) 13 (bt nonce) nonce.size
theorem pw_upd (v : Nat → Int) (x : Int) (b : Nat → Int) : ∀ m, pw (upd v 12 x) 13 b m = upd (pw v 13 b m) 12 x
  | 0 => rfl
  | m + 1 => by
    unfold pw
    rw [pw_upd v x b m, up_ne _ _ _ (by omega : 13 + m / 4 ≠ 12), up_comm _ (by omega)]
theorem fw_eq (key nonce : ByteArray) (n : Int) : fw key nonce n = upd (fw0 key nonce) 12 n := pw_upd _ _ _ _
theorem f1_at (q : Nat) (hq : q < 4) : f1 q = n4 (bt strK (4 * q)) (bt strK (4 * q + 1)) (bt strK (4 * q + 2)) (bt strK (4 * q + 3)) := by
  have h := pw_word (fun _ => 0) 0 (bt strK) (bt_nn strK) 16 q (by omega) rfl
  rw [Nat.zero_add] at h
  exact h
theorem f1_out (t : Nat) (ht : 4 ≤ t) : f1 t = 0 := pw_no (fun _ => 0) 0 (bt strK) t 16 (fun j hj => by omega)
theorem al_1 (key nonce : ByteArray) (n : Int) (hk : key.size = 32) (i : Nat) (h : i < 16) : bt (alS key nonce n) i = bt strK i := by
  have e1 : (strK ++ key).size = 48 := by rw [ByteArray.size_append, strK_size, hk]
  have e2 : (strK ++ key ++ nB n).size = 52 := by rw [ByteArray.size_append, e1, nB_size]
  unfold alS
  rw [bt_left _ _ _ (by omega), bt_left _ _ _ (by omega), bt_left _ _ _ (by rw [strK_size]; omega)]
theorem al_2 (key nonce : ByteArray) (n : Int) (hk : key.size = 32) (i : Nat) (h : 16 ≤ i) (h' : i < 48) : bt (alS key nonce n) i = bt key (i - 16) := by
  have e1 : (strK ++ key).size = 48 := by rw [ByteArray.size_append, strK_size, hk]
  have e2 : (strK ++ key ++ nB n).size = 52 := by rw [ByteArray.size_append, e1, nB_size]
  unfold alS
  rw [bt_left _ _ _ (by omega), bt_left _ _ _ (by omega), bt_right _ _ _ (by rw [strK_size]; omega), strK_size]
theorem al_3 (key nonce : ByteArray) (n : Int) (hk : key.size = 32) (i : Nat) (h : 48 ≤ i) (h' : i < 52) : bt (alS key nonce n) i = ((List.range 4).map (nb n)).getD (i - 48) 0 := by
  have e1 : (strK ++ key).size = 48 := by rw [ByteArray.size_append, strK_size, hk]
  have e2 : (strK ++ key ++ nB n).size = 52 := by rw [ByteArray.size_append, e1, nB_size]
  unfold alS
  rw [bt_left _ _ _ (by omega), bt_right _ _ _ (by omega), e1]
  unfold nB
  rw [bt_bs _ (nb_nn n)]
theorem al_4 (key nonce : ByteArray) (n : Int) (hk : key.size = 32) (i : Nat) (h : 52 ≤ i) : bt (alS key nonce n) i = bt nonce (i - 52) := by
  have e1 : (strK ++ key).size = 48 := by rw [ByteArray.size_append, strK_size, hk]
  have e2 : (strK ++ key ++ nB n).size = 52 := by rw [ByteArray.size_append, e1, nB_size]
  unfold alS
  rw [bt_right _ _ _ (by omega), e2]
theorem n4_congr {a b c d a' b' c' d' : Int} (h1 : a = a') (h2 : b = b') (h3 : c = c') (h4 : d = d') : n4 a b c d = n4 a' b' c' d' := by rw [h1, h2, h3, h4]
/-- The program's first words are the document's. -/
theorem fw_dx (key nonce : ByteArray) (n : Int) (hk : key.size = 32) (hn : nonce.size = 12) (h0 : 0 ≤ n) (h1 : n < 4294967296) : fw key nonce n = dx (alS key nonce n) 16 := by
  funext t
  rw [fw_eq]
  by_cases h16 : t < 16
  · rw [dx_n4 _ (alS_size key nonce n hk hn) t h16]
    by_cases c13 : 13 ≤ t
    · obtain ⟨q, rfl⟩ : ∃ q, t = 13 + q := ⟨t - 13, by omega⟩
      rw [up_ne _ _ _ (by omega)]
      unfold fw0
      rw [pw_word (f2 key) 13 (bt nonce) (bt_nn nonce) nonce.size q (by omega) (by unfold f2; rw [pw_no _ _ _ _ _ (fun j hj => by omega), f1_out _ (by omega)])]
      rw [al_4 key nonce n hk (4 * (13 + q)) (by omega), al_4 key nonce n hk (4 * (13 + q) + 1) (by omega), al_4 key nonce n hk (4 * (13 + q) + 2) (by omega), al_4 key nonce n hk (4 * (13 + q) + 3) (by omega)]
      refine n4_congr ?_ ?_ ?_ ?_ <;> congr 1 <;> omega
    · by_cases c12 : t = 12
      · subst c12
        rw [up_at]
        rw [al_3 key nonce n hk (4 * 12) (by omega) (by omega), al_3 key nonce n hk (4 * 12 + 1) (by omega) (by omega), al_3 key nonce n hk (4 * 12 + 2) (by omega) (by omega), al_3 key nonce n hk (4 * 12 + 3) (by omega) (by omega)]
        exact (nb_n4 n h0 h1).symm
      · rw [up_ne _ _ _ c12]
        unfold fw0
        rw [pw_no _ _ _ _ _ (fun j hj => by omega)]
        by_cases c4 : 4 ≤ t
        · obtain ⟨q, rfl⟩ : ∃ q, t = 4 + q := ⟨t - 4, by omega⟩
          unfold f2
          rw [pw_word f1 4 (bt key) (bt_nn key) key.size q (by omega) (f1_out _ (by omega))]
          rw [al_2 key nonce n hk (4 * (4 + q)) (by omega) (by omega), al_2 key nonce n hk (4 * (4 + q) + 1) (by omega) (by omega), al_2 key nonce n hk (4 * (4 + q) + 2) (by omega) (by omega), al_2 key nonce n hk (4 * (4 + q) + 3) (by omega) (by omega)]
          refine n4_congr ?_ ?_ ?_ ?_ <;> congr 1 <;> omega
        · unfold f2
          rw [pw_no _ _ _ _ _ (fun j hj => by omega), f1_at t (by omega)]
          rw [al_1 key nonce n hk (4 * t) (by omega), al_1 key nonce n hk (4 * t + 1) (by omega), al_1 key nonce n hk (4 * t + 2) (by omega), al_1 key nonce n hk (4 * t + 3) (by omega)]
  · rw [dx_out _ _ _ (by omega), up_ne _ _ _ (by omega)]
    unfold fw0
    rw [pw_no _ _ _ _ _ (fun j hj => by omega)]
    unfold f2
    rw [pw_no _ _ _ _ _ (fun j hj => by omega), f1_out _ (by omega)]
theorem bl_dbl (f : Nat → Int) (i : Nat) : bl f i = dbl f i := by
  unfold bl dbl
  rw [va_comm, Nat.mul_comm]
theorem blk_dbk (key nonce : ByteArray) (n : Int) (hk : key.size = 32) (hn : nonce.size = 12) (h0 : 0 ≤ n) (h1 : n < 4294967296) : blk (fw key nonce n) = dbk key nonce n := by
  unfold blk dbk
  rw [fw_dx key nonce n hk hn h0 h1]
  refine congrArg bs ?_
  exact List.map_congr_left fun i _ => bl_dbl _ i
theorem va_nn (x y : Int) : 0 ≤ va x y ∧ va x y < 4294967296 := by
  rw [va_eq]
  omega
/-- The words of the stream's blocks are first words, with other numbers. -/
theorem sw_fw (key nonce : ByteArray) (n : Int) (h0 : 0 ≤ n) (h1 : n < 4294967296) : ∀ j : Nat, sw (fw key nonce n) j = fw key nonce (va n (j : Int))
  | 0 => by
    show fw key nonce n = _
    congr 1
    rw [va_eq]
    omega
  | j + 1 => by
    unfold sw
    rw [sw_fw key nonce n h0 h1 j, fw_eq, fw_eq, up_at, up_up]
    congr 1
    rw [va_eq, va_eq, va_eq]
    omega
theorem ot_map (f : Nat → Int) (s : ByteArray) : ∀ n, ot f s n = (List.range n).map fun i => UInt8.ofNat (ob f s i).toNat
  | 0 => rfl
  | n + 1 => by
    unfold ot
    rw [ot_map f s n, List.range_succ, List.map_append]
    rfl
theorem oS_bs (f : Nat → Int) (s : ByteArray) : oS f s = bs ((List.range s.size).map (ob f s)) := by
  unfold oS bs
  rw [ot_map, List.map_map]
  rfl
theorem oS_size (f : Nat → Int) (s : ByteArray) : (oS f s).size = s.size := by
  rw [oS_bs, bs_size]
  simp
/-- The program's turned text is the document's. -/
theorem oS_dT (key nonce : ByteArray) (n : Int) (s : ByteArray) (hk : key.size = 32) (hn : nonce.size = 12) (h0 : 0 ≤ n) (h1 : n < 4294967296) : oS (fw key nonce n) s = dT key nonce n s := by
  rw [oS_bs]
  unfold dT
  refine congrArg bs ?_
  refine List.map_congr_left fun i _ => ?_
  unfold ob dob
  refine congrArg (xb (bt s i)) ?_
  have hv := va_nn n ((i / 64 : Nat) : Int)
  rw [sw_fw key nonce n h0 h1, ← blk_dbk key nonce _ hk hn hv.1 hv.2]
  unfold blk
  rw [bt_bs _ (blk_nn _)]
  have hi : i % 64 < 64 := by omega
  rw [List.getD_eq_getElem?_getD, List.getElem?_map, List.getElem?_range hi]
  rfl

end Go.Proofs.YtenafinbaanicaaDoor
