/- The document's digest and the program's are the same. -/
import Derived.Test.YtghobmgdadpplaaDoorD11
namespace Go.Proofs.YtghobmgdadpplaaDoor
open Go.RowKit

theorem bt_app_l (s p : ByteArray) (i : Nat) (h : i < s.size) : bt (s ++ p) i = bt s i := by
  rw [bt_of_sb, bt_of_sb, sb_append, List.getD_eq_getElem?_getD, List.getD_eq_getElem?_getD, List.getElem?_append_left (by rw [sb_length]; exact h)]
theorem bt_app_r (s p : ByteArray) (i : Nat) : bt (s ++ p) (s.size + i) = bt p i := by
  rw [bt_of_sb, bt_of_sb, sb_append, List.getD_eq_getElem?_getD, List.getD_eq_getElem?_getD, List.getElem?_append_right (by rw [sb_length]; omega), sb_length, Nat.add_sub_cancel_left]
theorem tk_app_l (H : HS) (s p : ByteArray) : ∀ k, k ≤ s.size → tk H (s ++ p) k = tk H s k
  | 0, _ => rfl
  | k + 1, h => by
    unfold tk
    rw [tk_app_l H s p k (by omega), bt_app_l s p k (by omega)]
theorem tk_app (H : HS) (s p : ByteArray) : ∀ k, tk H (s ++ p) (s.size + k) = tk (tk H s s.size) p k
  | 0 => tk_app_l H s p s.size (Nat.le_refl _)
  | k + 1 => by
    show ab (tk H (s ++ p) (s.size + k)) (bt (s ++ p) (s.size + k)) = ab (tk (tk H s s.size) p k) (bt p k)
    rw [tk_app H s p k, bt_app_r]
theorem tk_all (H : HS) (s p : ByteArray) : tk H (s ++ p) (s ++ p).size = tk (tk H s s.size) p p.size := by
  rw [ByteArray.size_append]
  exact tk_app H s p p.size

theorem tk_ct (s : ByteArray) : ∀ k, k < 1000000 → (tk hs0 s k).ct = (k : Int)
  | 0, _ => rfl
  | k + 1, h => by
    show ua (tk hs0 s k).ct 1 = _
    rw [tk_ct s k (by omega), ua_eq]
    omega

theorem blocks (D : ByteArray) : ∀ j, 128 * j < 1000000 → (tk hs0 D (128 * j)).ws = pcs (sb D) j
  | 0, _ => rfl
  | j + 1, h => by
    have hct : (tk hs0 D (128 * j)).ct % 128 = ((0 : Nat) : Int) := by
      rw [tk_ct D _ (by omega)]
      omega
    obtain ⟨_, _, h3⟩ := tk_run hs0 hs0_ok D (128 * j) 0 (D.extract (128 * j) D.size) (fun i => bt_extract D (128 * j) i) hct 128 (by omega)
    rw [if_pos (by omega)] at h3
    show (tk hs0 D (128 * j + 128)).ws = _
    rw [h3, blocks D j (by omega)]
    show _ = mixV (pcs (sb D) j) (fun i => (sb D).getD (128 * j + i) 0)
    refine mixV_congr fun i hi => ?_
    unfold cpy
    rw [if_pos (by omega), Nat.sub_zero, bt_extract, bt_of_sb]

theorem sr61 (n : Nat) (h : n < 1000000) : sr (n : Int) 61 = 0 := by
  unfold sr
  rw [Int.fdiv_eq_ediv_of_nonneg _ (by decide)]
  show (n : Int) / 2305843009213693952 = 0
  omega
theorem sl3 (n : Nat) (h : n < 1000000) : sl (n : Int) 3 = um 8 (cv .u64 (n : Int)) := by
  rw [cv_u64 n (by omega)]
  unfold sl um
  rw [Int.mul_comm]
  rfl
theorem hI_two (y : Int) : hI (r2 0 y) 2 = [0, 0, 0, 0, 0, 0, 0, 0, cv .u8 (sr y 56), cv .u8 (sr y 48), cv .u8 (sr y 40), cv .u8 (sr y 32), cv .u8 (sr y 24), cv .u8 (sr y 16), cv .u8 (sr y 8), cv .u8 (sr y 0)] := rfl
theorem lenB_eq (n : Nat) (h : n < 1000000) : hI (r2 (sr (n : Int) 61) (sl (n : Int) 3)) 2 = LenB n := by
  rw [sr61 n h, sl3 n h, hI_two]
  rfl
theorem dl_sb (s : ByteArray) (hs : s.size < 1000000) : sb (s ++ padS (s.size : Int)) = dl s := by
  rw [sb_append, pad_sb, lenB_eq _ hs]
  unfold dl
  rw [show (((s.size : Int) % 128).toNat) = s.size % 128 by omega]
  simp

theorem doc_eq (s : ByteArray) (hs : s.size < 100000) : docV s = ofV s := by
  have hD := dl_sb s (by omega)
  have hct := tk_ct s s.size (by omega)
  have hl := dl_length s
  have hm := dl_len s
  unfold docV ofV sumV
  rw [hct, ← tk_all, show (64 : Nat) = 8 * 8 from rfl, outL_hI, ← hD]
  have hsz : (s ++ padS (s.size : Int)).size = 128 * ((dl s).length / 128) := by
    rw [← sb_length, hD]
    omega
  rw [hsz, blocks _ _ (by omega), hD]

end Go.Proofs.YtghobmgdadpplaaDoor
