/- Numbers of bytes. -/
import Derived.Test.YtbechjlkmajcoaaQ2
namespace Go.Proofs.Ytbechjlkmajcoaa
open Go.RowKit

theorem u8_cv64 (s : ByteArray) (j : Nat) : cv .u64 (bt s j) = bt s j := by
  have := bt_nn s j
  rw [cv_u64]
  omega
theorem uo_ua (x b : Int) (h0 : 0 ≤ b) (h1 : b < 256) : uo (sl x 8) b = ua (sl x 8) b := by
  rw [sl_8]
  have hm : (x * 256) % 18446744073709551616 = 256 * (x % 72057594037927936) := by omega
  have hk0 : 0 ≤ x % 72057594037927936 := by omega
  have hk1 : x % 72057594037927936 < 72057594037927936 := by omega
  rw [hm]
  generalize x % 72057594037927936 = m at *
  obtain ⟨k, rfl⟩ := Int.eq_ofNat_of_zero_le hk0
  obtain ⟨c, rfl⟩ := Int.eq_ofNat_of_zero_le h0
  have e := Nat.two_pow_add_eq_or_of_lt (i := 8) (b := c) (by omega) k
  have e1 : BitVec.ofInt 64 (256 * (k : Int)) = BitVec.ofNat 64 (256 * k) := by
    have : (256 * (k : Int)) = ((256 * k : Nat) : Int) := by omega
    rw [this]
    rfl
  have e2 : BitVec.ofInt 64 (c : Int) = BitVec.ofNat 64 c := rfl
  unfold uo ua
  rw [e1, e2, BitVec.toNat_or, BitVec.toNat_ofNat, BitVec.toNat_ofNat, Nat.mod_eq_of_lt (by omega), Nat.mod_eq_of_lt (by omega)]
  have e3 : 256 * k ||| c = 256 * k + c := e.symm
  rw [e3]
  congr 1
theorem bn_bd (s : ByteArray) (j : Nat) : bn s j = bd s j := by
  induction j with
  | zero => rfl
  | succ j ih =>
    have := bt_nn s j
    unfold bn bd
    rw [ih, u8_cv64, uo_ua _ _ this.1 this.2]
theorem bnv_bdv (s : ByteArray) : bnv s = bdv s := bn_bd s _
theorem ipow_le {j k : Nat} (h : j ≤ k) : (256 : Int) ^ j ≤ 256 ^ k := by
  have h1 := Nat.pow_le_pow_right (n := 256) (by decide) h
  have e : ∀ m : Nat, (256 : Int) ^ m = ((256 ^ m : Nat) : Int) := fun m => by
    induction m with
    | zero => rfl
    | succ m ih => rw [Int.pow_succ, ih, Nat.pow_succ]; rfl
  rw [e, e]
  exact Int.ofNat_le.2 h1
theorem bd_lt (s : ByteArray) (j : Nat) (h : j ≤ 8) : 0 ≤ bd s j ∧ bd s j < 256 ^ j := by
  induction j with
  | zero => unfold bd; simp
  | succ j ih =>
    obtain ⟨i0, i1⟩ := ih (by omega)
    have hb := bt_nn s j
    have hp : (256 : Int) ^ j ≤ 256 ^ 7 := ipow_le (by omega)
    have hs : (256 : Int) ^ (j + 1) = 256 ^ j * 256 := Int.pow_succ _ _
    unfold bd
    rw [u8_cv64, ua_eq, sl_8, hs]
    generalize (256 : Int) ^ j = p at *
    omega
theorem bdv_lt (s : ByteArray) (k : Nat) (hk : k ≤ 8) (h : s.size ≤ k) : 0 ≤ bdv s ∧ bdv s < 256 ^ k := by
  have h1 := bd_lt s s.size (by omega)
  have hp : (256 : Int) ^ s.size ≤ 256 ^ k := ipow_le h
  unfold bdv
  omega
theorem tkF_ne (s : ByteArray) (f n : Int) (h : f ≠ 0) : tkF s f n = f := if_neg h
theorem tkS_ne (s : ByteArray) (f n : Int) (h : f ≠ 0) : tkS s f n = s := if_neg fun e => h e.1
theorem tkV_ne (s : ByteArray) (f n : Int) (h : f ≠ 0) : tkV s f n = ⟨#[]⟩ := if_neg fun e => h e.1
theorem ext_left (a b : ByteArray) : (a ++ b).extract 0 a.size = a := by
  apply ByteArray.ext
  rw [ByteArray.data_extract, ByteArray.data_append]
  show (a.data ++ b.data).extract 0 a.data.size = a.data
  rw [Array.extract_append]
  simp
theorem ext_right (a b : ByteArray) : (a ++ b).extract a.size (a ++ b).size = b := by
  apply ByteArray.ext
  rw [ByteArray.data_extract, ByteArray.data_append, ByteArray.size_append]
  show (a.data ++ b.data).extract a.data.size (a.data.size + b.data.size) = b.data
  rw [Array.extract_append, Array.extract_empty_of_size_le_start (Nat.le_refl _), Array.empty_append, Nat.sub_self, Nat.add_sub_cancel_left]
  exact Array.extract_size
theorem bt_bs (l : List Int) (h : ∀ x ∈ l, 0 ≤ x ∧ x < 256) (i : Nat) : bt (bs l) i = l.getD i 0 := by rw [bt_of_sb, sb_bs l h]
theorem tk_app (a b : ByteArray) (n : Int) (hn : n = (a.size : Int)) : tkV (a ++ b) 0 n = a ∧ tkS (a ++ b) 0 n = b ∧ tkF (a ++ b) 0 n = 0 := by
  subst hn
  have hs := ByteArray.size_append (a := a) (b := b)
  have hc : (0 : Int) = 0 ∧ 0 ≤ (a.size : Int) ∧ (a.size : Int) ≤ ((a ++ b).size : Int) := by omega
  refine ⟨?_, ?_, ?_⟩
  · unfold tkV
    rw [if_pos hc]
    exact ext_left a b
  · unfold tkS
    rw [if_pos hc]
    exact ext_right a b
  · unfold tkF
    rw [if_pos rfl, if_neg (by omega), if_neg (by omega)]
/-- Horner. -/
def hv (s : ByteArray) : Nat → Int
  | 0 => 0
  | j + 1 => hv s j * 256 + bt s j
theorem bd_hv (s : ByteArray) (j : Nat) (h : j ≤ 8) : bd s j = hv s j := by
  induction j with
  | zero => rfl
  | succ j ih =>
    have h1 := bd_lt s j (by omega)
    have hb := bt_nn s j
    have hp : (256 : Int) ^ j ≤ 256 ^ 7 := ipow_le (by omega)
    generalize (256 : Int) ^ j = p at *
    unfold bd hv
    rw [u8_cv64, ua_eq, sl_8, ← ih (by omega)]
    omega
theorem bnv_hv (s : ByteArray) (k : Nat) (hs : s.size = k) (h : k ≤ 8) : bnv s = hv s k := by
  rw [bnv_bdv]
  unfold bdv
  rw [hs]
  exact bd_hv s k h
theorem bnv_be8 (x : Int) (h0 : 0 ≤ x) (h1 : x < 18446744073709551616) : bnv (be8 x) = x := by
  rw [bnv_hv _ 8 (be8_size x) (by decide)]
  unfold be8
  simp only [hv]
  rw [bt_bs _ (by intro x hx; simp only [List.mem_cons, List.mem_nil_iff, or_false] at hx; rcases hx with rfl | rfl | rfl | rfl | rfl | rfl | rfl | rfl <;> exact cv8_nn _), bt_bs _ (by intro x hx; simp only [List.mem_cons, List.mem_nil_iff, or_false] at hx; rcases hx with rfl | rfl | rfl | rfl | rfl | rfl | rfl | rfl <;> exact cv8_nn _), bt_bs _ (by intro x hx; simp only [List.mem_cons, List.mem_nil_iff, or_false] at hx; rcases hx with rfl | rfl | rfl | rfl | rfl | rfl | rfl | rfl <;> exact cv8_nn _), bt_bs _ (by intro x hx; simp only [List.mem_cons, List.mem_nil_iff, or_false] at hx; rcases hx with rfl | rfl | rfl | rfl | rfl | rfl | rfl | rfl <;> exact cv8_nn _), bt_bs _ (by intro x hx; simp only [List.mem_cons, List.mem_nil_iff, or_false] at hx; rcases hx with rfl | rfl | rfl | rfl | rfl | rfl | rfl | rfl <;> exact cv8_nn _), bt_bs _ (by intro x hx; simp only [List.mem_cons, List.mem_nil_iff, or_false] at hx; rcases hx with rfl | rfl | rfl | rfl | rfl | rfl | rfl | rfl <;> exact cv8_nn _), bt_bs _ (by intro x hx; simp only [List.mem_cons, List.mem_nil_iff, or_false] at hx; rcases hx with rfl | rfl | rfl | rfl | rfl | rfl | rfl | rfl <;> exact cv8_nn _), bt_bs _ (by intro x hx; simp only [List.mem_cons, List.mem_nil_iff, or_false] at hx; rcases hx with rfl | rfl | rfl | rfl | rfl | rfl | rfl | rfl <;> exact cv8_nn _)]
  simp only [List.getD_cons_zero, List.getD_cons_succ, cv_u8, sr_8]
  omega
theorem bnv_be4 (x : Int) (h0 : 0 ≤ x) (h1 : x < 4294967296) : bnv (be4 x) = x := by
  rw [bnv_hv _ 4 (be4_size x) (by decide)]
  unfold be4
  simp only [hv]
  rw [bt_bs _ (by intro x hx; simp only [List.mem_cons, List.mem_nil_iff, or_false] at hx; rcases hx with rfl | rfl | rfl | rfl <;> exact cv8_nn _), bt_bs _ (by intro x hx; simp only [List.mem_cons, List.mem_nil_iff, or_false] at hx; rcases hx with rfl | rfl | rfl | rfl <;> exact cv8_nn _), bt_bs _ (by intro x hx; simp only [List.mem_cons, List.mem_nil_iff, or_false] at hx; rcases hx with rfl | rfl | rfl | rfl <;> exact cv8_nn _), bt_bs _ (by intro x hx; simp only [List.mem_cons, List.mem_nil_iff, or_false] at hx; rcases hx with rfl | rfl | rfl | rfl <;> exact cv8_nn _)]
  simp only [List.getD_cons_zero, List.getD_cons_succ, cv_u8, sr_8]
  omega
theorem bnv_be2 (x : Int) (h0 : 0 ≤ x) (h1 : x < 65536) : bnv (be2 x) = x := by
  rw [bnv_hv _ 2 (be2_size x) (by decide)]
  unfold be2
  simp only [hv]
  rw [bt_bs _ (by intro x hx; simp only [List.mem_cons, List.mem_nil_iff, or_false] at hx; rcases hx with rfl | rfl <;> exact cv8_nn _), bt_bs _ (by intro x hx; simp only [List.mem_cons, List.mem_nil_iff, or_false] at hx; rcases hx with rfl | rfl <;> exact cv8_nn _)]
  simp only [List.getD_cons_zero, List.getD_cons_succ, cv_u8, sr_8]
  omega

end Go.Proofs.Ytbechjlkmajcoaa
