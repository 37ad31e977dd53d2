/- The document: the walks of tag, Seal and Open. -/
import Derived.Test.YtenafinbaanicaaDoorA5
namespace Go.Proofs.YtenafinbaanicaaDoor
open Go.RowKit
set_option maxRecDepth 100000

theorem zB_list (n : Nat) : (zB n).data.toList = List.replicate n 0 := by
  unfold zB bs
  simp only [List.map_map]
  apply List.ext_getElem?
  intro i
  by_cases h : i < n
  · simp [h]
  · rw [List.getElem?_eq_none (by simp; omega), List.getElem?_eq_none (by simp; omega)]
theorem pn_shift (a b : Nat) (h : a % 16 = 0) : pn (a + b) = pn b := by
  unfold pn
  omega
def q1 (ad : ByteArray) : ByteArray := ad ++ zB (pn ad.size)
def q2 (ad c : ByteArray) : ByteArray := q1 ad ++ c
def q3 (ad c : ByteArray) : ByteArray := q2 ad c ++ zB (pn c.size)
def q4 (ad c : ByteArray) : ByteArray := q3 ad c ++ wS (ad.size : Int)
theorem q1_size (ad : ByteArray) : (q1 ad).size = ad.size + pn ad.size := by
  unfold q1
  rw [ByteArray.size_append, zB_size]
theorem q2_size (ad c : ByteArray) : (q2 ad c).size = ad.size + pn ad.size + c.size := by
  unfold q2
  rw [ByteArray.size_append, q1_size]
theorem q3_size (ad c : ByteArray) : (q3 ad c).size = ad.size + pn ad.size + c.size + pn c.size := by
  unfold q3
  rw [ByteArray.size_append, q2_size, zB_size]
theorem q4_size (ad c : ByteArray) : (q4 ad c).size = ad.size + pn ad.size + c.size + pn c.size + 8 := by
  unfold q4
  rw [ByteArray.size_append, q3_size, wS_size]
theorem jn_eq (ad c : ByteArray) : q4 ad c ++ wS (c.size : Int) = jn ad c := by
  apply ByteArray.ext
  apply Array.ext'
  show _ = j2 ad c ++ m2 ad c
  unfold q4 q3 q2 q1 j2 m2 m1 j1c j1
  rw [pn_shift _ _ (pn_sum ad.size)]
  simp only [ByteArray.data_append, Array.toList_append, zB_list, List.append_assoc]
theorem dotk (key nonce : ByteArray) (hm : key.size = 32 ∧ nonce.size = 12) : (dbk key nonce 0).extract 0 32 = otk key nonce := by
  unfold otk
  rw [blk_dbk key nonce 0 hm.1 hm.2 (by decide) (by decide)]
end Go.Proofs.YtenafinbaanicaaDoor
