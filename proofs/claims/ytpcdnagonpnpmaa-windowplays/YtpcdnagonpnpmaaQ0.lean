/- Rows of listed cells; what was there ahead and is unchanged; strings that are one. -/
import Derived.Test.YtpcdnagonpnpmaaP0
namespace Go.Proofs.Ytpcdnagonpnpmaa
open Go.RowKit

/-- Listed cells. -/
def ls (l : List Value) : Nat → Value := fun i => l.getD i undef
theorem getD_app (l : List Value) (j : Nat) : l.getD j undef = l[j]?.getD undef := by simp
theorem part_ls (l : List Value) (off n : Nat) (l' : List Value) (h : (l.drop off).take n = l') (j : Nat) (hj : j < n) : ls l (off + j) = ls l' j := by
  subst h
  unfold ls
  rw [getD_app, getD_app, List.getElem?_take, if_pos hj, List.getElem?_drop]
theorem put_ls (l : List Value) (k : Nat) (v : Value) (l' : List Value) (h : l.set k v = l') {n : Nat} (j : Nat) (hj : j < n) (hl : n ≤ l.length := by exact Nat.le_of_ble_eq_true rfl) : (if j = k then v else ls l j) = ls l' j := by
  subst h
  unfold ls
  rw [getD_app, getD_app, List.getElem?_set]
  by_cases e : k = j
  · subst e
    rw [if_pos rfl, if_pos rfl, if_pos (by omega)]
    rfl
  · rw [if_neg (fun h => e h.symm), if_neg e]
theorem putp_ls (l m : List Value) (off : Nat) (l' : List Value) (h : l.take off ++ m ++ l.drop (off + m.length) = l') {n : Nat} (hl : n ≤ l.length ∧ off + m.length ≤ l.length) (j : Nat) (hj : j < n) : (if off ≤ j ∧ j < off + m.length then ls m (j - off) else ls l j) = ls l' j := by
  subst h
  unfold ls
  simp only [getD_app]
  have e1 : (l.take off).length = off := by simp; omega
  by_cases c : off ≤ j ∧ j < off + m.length
  · rw [if_pos c, List.append_assoc, List.getElem?_append_right (by omega), e1, List.getElem?_append_left (by omega)]
  · rw [if_neg c]
    by_cases d : j < off
    · rw [List.append_assoc, List.getElem?_append_left (by omega), List.getElem?_take, if_pos d]
    · rw [List.getElem?_append_right (by simp; omega), List.getElem?_drop]
      congr 2
      simp
      omega
theorem one_ls (l : List Value) (h : l.all (·.oneCell') = true) {n : Nat} (hn : n ≤ l.length := by exact Nat.le_of_ble_eq_true rfl) (j : Nat) (hj : j < n) : (ls l j).oneCell' = true := by
  unfold ls
  rw [getD_app, List.getElem?_eq_getElem (by omega)]
  exact List.all_eq_true.1 h _ (List.getElem_mem _)
theorem sb_ls (l : List Int) (T : TypeId) {n : Nat} (hn : n = l.length := by rfl) : SB (.cells (av n (ls (vs8 l))) T) n (vs8 l) := by
  subst hn
  refine ⟨_, T, (0, 0), rfl, by simp [vs8], by rw [av_size]; exact Nat.le_refl _, fun i hi => ?_, fun i _ => by simp⟩
  rw [vs8_length] at hi
  rw [av_get _ _ _ hi]
  unfold ls
  rw [getD_app, List.getElem?_eq_getElem (by rw [vs8_length]; exact hi)]
  rfl
theorem seq_pos {a b : ByteArray} (h : a = b) : (a.toList == b.toList) = true := by rw [h, beq_self_eq_true]
theorem seq_neg {a b : ByteArray} (h : ¬ a = b) : (a.toList == b.toList) = false := by
  rw [beq_eq_false_iff_ne]
  intro e
  rw [ByteArray.toList_eq, ByteArray.toList_eq] at e
  exact h (ByteArray.ext (Array.toList_inj.1 e))
theorem call_val {P : Program} {f : FuncId} {args : Array Value} {w : World} {v v' : Value} {X : World → Prop} (h : Calls P f args w fun e w' => e = .returned v ∧ X w') (hv : v = v') : Calls P f args w fun e w' => e = .returned v' ∧ X w' := hv ▸ h
theorem nat_of {k : IntKind} {x : Int} {v : Value} (h : v = .int k x) (h0 : 0 ≤ x) : v = .int k (x.toNat : Int) := by rw [h, Int.toNat_of_nonneg h0]
theorem ro_below1 {w w' : World} {g : Nat} {Z : Obj} (h : Grw w w' [g]) (h0 : w.heap[g]? = some Z) (h1 : w'.heap[g]? = some Z) : Below w.heap.size w w' := ⟨h.os, h.tape, h.output, h.size, fun k hk => by
  by_cases e : k = g
  · subst e
    rw [h0, h1]
  · exact h.block k hk (by simpa using e)⟩
theorem cv8_nn (x : Int) : 0 ≤ cv .u8 x ∧ cv .u8 x < 256 := by
  unfold cv
  simp [IntKind.wrap, IntKind.signed, IntKind.bits]
  omega
theorem cv_u8 (x : Int) : cv .u8 x = x % 256 := by
  unfold cv
  simp [IntKind.wrap, IntKind.signed, IntKind.bits]
theorem cv_u16 (x : Int) : cv .u16 x = x % 65536 := by
  unfold cv
  simp [IntKind.wrap, IntKind.signed, IntKind.bits]
theorem cv_u32 (x : Int) : cv .u32 x = x % 4294967296 := by
  unfold cv
  simp [IntKind.wrap, IntKind.signed, IntKind.bits]
theorem cv_u64 (x : Int) : cv .u64 x = x % 18446744073709551616 := by
  unfold cv
  simp [IntKind.wrap, IntKind.signed, IntKind.bits]
theorem sr_8 (x : Int) : sr x 8 = x / 256 := by
  unfold sr
  rw [Int.fdiv_eq_ediv_of_nonneg _ (by decide)]
  rfl
theorem sl_8 (x : Int) : sl x 8 = (x * 256) % 18446744073709551616 := by
  unfold sl
  simp [IntKind.wrap, IntKind.signed, IntKind.bits]
theorem ua_eq (x y : Int) : ua x y = (x + y) % 18446744073709551616 := by
  unfold ua
  simp [IntKind.wrap, IntKind.signed, IntKind.bits]
theorem cv_i64 {x : Int} (h0 : -9223372036854775808 ≤ x) (h1 : x < 9223372036854775808) : cv .i64 x = x := wrap64 h0 h1

end Go.Proofs.Ytpcdnagonpnpmaa
