/- Same; a known tag; alive; the walk of PolyTags. -/
import Derived.Test.YtenafinbaanicaaDoorP10
namespace Go.Proofs.YtenafinbaanicaaDoor.Pol
open Go.RowKit

theorem wrap8_bv (b : BitVec 8) : IntKind.wrap .u8 (b.toNat : Int) = (b.toNat : Int) := by
  have := b.isLt
  simp [IntKind.wrap, IntKind.signed, IntKind.bits]
  omega
theorem bv8_nat (n : Nat) (h : n < 256) : (BitVec.ofInt 8 (n : Int)).toNat = n := by
  rw [BitVec.toNat_ofInt]
  omega
theorem ob8_nn (x y : Int) : 0 ≤ ob8 x y ∧ ob8 x y < 256 := by
  unfold ob8
  rw [wrap8_bv]
  have := (BitVec.ofInt 8 x ||| BitVec.ofInt 8 y).isLt
  omega
theorem ob8_zero (x y : Int) (hx : 0 ≤ x ∧ x < 256) (hy : 0 ≤ y ∧ y < 256) : ob8 x y = 0 ↔ x = 0 ∧ y = 0 := by
  obtain ⟨n, rfl⟩ : ∃ n : Nat, x = (n : Int) := ⟨x.toNat, by omega⟩
  obtain ⟨m, rfl⟩ : ∃ m : Nat, y = (m : Int) := ⟨y.toNat, by omega⟩
  unfold ob8
  rw [wrap8_bv, BitVec.toNat_or, bv8_nat n (by omega), bv8_nat m (by omega)]
  have : n ||| m = 0 ↔ n = 0 ∧ m = 0 := Nat.or_eq_zero_iff
  omega
theorem xb_zero (x y : Int) (hx : 0 ≤ x ∧ x < 256) (hy : 0 ≤ y ∧ y < 256) : xb x y = 0 ↔ x = y := by
  obtain ⟨n, rfl⟩ : ∃ n : Nat, x = (n : Int) := ⟨x.toNat, by omega⟩
  obtain ⟨m, rfl⟩ : ∃ m : Nat, y = (m : Int) := ⟨y.toNat, by omega⟩
  unfold xb
  rw [wrap8_bv, BitVec.toNat_xor, bv8_nat n (by omega), bv8_nat m (by omega)]
  have : n ^^^ m = 0 ↔ n = m := ⟨fun h => by
    have e : n ^^^ m ^^^ m = m := by rw [h, Nat.zero_xor]
    rw [Nat.xor_assoc, Nat.xor_self, Nat.xor_zero] at e
    exact e, fun h => by rw [h, Nat.xor_self]⟩
  omega
/-- Which bits are unlike, up to a place. -/
def ul (a b : ByteArray) : Nat → Int
  | 0 => 0
  | j + 1 => ob8 (ul a b j) (xb (bt a j) (bt b j))
theorem ul_nn (a b : ByteArray) (n : Nat) : 0 ≤ ul a b n ∧ ul a b n < 256 := by
  cases n with
  | zero => exact ⟨by simp [ul], by simp [ul]⟩
  | succ n => exact ob8_nn _ _
theorem ul_zero (a b : ByteArray) : ∀ n, ul a b n = 0 ↔ ∀ i, i < n → bt a i = bt b i
  | 0 => ⟨fun _ i hi => absurd hi (by omega), fun _ => rfl⟩
  | n + 1 => by
    show ob8 (ul a b n) (xb (bt a n) (bt b n)) = 0 ↔ _
    rw [ob8_zero _ _ (ul_nn a b n) (xb_nn _ _), ul_zero a b n, xb_zero _ _ (bt_nn a n) (bt_nn b n)]
    constructor
    · rintro ⟨h1, h2⟩ i hi
      by_cases e : i = n
      · rw [e, h2]
      · exact h1 i (by omega)
    · intro h
      exact ⟨fun i hi => h i (by omega), h n (by omega)⟩
theorem bt_ext (a b : ByteArray) (hs : a.size = b.size) (h : ∀ i, i < a.size → bt a i = bt b i) : a = b := by
  have e : sb a = sb b := by
    refine List.ext_getElem? fun i => ?_
    by_cases hi : i < a.size
    · rw [sb_get a i hi, sb_get b i (by omega), h i hi]
    · rw [List.getElem?_eq_none (by rw [sb_length]; omega), List.getElem?_eq_none (by rw [sb_length]; omega)]
  rw [← bs_sb a, e, bs_sb]
theorem ul_eq (a b : ByteArray) (hs : a.size = b.size) : (ul a b a.size = 0) ↔ a = b := by
  rw [ul_zero]
  constructor
  · exact bt_ext a b hs
  · rintro rfl i _
    rfl
theorem toList_ne {a b : ByteArray} (h : a ≠ b) : (a.toList == b.toList) = false := by
  rw [ByteArray.toList_eq, ByteArray.toList_eq, beq_eq_false_iff_ne]
  intro e
  exact h (ByteArray.ext (Array.toList_inj.1 e))

set_option maxRecDepth 100000 in
set_option maxHeartbeats 4000000 in
theorem c_sameA (x y : ByteArray) (h : x.size ≠ y.size) (w : World) (hL : Laid w)  :
    Calls Tryd.prog 57 #[.string x, .string y] w fun r w' => r = .returned (.bool false) ∧ Below w.heap.size w w' := by
  go_enter Tryd.func57, Tryd.ntmps57
  have M := Mem.start hL
  refine sq ?_
  refine wp_seq ?_
  refine sR ?_
  refine rV 4 ?_
  refine ZS 11 ((x.size : Int) = (y.size : Int)) ?_
  refine nT ?_
  refine wp_cond_true (by kernel_rfl) ?_
  refine sq ?_
  refine wp_ret ?_
  refine au_then_ret ?_
  exact b1 M

set_option maxRecDepth 100000 in
set_option maxHeartbeats 4000000 in
theorem c_sameB (x y : ByteArray) (h : x.size = y.size) (e : x = y) (hz : x.size ≤ 200000) (w : World) (hL : Laid w)  :
    Calls Tryd.prog 57 #[.string x, .string y] w fun r w' => r = .returned (.bool true) ∧ Below w.heap.size w w' := by
  go_enter Tryd.func57, Tryd.ntmps57
  have M := Mem.start hL
  refine sq ?_
  refine wp_seq ?_
  refine sR ?_
  refine rV 4 ?_
  refine ZD 11 ((x.size : Int) = (y.size : Int)) ?_
  refine nT ?_
  refine wp_cond_false (by kernel_rfl) ?_
  refine wp_skip ?_
  refine au_then ?_
  refine sq ?_
  refine wp_seq ?_
  refine sq ?_
  refine wp_block ?_
  refine au_loop (fun j a w' => ∃ v1 : Nat → Value, a = (fm ([.string x, .string y, undef, undef, .bool false, .int .u8 (ul x y j), v1 6, .string x, .int .i64 (x.size : Int), .string y, .int .i64 (y.size : Int), .bool false, .string x, .int .i64 (x.size : Int), .int .i64 (j : Int)] ++ vr v1 15 12 ++ [undef, undef])) ∧ Mem ⟨w, []⟩ [] w') x.size (exS M) ?_ ?_
  · intro j a u0 hj hI
    obtain ⟨v1, rfl, M⟩ := hI
    refine sR ?_
    refine ZT 15 ((j : Int) < (x.size : Int)) ?_
    refine nT ?_
    refine wp_seq ?_
    refine wp_cond_true (by kernel_rfl) ?_
    refine wp_skip ?_
    refine au_then ?_
    refine wp_seq ?_
    refine wp_block ?_
    refine sq ?_
    refine rg_tail M 9 (by kernel_rfl) (by kernel_rfl) ?_
    simp only [List.take_succ_cons, List.take_zero]
    refine kR 3 ?_
    refine kH 20 (.int .u8 (bt x j)) (run_ixS 9 Tryd.underlying9 _ _ rfl x (by kernel_rfl) .i64 j (by kernel_rfl) (by omega)) ?_
    refine kR 2 ?_
    refine kH 23 (.int .u8 (bt y j)) (run_ixS 9 Tryd.underlying9 _ _ rfl y (by kernel_rfl) .i64 j (by kernel_rfl) (by omega)) ?_
    refine kR 2 ?_
    refine kl_nil fun u1 M => ?_
    refine rV 1 ?_
    refine pl_nil ?_
    refine au_block ?_
    refine au_then ?_
    refine rg_lit ?_
    refine ZI 26 ((j : Int) + 1) ((j + 1 : Nat) : Int) ?_
    refine rV 1 ?_
    refine nT ?_
    exact exS M
  · intro a u0 hI
    obtain ⟨v1, rfl, M⟩ := hI
    refine sR ?_
    refine ZF 15 ((x.size : Int) < (x.size : Int)) ?_
    refine nT ?_
    refine wp_seq ?_
    refine wp_cond_false (by kernel_rfl) ?_
    refine wp_exit ?_
    refine au_then_exit ?_
    refine au_then_exit ?_
    refine au_block_exit ?_
    refine au_then ?_
    refine sR ?_
    refine rV 1 ?_
    refine pH 28 (.bool true) (jT (ul x y x.size = 0) ((ul_eq x y h).2 e)) ?_
    refine rV 1 ?_
    refine nT ?_
    refine wp_ret ?_
    exact b1 M

set_option maxRecDepth 100000 in
set_option maxHeartbeats 4000000 in
theorem c_sameC (x y : ByteArray) (h : x.size = y.size) (e : x ≠ y) (hz : x.size ≤ 200000) (w : World) (hL : Laid w)  :
    Calls Tryd.prog 57 #[.string x, .string y] w fun r w' => r = .returned (.bool false) ∧ Below w.heap.size w w' := by
  go_enter Tryd.func57, Tryd.ntmps57
  have M := Mem.start hL
  refine sq ?_
  refine wp_seq ?_
  refine sR ?_
  refine rV 4 ?_
  refine ZD 11 ((x.size : Int) = (y.size : Int)) ?_
  refine nT ?_
  refine wp_cond_false (by kernel_rfl) ?_
  refine wp_skip ?_
  refine au_then ?_
  refine sq ?_
  refine wp_seq ?_
  refine sq ?_
  refine wp_block ?_
  refine au_loop (fun j a w' => ∃ v1 : Nat → Value, a = (fm ([.string x, .string y, undef, undef, .bool false, .int .u8 (ul x y j), v1 6, .string x, .int .i64 (x.size : Int), .string y, .int .i64 (y.size : Int), .bool false, .string x, .int .i64 (x.size : Int), .int .i64 (j : Int)] ++ vr v1 15 12 ++ [undef, undef])) ∧ Mem ⟨w, []⟩ [] w') x.size (exS M) ?_ ?_
  · intro j a u0 hj hI
    obtain ⟨v1, rfl, M⟩ := hI
    refine sR ?_
    refine ZT 15 ((j : Int) < (x.size : Int)) ?_
    refine nT ?_
    refine wp_seq ?_
    refine wp_cond_true (by kernel_rfl) ?_
    refine wp_skip ?_
    refine au_then ?_
    refine wp_seq ?_
    refine wp_block ?_
    refine sq ?_
    refine rg_tail M 9 (by kernel_rfl) (by kernel_rfl) ?_
    simp only [List.take_succ_cons, List.take_zero]
    refine kR 3 ?_
    refine kH 20 (.int .u8 (bt x j)) (run_ixS 9 Tryd.underlying9 _ _ rfl x (by kernel_rfl) .i64 j (by kernel_rfl) (by omega)) ?_
    refine kR 2 ?_
    refine kH 23 (.int .u8 (bt y j)) (run_ixS 9 Tryd.underlying9 _ _ rfl y (by kernel_rfl) .i64 j (by kernel_rfl) (by omega)) ?_
    refine kR 2 ?_
    refine kl_nil fun u1 M => ?_
    refine rV 1 ?_
    refine pl_nil ?_
    refine au_block ?_
    refine au_then ?_
    refine rg_lit ?_
    refine ZI 26 ((j : Int) + 1) ((j + 1 : Nat) : Int) ?_
    refine rV 1 ?_
    refine nT ?_
    exact exS M
  · intro a u0 hI
    obtain ⟨v1, rfl, M⟩ := hI
    refine sR ?_
    refine ZF 15 ((x.size : Int) < (x.size : Int)) ?_
    refine nT ?_
    refine wp_seq ?_
    refine wp_cond_false (by kernel_rfl) ?_
    refine wp_exit ?_
    refine au_then_exit ?_
    refine au_then_exit ?_
    refine au_block_exit ?_
    refine au_then ?_
    refine sR ?_
    refine rV 1 ?_
    refine pH 28 (.bool false) (jF (ul x y x.size = 0) (fun k => e ((ul_eq x y h).1 k))) ?_
    refine rV 1 ?_
    refine nT ?_
    refine wp_ret ?_
    exact b1 M

theorem c_same (x y : ByteArray) (hz : x.size ≤ 200000) (w : World) (hL : Laid w) : Calls Tryd.prog 57 #[.string x, .string y] w fun r w' => r = .returned (.bool (decide (x = y))) ∧ Below w.heap.size w w' := by
  by_cases h : x.size = y.size
  · by_cases e : x = y
    · rw [decide_eq_true e]
      exact c_sameB x y h e hz w hL
    · rw [decide_eq_false e]
      exact c_sameC x y h e hz w hL
  · rw [decide_eq_false (fun e => h (by rw [e]))]
    exact c_sameA x y h w hL
/-- The program's and the document's tag. -/
theorem c_Tag (key s : ByteArray) (hk : key.size = 32) (hz : s.size ≤ 200000) (w : World) (hL : Laid w) : Calls Tryd.prog 65 #[.string key, .string s] w fun r w' => r = .returned (.tuple #[.string (tagS key s), .int .i64 0]) ∧ Below w.heap.size w w' := by
  rw [← tg_val key s hk]
  exact c_TagA key s hk hz w hL
theorem dgt_nn (X : Int) (i : Nat) : 0 ≤ dgt X i ∧ dgt X i < 256 := by
  unfold dgt
  omega
theorem tagS_size (key s : ByteArray) : (tagS key s).size = 16 := by
  unfold tagS
  rw [bs_size]
  simp
def zB (n : Nat) : ByteArray := bs ((List.range n).map fun _ => 0)
theorem zB_size (n : Nat) : (zB n).size = n := by
  unfold zB
  rw [bs_size]
  simp
theorem z_nn (n : Nat) : ∀ x ∈ (List.range n).map fun _ => (0 : Int), 0 ≤ x ∧ x < 256 := fun x hx => by
  obtain ⟨i, _, rfl⟩ := List.mem_map.1 hx
  decide
def b1 (x : UInt8) : ByteArray := ⟨#[x]⟩
/-- Bytes 255, so many. -/
def ffS : Nat → ByteArray
  | 0 => ⟨#[]⟩
  | j + 1 => ffS j ++ b1 255
theorem ffS_size : ∀ n, (ffS n).size = n
  | 0 => rfl
  | n + 1 => by
    show (ffS n ++ b1 255).size = n + 1
    rw [ByteArray.size_append, ffS_size n]
    rfl
def kA : ByteArray := b1 2 ++ zB 31
theorem kA_size : kA.size = 32 := by
  unfold kA
  rw [ByteArray.size_append, zB_size]
  rfl
def str5 : ByteArray := ⟨#[115, 104, 111, 114, 116]⟩
/-- The known tag. -/
theorem tagA : tagS kA (ffS 16) = b1 3 ++ zB 15 := by decide +kernel
end Go.Proofs.YtenafinbaanicaaDoor.Pol
