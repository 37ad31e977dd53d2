/- Same; a known tag; alive; the walk of PolyTags. -/
import Derived.Test.YtjfnfkphckimdaaP10
namespace Go.Proofs.Ytjfnfkphckimdaa
open Go.RowKit

theorem wrap8_bv (b : BitVec 8) : IntKind.wrap .u8 (b.toNat : Int) = (b.toNat : Int) := by
  have := b.isLt
  simp [IntKind.wrap, IntKind.signed, IntKind.bits]
  omega
theorem bv8_nat (n : Nat) (h : n < 256) : (BitVec.ofInt 8 (n : Int)).toNat = n := by
  rw [BitVec.toNat_ofInt]
  omega
theorem ob8_nn (x y : Int) : 0 ≤ ob8 x y ∧ ob8 x y < 256 := by
  unfold ob8
  rw [wrap8_bv]
  have := (BitVec.ofInt 8 x ||| BitVec.ofInt 8 y).isLt
  omega
theorem ob8_zero (x y : Int) (hx : 0 ≤ x ∧ x < 256) (hy : 0 ≤ y ∧ y < 256) : ob8 x y = 0 ↔ x = 0 ∧ y = 0 := by
  obtain ⟨n, rfl⟩ : ∃ n : Nat, x = (n : Int) := ⟨x.toNat, by omega⟩
  obtain ⟨m, rfl⟩ : ∃ m : Nat, y = (m : Int) := ⟨y.toNat, by omega⟩
  unfold ob8
  rw [wrap8_bv, BitVec.toNat_or, bv8_nat n (by omega), bv8_nat m (by omega)]
  have : n ||| m = 0 ↔ n = 0 ∧ m = 0 := Nat.or_eq_zero_iff
  omega
theorem xb_zero (x y : Int) (hx : 0 ≤ x ∧ x < 256) (hy : 0 ≤ y ∧ y < 256) : xb x y = 0 ↔ x = y := by
  obtain ⟨n, rfl⟩ : ∃ n : Nat, x = (n : Int) := ⟨x.toNat, by omega⟩
  obtain ⟨m, rfl⟩ : ∃ m : Nat, y = (m : Int) := ⟨y.toNat, by omega⟩
  unfold xb
  rw [wrap8_bv, BitVec.toNat_xor, bv8_nat n (by omega), bv8_nat m (by omega)]
  have : n ^^^ m = 0 ↔ n = m := ⟨fun h => by
    have e : n ^^^ m ^^^ m = m := by rw [h, Nat.zero_xor]
    rw [Nat.xor_assoc, Nat.xor_self, Nat.xor_zero] at e
    exact e, fun h => by rw [h, Nat.xor_self]⟩
  omega
/-- Which bits are unlike, up to a place. -/
def ul (a b : ByteArray) : Nat → Int
  | 0 => 0
  | j + 1 => ob8 (ul a b j) (xb (bt a j) (bt b j))
theorem ul_nn (a b : ByteArray) (n : Nat) : 0 ≤ ul a b n ∧ ul a b n < 256 := by
  cases n with
  | zero => exact ⟨by simp [ul], by simp [ul]⟩
  | succ n => exact ob8_nn _ _
theorem ul_zero (a b : ByteArray) : ∀ n, ul a b n = 0 ↔ ∀ i, i < n → bt a i = bt b i
  | 0 => ⟨fun _ i hi => absurd hi (by omega), fun _ => rfl⟩
  | n + 1 => by
    show ob8 (ul a b n) (xb (bt a n) (bt b n)) = 0 ↔ _
    rw [ob8_zero _ _ (ul_nn a b n) (xb_nn _ _), ul_zero a b n, xb_zero _ _ (bt_nn a n) (bt_nn b n)]
    constructor
    · rintro ⟨h1, h2⟩ i hi
      by_cases e : i = n
      · rw [e, h2]
      · exact h1 i (by omega)
    · intro h
      exact ⟨fun i hi => h i (by omega), h n (by omega)⟩
theorem bt_ext (a b : ByteArray) (hs : a.size = b.size) (h : ∀ i, i < a.size → bt a i = bt b i) : a = b := by
  have e : sb a = sb b := by
    refine List.ext_getElem? fun i => ?_
    by_cases hi : i < a.size
    · rw [sb_get a i hi, sb_get b i (by omega), h i hi]
    · rw [List.getElem?_eq_none (by rw [sb_length]; omega), List.getElem?_eq_none (by rw [sb_length]; omega)]
  rw [← bs_sb a, e, bs_sb]
theorem ul_eq (a b : ByteArray) (hs : a.size = b.size) : (ul a b a.size = 0) ↔ a = b := by
  rw [ul_zero]
  constructor
  · exact bt_ext a b hs
  · rintro rfl i _
    rfl
theorem toList_ne {a b : ByteArray} (h : a ≠ b) : (a.toList == b.toList) = false := by
  rw [ByteArray.toList_eq, ByteArray.toList_eq, beq_eq_false_iff_ne]
  intro e
  exact h (ByteArray.ext (Array.toList_inj.1 e))

set_option maxRecDepth 100000 in
set_option maxHeartbeats 4000000 in
theorem c_sameA (x y : ByteArray) (h : x.size ≠ y.size) (w : World) (hL : Laid w)  :
    Calls Try.prog 9 #[.string x, .string y] w fun r w' => r = .returned (.bool false) ∧ Below w.heap.size w w' := by
  go_enter Try.func9, Try.ntmps9
  have M := Mem.start hL
  refine wp_seq ?_
  refine rg_lit ?_
  refine pl_val (want_no rfl) (some 4) rfl (.bool false) (fun _ => by kernel_rfl) ?_
  refine pl_nil ?_
  refine au_then ?_
  refine wp_seq ?_
  refine wp_seq ?_
  refine rg_lit ?_
  refine pl_val (want_no rfl) (some 7) rfl (.string x) (fun _ => by kernel_rfl) ?_
  refine pl_val (want_no rfl) (some 8) rfl (.int .i64 (x.size : Int)) (fun _ => by kernel_rfl) ?_
  refine pl_val (want_no rfl) (some 9) rfl (.string y) (fun _ => by kernel_rfl) ?_
  refine pl_val (want_no rfl) (some 10) rfl (.int .i64 (y.size : Int)) (fun _ => by kernel_rfl) ?_
  refine pl_val (want_no rfl) (some 11) rfl (.bool true) (fun w => Eq.trans (b := .ok (.value (.bool (!(decide ((x.size : Int) = (y.size : Int)))))) w) (by kernel_rfl) (by rw [decide_eq_false (by omega)]; rfl)) ?_
  refine pl_nil ?_
  refine au_then ?_
  refine wp_cond_true (by kernel_rfl) ?_
  refine wp_seq ?_
  refine rg_lit ?_
  refine pl_val (want_no rfl) (some 4) rfl (.bool false) (fun _ => by kernel_rfl) ?_
  refine pl_nil ?_
  refine au_then ?_
  refine wp_ret ?_
  refine au_then_ret ?_
  exact bodyPost_ret (v := .bool false) (results_tmp1 Try.results9 _ _ _ (by kernel_rfl)) (by kernel_rfl) ⟨rfl, below_grown M.old⟩

set_option maxRecDepth 100000 in
set_option maxHeartbeats 4000000 in
theorem c_sameB (x y : ByteArray) (h : x.size = y.size) (e : x = y) (hz : x.size ≤ 5000) (w : World) (hL : Laid w)  :
    Calls Try.prog 9 #[.string x, .string y] w fun r w' => r = .returned (.bool true) ∧ Below w.heap.size w w' := by
  go_enter Try.func9, Try.ntmps9
  have M := Mem.start hL
  refine wp_seq ?_
  refine rg_lit ?_
  refine pl_val (want_no rfl) (some 4) rfl (.bool false) (fun _ => by kernel_rfl) ?_
  refine pl_nil ?_
  refine au_then ?_
  refine wp_seq ?_
  refine wp_seq ?_
  refine rg_lit ?_
  refine pl_val (want_no rfl) (some 7) rfl (.string x) (fun _ => by kernel_rfl) ?_
  refine pl_val (want_no rfl) (some 8) rfl (.int .i64 (x.size : Int)) (fun _ => by kernel_rfl) ?_
  refine pl_val (want_no rfl) (some 9) rfl (.string y) (fun _ => by kernel_rfl) ?_
  refine pl_val (want_no rfl) (some 10) rfl (.int .i64 (y.size : Int)) (fun _ => by kernel_rfl) ?_
  refine pl_val (want_no rfl) (some 11) rfl (.bool false) (fun w => Eq.trans (b := .ok (.value (.bool (!(decide ((x.size : Int) = (y.size : Int)))))) w) (by kernel_rfl) (by rw [decide_eq_true (by omega)]; rfl)) ?_
  refine pl_nil ?_
  refine au_then ?_
  refine wp_cond_false (by kernel_rfl) ?_
  refine wp_skip ?_
  refine au_then ?_
  refine wp_seq ?_
  refine rg_lit ?_
  refine pl_val (want_no rfl) (some 5) rfl (.int .u8 0) (fun _ => by kernel_rfl) ?_
  refine pl_nil ?_
  refine au_then ?_
  refine wp_seq ?_
  refine wp_seq ?_
  refine rg_lit ?_
  refine pl_val (want_no rfl) (some 12) rfl (.string x) (fun _ => by kernel_rfl) ?_
  refine pl_val (want_no rfl) (some 13) rfl (.int .i64 (x.size : Int)) (fun _ => by kernel_rfl) ?_
  refine pl_val (want_no rfl) (some 14) rfl (.int .i64 0) (fun _ => by kernel_rfl) ?_
  refine pl_nil ?_
  refine au_then ?_
  refine wp_block ?_
  refine au_loop (fun j a w' => ∃ v1 : Nat → Value, a = ⟨#[.string x, .string y, undef, undef, .bool false, .int .u8 (ul x y j), v1 6, .string x, .int .i64 (x.size : Int), .string y, .int .i64 (y.size : Int), .bool false, .string x, .int .i64 (x.size : Int), .int .i64 (j : Int), v1 15, v1 16, v1 17, v1 18, v1 19, v1 20, v1 21, v1 22, v1 23, v1 24, v1 25, v1 26, undef, undef], []⟩ ∧ Mem ⟨w, []⟩ [] w') x.size ⟨fun k_ => ([undef, undef, undef, undef, undef, undef, undef, undef, undef, undef, undef, undef, undef, undef, undef, undef, undef, undef, undef, undef, undef] : List Value).getD (k_ - 6) undef, by kernel_rfl, M⟩ ?_ ?_
  · intro j a u0 hj hI
    obtain ⟨v1, rfl, M⟩ := hI
    refine wp_seq ?_
    refine rg_lit ?_
    refine pl_val (want_no rfl) (some 15) rfl (.bool true) (fun w => Eq.trans (b := .ok (.value (.bool (decide ((j : Int) < (x.size : Int))))) w) (by kernel_rfl) (by rw [decide_eq_true (by omega)])) ?_
    refine pl_nil ?_
    refine au_then ?_
    refine wp_seq ?_
    refine wp_cond_true (by kernel_rfl) ?_
    refine wp_skip ?_
    refine au_then ?_
    refine wp_seq ?_
    refine wp_block ?_
    refine wp_seq ?_
    refine rg_lit ?_
    refine pl_val (want_no rfl) (some 16) rfl (.int .i64 (j : Int)) (fun _ => by kernel_rfl) ?_
    refine pl_val (want_no rfl) (some 6) rfl (.int .i64 (j : Int)) (fun _ => by kernel_rfl) ?_
    refine pl_nil ?_
    refine au_then ?_
    refine rg_tail M 9 (by kernel_rfl) (by kernel_rfl) ?_
    simp only [List.take_succ_cons, List.take_zero]
    refine k_val (want_no rfl) (some 17) rfl (.int .u8 (ul x y j)) (fun _ => by kernel_rfl) ?_
    refine k_val (want_no rfl) (some 18) rfl (.string x) (fun _ => by kernel_rfl) ?_
    refine k_val (want_no rfl) (some 19) rfl (.int .i64 (j : Int)) (fun _ => by kernel_rfl) ?_
    refine k_val (want_no rfl) (some 20) rfl (.int .u8 (bt x j)) (run_ixS 9 Try.underlying9 _ _ rfl x (by kernel_rfl) .i64 j (by kernel_rfl) (by omega)) ?_
    refine k_val (want_no rfl) (some 21) rfl (.string y) (fun _ => by kernel_rfl) ?_
    refine k_val (want_no rfl) (some 22) rfl (.int .i64 (j : Int)) (fun _ => by kernel_rfl) ?_
    refine k_val (want_no rfl) (some 23) rfl (.int .u8 (bt y j)) (run_ixS 9 Try.underlying9 _ _ rfl y (by kernel_rfl) .i64 j (by kernel_rfl) (by omega)) ?_
    refine k_val (want_no rfl) (some 24) rfl (.int .u8 (xb (bt x j) (bt y j))) (fun _ => by kernel_rfl) ?_
    refine k_val (want_no rfl) (some 25) rfl (.int .u8 (ob8 (ul x y j) (xb (bt x j) (bt y j)))) (fun _ => by kernel_rfl) ?_
    refine kl_nil ?_
    intro u1 M
    replace M : Mem ⟨w, []⟩ [] u1 := M
    refine pl_val (want_no rfl) (some 5) rfl (.int .u8 (ob8 (ul x y j) (xb (bt x j) (bt y j)))) (fun _ => by kernel_rfl) ?_
    refine pl_nil ?_
    refine au_block ?_
    refine au_then ?_
    refine rg_lit ?_
    refine pl_val (want_no rfl) (some 26) rfl (.int .i64 ((j + 1 : Nat) : Int)) (fun w => Eq.trans (b := .ok (.value (.int .i64 (IntKind.wrap .i64 ((j : Int) + 1)))) w) (by kernel_rfl) (by rw [wrap64 (by omega) (by omega)]; congr 3)) ?_
    refine pl_val (want_no rfl) (some 14) rfl (.int .i64 ((j + 1 : Nat) : Int)) (fun _ => by kernel_rfl) ?_
    refine pl_nil ?_
    refine au_then ?_
    exact ⟨fun k_ => ([.int .i64 (j : Int), undef, undef, undef, undef, undef, undef, undef, undef, .bool true, .int .i64 (j : Int), .int .u8 (ul x y j), .string x, .int .i64 (j : Int), .int .u8 (bt x j), .string y, .int .i64 (j : Int), .int .u8 (bt y j), .int .u8 (xb (bt x j) (bt y j)), .int .u8 (ob8 (ul x y j) (xb (bt x j) (bt y j))), .int .i64 ((j + 1 : Nat) : Int)] : List Value).getD (k_ - 6) undef, by kernel_rfl, M⟩
  · intro a u0 hI
    obtain ⟨v1, rfl, M⟩ := hI
    refine wp_seq ?_
    refine rg_lit ?_
    refine pl_val (want_no rfl) (some 15) rfl (.bool false) (fun w => Eq.trans (b := .ok (.value (.bool (decide ((x.size : Int) < (x.size : Int))))) w) (by kernel_rfl) (by rw [decide_eq_false (by omega)])) ?_
    refine pl_nil ?_
    refine au_then ?_
    refine wp_seq ?_
    refine wp_cond_false (by kernel_rfl) ?_
    refine wp_exit ?_
    refine au_then_exit ?_
    refine au_then_exit ?_
    refine au_block_exit ?_
    refine au_then ?_
    refine wp_seq ?_
    refine rg_lit ?_
    refine pl_val (want_no rfl) (some 27) rfl (.int .u8 (ul x y x.size)) (fun _ => by kernel_rfl) ?_
    refine pl_val (want_no rfl) (some 28) rfl (.bool true) (fun w => Eq.trans (b := .ok (.value (.bool (decide (ul x y x.size = 0)))) w) (by kernel_rfl) (by rw [decide_eq_true ((ul_eq x y h).2 e)])) ?_
    refine pl_val (want_no rfl) (some 4) rfl (.bool true) (fun _ => by kernel_rfl) ?_
    refine pl_nil ?_
    refine au_then ?_
    refine wp_ret ?_
    exact bodyPost_ret (v := .bool true) (results_tmp1 Try.results9 _ _ _ (by kernel_rfl)) (by kernel_rfl) ⟨rfl, below_grown M.old⟩

set_option maxRecDepth 100000 in
set_option maxHeartbeats 4000000 in
theorem c_sameC (x y : ByteArray) (h : x.size = y.size) (e : x ≠ y) (hz : x.size ≤ 5000) (w : World) (hL : Laid w)  :
    Calls Try.prog 9 #[.string x, .string y] w fun r w' => r = .returned (.bool false) ∧ Below w.heap.size w w' := by
  go_enter Try.func9, Try.ntmps9
  have M := Mem.start hL
  refine wp_seq ?_
  refine rg_lit ?_
  refine pl_val (want_no rfl) (some 4) rfl (.bool false) (fun _ => by kernel_rfl) ?_
  refine pl_nil ?_
  refine au_then ?_
  refine wp_seq ?_
  refine wp_seq ?_
  refine rg_lit ?_
  refine pl_val (want_no rfl) (some 7) rfl (.string x) (fun _ => by kernel_rfl) ?_
  refine pl_val (want_no rfl) (some 8) rfl (.int .i64 (x.size : Int)) (fun _ => by kernel_rfl) ?_
  refine pl_val (want_no rfl) (some 9) rfl (.string y) (fun _ => by kernel_rfl) ?_
  refine pl_val (want_no rfl) (some 10) rfl (.int .i64 (y.size : Int)) (fun _ => by kernel_rfl) ?_
  refine pl_val (want_no rfl) (some 11) rfl (.bool false) (fun w => Eq.trans (b := .ok (.value (.bool (!(decide ((x.size : Int) = (y.size : Int)))))) w) (by kernel_rfl) (by rw [decide_eq_true (by omega)]; rfl)) ?_
  refine pl_nil ?_
  refine au_then ?_
  refine wp_cond_false (by kernel_rfl) ?_
  refine wp_skip ?_
  refine au_then ?_
  refine wp_seq ?_
  refine rg_lit ?_
  refine pl_val (want_no rfl) (some 5) rfl (.int .u8 0) (fun _ => by kernel_rfl) ?_
  refine pl_nil ?_
  refine au_then ?_
  refine wp_seq ?_
  refine wp_seq ?_
  refine rg_lit ?_
  refine pl_val (want_no rfl) (some 12) rfl (.string x) (fun _ => by kernel_rfl) ?_
  refine pl_val (want_no rfl) (some 13) rfl (.int .i64 (x.size : Int)) (fun _ => by kernel_rfl) ?_
  refine pl_val (want_no rfl) (some 14) rfl (.int .i64 0) (fun _ => by kernel_rfl) ?_
  refine pl_nil ?_
  refine au_then ?_
  refine wp_block ?_
  refine au_loop (fun j a w' => ∃ v1 : Nat → Value, a = ⟨#[.string x, .string y, undef, undef, .bool false, .int .u8 (ul x y j), v1 6, .string x, .int .i64 (x.size : Int), .string y, .int .i64 (y.size : Int), .bool false, .string x, .int .i64 (x.size : Int), .int .i64 (j : Int), v1 15, v1 16, v1 17, v1 18, v1 19, v1 20, v1 21, v1 22, v1 23, v1 24, v1 25, v1 26, undef, undef], []⟩ ∧ Mem ⟨w, []⟩ [] w') x.size ⟨fun k_ => ([undef, undef, undef, undef, undef, undef, undef, undef, undef, undef, undef, undef, undef, undef, undef, undef, undef, undef, undef, undef, undef] : List Value).getD (k_ - 6) undef, by kernel_rfl, M⟩ ?_ ?_
  · intro j a u0 hj hI
    obtain ⟨v1, rfl, M⟩ := hI
    refine wp_seq ?_
    refine rg_lit ?_
    refine pl_val (want_no rfl) (some 15) rfl (.bool true) (fun w => Eq.trans (b := .ok (.value (.bool (decide ((j : Int) < (x.size : Int))))) w) (by kernel_rfl) (by rw [decide_eq_true (by omega)])) ?_
    refine pl_nil ?_
    refine au_then ?_
    refine wp_seq ?_
    refine wp_cond_true (by kernel_rfl) ?_
    refine wp_skip ?_
    refine au_then ?_
    refine wp_seq ?_
    refine wp_block ?_
    refine wp_seq ?_
    refine rg_lit ?_
    refine pl_val (want_no rfl) (some 16) rfl (.int .i64 (j : Int)) (fun _ => by kernel_rfl) ?_
    refine pl_val (want_no rfl) (some 6) rfl (.int .i64 (j : Int)) (fun _ => by kernel_rfl) ?_
    refine pl_nil ?_
    refine au_then ?_
    refine rg_tail M 9 (by kernel_rfl) (by kernel_rfl) ?_
    simp only [List.take_succ_cons, List.take_zero]
    refine k_val (want_no rfl) (some 17) rfl (.int .u8 (ul x y j)) (fun _ => by kernel_rfl) ?_
    refine k_val (want_no rfl) (some 18) rfl (.string x) (fun _ => by kernel_rfl) ?_
    refine k_val (want_no rfl) (some 19) rfl (.int .i64 (j : Int)) (fun _ => by kernel_rfl) ?_
    refine k_val (want_no rfl) (some 20) rfl (.int .u8 (bt x j)) (run_ixS 9 Try.underlying9 _ _ rfl x (by kernel_rfl) .i64 j (by kernel_rfl) (by omega)) ?_
    refine k_val (want_no rfl) (some 21) rfl (.string y) (fun _ => by kernel_rfl) ?_
    refine k_val (want_no rfl) (some 22) rfl (.int .i64 (j : Int)) (fun _ => by kernel_rfl) ?_
    refine k_val (want_no rfl) (some 23) rfl (.int .u8 (bt y j)) (run_ixS 9 Try.underlying9 _ _ rfl y (by kernel_rfl) .i64 j (by kernel_rfl) (by omega)) ?_
    refine k_val (want_no rfl) (some 24) rfl (.int .u8 (xb (bt x j) (bt y j))) (fun _ => by kernel_rfl) ?_
    refine k_val (want_no rfl) (some 25) rfl (.int .u8 (ob8 (ul x y j) (xb (bt x j) (bt y j)))) (fun _ => by kernel_rfl) ?_
    refine kl_nil ?_
    intro u1 M
    replace M : Mem ⟨w, []⟩ [] u1 := M
    refine pl_val (want_no rfl) (some 5) rfl (.int .u8 (ob8 (ul x y j) (xb (bt x j) (bt y j)))) (fun _ => by kernel_rfl) ?_
    refine pl_nil ?_
    refine au_block ?_
    refine au_then ?_
    refine rg_lit ?_
    refine pl_val (want_no rfl) (some 26) rfl (.int .i64 ((j + 1 : Nat) : Int)) (fun w => Eq.trans (b := .ok (.value (.int .i64 (IntKind.wrap .i64 ((j : Int) + 1)))) w) (by kernel_rfl) (by rw [wrap64 (by omega) (by omega)]; congr 3)) ?_
    refine pl_val (want_no rfl) (some 14) rfl (.int .i64 ((j + 1 : Nat) : Int)) (fun _ => by kernel_rfl) ?_
    refine pl_nil ?_
    refine au_then ?_
    exact ⟨fun k_ => ([.int .i64 (j : Int), undef, undef, undef, undef, undef, undef, undef, undef, .bool true, .int .i64 (j : Int), .int .u8 (ul x y j), .string x, .int .i64 (j : Int), .int .u8 (bt x j), .string y, .int .i64 (j : Int), .int .u8 (bt y j), .int .u8 (xb (bt x j) (bt y j)), .int .u8 (ob8 (ul x y j) (xb (bt x j) (bt y j))), .int .i64 ((j + 1 : Nat) : Int)] : List Value).getD (k_ - 6) undef, by kernel_rfl, M⟩
  · intro a u0 hI
    obtain ⟨v1, rfl, M⟩ := hI
    refine wp_seq ?_
    refine rg_lit ?_
    refine pl_val (want_no rfl) (some 15) rfl (.bool false) (fun w => Eq.trans (b := .ok (.value (.bool (decide ((x.size : Int) < (x.size : Int))))) w) (by kernel_rfl) (by rw [decide_eq_false (by omega)])) ?_
    refine pl_nil ?_
    refine au_then ?_
    refine wp_seq ?_
    refine wp_cond_false (by kernel_rfl) ?_
    refine wp_exit ?_
    refine au_then_exit ?_
    refine au_then_exit ?_
    refine au_block_exit ?_
    refine au_then ?_
    refine wp_seq ?_
    refine rg_lit ?_
    refine pl_val (want_no rfl) (some 27) rfl (.int .u8 (ul x y x.size)) (fun _ => by kernel_rfl) ?_
    refine pl_val (want_no rfl) (some 28) rfl (.bool false) (fun w => Eq.trans (b := .ok (.value (.bool (decide (ul x y x.size = 0)))) w) (by kernel_rfl) (by rw [decide_eq_false (fun k => e ((ul_eq x y h).1 k))])) ?_
    refine pl_val (want_no rfl) (some 4) rfl (.bool false) (fun _ => by kernel_rfl) ?_
    refine pl_nil ?_
    refine au_then ?_
    refine wp_ret ?_
    exact bodyPost_ret (v := .bool false) (results_tmp1 Try.results9 _ _ _ (by kernel_rfl)) (by kernel_rfl) ⟨rfl, below_grown M.old⟩

theorem c_same (x y : ByteArray) (hz : x.size ≤ 5000) (w : World) (hL : Laid w) : Calls Try.prog 9 #[.string x, .string y] w fun r w' => r = .returned (.bool (decide (x = y))) ∧ Below w.heap.size w w' := by
  by_cases h : x.size = y.size
  · by_cases e : x = y
    · rw [decide_eq_true e]
      exact c_sameB x y h e hz w hL
    · rw [decide_eq_false e]
      exact c_sameC x y h e hz w hL
  · rw [decide_eq_false (fun e => h (by rw [e]))]
    exact c_sameA x y h w hL
/-- The program's and the document's tag. -/
theorem c_Tag (key s : ByteArray) (hk : key.size = 32) (hz : s.size ≤ 5000) (w : World) (hL : Laid w) : Calls Try.prog 7 #[.string key, .string s] w fun r w' => r = .returned (.tuple #[.string (tagS key s), .int .i64 0]) ∧ Below w.heap.size w w' := by
  rw [← tg_val key s hk]
  exact c_TagA key s hk hz w hL
theorem d_Tag (key s : ByteArray) (hk : key.size = 32) (hz : s.size ≤ 5000) (w : World) (hL : Laid w) : Calls Try.prog 8 #[.string key, .string s] w fun r w' => r = .returned (.tuple #[.string (tagS key s), .int .i64 0]) ∧ Below w.heap.size w w' := by
  rw [← dt_tag key s]
  exact d_TagA key s hk hz w hL
theorem dgt_nn (X : Int) (i : Nat) : 0 ≤ dgt X i ∧ dgt X i < 256 := by
  unfold dgt
  omega
theorem tagS_size (key s : ByteArray) : (tagS key s).size = 16 := by
  unfold tagS
  rw [bs_size]
  simp
def zB (n : Nat) : ByteArray := bs ((List.range n).map fun _ => 0)
theorem zB_size (n : Nat) : (zB n).size = n := by
  unfold zB
  rw [bs_size]
  simp
theorem z_nn (n : Nat) : ∀ x ∈ (List.range n).map fun _ => (0 : Int), 0 ≤ x ∧ x < 256 := fun x hx => by
  obtain ⟨i, _, rfl⟩ := List.mem_map.1 hx
  decide
def b1 (x : UInt8) : ByteArray := ⟨#[x]⟩
/-- Bytes 255, so many. -/
def ffS : Nat → ByteArray
  | 0 => ⟨#[]⟩
  | j + 1 => ffS j ++ b1 255
theorem ffS_size : ∀ n, (ffS n).size = n
  | 0 => rfl
  | n + 1 => by
    show (ffS n ++ b1 255).size = n + 1
    rw [ByteArray.size_append, ffS_size n]
    rfl
def kA : ByteArray := b1 2 ++ zB 31
theorem kA_size : kA.size = 32 := by
  unfold kA
  rw [ByteArray.size_append, zB_size]
  rfl
def str5 : ByteArray := ⟨#[115, 104, 111, 114, 116]⟩
/-- The known tag. -/
theorem tagA : tagS kA (ffS 16) = b1 3 ++ zB 15 := by decide +kernel
set_option maxRecDepth 100000 in
set_option maxHeartbeats 4000000 in
theorem c_alive  (w : World) (hL : Laid w)  :
    Calls Try.prog 6 #[] w fun r w' => r = .returned (.bool true) ∧ Below w.heap.size w w' := by
  go_enter Try.func6, Try.ntmps6
  have M := Mem.start hL
  refine wp_seq ?_
  refine rg_lit ?_
  refine pl_val (want_no rfl) (some 0) rfl (.bool false) (fun _ => by kernel_rfl) ?_
  refine pl_nil ?_
  refine au_then ?_
  refine wp_seq ?_
  refine rg_lit ?_
  refine pl_mk M (want_no rfl) (some 8) rfl (fun g1 => .slice (some ⟨g1, 0, none⟩) 31 31) (.cells (av 31 (w8 (fun _ => 0))) 5) (fun _ => by kernel_rfl) ?_
  intro g1 u1 M
  replace M : Mem ⟨w, []⟩ [⟨g1, .cells (av 31 (w8 (fun _ => 0))) 5⟩] u1 := M
  refine pl_back M (want_no rfl) (some 9) rfl _ rfl 0 g1 31 31 (by kernel_rfl) _ rfl ((List.range 31).map fun _ => 0) 31 (sb_av 31 _ _) (by simp) (z_nn _) ?_
  refine pl_val (want_no rfl) (some 10) rfl (.string kA) (run_cat 9 9 _ _ rfl (b1 2) (zB 31) (by kernel_rfl) (by kernel_rfl) (by rw [zB_size]; decide)) ?_
  refine pl_val (want_no rfl) (some 1) rfl (.string kA) (fun _ => by kernel_rfl) ?_
  refine pl_nil ?_
  refine au_then ?_
  refine wp_seq ?_
  refine rg_lit ?_
  refine pl_val (want_no rfl) (some 2) rfl (.string ⟨#[]⟩) (fun _ => by kernel_rfl) ?_
  refine pl_nil ?_
  refine au_then ?_
  refine wp_seq ?_
  refine wp_seq ?_
  refine rg_lit ?_
  refine pl_val (want_no rfl) (some 3) rfl (.int .i64 0) (fun _ => by kernel_rfl) ?_
  refine pl_nil ?_
  refine au_then ?_
  refine wp_block ?_
  refine au_loop (fun j a w' => ∃ v1 : Nat → Value, a = ⟨#[.bool false, .string kA, .string (ffS j), .int .i64 (j : Int), undef, undef, undef, undef, .slice (some ⟨g1, 0, none⟩) 31 31, .string (zB 31), .string kA, v1 11, v1 12, v1 13, v1 14, v1 15, v1 16, undef, undef, undef, undef, undef, undef, undef, undef, undef, undef, undef, undef, undef, undef, undef, undef, undef, undef, undef, undef, undef, undef, undef, undef, undef, undef, undef, undef, undef, undef, undef], []⟩ ∧ Mem ⟨w, []⟩ [⟨g1, .cells (av 31 (w8 (fun _ => 0))) 5⟩] w') 16 ⟨fun k_ => ([undef, undef, undef, undef, undef, undef] : List Value).getD (k_ - 11) undef, by kernel_rfl, M⟩ ?_ ?_
  · intro j a u0 hj hI
    obtain ⟨v1, rfl, M⟩ := hI
    refine wp_seq ?_
    refine wp_seq ?_
    refine rg_lit ?_
    refine pl_val (want_no rfl) (some 11) rfl (.int .i64 (j : Int)) (fun _ => by kernel_rfl) ?_
    refine pl_val (want_no rfl) (some 12) rfl (.bool true) (fun w => Eq.trans (b := .ok (.value (.bool (decide ((j : Int) < 16)))) w) (by kernel_rfl) (by rw [decide_eq_true (by omega)])) ?_
    refine pl_nil ?_
    refine au_then ?_
    refine wp_cond_true (by kernel_rfl) ?_
    refine wp_skip ?_
    refine au_then ?_
    refine wp_seq ?_
    refine wp_block ?_
    refine rg_lit ?_
    refine pl_val (want_no rfl) (some 15) rfl (.string (ffS j)) (fun _ => by kernel_rfl) ?_
    refine pl_val (want_no rfl) (some 16) rfl (.string (ffS (j + 1))) (run_cat 9 9 _ _ rfl (ffS j) (b1 255) (by kernel_rfl) (by kernel_rfl) (by rw [ffS_size]; show j + 1 ≤ _; omega)) ?_
    refine pl_val (want_no rfl) (some 2) rfl (.string (ffS (j + 1))) (fun _ => by kernel_rfl) ?_
    refine pl_nil ?_
    refine au_block ?_
    refine au_then ?_
    refine rg_lit ?_
    refine pl_val (want_no rfl) (some 13) rfl (.int .i64 (j : Int)) (fun _ => by kernel_rfl) ?_
    refine pl_val (want_no rfl) (some 14) rfl (.int .i64 ((j + 1 : Nat) : Int)) (fun w => Eq.trans (b := .ok (.value (.int .i64 (IntKind.wrap .i64 ((j : Int) + 1)))) w) (by kernel_rfl) (by rw [wrap64 (by omega) (by omega)]; congr 3)) ?_
    refine pl_val (want_no rfl) (some 3) rfl (.int .i64 ((j + 1 : Nat) : Int)) (fun _ => by kernel_rfl) ?_
    refine pl_nil ?_
    refine au_then ?_
    exact ⟨fun k_ => ([.int .i64 (j : Int), .bool true, .int .i64 (j : Int), .int .i64 ((j + 1 : Nat) : Int), .string (ffS j), .string (ffS (j + 1))] : List Value).getD (k_ - 11) undef, by kernel_rfl, M⟩
  · intro a u0 hI
    obtain ⟨v1, rfl, M⟩ := hI
    refine wp_seq ?_
    refine wp_seq ?_
    refine rg_lit ?_
    refine pl_val (want_no rfl) (some 11) rfl (.int .i64 (16 : Int)) (fun _ => by kernel_rfl) ?_
    refine pl_val (want_no rfl) (some 12) rfl (.bool false) (fun w => Eq.trans (b := .ok (.value (.bool (decide (16 < 16)))) w) (by kernel_rfl) (by rw [decide_eq_false (by omega)])) ?_
    refine pl_nil ?_
    refine au_then ?_
    refine wp_cond_false (by kernel_rfl) ?_
    refine wp_exit ?_
    refine au_then_exit ?_
    refine au_then_exit ?_
    refine au_block_exit ?_
    refine au_then ?_
    refine wp_seq ?_
    refine rg_lit ?_
    refine pl_val (want_no rfl) (some 18) rfl (.string kA) (fun _ => by kernel_rfl) ?_
    refine pl_val (want_no rfl) (some 19) rfl (.string (ffS 16)) (fun _ => by kernel_rfl) ?_
    refine pl_call M (want_no rfl) (some 20) rfl 7 #[.string kA, .string (ffS 16)] (.tuple #[.string (b1 3 ++ zB 15), .int .i64 0]) (fun _ => by kernel_rfl) (fun w M => (by rw [← tagA]; exact c_Tag kA (ffS 16) kA_size (by rw [ffS_size]; decide) w M.laid)) ?_
    intro u2 M
    refine pl_val (want_no rfl) (some 17) rfl (.tuple #[.string (b1 3 ++ zB 15), .int .i64 0]) (fun _ => by kernel_rfl) ?_
    refine pl_val (want_no rfl) (some 21) rfl (.string (b1 3 ++ zB 15)) (fun _ => by kernel_rfl) ?_
    refine pl_val (want_no rfl) (some 22) rfl (.int .i64 0) (fun _ => by kernel_rfl) ?_
    refine pl_val (want_no rfl) (some 4) rfl (.string (b1 3 ++ zB 15)) (fun _ => by kernel_rfl) ?_
    refine pl_val (want_no rfl) (some 5) rfl (.int .i64 0) (fun _ => by kernel_rfl) ?_
    refine pl_nil ?_
    refine au_then ?_
    refine wp_seq ?_
    refine rg_lit ?_
    refine pl_val (want_no rfl) (some 24) rfl (.string (ffS 16)) (fun _ => by kernel_rfl) ?_
    refine pl_call M (want_no rfl) (some 25) rfl 7 #[.string ⟨#[115, 104, 111, 114, 116]⟩, .string (ffS 16)] (.tuple #[.string ⟨#[]⟩, .int .i64 2]) (fun _ => by kernel_rfl) (fun w M => c_TagB str5 (ffS 16) (by decide) w M.laid) ?_
    intro u3 M
    refine pl_val (want_no rfl) (some 23) rfl (.tuple #[.string ⟨#[]⟩, .int .i64 2]) (fun _ => by kernel_rfl) ?_
    refine pl_val (want_no rfl) (some 26) rfl (.string ⟨#[]⟩) (fun _ => by kernel_rfl) ?_
    refine pl_val (want_no rfl) (some 27) rfl (.int .i64 2) (fun _ => by kernel_rfl) ?_
    refine pl_val (want_no rfl) (some 6) rfl (.string ⟨#[]⟩) (fun _ => by kernel_rfl) ?_
    refine pl_val (want_no rfl) (some 7) rfl (.int .i64 2) (fun _ => by kernel_rfl) ?_
    refine pl_nil ?_
    refine au_then ?_
    refine wp_seq ?_
    refine rg_lit ?_
    refine pl_val (want_no rfl) (some 28) rfl (.string (b1 3 ++ zB 15)) (fun _ => by kernel_rfl) ?_
    refine pl_mk M (want_no rfl) (some 29) rfl (fun g2 => .slice (some ⟨g2, 0, none⟩) 15 15) (.cells (av 15 (w8 (fun _ => 0))) 5) (fun _ => by kernel_rfl) ?_
    intro g2 u4 M
    replace M : Mem ⟨w, []⟩ [⟨g1, .cells (av 31 (w8 (fun _ => 0))) 5⟩, ⟨g2, .cells (av 15 (w8 (fun _ => 0))) 5⟩] u4 := M
    refine pl_back M (want_no rfl) (some 30) rfl _ rfl 1 g2 15 15 (by kernel_rfl) _ rfl ((List.range 15).map fun _ => 0) 15 (sb_av 15 _ _) (by simp) (z_nn _) ?_
    refine pl_val (want_no rfl) (some 31) rfl (.string (b1 3 ++ zB 15)) (run_cat 9 9 _ _ rfl (b1 3) (zB 15) (by kernel_rfl) (by kernel_rfl) (by rw [zB_size]; decide)) ?_
    refine pl_val (want_no rfl) (some 32) rfl (.bool true) (fun w => Eq.trans (b := .ok (.value (.bool ((b1 3 ++ zB 15).toList == (b1 3 ++ zB 15).toList))) w) (by kernel_rfl) (by rw [beq_self_eq_true])) ?_
    refine pl_val (want_no rfl) (some 33) rfl (.bool true) (fun _ => by kernel_rfl) ?_
    refine pl_val (want_on 5 true rfl 33 rfl (by kernel_rfl)) (some 34) rfl (.int .i64 0) (fun _ => by kernel_rfl) ?_
    refine pl_val (want_on 5 true rfl 33 rfl (by kernel_rfl)) (some 35) rfl (.bool true) (fun _ => by kernel_rfl) ?_
    refine pl_val (want_no rfl) (some 36) rfl (.bool true) (fun _ => by kernel_rfl) ?_
    refine pl_val (want_no rfl) (some 37) rfl (.bool true) (fun _ => by kernel_rfl) ?_
    refine pl_val (want_on 9 true rfl 37 rfl (by kernel_rfl)) (some 38) rfl (.int .i64 2) (fun _ => by kernel_rfl) ?_
    refine pl_val (want_on 9 true rfl 37 rfl (by kernel_rfl)) (some 39) rfl (.bool true) (fun _ => by kernel_rfl) ?_
    refine pl_val (want_no rfl) (some 40) rfl (.bool true) (fun _ => by kernel_rfl) ?_
    refine pl_val (want_no rfl) (some 41) rfl (.bool true) (fun _ => by kernel_rfl) ?_
    refine pl_call M (want_on 13 true rfl 41 rfl (by kernel_rfl)) (some 42) rfl 9 #[.string ⟨#[97, 98]⟩, .string ⟨#[97, 98]⟩] (.bool true) (fun _ => by kernel_rfl) (fun w M => c_sameB (⟨#[97, 98]⟩ : ByteArray) (⟨#[97, 98]⟩ : ByteArray) rfl rfl (by decide) w M.laid) ?_
    intro u5 M
    refine pl_val (want_no rfl) (some 43) rfl (.bool true) (fun _ => by kernel_rfl) ?_
    refine pl_val (want_no rfl) (some 44) rfl (.bool true) (fun _ => by kernel_rfl) ?_
    refine pl_call M (want_on 16 true rfl 44 rfl (by kernel_rfl)) (some 45) rfl 9 #[.string ⟨#[97, 98]⟩, .string ⟨#[97, 98, 99]⟩] (.bool false) (fun _ => by kernel_rfl) (fun w M => c_sameA (⟨#[97, 98]⟩ : ByteArray) (⟨#[97, 98, 99]⟩ : ByteArray) (by decide) w M.laid) ?_
    intro u6 M
    refine pl_val (want_on 16 true rfl 44 rfl (by kernel_rfl)) (some 46) rfl (.bool true) (fun _ => by kernel_rfl) ?_
    refine pl_val (want_no rfl) (some 47) rfl (.bool true) (fun _ => by kernel_rfl) ?_
    refine pl_val (want_no rfl) (some 0) rfl (.bool true) (fun _ => by kernel_rfl) ?_
    refine pl_nil ?_
    refine au_then ?_
    refine wp_ret ?_
    exact bodyPost_ret (v := .bool true) (results_tmp1 Try.results6 _ _ _ (by kernel_rfl)) (by kernel_rfl) ⟨rfl, below_grown M.old⟩

set_option maxRecDepth 100000 in
set_option maxHeartbeats 4000000 in
theorem ptA (key s o : ByteArray) (hk : key.size ≤ 140737488351232) (hs : s.size ≤ 140737488351232) (ho : o.size ≤ 140737488351232) (h : 4096 < key.size + s.size + o.size) (w : World) (hL : Laid w)  :
    Calls Try.prog 3 #[.string key, .string s, .string o] w fun r w' => r = .returned (.bool true) ∧ Below w.heap.size w w' := by
  go_enter Try.func3, Try.ntmps3
  have M := Mem.start hL
  refine wp_seq ?_
  refine rg_lit ?_
  refine pl_val (want_no rfl) (some 6) rfl (.bool false) (fun _ => by kernel_rfl) ?_
  refine pl_nil ?_
  refine au_then ?_
  refine wp_seq ?_
  refine wp_seq ?_
  refine rg_lit ?_
  refine pl_val (want_no rfl) (some 11) rfl (.string key) (fun _ => by kernel_rfl) ?_
  refine pl_val (want_no rfl) (some 12) rfl (.int .i64 (key.size : Int)) (fun _ => by kernel_rfl) ?_
  refine pl_val (want_no rfl) (some 13) rfl (.string s) (fun _ => by kernel_rfl) ?_
  refine pl_val (want_no rfl) (some 14) rfl (.int .i64 (s.size : Int)) (fun _ => by kernel_rfl) ?_
  refine pl_val (want_no rfl) (some 15) rfl (.int .i64 ((key.size + s.size : Nat) : Int)) (fun w => Eq.trans (b := .ok (.value (.int .i64 (IntKind.wrap .i64 ((key.size : Int) + (s.size : Int))))) w) (by kernel_rfl) (by rw [wrap64 (by omega) (by omega)]; congr 3)) ?_
  refine pl_val (want_no rfl) (some 16) rfl (.string o) (fun _ => by kernel_rfl) ?_
  refine pl_val (want_no rfl) (some 17) rfl (.int .i64 (o.size : Int)) (fun _ => by kernel_rfl) ?_
  refine pl_val (want_no rfl) (some 18) rfl (.int .i64 ((key.size + s.size + o.size : Nat) : Int)) (fun w => Eq.trans (b := .ok (.value (.int .i64 (IntKind.wrap .i64 (((key.size + s.size : Nat) : Int) + (o.size : Int))))) w) (by kernel_rfl) (by rw [wrap64 (by omega) (by omega)]; congr 3)) ?_
  refine pl_val (want_no rfl) (some 19) rfl (.bool true) (fun w => Eq.trans (b := .ok (.value (.bool (decide ((4096 : Int) < ((key.size + s.size + o.size : Nat) : Int))))) w) (by kernel_rfl) (by rw [decide_eq_true (by omega)])) ?_
  refine pl_nil ?_
  refine au_then ?_
  refine wp_cond_true (by kernel_rfl) ?_
  refine wp_seq ?_
  refine rg_lit ?_
  refine pl_call M (want_no rfl) (some 20) rfl 6 #[] (.bool true) (fun _ => by kernel_rfl) (fun w M => c_alive w M.laid) ?_
  intro u1 M
  refine pl_val (want_no rfl) (some 6) rfl (.bool true) (fun _ => by kernel_rfl) ?_
  refine pl_nil ?_
  refine au_then ?_
  refine wp_ret ?_
  refine au_then_ret ?_
  exact bodyPost_ret (v := .bool true) (results_tmp1 Try.results3 _ _ _ (by kernel_rfl)) (by kernel_rfl) ⟨rfl, below_grown M.old⟩

set_option maxRecDepth 100000 in
set_option maxHeartbeats 4000000 in
theorem ptBy (key s o : ByteArray) (hs : s.size ≤ 140737488351232) (ho : o.size ≤ 140737488351232) (h : ¬ 4096 < key.size + s.size + o.size) (h32 : key.size = 32) (e : s = o) (w : World) (hL : Laid w)  :
    Calls Try.prog 3 #[.string key, .string s, .string o] w fun r w' => r = .returned (.bool true) ∧ Below w.heap.size w w' := by
  go_enter Try.func3, Try.ntmps3
  have M := Mem.start hL
  refine wp_seq ?_
  refine rg_lit ?_
  refine pl_val (want_no rfl) (some 6) rfl (.bool false) (fun _ => by kernel_rfl) ?_
  refine pl_nil ?_
  refine au_then ?_
  refine wp_seq ?_
  refine wp_seq ?_
  refine rg_lit ?_
  refine pl_val (want_no rfl) (some 11) rfl (.string key) (fun _ => by kernel_rfl) ?_
  refine pl_val (want_no rfl) (some 12) rfl (.int .i64 (key.size : Int)) (fun _ => by kernel_rfl) ?_
  refine pl_val (want_no rfl) (some 13) rfl (.string s) (fun _ => by kernel_rfl) ?_
  refine pl_val (want_no rfl) (some 14) rfl (.int .i64 (s.size : Int)) (fun _ => by kernel_rfl) ?_
  refine pl_val (want_no rfl) (some 15) rfl (.int .i64 ((key.size + s.size : Nat) : Int)) (fun w => Eq.trans (b := .ok (.value (.int .i64 (IntKind.wrap .i64 ((key.size : Int) + (s.size : Int))))) w) (by kernel_rfl) (by rw [wrap64 (by omega) (by omega)]; congr 3)) ?_
  refine pl_val (want_no rfl) (some 16) rfl (.string o) (fun _ => by kernel_rfl) ?_
  refine pl_val (want_no rfl) (some 17) rfl (.int .i64 (o.size : Int)) (fun _ => by kernel_rfl) ?_
  refine pl_val (want_no rfl) (some 18) rfl (.int .i64 ((key.size + s.size + o.size : Nat) : Int)) (fun w => Eq.trans (b := .ok (.value (.int .i64 (IntKind.wrap .i64 (((key.size + s.size : Nat) : Int) + (o.size : Int))))) w) (by kernel_rfl) (by rw [wrap64 (by omega) (by omega)]; congr 3)) ?_
  refine pl_val (want_no rfl) (some 19) rfl (.bool false) (fun w => Eq.trans (b := .ok (.value (.bool (decide ((4096 : Int) < ((key.size + s.size + o.size : Nat) : Int))))) w) (by kernel_rfl) (by rw [decide_eq_false (by omega)])) ?_
  refine pl_nil ?_
  refine au_then ?_
  refine wp_cond_false (by kernel_rfl) ?_
  refine wp_skip ?_
  refine au_then ?_
  refine wp_seq ?_
  refine rg_lit ?_
  refine pl_val (want_no rfl) (some 22) rfl (.string key) (fun _ => by kernel_rfl) ?_
  refine pl_val (want_no rfl) (some 23) rfl (.string s) (fun _ => by kernel_rfl) ?_
  refine pl_call M (want_no rfl) (some 24) rfl 7 #[.string key, .string s] (.tuple #[.string (tagS key s), .int .i64 0]) (fun _ => by kernel_rfl) (fun w M => c_Tag key s h32 (by omega) w M.laid) ?_
  intro u1 M
  refine pl_val (want_no rfl) (some 21) rfl (.tuple #[.string (tagS key s), .int .i64 0]) (fun _ => by kernel_rfl) ?_
  refine pl_val (want_no rfl) (some 25) rfl (.string (tagS key s)) (fun _ => by kernel_rfl) ?_
  refine pl_val (want_no rfl) (some 26) rfl (.int .i64 0) (fun _ => by kernel_rfl) ?_
  refine pl_val (want_no rfl) (some 7) rfl (.string (tagS key s)) (fun _ => by kernel_rfl) ?_
  refine pl_val (want_no rfl) (some 8) rfl (.int .i64 0) (fun _ => by kernel_rfl) ?_
  refine pl_nil ?_
  refine au_then ?_
  refine wp_seq ?_
  refine rg_lit ?_
  refine pl_val (want_no rfl) (some 28) rfl (.string key) (fun _ => by kernel_rfl) ?_
  refine pl_val (want_no rfl) (some 29) rfl (.string s) (fun _ => by kernel_rfl) ?_
  refine pl_call M (want_no rfl) (some 30) rfl 8 #[.string key, .string s] (.tuple #[.string (tagS key s), .int .i64 0]) (fun _ => by kernel_rfl) (fun w M => d_Tag key s h32 (by omega) w M.laid) ?_
  intro u2 M
  refine pl_val (want_no rfl) (some 27) rfl (.tuple #[.string (tagS key s), .int .i64 0]) (fun _ => by kernel_rfl) ?_
  refine pl_val (want_no rfl) (some 31) rfl (.string (tagS key s)) (fun _ => by kernel_rfl) ?_
  refine pl_val (want_no rfl) (some 32) rfl (.int .i64 0) (fun _ => by kernel_rfl) ?_
  refine pl_val (want_no rfl) (some 9) rfl (.string (tagS key s)) (fun _ => by kernel_rfl) ?_
  refine pl_val (want_no rfl) (some 10) rfl (.int .i64 0) (fun _ => by kernel_rfl) ?_
  refine pl_nil ?_
  refine au_then ?_
  refine wp_seq ?_
  refine rg_lit ?_
  refine pl_val (want_no rfl) (some 33) rfl (.string (tagS key s)) (fun _ => by kernel_rfl) ?_
  refine pl_val (want_no rfl) (some 34) rfl (.string (tagS key s)) (fun _ => by kernel_rfl) ?_
  refine pl_val (want_no rfl) (some 35) rfl (.bool true) (fun w => Eq.trans (b := .ok (.value (.bool ((tagS key s).toList == (tagS key s).toList))) w) (by kernel_rfl) (by rw [beq_self_eq_true])) ?_
  refine pl_val (want_no rfl) (some 36) rfl (.bool true) (fun _ => by kernel_rfl) ?_
  refine pl_val (want_on 3 true rfl 36 rfl (by kernel_rfl)) (some 37) rfl (.int .i64 0) (fun _ => by kernel_rfl) ?_
  refine pl_val (want_on 3 true rfl 36 rfl (by kernel_rfl)) (some 38) rfl (.int .i64 0) (fun _ => by kernel_rfl) ?_
  refine pl_val (want_on 3 true rfl 36 rfl (by kernel_rfl)) (some 39) rfl (.bool true) (fun _ => by kernel_rfl) ?_
  refine pl_val (want_no rfl) (some 40) rfl (.bool true) (fun _ => by kernel_rfl) ?_
  refine pl_val (want_no rfl) (some 41) rfl (.bool true) (fun _ => by kernel_rfl) ?_
  refine pl_val (want_on 8 true rfl 41 rfl (by kernel_rfl)) (some 42) rfl (.string s) (fun _ => by kernel_rfl) ?_
  refine pl_val (want_on 8 true rfl 41 rfl (by kernel_rfl)) (some 43) rfl (.string o) (fun _ => by kernel_rfl) ?_
  refine pl_call M (want_on 8 true rfl 41 rfl (by kernel_rfl)) (some 44) rfl 9 #[.string s, .string o] (.bool true) (fun _ => by kernel_rfl) (fun w M => (by rw [← decide_eq_true e]; exact c_same s o (by omega) w M.laid)) ?_
  intro u3 M
  refine pl_val (want_on 8 true rfl 41 rfl (by kernel_rfl)) (some 45) rfl (.string s) (fun _ => by kernel_rfl) ?_
  refine pl_val (want_on 8 true rfl 41 rfl (by kernel_rfl)) (some 46) rfl (.string o) (fun _ => by kernel_rfl) ?_
  refine pl_val (want_on 8 true rfl 41 rfl (by kernel_rfl)) (some 47) rfl (.bool true) (fun w => Eq.trans (b := .ok (.value (.bool (s.toList == o.toList))) w) (by kernel_rfl) (by rw [e, beq_self_eq_true])) ?_
  refine pl_val (want_on 8 true rfl 41 rfl (by kernel_rfl)) (some 48) rfl (.bool true) (fun _ => by kernel_rfl) ?_
  refine pl_val (want_no rfl) (some 49) rfl (.bool true) (fun _ => by kernel_rfl) ?_
  refine pl_val (want_no rfl) (some 50) rfl (.bool true) (fun _ => by kernel_rfl) ?_
  refine pl_val (want_on 17 true rfl 50 rfl (by kernel_rfl)) (some 51) rfl (.string s) (fun _ => by kernel_rfl) ?_
  refine pl_val (want_on 17 true rfl 50 rfl (by kernel_rfl)) (some 52) rfl (.string s) (fun _ => by kernel_rfl) ?_
  refine pl_call M (want_on 17 true rfl 50 rfl (by kernel_rfl)) (some 53) rfl 9 #[.string s, .string s] (.bool true) (fun _ => by kernel_rfl) (fun w M => (by rw [← decide_eq_true (rfl : s = s)]; exact c_same s s (by omega) w M.laid)) ?_
  intro u4 M
  refine pl_val (want_no rfl) (some 54) rfl (.bool true) (fun _ => by kernel_rfl) ?_
  refine pl_val (want_no rfl) (some 55) rfl (.bool true) (fun _ => by kernel_rfl) ?_
  refine pl_call M (want_on 22 true rfl 55 rfl (by kernel_rfl)) (some 56) rfl 6 #[] (.bool true) (fun _ => by kernel_rfl) (fun w M => c_alive w M.laid) ?_
  intro u5 M
  refine pl_val (want_no rfl) (some 57) rfl (.bool true) (fun _ => by kernel_rfl) ?_
  refine pl_val (want_no rfl) (some 6) rfl (.bool true) (fun _ => by kernel_rfl) ?_
  refine pl_nil ?_
  refine au_then ?_
  refine wp_ret ?_
  exact bodyPost_ret (v := .bool true) (results_tmp1 Try.results3 _ _ _ (by kernel_rfl)) (by kernel_rfl) ⟨rfl, below_grown M.old⟩

set_option maxRecDepth 100000 in
set_option maxHeartbeats 4000000 in
theorem ptBn (key s o : ByteArray) (hs : s.size ≤ 140737488351232) (ho : o.size ≤ 140737488351232) (h : ¬ 4096 < key.size + s.size + o.size) (h32 : key.size = 32) (e : s ≠ o) (w : World) (hL : Laid w)  :
    Calls Try.prog 3 #[.string key, .string s, .string o] w fun r w' => r = .returned (.bool true) ∧ Below w.heap.size w w' := by
  go_enter Try.func3, Try.ntmps3
  have M := Mem.start hL
  refine wp_seq ?_
  refine rg_lit ?_
  refine pl_val (want_no rfl) (some 6) rfl (.bool false) (fun _ => by kernel_rfl) ?_
  refine pl_nil ?_
  refine au_then ?_
  refine wp_seq ?_
  refine wp_seq ?_
  refine rg_lit ?_
  refine pl_val (want_no rfl) (some 11) rfl (.string key) (fun _ => by kernel_rfl) ?_
  refine pl_val (want_no rfl) (some 12) rfl (.int .i64 (key.size : Int)) (fun _ => by kernel_rfl) ?_
  refine pl_val (want_no rfl) (some 13) rfl (.string s) (fun _ => by kernel_rfl) ?_
  refine pl_val (want_no rfl) (some 14) rfl (.int .i64 (s.size : Int)) (fun _ => by kernel_rfl) ?_
  refine pl_val (want_no rfl) (some 15) rfl (.int .i64 ((key.size + s.size : Nat) : Int)) (fun w => Eq.trans (b := .ok (.value (.int .i64 (IntKind.wrap .i64 ((key.size : Int) + (s.size : Int))))) w) (by kernel_rfl) (by rw [wrap64 (by omega) (by omega)]; congr 3)) ?_
  refine pl_val (want_no rfl) (some 16) rfl (.string o) (fun _ => by kernel_rfl) ?_
  refine pl_val (want_no rfl) (some 17) rfl (.int .i64 (o.size : Int)) (fun _ => by kernel_rfl) ?_
  refine pl_val (want_no rfl) (some 18) rfl (.int .i64 ((key.size + s.size + o.size : Nat) : Int)) (fun w => Eq.trans (b := .ok (.value (.int .i64 (IntKind.wrap .i64 (((key.size + s.size : Nat) : Int) + (o.size : Int))))) w) (by kernel_rfl) (by rw [wrap64 (by omega) (by omega)]; congr 3)) ?_
  refine pl_val (want_no rfl) (some 19) rfl (.bool false) (fun w => Eq.trans (b := .ok (.value (.bool (decide ((4096 : Int) < ((key.size + s.size + o.size : Nat) : Int))))) w) (by kernel_rfl) (by rw [decide_eq_false (by omega)])) ?_
  refine pl_nil ?_
  refine au_then ?_
  refine wp_cond_false (by kernel_rfl) ?_
  refine wp_skip ?_
  refine au_then ?_
  refine wp_seq ?_
  refine rg_lit ?_
  refine pl_val (want_no rfl) (some 22) rfl (.string key) (fun _ => by kernel_rfl) ?_
  refine pl_val (want_no rfl) (some 23) rfl (.string s) (fun _ => by kernel_rfl) ?_
  refine pl_call M (want_no rfl) (some 24) rfl 7 #[.string key, .string s] (.tuple #[.string (tagS key s), .int .i64 0]) (fun _ => by kernel_rfl) (fun w M => c_Tag key s h32 (by omega) w M.laid) ?_
  intro u1 M
  refine pl_val (want_no rfl) (some 21) rfl (.tuple #[.string (tagS key s), .int .i64 0]) (fun _ => by kernel_rfl) ?_
  refine pl_val (want_no rfl) (some 25) rfl (.string (tagS key s)) (fun _ => by kernel_rfl) ?_
  refine pl_val (want_no rfl) (some 26) rfl (.int .i64 0) (fun _ => by kernel_rfl) ?_
  refine pl_val (want_no rfl) (some 7) rfl (.string (tagS key s)) (fun _ => by kernel_rfl) ?_
  refine pl_val (want_no rfl) (some 8) rfl (.int .i64 0) (fun _ => by kernel_rfl) ?_
  refine pl_nil ?_
  refine au_then ?_
  refine wp_seq ?_
  refine rg_lit ?_
  refine pl_val (want_no rfl) (some 28) rfl (.string key) (fun _ => by kernel_rfl) ?_
  refine pl_val (want_no rfl) (some 29) rfl (.string s) (fun _ => by kernel_rfl) ?_
  refine pl_call M (want_no rfl) (some 30) rfl 8 #[.string key, .string s] (.tuple #[.string (tagS key s), .int .i64 0]) (fun _ => by kernel_rfl) (fun w M => d_Tag key s h32 (by omega) w M.laid) ?_
  intro u2 M
  refine pl_val (want_no rfl) (some 27) rfl (.tuple #[.string (tagS key s), .int .i64 0]) (fun _ => by kernel_rfl) ?_
  refine pl_val (want_no rfl) (some 31) rfl (.string (tagS key s)) (fun _ => by kernel_rfl) ?_
  refine pl_val (want_no rfl) (some 32) rfl (.int .i64 0) (fun _ => by kernel_rfl) ?_
  refine pl_val (want_no rfl) (some 9) rfl (.string (tagS key s)) (fun _ => by kernel_rfl) ?_
  refine pl_val (want_no rfl) (some 10) rfl (.int .i64 0) (fun _ => by kernel_rfl) ?_
  refine pl_nil ?_
  refine au_then ?_
  refine wp_seq ?_
  refine rg_lit ?_
  refine pl_val (want_no rfl) (some 33) rfl (.string (tagS key s)) (fun _ => by kernel_rfl) ?_
  refine pl_val (want_no rfl) (some 34) rfl (.string (tagS key s)) (fun _ => by kernel_rfl) ?_
  refine pl_val (want_no rfl) (some 35) rfl (.bool true) (fun w => Eq.trans (b := .ok (.value (.bool ((tagS key s).toList == (tagS key s).toList))) w) (by kernel_rfl) (by rw [beq_self_eq_true])) ?_
  refine pl_val (want_no rfl) (some 36) rfl (.bool true) (fun _ => by kernel_rfl) ?_
  refine pl_val (want_on 3 true rfl 36 rfl (by kernel_rfl)) (some 37) rfl (.int .i64 0) (fun _ => by kernel_rfl) ?_
  refine pl_val (want_on 3 true rfl 36 rfl (by kernel_rfl)) (some 38) rfl (.int .i64 0) (fun _ => by kernel_rfl) ?_
  refine pl_val (want_on 3 true rfl 36 rfl (by kernel_rfl)) (some 39) rfl (.bool true) (fun _ => by kernel_rfl) ?_
  refine pl_val (want_no rfl) (some 40) rfl (.bool true) (fun _ => by kernel_rfl) ?_
  refine pl_val (want_no rfl) (some 41) rfl (.bool true) (fun _ => by kernel_rfl) ?_
  refine pl_val (want_on 8 true rfl 41 rfl (by kernel_rfl)) (some 42) rfl (.string s) (fun _ => by kernel_rfl) ?_
  refine pl_val (want_on 8 true rfl 41 rfl (by kernel_rfl)) (some 43) rfl (.string o) (fun _ => by kernel_rfl) ?_
  refine pl_call M (want_on 8 true rfl 41 rfl (by kernel_rfl)) (some 44) rfl 9 #[.string s, .string o] (.bool false) (fun _ => by kernel_rfl) (fun w M => (by rw [← decide_eq_false e]; exact c_same s o (by omega) w M.laid)) ?_
  intro u3 M
  refine pl_val (want_on 8 true rfl 41 rfl (by kernel_rfl)) (some 45) rfl (.string s) (fun _ => by kernel_rfl) ?_
  refine pl_val (want_on 8 true rfl 41 rfl (by kernel_rfl)) (some 46) rfl (.string o) (fun _ => by kernel_rfl) ?_
  refine pl_val (want_on 8 true rfl 41 rfl (by kernel_rfl)) (some 47) rfl (.bool false) (fun w => Eq.trans (b := .ok (.value (.bool (s.toList == o.toList))) w) (by kernel_rfl) (by rw [toList_ne e])) ?_
  refine pl_val (want_on 8 true rfl 41 rfl (by kernel_rfl)) (some 48) rfl (.bool true) (fun _ => by kernel_rfl) ?_
  refine pl_val (want_no rfl) (some 49) rfl (.bool true) (fun _ => by kernel_rfl) ?_
  refine pl_val (want_no rfl) (some 50) rfl (.bool true) (fun _ => by kernel_rfl) ?_
  refine pl_val (want_on 17 true rfl 50 rfl (by kernel_rfl)) (some 51) rfl (.string s) (fun _ => by kernel_rfl) ?_
  refine pl_val (want_on 17 true rfl 50 rfl (by kernel_rfl)) (some 52) rfl (.string s) (fun _ => by kernel_rfl) ?_
  refine pl_call M (want_on 17 true rfl 50 rfl (by kernel_rfl)) (some 53) rfl 9 #[.string s, .string s] (.bool true) (fun _ => by kernel_rfl) (fun w M => (by rw [← decide_eq_true (rfl : s = s)]; exact c_same s s (by omega) w M.laid)) ?_
  intro u4 M
  refine pl_val (want_no rfl) (some 54) rfl (.bool true) (fun _ => by kernel_rfl) ?_
  refine pl_val (want_no rfl) (some 55) rfl (.bool true) (fun _ => by kernel_rfl) ?_
  refine pl_call M (want_on 22 true rfl 55 rfl (by kernel_rfl)) (some 56) rfl 6 #[] (.bool true) (fun _ => by kernel_rfl) (fun w M => c_alive w M.laid) ?_
  intro u5 M
  refine pl_val (want_no rfl) (some 57) rfl (.bool true) (fun _ => by kernel_rfl) ?_
  refine pl_val (want_no rfl) (some 6) rfl (.bool true) (fun _ => by kernel_rfl) ?_
  refine pl_nil ?_
  refine au_then ?_
  refine wp_ret ?_
  exact bodyPost_ret (v := .bool true) (results_tmp1 Try.results3 _ _ _ (by kernel_rfl)) (by kernel_rfl) ⟨rfl, below_grown M.old⟩

set_option maxRecDepth 100000 in
set_option maxHeartbeats 4000000 in
theorem ptCy (key s o : ByteArray) (hk : key.size ≤ 140737488351232) (hs : s.size ≤ 140737488351232) (ho : o.size ≤ 140737488351232) (h : ¬ 4096 < key.size + s.size + o.size) (h32 : key.size ≠ 32) (e : s = o) (w : World) (hL : Laid w)  :
    Calls Try.prog 3 #[.string key, .string s, .string o] w fun r w' => r = .returned (.bool true) ∧ Below w.heap.size w w' := by
  go_enter Try.func3, Try.ntmps3
  have M := Mem.start hL
  refine wp_seq ?_
  refine rg_lit ?_
  refine pl_val (want_no rfl) (some 6) rfl (.bool false) (fun _ => by kernel_rfl) ?_
  refine pl_nil ?_
  refine au_then ?_
  refine wp_seq ?_
  refine wp_seq ?_
  refine rg_lit ?_
  refine pl_val (want_no rfl) (some 11) rfl (.string key) (fun _ => by kernel_rfl) ?_
  refine pl_val (want_no rfl) (some 12) rfl (.int .i64 (key.size : Int)) (fun _ => by kernel_rfl) ?_
  refine pl_val (want_no rfl) (some 13) rfl (.string s) (fun _ => by kernel_rfl) ?_
  refine pl_val (want_no rfl) (some 14) rfl (.int .i64 (s.size : Int)) (fun _ => by kernel_rfl) ?_
  refine pl_val (want_no rfl) (some 15) rfl (.int .i64 ((key.size + s.size : Nat) : Int)) (fun w => Eq.trans (b := .ok (.value (.int .i64 (IntKind.wrap .i64 ((key.size : Int) + (s.size : Int))))) w) (by kernel_rfl) (by rw [wrap64 (by omega) (by omega)]; congr 3)) ?_
  refine pl_val (want_no rfl) (some 16) rfl (.string o) (fun _ => by kernel_rfl) ?_
  refine pl_val (want_no rfl) (some 17) rfl (.int .i64 (o.size : Int)) (fun _ => by kernel_rfl) ?_
  refine pl_val (want_no rfl) (some 18) rfl (.int .i64 ((key.size + s.size + o.size : Nat) : Int)) (fun w => Eq.trans (b := .ok (.value (.int .i64 (IntKind.wrap .i64 (((key.size + s.size : Nat) : Int) + (o.size : Int))))) w) (by kernel_rfl) (by rw [wrap64 (by omega) (by omega)]; congr 3)) ?_
  refine pl_val (want_no rfl) (some 19) rfl (.bool false) (fun w => Eq.trans (b := .ok (.value (.bool (decide ((4096 : Int) < ((key.size + s.size + o.size : Nat) : Int))))) w) (by kernel_rfl) (by rw [decide_eq_false (by omega)])) ?_
  refine pl_nil ?_
  refine au_then ?_
  refine wp_cond_false (by kernel_rfl) ?_
  refine wp_skip ?_
  refine au_then ?_
  refine wp_seq ?_
  refine rg_lit ?_
  refine pl_val (want_no rfl) (some 22) rfl (.string key) (fun _ => by kernel_rfl) ?_
  refine pl_val (want_no rfl) (some 23) rfl (.string s) (fun _ => by kernel_rfl) ?_
  refine pl_call M (want_no rfl) (some 24) rfl 7 #[.string key, .string s] (.tuple #[.string ⟨#[]⟩, .int .i64 2]) (fun _ => by kernel_rfl) (fun w M => c_TagB key s h32 w M.laid) ?_
  intro u1 M
  refine pl_val (want_no rfl) (some 21) rfl (.tuple #[.string ⟨#[]⟩, .int .i64 2]) (fun _ => by kernel_rfl) ?_
  refine pl_val (want_no rfl) (some 25) rfl (.string ⟨#[]⟩) (fun _ => by kernel_rfl) ?_
  refine pl_val (want_no rfl) (some 26) rfl (.int .i64 2) (fun _ => by kernel_rfl) ?_
  refine pl_val (want_no rfl) (some 7) rfl (.string ⟨#[]⟩) (fun _ => by kernel_rfl) ?_
  refine pl_val (want_no rfl) (some 8) rfl (.int .i64 2) (fun _ => by kernel_rfl) ?_
  refine pl_nil ?_
  refine au_then ?_
  refine wp_seq ?_
  refine rg_lit ?_
  refine pl_val (want_no rfl) (some 28) rfl (.string key) (fun _ => by kernel_rfl) ?_
  refine pl_val (want_no rfl) (some 29) rfl (.string s) (fun _ => by kernel_rfl) ?_
  refine pl_call M (want_no rfl) (some 30) rfl 8 #[.string key, .string s] (.tuple #[.string ⟨#[]⟩, .int .i64 2]) (fun _ => by kernel_rfl) (fun w M => d_TagB key s h32 w M.laid) ?_
  intro u2 M
  refine pl_val (want_no rfl) (some 27) rfl (.tuple #[.string ⟨#[]⟩, .int .i64 2]) (fun _ => by kernel_rfl) ?_
  refine pl_val (want_no rfl) (some 31) rfl (.string ⟨#[]⟩) (fun _ => by kernel_rfl) ?_
  refine pl_val (want_no rfl) (some 32) rfl (.int .i64 2) (fun _ => by kernel_rfl) ?_
  refine pl_val (want_no rfl) (some 9) rfl (.string ⟨#[]⟩) (fun _ => by kernel_rfl) ?_
  refine pl_val (want_no rfl) (some 10) rfl (.int .i64 2) (fun _ => by kernel_rfl) ?_
  refine pl_nil ?_
  refine au_then ?_
  refine wp_seq ?_
  refine rg_lit ?_
  refine pl_val (want_no rfl) (some 33) rfl (.string ⟨#[]⟩) (fun _ => by kernel_rfl) ?_
  refine pl_val (want_no rfl) (some 34) rfl (.string ⟨#[]⟩) (fun _ => by kernel_rfl) ?_
  refine pl_val (want_no rfl) (some 35) rfl (.bool true) (fun w => Eq.trans (b := .ok (.value (.bool ((⟨#[]⟩ : ByteArray).toList == (⟨#[]⟩ : ByteArray).toList))) w) (by kernel_rfl) (by rw [beq_self_eq_true])) ?_
  refine pl_val (want_no rfl) (some 36) rfl (.bool true) (fun _ => by kernel_rfl) ?_
  refine pl_val (want_on 3 true rfl 36 rfl (by kernel_rfl)) (some 37) rfl (.int .i64 2) (fun _ => by kernel_rfl) ?_
  refine pl_val (want_on 3 true rfl 36 rfl (by kernel_rfl)) (some 38) rfl (.int .i64 2) (fun _ => by kernel_rfl) ?_
  refine pl_val (want_on 3 true rfl 36 rfl (by kernel_rfl)) (some 39) rfl (.bool true) (fun _ => by kernel_rfl) ?_
  refine pl_val (want_no rfl) (some 40) rfl (.bool true) (fun _ => by kernel_rfl) ?_
  refine pl_val (want_no rfl) (some 41) rfl (.bool true) (fun _ => by kernel_rfl) ?_
  refine pl_val (want_on 8 true rfl 41 rfl (by kernel_rfl)) (some 42) rfl (.string s) (fun _ => by kernel_rfl) ?_
  refine pl_val (want_on 8 true rfl 41 rfl (by kernel_rfl)) (some 43) rfl (.string o) (fun _ => by kernel_rfl) ?_
  refine pl_call M (want_on 8 true rfl 41 rfl (by kernel_rfl)) (some 44) rfl 9 #[.string s, .string o] (.bool true) (fun _ => by kernel_rfl) (fun w M => (by rw [← decide_eq_true e]; exact c_same s o (by omega) w M.laid)) ?_
  intro u3 M
  refine pl_val (want_on 8 true rfl 41 rfl (by kernel_rfl)) (some 45) rfl (.string s) (fun _ => by kernel_rfl) ?_
  refine pl_val (want_on 8 true rfl 41 rfl (by kernel_rfl)) (some 46) rfl (.string o) (fun _ => by kernel_rfl) ?_
  refine pl_val (want_on 8 true rfl 41 rfl (by kernel_rfl)) (some 47) rfl (.bool true) (fun w => Eq.trans (b := .ok (.value (.bool (s.toList == o.toList))) w) (by kernel_rfl) (by rw [e, beq_self_eq_true])) ?_
  refine pl_val (want_on 8 true rfl 41 rfl (by kernel_rfl)) (some 48) rfl (.bool true) (fun _ => by kernel_rfl) ?_
  refine pl_val (want_no rfl) (some 49) rfl (.bool true) (fun _ => by kernel_rfl) ?_
  refine pl_val (want_no rfl) (some 50) rfl (.bool true) (fun _ => by kernel_rfl) ?_
  refine pl_val (want_on 17 true rfl 50 rfl (by kernel_rfl)) (some 51) rfl (.string s) (fun _ => by kernel_rfl) ?_
  refine pl_val (want_on 17 true rfl 50 rfl (by kernel_rfl)) (some 52) rfl (.string s) (fun _ => by kernel_rfl) ?_
  refine pl_call M (want_on 17 true rfl 50 rfl (by kernel_rfl)) (some 53) rfl 9 #[.string s, .string s] (.bool true) (fun _ => by kernel_rfl) (fun w M => (by rw [← decide_eq_true (rfl : s = s)]; exact c_same s s (by omega) w M.laid)) ?_
  intro u4 M
  refine pl_val (want_no rfl) (some 54) rfl (.bool true) (fun _ => by kernel_rfl) ?_
  refine pl_val (want_no rfl) (some 55) rfl (.bool true) (fun _ => by kernel_rfl) ?_
  refine pl_call M (want_on 22 true rfl 55 rfl (by kernel_rfl)) (some 56) rfl 6 #[] (.bool true) (fun _ => by kernel_rfl) (fun w M => c_alive w M.laid) ?_
  intro u5 M
  refine pl_val (want_no rfl) (some 57) rfl (.bool true) (fun _ => by kernel_rfl) ?_
  refine pl_val (want_no rfl) (some 6) rfl (.bool true) (fun _ => by kernel_rfl) ?_
  refine pl_nil ?_
  refine au_then ?_
  refine wp_ret ?_
  exact bodyPost_ret (v := .bool true) (results_tmp1 Try.results3 _ _ _ (by kernel_rfl)) (by kernel_rfl) ⟨rfl, below_grown M.old⟩

set_option maxRecDepth 100000 in
set_option maxHeartbeats 4000000 in
theorem ptCn (key s o : ByteArray) (hk : key.size ≤ 140737488351232) (hs : s.size ≤ 140737488351232) (ho : o.size ≤ 140737488351232) (h : ¬ 4096 < key.size + s.size + o.size) (h32 : key.size ≠ 32) (e : s ≠ o) (w : World) (hL : Laid w)  :
    Calls Try.prog 3 #[.string key, .string s, .string o] w fun r w' => r = .returned (.bool true) ∧ Below w.heap.size w w' := by
  go_enter Try.func3, Try.ntmps3
  have M := Mem.start hL
  refine wp_seq ?_
  refine rg_lit ?_
  refine pl_val (want_no rfl) (some 6) rfl (.bool false) (fun _ => by kernel_rfl) ?_
  refine pl_nil ?_
  refine au_then ?_
  refine wp_seq ?_
  refine wp_seq ?_
  refine rg_lit ?_
  refine pl_val (want_no rfl) (some 11) rfl (.string key) (fun _ => by kernel_rfl) ?_
  refine pl_val (want_no rfl) (some 12) rfl (.int .i64 (key.size : Int)) (fun _ => by kernel_rfl) ?_
  refine pl_val (want_no rfl) (some 13) rfl (.string s) (fun _ => by kernel_rfl) ?_
  refine pl_val (want_no rfl) (some 14) rfl (.int .i64 (s.size : Int)) (fun _ => by kernel_rfl) ?_
  refine pl_val (want_no rfl) (some 15) rfl (.int .i64 ((key.size + s.size : Nat) : Int)) (fun w => Eq.trans (b := .ok (.value (.int .i64 (IntKind.wrap .i64 ((key.size : Int) + (s.size : Int))))) w) (by kernel_rfl) (by rw [wrap64 (by omega) (by omega)]; congr 3)) ?_
  refine pl_val (want_no rfl) (some 16) rfl (.string o) (fun _ => by kernel_rfl) ?_
  refine pl_val (want_no rfl) (some 17) rfl (.int .i64 (o.size : Int)) (fun _ => by kernel_rfl) ?_
  refine pl_val (want_no rfl) (some 18) rfl (.int .i64 ((key.size + s.size + o.size : Nat) : Int)) (fun w => Eq.trans (b := .ok (.value (.int .i64 (IntKind.wrap .i64 (((key.size + s.size : Nat) : Int) + (o.size : Int))))) w) (by kernel_rfl) (by rw [wrap64 (by omega) (by omega)]; congr 3)) ?_
  refine pl_val (want_no rfl) (some 19) rfl (.bool false) (fun w => Eq.trans (b := .ok (.value (.bool (decide ((4096 : Int) < ((key.size + s.size + o.size : Nat) : Int))))) w) (by kernel_rfl) (by rw [decide_eq_false (by omega)])) ?_
  refine pl_nil ?_
  refine au_then ?_
  refine wp_cond_false (by kernel_rfl) ?_
  refine wp_skip ?_
  refine au_then ?_
  refine wp_seq ?_
  refine rg_lit ?_
  refine pl_val (want_no rfl) (some 22) rfl (.string key) (fun _ => by kernel_rfl) ?_
  refine pl_val (want_no rfl) (some 23) rfl (.string s) (fun _ => by kernel_rfl) ?_
  refine pl_call M (want_no rfl) (some 24) rfl 7 #[.string key, .string s] (.tuple #[.string ⟨#[]⟩, .int .i64 2]) (fun _ => by kernel_rfl) (fun w M => c_TagB key s h32 w M.laid) ?_
  intro u1 M
  refine pl_val (want_no rfl) (some 21) rfl (.tuple #[.string ⟨#[]⟩, .int .i64 2]) (fun _ => by kernel_rfl) ?_
  refine pl_val (want_no rfl) (some 25) rfl (.string ⟨#[]⟩) (fun _ => by kernel_rfl) ?_
  refine pl_val (want_no rfl) (some 26) rfl (.int .i64 2) (fun _ => by kernel_rfl) ?_
  refine pl_val (want_no rfl) (some 7) rfl (.string ⟨#[]⟩) (fun _ => by kernel_rfl) ?_
  refine pl_val (want_no rfl) (some 8) rfl (.int .i64 2) (fun _ => by kernel_rfl) ?_
  refine pl_nil ?_
  refine au_then ?_
  refine wp_seq ?_
  refine rg_lit ?_
  refine pl_val (want_no rfl) (some 28) rfl (.string key) (fun _ => by kernel_rfl) ?_
  refine pl_val (want_no rfl) (some 29) rfl (.string s) (fun _ => by kernel_rfl) ?_
  refine pl_call M (want_no rfl) (some 30) rfl 8 #[.string key, .string s] (.tuple #[.string ⟨#[]⟩, .int .i64 2]) (fun _ => by kernel_rfl) (fun w M => d_TagB key s h32 w M.laid) ?_
  intro u2 M
  refine pl_val (want_no rfl) (some 27) rfl (.tuple #[.string ⟨#[]⟩, .int .i64 2]) (fun _ => by kernel_rfl) ?_
  refine pl_val (want_no rfl) (some 31) rfl (.string ⟨#[]⟩) (fun _ => by kernel_rfl) ?_
  refine pl_val (want_no rfl) (some 32) rfl (.int .i64 2) (fun _ => by kernel_rfl) ?_
  refine pl_val (want_no rfl) (some 9) rfl (.string ⟨#[]⟩) (fun _ => by kernel_rfl) ?_
  refine pl_val (want_no rfl) (some 10) rfl (.int .i64 2) (fun _ => by kernel_rfl) ?_
  refine pl_nil ?_
  refine au_then ?_
  refine wp_seq ?_
  refine rg_lit ?_
  refine pl_val (want_no rfl) (some 33) rfl (.string ⟨#[]⟩) (fun _ => by kernel_rfl) ?_
  refine pl_val (want_no rfl) (some 34) rfl (.string ⟨#[]⟩) (fun _ => by kernel_rfl) ?_
  refine pl_val (want_no rfl) (some 35) rfl (.bool true) (fun w => Eq.trans (b := .ok (.value (.bool ((⟨#[]⟩ : ByteArray).toList == (⟨#[]⟩ : ByteArray).toList))) w) (by kernel_rfl) (by rw [beq_self_eq_true])) ?_
  refine pl_val (want_no rfl) (some 36) rfl (.bool true) (fun _ => by kernel_rfl) ?_
  refine pl_val (want_on 3 true rfl 36 rfl (by kernel_rfl)) (some 37) rfl (.int .i64 2) (fun _ => by kernel_rfl) ?_
  refine pl_val (want_on 3 true rfl 36 rfl (by kernel_rfl)) (some 38) rfl (.int .i64 2) (fun _ => by kernel_rfl) ?_
  refine pl_val (want_on 3 true rfl 36 rfl (by kernel_rfl)) (some 39) rfl (.bool true) (fun _ => by kernel_rfl) ?_
  refine pl_val (want_no rfl) (some 40) rfl (.bool true) (fun _ => by kernel_rfl) ?_
  refine pl_val (want_no rfl) (some 41) rfl (.bool true) (fun _ => by kernel_rfl) ?_
  refine pl_val (want_on 8 true rfl 41 rfl (by kernel_rfl)) (some 42) rfl (.string s) (fun _ => by kernel_rfl) ?_
  refine pl_val (want_on 8 true rfl 41 rfl (by kernel_rfl)) (some 43) rfl (.string o) (fun _ => by kernel_rfl) ?_
  refine pl_call M (want_on 8 true rfl 41 rfl (by kernel_rfl)) (some 44) rfl 9 #[.string s, .string o] (.bool false) (fun _ => by kernel_rfl) (fun w M => (by rw [← decide_eq_false e]; exact c_same s o (by omega) w M.laid)) ?_
  intro u3 M
  refine pl_val (want_on 8 true rfl 41 rfl (by kernel_rfl)) (some 45) rfl (.string s) (fun _ => by kernel_rfl) ?_
  refine pl_val (want_on 8 true rfl 41 rfl (by kernel_rfl)) (some 46) rfl (.string o) (fun _ => by kernel_rfl) ?_
  refine pl_val (want_on 8 true rfl 41 rfl (by kernel_rfl)) (some 47) rfl (.bool false) (fun w => Eq.trans (b := .ok (.value (.bool (s.toList == o.toList))) w) (by kernel_rfl) (by rw [toList_ne e])) ?_
  refine pl_val (want_on 8 true rfl 41 rfl (by kernel_rfl)) (some 48) rfl (.bool true) (fun _ => by kernel_rfl) ?_
  refine pl_val (want_no rfl) (some 49) rfl (.bool true) (fun _ => by kernel_rfl) ?_
  refine pl_val (want_no rfl) (some 50) rfl (.bool true) (fun _ => by kernel_rfl) ?_
  refine pl_val (want_on 17 true rfl 50 rfl (by kernel_rfl)) (some 51) rfl (.string s) (fun _ => by kernel_rfl) ?_
  refine pl_val (want_on 17 true rfl 50 rfl (by kernel_rfl)) (some 52) rfl (.string s) (fun _ => by kernel_rfl) ?_
  refine pl_call M (want_on 17 true rfl 50 rfl (by kernel_rfl)) (some 53) rfl 9 #[.string s, .string s] (.bool true) (fun _ => by kernel_rfl) (fun w M => (by rw [← decide_eq_true (rfl : s = s)]; exact c_same s s (by omega) w M.laid)) ?_
  intro u4 M
  refine pl_val (want_no rfl) (some 54) rfl (.bool true) (fun _ => by kernel_rfl) ?_
  refine pl_val (want_no rfl) (some 55) rfl (.bool true) (fun _ => by kernel_rfl) ?_
  refine pl_call M (want_on 22 true rfl 55 rfl (by kernel_rfl)) (some 56) rfl 6 #[] (.bool true) (fun _ => by kernel_rfl) (fun w M => c_alive w M.laid) ?_
  intro u5 M
  refine pl_val (want_no rfl) (some 57) rfl (.bool true) (fun _ => by kernel_rfl) ?_
  refine pl_val (want_no rfl) (some 6) rfl (.bool true) (fun _ => by kernel_rfl) ?_
  refine pl_nil ?_
  refine au_then ?_
  refine wp_ret ?_
  exact bodyPost_ret (v := .bool true) (results_tmp1 Try.results3 _ _ _ (by kernel_rfl)) (by kernel_rfl) ⟨rfl, below_grown M.old⟩

theorem c_tags (key s o : ByteArray) (hk : key.size ≤ 140737488351232) (hs : s.size ≤ 140737488351232) (ho : o.size ≤ 140737488351232) (w : World) (hL : Laid w) : Calls Try.prog 3 #[.string key, .string s, .string o] w fun r w' => r = .returned (.bool true) ∧ Below w.heap.size w w' := by
  by_cases h : 4096 < key.size + s.size + o.size
  · exact ptA key s o hk hs ho h w hL
  · by_cases h32 : key.size = 32
    · by_cases e : s = o
      · exact ptBy key s o hs ho h h32 e w hL
      · exact ptBn key s o hs ho h h32 e w hL
    · by_cases e : s = o
      · exact ptCy key s o hk hs ho h h32 e w hL
      · exact ptCn key s o hk hs ho h h32 e w hL

end Go.Proofs.Ytjfnfkphckimdaa
