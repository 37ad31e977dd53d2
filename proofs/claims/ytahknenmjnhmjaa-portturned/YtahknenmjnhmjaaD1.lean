/- The sum of bytes: the walks of both sides, and what they come to. -/
import Derived.Test.YtahknenmjnhmjaaC1
namespace Go.Proofs.Ytahknenmjnhmjaa
open Go.RowKit

/-- What goes beyond 16 bits is added again. -/
def fo (n : Int) : Int := n % 65536 + n / 65536
def sm (s : ByteArray) : Nat → Int
  | 0 => 0
  | j + 1 => fo (sm s j + 256 * bt s (2 * j) + bt s (2 * j + 1))
def tt (s : ByteArray) : Nat → Int
  | 0 => 0
  | j + 1 => tt s j + (if j % 2 = 0 then 256 * bt s j else bt s j)
/-- The number of 16 bits that the sum comes to. -/
def Fs (t : Int) : Int := if t = 0 then 0 else (t - 1) % 65535 + 1
def tot (s : ByteArray) : Int := tt s s.size
def sumS (s : ByteArray) : Int := 65535 - Fs (tot s)
theorem bt_ge (s : ByteArray) (i : Nat) (h : s.size ≤ i) : bt s i = 0 := by
  unfold bt
  rw [Array.getElem?_eq_none h]
  rfl
theorem Fs_nn (t : Int) : 0 ≤ Fs t ∧ Fs t ≤ 65535 := by
  unfold Fs
  split <;> omega
theorem Fs_small (n : Int) (h0 : 0 ≤ n) (h1 : n ≤ 65535) : Fs n = n := by
  unfold Fs
  split <;> omega
theorem Fs_add (t d : Int) (h0 : 0 ≤ t) (d0 : 0 ≤ d) (d1 : d ≤ 65535) : Fs (t + d) = fo (Fs t + d) := by
  unfold Fs fo
  split <;> split <;> omega
theorem fo_nn (n : Int) (h : 0 ≤ n) : 0 ≤ fo n := by
  unfold fo
  omega
theorem Fs_fo (n : Int) (h : 65535 < n) : Fs n = Fs (fo n) := by
  unfold Fs fo
  split <;> split <;> omega
theorem tt_nn (s : ByteArray) (j : Nat) : 0 ≤ tt s j ∧ tt s j ≤ 65280 * j := by
  induction j with
  | zero => unfold tt; omega
  | succ j ih =>
    have := bt_nn s j
    unfold tt
    split <;> omega
theorem sm_Fs (s : ByteArray) (j : Nat) : sm s j = Fs (tt s (2 * j)) := by
  induction j with
  | zero => rfl
  | succ j ih =>
    have h1 := bt_nn s (2 * j)
    have h2 := bt_nn s (2 * j + 1)
    have h3 := tt_nn s (2 * j)
    have e : tt s (2 * (j + 1)) = tt s (2 * j) + (256 * bt s (2 * j) + bt s (2 * j + 1)) := by
      show tt s (2 * j) + (if 2 * j % 2 = 0 then _ else _) + (if (2 * j + 1) % 2 = 0 then _ else _) = _
      rw [if_pos (by omega), if_neg (by omega), Int.add_assoc]
      rfl
    rw [e, Fs_add _ _ h3.1 (by omega) (by omega), ← ih]
    show fo _ = fo _
    congr 1
    omega
theorem sm_nn (s : ByteArray) (j : Nat) : 0 ≤ sm s j ∧ sm s j ≤ 65535 := by
  rw [sm_Fs]
  exact Fs_nn _
theorem sm_tot (s : ByteArray) (n : Nat) (h : n = (s.size + 1) / 2) : sm s n = Fs (tot s) := by
  rw [sm_Fs]
  unfold tot
  by_cases e : 2 * n = s.size
  · rw [e]
  · have e2 : 2 * n = s.size + 1 := by omega
    have e3 : tt s (s.size + 1) = tt s s.size := by
      show tt s s.size + (if s.size % 2 = 0 then _ else _) = _
      rw [bt_ge s s.size (Nat.le_refl _)]
      split <;> omega
    rw [e2, e3]
theorem yx_not (x : Int) (h0 : 0 ≤ x) (h1 : x ≤ 65535) : yx 65535 x = 65535 - x := by
  obtain ⟨n, rfl⟩ := Int.eq_ofNat_of_zero_le h0
  have e : BitVec.ofInt 16 65535 = BitVec.allOnes 16 := by decide
  have e2 : BitVec.ofInt 16 (n : Int) = BitVec.ofNat 16 n := rfl
  unfold yx
  rw [e, e2, BitVec.allOnes_xor, BitVec.toNat_not, BitVec.toNat_ofNat, Nat.mod_eq_of_lt (by omega), IntKind.wrap_u16]
  omega
theorem vn_low (x : Int) (h0 : 0 ≤ x) (h1 : x < 4294967296) : vn x 65535 = x % 65536 := by
  obtain ⟨n, rfl⟩ := Int.eq_ofNat_of_zero_le h0
  have e : BitVec.ofInt 32 65535 = BitVec.ofNat 32 65535 := by decide
  have e2 : BitVec.ofInt 32 (n : Int) = BitVec.ofNat 32 n := rfl
  unfold vn
  rw [e, e2, BitVec.toNat_and, BitVec.toNat_ofNat, BitVec.toNat_ofNat, Nat.mod_eq_of_lt (by omega), Nat.mod_eq_of_lt (by omega)]
  have e3 : n &&& 65535 = n % 65536 := Nat.and_two_pow_sub_one_eq_mod n 16
  rw [e3, IntKind.wrap_u32]
  omega
theorem vl_8 (x : Int) : vl x 8 = (x * 256) % 4294967296 := by
  unfold vl
  rw [IntKind.wrap_u32]
  rfl
theorem sr_16 (x : Int) : sr x 16 = x / 65536 := by
  unfold sr
  rw [Int.fdiv_eq_ediv_of_nonneg _ (by decide)]
  rfl
set_option maxRecDepth 100000 in
set_option maxHeartbeats 4000000 in
set_option linter.unusedSimpArgs false in
theorem c_Sum (s : ByteArray) (hs : s.size ≤ 200000) (w : World) (hL : Laid w)  :
    Calls Try.prog 49 #[.string s] w fun r w' => r = .returned (.int .u16 (sumS s)) ∧ Below w.heap.size w w' := by
  go_enter Try.func49, Try.ntmps49
  have M := Mem.start hL
  obtain ⟨n, hn⟩ : ∃ n : Nat, n = (s.size + 1) / 2 := ⟨_, rfl⟩
  refine wp_seq ?_
  refine rg_lit ?_
  refine pl_val (want_no rfl) (some 2) rfl (.int .u16 0) (fun _ => by kernel_rfl) ?_
  refine pl_nil ?_
  refine au_then ?_
  refine wp_seq ?_
  refine rg_lit ?_
  refine pl_val (want_no rfl) (some 3) rfl (.int .u32 0) (fun _ => by kernel_rfl) ?_
  refine pl_nil ?_
  refine au_then ?_
  refine wp_seq ?_
  refine wp_seq ?_
  refine rg_lit ?_
  refine pl_val (want_no rfl) (some 4) rfl (.int .i64 0) (fun _ => by kernel_rfl) ?_
  refine pl_nil ?_
  refine au_then ?_
  refine wp_block ?_
  refine au_loop (fun j a w' => ∃ v1 : Nat → Value, a = ⟨#[.string s, undef, .int .u16 0, .int .u32 (sm s j), .int .i64 ((2 * j : Nat) : Int), v1 5, v1 6, v1 7, v1 8, v1 9, v1 10, v1 11, v1 12, v1 13, v1 14, v1 15, v1 16, v1 17, v1 18, v1 19, v1 20, v1 21, v1 22, v1 23, v1 24, v1 25, v1 26, v1 27, v1 28, v1 29, v1 30, v1 31, v1 32, v1 33, v1 34, undef, undef, undef], []⟩ ∧ Mem ⟨w, []⟩ [] w') n ⟨fun k_ => ([undef, undef, undef, undef, undef, undef, undef, undef, undef, undef, undef, undef, undef, undef, undef, undef, undef, undef, undef, undef, undef, undef, undef, undef, undef, undef, undef, undef, undef, undef] : List Value).getD (k_ - 5) undef, by kernel_rfl, M⟩ ?_ ?_
  · intro j a u0 hj hI
    obtain ⟨v1, rfl, M⟩ := hI
    have hs1 := sm_nn s j
    have hb0 := bt_nn s (2 * j)
    have hb1 := bt_nn s (2 * j + 1)
    refine wp_seq ?_
    refine wp_seq ?_
    refine rg_lit ?_
    refine pl_val (want_no rfl) (some 5) rfl (.int .i64 ((2 * j : Nat) : Int)) (fun _ => by kernel_rfl) ?_
    refine pl_val (want_no rfl) (some 6) rfl (.string s) (fun _ => by kernel_rfl) ?_
    refine pl_val (want_no rfl) (some 7) rfl (.int .i64 (s.size : Int)) (fun _ => by kernel_rfl) ?_
    refine pl_val (want_no rfl) (some 8) rfl (.bool true) (fun w => Eq.trans (b := .ok (.value (.bool (decide (((2 * j : Nat) : Int) < (s.size : Int))))) w) (by kernel_rfl) (by rw [decide_eq_true (by omega)])) ?_
    refine pl_nil ?_
    refine au_then ?_
    refine wp_cond_true (by kernel_rfl) ?_
    refine wp_skip ?_
    refine au_then ?_
    refine wp_seq ?_
    refine wp_block ?_
    refine wp_seq ?_
    refine rg_lit ?_
    refine pl_val (want_no rfl) (some 11) rfl (.int .u32 (sm s j)) (fun _ => by kernel_rfl) ?_
    refine pl_val (want_no rfl) (some 12) rfl (.string s) (fun _ => by kernel_rfl) ?_
    refine pl_val (want_no rfl) (some 13) rfl (.int .i64 ((2 * j : Nat) : Int)) (fun _ => by kernel_rfl) ?_
    refine pl_val (want_no rfl) (some 14) rfl (.int .u8 (bt s (2 * j))) (run_ixS 9 Try.underlying9 _ _ rfl s (by kernel_rfl) .i64 (2 * j) (by kernel_rfl) (by omega)) ?_
    refine pl_val (want_no rfl) (some 15) rfl (.int .u32 (bt s (2 * j))) (fun w => Eq.trans (b := .ok (.value (.int .u32 (cv .u32 (bt s (2 * j))))) w) (by kernel_rfl) (by rw [cv_u32]; congr 3; omega)) ?_
    refine pl_val (want_no rfl) (some 16) rfl (.int .u32 (256 * bt s (2 * j))) (fun w => Eq.trans (b := .ok (.value (.int .u32 (vl (bt s (2 * j)) 8))) w) (by kernel_rfl) (by rw [vl_8]; congr 3; omega)) ?_
    refine pl_val (want_no rfl) (some 17) rfl (.int .u32 (sm s j + 256 * bt s (2 * j))) (fun w => Eq.trans (b := .ok (.value (.int .u32 (cv .u32 (sm s j + 256 * bt s (2 * j))))) w) (by kernel_rfl) (by rw [cv_u32]; congr 3; omega)) ?_
    refine pl_val (want_no rfl) (some 3) rfl (.int .u32 (sm s j + 256 * bt s (2 * j))) (fun _ => by kernel_rfl) ?_
    refine pl_nil ?_
    refine au_then ?_
    refine wp_seq ?_
    refine wp_seq ?_
    refine rg_lit ?_
    refine pl_val (want_no rfl) (some 18) rfl (.int .i64 ((2 * j : Nat) : Int)) (fun _ => by kernel_rfl) ?_
    refine pl_val (want_no rfl) (some 19) rfl (.int .i64 ((2 * j + 1 : Nat) : Int)) (fun w => Eq.trans (b := .ok (.value (.int .i64 (cv .i64 (((2 * j : Nat) : Int) + 1)))) w) (by kernel_rfl) (by rw [cv_i64 (by omega) (by omega)]; rfl)) ?_
    refine pl_val (want_no rfl) (some 20) rfl (.string s) (fun _ => by kernel_rfl) ?_
    refine pl_val (want_no rfl) (some 21) rfl (.int .i64 (s.size : Int)) (fun _ => by kernel_rfl) ?_
    by_cases c0 : ((2 * j + 1 : Nat) : Int) < (s.size : Int)
    · skip
      refine pl_val (want_no rfl) (some 22) rfl (.bool true) (fun w => Eq.trans (b := .ok (.value (.bool (decide (((2 * j + 1 : Nat) : Int) < (s.size : Int))))) w) (by kernel_rfl) (by rw [decide_eq_true (c0)])) ?_
      refine pl_nil ?_
      refine au_then ?_
      refine wp_cond_true (by kernel_rfl) ?_
      refine rg_lit ?_
      refine pl_val (want_no rfl) (some 23) rfl (.int .u32 (sm s j + 256 * bt s (2 * j))) (fun _ => by kernel_rfl) ?_
      refine pl_val (want_no rfl) (some 24) rfl (.string s) (fun _ => by kernel_rfl) ?_
      refine pl_val (want_no rfl) (some 25) rfl (.int .i64 ((2 * j : Nat) : Int)) (fun _ => by kernel_rfl) ?_
      refine pl_val (want_no rfl) (some 26) rfl (.int .i64 ((2 * j + 1 : Nat) : Int)) (fun w => Eq.trans (b := .ok (.value (.int .i64 (cv .i64 (((2 * j : Nat) : Int) + 1)))) w) (by kernel_rfl) (by rw [cv_i64 (by omega) (by omega)]; rfl)) ?_
      refine pl_val (want_no rfl) (some 27) rfl (.int .u8 (bt s (2 * j + 1))) (run_ixS 9 Try.underlying9 _ _ rfl s (by kernel_rfl) .i64 (2 * j + 1) (by kernel_rfl) (by omega)) ?_
      refine pl_val (want_no rfl) (some 28) rfl (.int .u32 (bt s (2 * j + 1))) (fun w => Eq.trans (b := .ok (.value (.int .u32 (cv .u32 (bt s (2 * j + 1))))) w) (by kernel_rfl) (by rw [cv_u32]; congr 3; omega)) ?_
      refine pl_val (want_no rfl) (some 29) rfl (.int .u32 (sm s j + 256 * bt s (2 * j) + bt s (2 * j + 1))) (fun w => Eq.trans (b := .ok (.value (.int .u32 (cv .u32 (sm s j + 256 * bt s (2 * j) + bt s (2 * j + 1))))) w) (by kernel_rfl) (by rw [cv_u32]; congr 3; omega)) ?_
      refine pl_val (want_no rfl) (some 3) rfl (.int .u32 (sm s j + 256 * bt s (2 * j) + bt s (2 * j + 1))) (fun _ => by kernel_rfl) ?_
      refine pl_nil ?_
      refine au_then ?_
      refine rg_lit ?_
      refine pl_val (want_no rfl) (some 30) rfl (.int .u32 (sm s j + 256 * bt s (2 * j) + bt s (2 * j + 1))) (fun _ => by kernel_rfl) ?_
      refine pl_val (want_no rfl) (some 31) rfl (.int .u32 ((sm s j + 256 * bt s (2 * j) + bt s (2 * j + 1)) % 65536)) (fun w => Eq.trans (b := .ok (.value (.int .u32 (vn (sm s j + 256 * bt s (2 * j) + bt s (2 * j + 1)) 65535))) w) (by kernel_rfl) (by rw [vn_low _ (by omega) (by omega)])) ?_
      refine pl_val (want_no rfl) (some 32) rfl (.int .u32 (sm s j + 256 * bt s (2 * j) + bt s (2 * j + 1))) (fun _ => by kernel_rfl) ?_
      refine pl_val (want_no rfl) (some 33) rfl (.int .u32 ((sm s j + 256 * bt s (2 * j) + bt s (2 * j + 1)) / 65536)) (fun w => Eq.trans (b := .ok (.value (.int .u32 (sr (sm s j + 256 * bt s (2 * j) + bt s (2 * j + 1)) 16))) w) (by kernel_rfl) (by rw [sr_16])) ?_
      refine pl_val (want_no rfl) (some 34) rfl (.int .u32 (sm s (j + 1))) (fun w => Eq.trans (b := .ok (.value (.int .u32 (cv .u32 (((sm s j + 256 * bt s (2 * j) + bt s (2 * j + 1)) % 65536) + ((sm s j + 256 * bt s (2 * j) + bt s (2 * j + 1)) / 65536))))) w) (by kernel_rfl) (by rw [cv_u32]; congr 3; show _ = fo (sm s j + 256 * bt s (2 * j) + bt s (2 * j + 1)); unfold fo; omega)) ?_
      refine pl_val (want_no rfl) (some 3) rfl (.int .u32 (sm s (j + 1))) (fun _ => by kernel_rfl) ?_
      refine pl_nil ?_
      refine au_block ?_
      refine au_then ?_
      refine rg_lit ?_
      refine pl_val (want_no rfl) (some 9) rfl (.int .i64 ((2 * j : Nat) : Int)) (fun _ => by kernel_rfl) ?_
      refine pl_val (want_no rfl) (some 10) rfl (.int .i64 ((2 * (j + 1) : Nat) : Int)) (fun w => Eq.trans (b := .ok (.value (.int .i64 (cv .i64 (((2 * j : Nat) : Int) + 2)))) w) (by kernel_rfl) (by rw [cv_i64 (by omega) (by omega)]; rfl)) ?_
      refine pl_val (want_no rfl) (some 4) rfl (.int .i64 ((2 * (j + 1) : Nat) : Int)) (fun _ => by kernel_rfl) ?_
      refine pl_nil ?_
      refine au_then ?_
      exact ⟨fun k_ => ([.int .i64 ((2 * j : Nat) : Int), .string s, .int .i64 (s.size : Int), .bool true, .int .i64 ((2 * j : Nat) : Int), .int .i64 ((2 * (j + 1) : Nat) : Int), .int .u32 (sm s j), .string s, .int .i64 ((2 * j : Nat) : Int), .int .u8 (bt s (2 * j)), .int .u32 (bt s (2 * j)), .int .u32 (256 * bt s (2 * j)), .int .u32 (sm s j + 256 * bt s (2 * j)), .int .i64 ((2 * j : Nat) : Int), .int .i64 ((2 * j + 1 : Nat) : Int), .string s, .int .i64 (s.size : Int), .bool true, .int .u32 (sm s j + 256 * bt s (2 * j)), .string s, .int .i64 ((2 * j : Nat) : Int), .int .i64 ((2 * j + 1 : Nat) : Int), .int .u8 (bt s (2 * j + 1)), .int .u32 (bt s (2 * j + 1)), .int .u32 (sm s j + 256 * bt s (2 * j) + bt s (2 * j + 1)), .int .u32 (sm s j + 256 * bt s (2 * j) + bt s (2 * j + 1)), .int .u32 ((sm s j + 256 * bt s (2 * j) + bt s (2 * j + 1)) % 65536), .int .u32 (sm s j + 256 * bt s (2 * j) + bt s (2 * j + 1)), .int .u32 ((sm s j + 256 * bt s (2 * j) + bt s (2 * j + 1)) / 65536), .int .u32 (sm s (j + 1))] : List Value).getD (k_ - 5) undef, by kernel_rfl, M⟩
    · skip
      refine pl_val (want_no rfl) (some 22) rfl (.bool false) (fun w => Eq.trans (b := .ok (.value (.bool (decide (((2 * j + 1 : Nat) : Int) < (s.size : Int))))) w) (by kernel_rfl) (by rw [decide_eq_false (c0)])) ?_
      refine pl_nil ?_
      refine au_then ?_
      refine wp_cond_false (by kernel_rfl) ?_
      refine wp_skip ?_
      refine au_then ?_
      refine rg_lit ?_
      refine pl_val (want_no rfl) (some 30) rfl (.int .u32 (sm s j + 256 * bt s (2 * j))) (fun _ => by kernel_rfl) ?_
      refine pl_val (want_no rfl) (some 31) rfl (.int .u32 ((sm s j + 256 * bt s (2 * j)) % 65536)) (fun w => Eq.trans (b := .ok (.value (.int .u32 (vn (sm s j + 256 * bt s (2 * j)) 65535))) w) (by kernel_rfl) (by rw [vn_low _ (by omega) (by omega)])) ?_
      refine pl_val (want_no rfl) (some 32) rfl (.int .u32 (sm s j + 256 * bt s (2 * j))) (fun _ => by kernel_rfl) ?_
      refine pl_val (want_no rfl) (some 33) rfl (.int .u32 ((sm s j + 256 * bt s (2 * j)) / 65536)) (fun w => Eq.trans (b := .ok (.value (.int .u32 (sr (sm s j + 256 * bt s (2 * j)) 16))) w) (by kernel_rfl) (by rw [sr_16])) ?_
      refine pl_val (want_no rfl) (some 34) rfl (.int .u32 (sm s (j + 1))) (fun w => Eq.trans (b := .ok (.value (.int .u32 (cv .u32 (((sm s j + 256 * bt s (2 * j)) % 65536) + ((sm s j + 256 * bt s (2 * j)) / 65536))))) w) (by kernel_rfl) (by rw [cv_u32]; congr 3; show _ = fo (sm s j + 256 * bt s (2 * j) + bt s (2 * j + 1)); unfold fo; rw [bt_ge s (2 * j + 1) (by omega)]; omega)) ?_
      refine pl_val (want_no rfl) (some 3) rfl (.int .u32 (sm s (j + 1))) (fun _ => by kernel_rfl) ?_
      refine pl_nil ?_
      refine au_block ?_
      refine au_then ?_
      refine rg_lit ?_
      refine pl_val (want_no rfl) (some 9) rfl (.int .i64 ((2 * j : Nat) : Int)) (fun _ => by kernel_rfl) ?_
      refine pl_val (want_no rfl) (some 10) rfl (.int .i64 ((2 * (j + 1) : Nat) : Int)) (fun w => Eq.trans (b := .ok (.value (.int .i64 (cv .i64 (((2 * j : Nat) : Int) + 2)))) w) (by kernel_rfl) (by rw [cv_i64 (by omega) (by omega)]; rfl)) ?_
      refine pl_val (want_no rfl) (some 4) rfl (.int .i64 ((2 * (j + 1) : Nat) : Int)) (fun _ => by kernel_rfl) ?_
      refine pl_nil ?_
      refine au_then ?_
      exact ⟨fun k_ => ([.int .i64 ((2 * j : Nat) : Int), .string s, .int .i64 (s.size : Int), .bool true, .int .i64 ((2 * j : Nat) : Int), .int .i64 ((2 * (j + 1) : Nat) : Int), .int .u32 (sm s j), .string s, .int .i64 ((2 * j : Nat) : Int), .int .u8 (bt s (2 * j)), .int .u32 (bt s (2 * j)), .int .u32 (256 * bt s (2 * j)), .int .u32 (sm s j + 256 * bt s (2 * j)), .int .i64 ((2 * j : Nat) : Int), .int .i64 ((2 * j + 1 : Nat) : Int), .string s, .int .i64 (s.size : Int), .bool false, v1 23, v1 24, v1 25, v1 26, v1 27, v1 28, v1 29, .int .u32 (sm s j + 256 * bt s (2 * j)), .int .u32 ((sm s j + 256 * bt s (2 * j)) % 65536), .int .u32 (sm s j + 256 * bt s (2 * j)), .int .u32 ((sm s j + 256 * bt s (2 * j)) / 65536), .int .u32 (sm s (j + 1))] : List Value).getD (k_ - 5) undef, by kernel_rfl, M⟩
  · intro a u0 hI
    obtain ⟨v1, rfl, M⟩ := hI
    refine wp_seq ?_
    refine wp_seq ?_
    refine rg_lit ?_
    refine pl_val (want_no rfl) (some 5) rfl (.int .i64 ((2 * n : Nat) : Int)) (fun _ => by kernel_rfl) ?_
    refine pl_val (want_no rfl) (some 6) rfl (.string s) (fun _ => by kernel_rfl) ?_
    refine pl_val (want_no rfl) (some 7) rfl (.int .i64 (s.size : Int)) (fun _ => by kernel_rfl) ?_
    refine pl_val (want_no rfl) (some 8) rfl (.bool false) (fun w => Eq.trans (b := .ok (.value (.bool (decide (((2 * n : Nat) : Int) < (s.size : Int))))) w) (by kernel_rfl) (by rw [decide_eq_false (by omega)])) ?_
    refine pl_nil ?_
    refine au_then ?_
    refine wp_cond_false (by kernel_rfl) ?_
    refine wp_exit ?_
    refine au_then_exit ?_
    refine au_then_exit ?_
    refine au_block_exit ?_
    refine au_then ?_
    refine wp_seq ?_
    refine rg_lit ?_
    refine pl_val (want_no rfl) (some 35) rfl (.int .u32 (sm s n)) (fun _ => by kernel_rfl) ?_
    refine pl_val (want_no rfl) (some 36) rfl (.int .u16 (sm s n)) (fun w => Eq.trans (b := .ok (.value (.int .u16 (cv .u16 (sm s n)))) w) (by kernel_rfl) (by rw [cv_u16]; congr 3; have := sm_nn s n; omega)) ?_
    refine pl_val (want_no rfl) (some 37) rfl (.int .u16 (sumS s)) (fun w => Eq.trans (b := .ok (.value (.int .u16 (yx 65535 (sm s n)))) w) (by kernel_rfl) (by rw [yx_not _ (sm_nn s n).1 (sm_nn s n).2, sm_tot s n hn]; rfl)) ?_
    refine pl_val (want_no rfl) (some 2) rfl (.int .u16 (sumS s)) (fun _ => by kernel_rfl) ?_
    refine pl_nil ?_
    refine au_then ?_
    refine wp_ret ?_
    exact bodyPost_ret (v := .int .u16 (sumS s)) (results_tmp1 Try.results49 _ _ _ (by kernel_rfl)) (by kernel_rfl) ⟨rfl, below_grown M.old⟩

set_option maxRecDepth 100000 in
set_option maxHeartbeats 4000000 in
set_option linter.unusedSimpArgs false in
theorem d_Sum (s : ByteArray) (hs : s.size ≤ 200000) (w : World) (hL : Laid w)  :
    Calls Try.prog 48 #[.string s] w fun r w' => r = .returned (.int .u16 (sumS s)) ∧ Below w.heap.size w w' := by
  go_enter Try.func48, Try.ntmps48
  have M := Mem.start hL
  refine wp_seq ?_
  refine rg_lit ?_
  refine pl_val (want_no rfl) (some 2) rfl (.int .u16 0) (fun _ => by kernel_rfl) ?_
  refine pl_nil ?_
  refine au_then ?_
  refine wp_seq ?_
  refine rg_lit ?_
  refine pl_val (want_no rfl) (some 3) rfl (.int .i64 0) (fun _ => by kernel_rfl) ?_
  refine pl_nil ?_
  refine au_then ?_
  refine wp_seq ?_
  refine wp_seq ?_
  refine rg_lit ?_
  refine pl_val (want_no rfl) (some 4) rfl (.int .i64 0) (fun _ => by kernel_rfl) ?_
  refine pl_nil ?_
  refine au_then ?_
  refine wp_block ?_
  refine au_loop (fun j a w' => ∃ v1 : Nat → Value, a = ⟨#[.string s, undef, .int .u16 0, .int .i64 (tt s j), .int .i64 (j : Int), v1 5, v1 6, v1 7, v1 8, v1 9, v1 10, v1 11, v1 12, v1 13, v1 14, v1 15, v1 16, v1 17, v1 18, v1 19, v1 20, v1 21, v1 22, v1 23, v1 24, v1 25, v1 26, undef, undef, undef, undef, undef, undef, undef, undef, undef, undef], []⟩ ∧ Mem ⟨w, []⟩ [] w') s.size ⟨fun k_ => ([undef, undef, undef, undef, undef, undef, undef, undef, undef, undef, undef, undef, undef, undef, undef, undef, undef, undef, undef, undef, undef, undef] : List Value).getD (k_ - 5) undef, by kernel_rfl, M⟩ ?_ ?_
  · intro j a u0 hj hI
    obtain ⟨v1, rfl, M⟩ := hI
    have ht := tt_nn s j
    have hb := bt_nn s j
    refine wp_seq ?_
    refine wp_seq ?_
    refine rg_lit ?_
    refine pl_val (want_no rfl) (some 5) rfl (.int .i64 (j : Int)) (fun _ => by kernel_rfl) ?_
    refine pl_val (want_no rfl) (some 6) rfl (.string s) (fun _ => by kernel_rfl) ?_
    refine pl_val (want_no rfl) (some 7) rfl (.int .i64 (s.size : Int)) (fun _ => by kernel_rfl) ?_
    refine pl_val (want_no rfl) (some 8) rfl (.bool true) (fun w => Eq.trans (b := .ok (.value (.bool (decide ((j : Int) < (s.size : Int))))) w) (by kernel_rfl) (by rw [decide_eq_true (by omega)])) ?_
    refine pl_nil ?_
    refine au_then ?_
    refine wp_cond_true (by kernel_rfl) ?_
    refine wp_skip ?_
    refine au_then ?_
    refine wp_seq ?_
    refine wp_block ?_
    refine wp_seq ?_
    refine rg_lit ?_
    refine pl_val (want_no rfl) (some 11) rfl (.int .i64 (j : Int)) (fun _ => by kernel_rfl) ?_
    refine pl_val (want_no rfl) (some 12) rfl (.int .i64 ((j % 2 : Nat) : Int)) (fun w => Eq.trans (b := .ok (.value (.int .i64 (Int.tmod (j : Int) 2))) w) (by kernel_rfl) (by rw [Int.tmod_eq_emod_of_nonneg (by omega)]; rfl)) ?_
    by_cases c0 : j % 2 = 0
    · skip
      refine pl_val (want_no rfl) (some 13) rfl (.bool true) (fun w => Eq.trans (b := .ok (.value (.bool (decide (((j % 2 : Nat) : Int) = 0)))) w) (by kernel_rfl) (by rw [decide_eq_true (by omega)])) ?_
      refine pl_nil ?_
      refine au_then ?_
      refine wp_cond_true (by kernel_rfl) ?_
      refine rg_lit ?_
      refine pl_val (want_no rfl) (some 14) rfl (.int .i64 (tt s j)) (fun _ => by kernel_rfl) ?_
      refine pl_val (want_no rfl) (some 15) rfl (.string s) (fun _ => by kernel_rfl) ?_
      refine pl_val (want_no rfl) (some 16) rfl (.int .i64 (j : Int)) (fun _ => by kernel_rfl) ?_
      refine pl_val (want_no rfl) (some 17) rfl (.int .u8 (bt s j)) (run_ixS 9 Try.underlying9 _ _ rfl s (by kernel_rfl) .i64 j (by kernel_rfl) (by omega)) ?_
      refine pl_val (want_no rfl) (some 18) rfl (.int .i64 (bt s j)) (fun w => Eq.trans (b := .ok (.value (.int .i64 (cv .i64 (bt s j)))) w) (by kernel_rfl) (by rw [cv_i64 (by omega) (by omega)])) ?_
      refine pl_val (want_no rfl) (some 19) rfl (.int .i64 (256 * bt s j)) (fun w => Eq.trans (b := .ok (.value (.int .i64 (cv .i64 (256 * bt s j)))) w) (by kernel_rfl) (by rw [cv_i64 (by omega) (by omega)])) ?_
      refine pl_val (want_no rfl) (some 20) rfl (.int .i64 (tt s (j + 1))) (fun w => Eq.trans (b := .ok (.value (.int .i64 (cv .i64 ((tt s j) + (256 * bt s j))))) w) (by kernel_rfl) (by rw [cv_i64 (by omega) (by omega)]; show _ = Result.ok (Next.value (.int .i64 (tt s j + (if j % 2 = 0 then 256 * bt s j else bt s j)))) w; rw [if_pos c0])) ?_
      refine pl_val (want_no rfl) (some 3) rfl (.int .i64 (tt s (j + 1))) (fun _ => by kernel_rfl) ?_
      refine pl_nil ?_
      refine au_block ?_
      refine au_then ?_
      refine rg_lit ?_
      refine pl_val (want_no rfl) (some 9) rfl (.int .i64 (j : Int)) (fun _ => by kernel_rfl) ?_
      refine pl_val (want_no rfl) (some 10) rfl (.int .i64 ((j + 1 : Nat) : Int)) (fun w => Eq.trans (b := .ok (.value (.int .i64 (IntKind.wrap .i64 ((j : Int) + 1)))) w) (by kernel_rfl) (by rw [wrap64 (by omega) (by omega)]; congr 3)) ?_
      refine pl_val (want_no rfl) (some 4) rfl (.int .i64 ((j + 1 : Nat) : Int)) (fun _ => by kernel_rfl) ?_
      refine pl_nil ?_
      refine au_then ?_
      exact ⟨fun k_ => ([.int .i64 (j : Int), .string s, .int .i64 (s.size : Int), .bool true, .int .i64 (j : Int), .int .i64 ((j + 1 : Nat) : Int), .int .i64 (j : Int), .int .i64 ((j % 2 : Nat) : Int), .bool true, .int .i64 (tt s j), .string s, .int .i64 (j : Int), .int .u8 (bt s j), .int .i64 (bt s j), .int .i64 (256 * bt s j), .int .i64 (tt s (j + 1)), v1 21, v1 22, v1 23, v1 24, v1 25, v1 26] : List Value).getD (k_ - 5) undef, by kernel_rfl, M⟩
    · skip
      refine pl_val (want_no rfl) (some 13) rfl (.bool false) (fun w => Eq.trans (b := .ok (.value (.bool (decide (((j % 2 : Nat) : Int) = 0)))) w) (by kernel_rfl) (by rw [decide_eq_false (by omega)])) ?_
      refine pl_nil ?_
      refine au_then ?_
      refine wp_cond_false (by kernel_rfl) ?_
      refine rg_lit ?_
      refine pl_val (want_no rfl) (some 21) rfl (.int .i64 (tt s j)) (fun _ => by kernel_rfl) ?_
      refine pl_val (want_no rfl) (some 22) rfl (.string s) (fun _ => by kernel_rfl) ?_
      refine pl_val (want_no rfl) (some 23) rfl (.int .i64 (j : Int)) (fun _ => by kernel_rfl) ?_
      refine pl_val (want_no rfl) (some 24) rfl (.int .u8 (bt s j)) (run_ixS 9 Try.underlying9 _ _ rfl s (by kernel_rfl) .i64 j (by kernel_rfl) (by omega)) ?_
      refine pl_val (want_no rfl) (some 25) rfl (.int .i64 (bt s j)) (fun w => Eq.trans (b := .ok (.value (.int .i64 (cv .i64 (bt s j)))) w) (by kernel_rfl) (by rw [cv_i64 (by omega) (by omega)])) ?_
      refine pl_val (want_no rfl) (some 26) rfl (.int .i64 (tt s (j + 1))) (fun w => Eq.trans (b := .ok (.value (.int .i64 (cv .i64 ((tt s j) + (bt s j))))) w) (by kernel_rfl) (by rw [cv_i64 (by omega) (by omega)]; show _ = Result.ok (Next.value (.int .i64 (tt s j + (if j % 2 = 0 then 256 * bt s j else bt s j)))) w; rw [if_neg c0])) ?_
      refine pl_val (want_no rfl) (some 3) rfl (.int .i64 (tt s (j + 1))) (fun _ => by kernel_rfl) ?_
      refine pl_nil ?_
      refine au_block ?_
      refine au_then ?_
      refine rg_lit ?_
      refine pl_val (want_no rfl) (some 9) rfl (.int .i64 (j : Int)) (fun _ => by kernel_rfl) ?_
      refine pl_val (want_no rfl) (some 10) rfl (.int .i64 ((j + 1 : Nat) : Int)) (fun w => Eq.trans (b := .ok (.value (.int .i64 (IntKind.wrap .i64 ((j : Int) + 1)))) w) (by kernel_rfl) (by rw [wrap64 (by omega) (by omega)]; congr 3)) ?_
      refine pl_val (want_no rfl) (some 4) rfl (.int .i64 ((j + 1 : Nat) : Int)) (fun _ => by kernel_rfl) ?_
      refine pl_nil ?_
      refine au_then ?_
      exact ⟨fun k_ => ([.int .i64 (j : Int), .string s, .int .i64 (s.size : Int), .bool true, .int .i64 (j : Int), .int .i64 ((j + 1 : Nat) : Int), .int .i64 (j : Int), .int .i64 ((j % 2 : Nat) : Int), .bool false, v1 14, v1 15, v1 16, v1 17, v1 18, v1 19, v1 20, .int .i64 (tt s j), .string s, .int .i64 (j : Int), .int .u8 (bt s j), .int .i64 (bt s j), .int .i64 (tt s (j + 1))] : List Value).getD (k_ - 5) undef, by kernel_rfl, M⟩
  · intro a u0 hI
    obtain ⟨v1, rfl, M⟩ := hI
    have ht := tt_nn s s.size
    refine wp_seq ?_
    refine wp_seq ?_
    refine rg_lit ?_
    refine pl_val (want_no rfl) (some 5) rfl (.int .i64 ((s.size : Nat) : Int)) (fun _ => by kernel_rfl) ?_
    refine pl_val (want_no rfl) (some 6) rfl (.string s) (fun _ => by kernel_rfl) ?_
    refine pl_val (want_no rfl) (some 7) rfl (.int .i64 (s.size : Int)) (fun _ => by kernel_rfl) ?_
    refine pl_val (want_no rfl) (some 8) rfl (.bool false) (fun w => Eq.trans (b := .ok (.value (.bool (decide (((s.size : Nat) : Int) < (s.size : Int))))) w) (by kernel_rfl) (by rw [decide_eq_false (by omega)])) ?_
    refine pl_nil ?_
    refine au_then ?_
    refine wp_cond_false (by kernel_rfl) ?_
    refine wp_exit ?_
    refine au_then_exit ?_
    refine au_then_exit ?_
    refine au_block_exit ?_
    refine au_then ?_
    refine wp_seq ?_
    refine wp_block ?_
    refine wp_loop_rounds 4 ?_
    refine rounds_go ?_
    refine wp_seq ?_
    refine wp_seq ?_
    refine rg_lit ?_
    refine pl_val (want_no rfl) (some 27) rfl (.int .i64 (tt s (s.size))) (fun _ => by kernel_rfl) ?_
    by_cases c0 : 65535 < (tt s (s.size))
    · skip
      refine pl_val (want_no rfl) (some 28) rfl (.bool true) (fun w => Eq.trans (b := .ok (.value (.bool (decide (65535 < (tt s (s.size)))))) w) (by kernel_rfl) (by rw [decide_eq_true (c0)])) ?_
      refine pl_nil ?_
      refine au_then ?_
      refine wp_cond_true (by kernel_rfl) ?_
      refine wp_skip ?_
      refine au_then ?_
      refine wp_block ?_
      refine rg_lit ?_
      refine pl_val (want_no rfl) (some 29) rfl (.int .i64 (tt s (s.size))) (fun _ => by kernel_rfl) ?_
      refine pl_val (want_no rfl) (some 30) rfl (.int .i64 ((tt s (s.size)) % 65536)) (fun w => Eq.trans (b := .ok (.value (.int .i64 (Int.tmod (tt s (s.size)) 65536))) w) (by kernel_rfl) (by rw [Int.tmod_eq_emod_of_nonneg (by omega)])) ?_
      refine pl_val (want_no rfl) (some 31) rfl (.int .i64 (tt s (s.size))) (fun _ => by kernel_rfl) ?_
      refine pl_val (want_no rfl) (some 32) rfl (.int .i64 ((tt s (s.size)) / 65536)) (fun w => Eq.trans (b := .ok (.value (.int .i64 (cv .i64 (Int.tdiv (tt s (s.size)) 65536)))) w) (by kernel_rfl) (by rw [Int.tdiv_eq_ediv_of_nonneg (by omega), cv_i64 (by omega) (by omega)])) ?_
      refine pl_val (want_no rfl) (some 33) rfl (.int .i64 ((tt s (s.size)) % 65536 + (tt s (s.size)) / 65536)) (fun w => Eq.trans (b := .ok (.value (.int .i64 (cv .i64 (((tt s (s.size)) % 65536) + ((tt s (s.size)) / 65536))))) w) (by kernel_rfl) (by rw [cv_i64 (by omega) (by omega)])) ?_
      refine pl_val (want_no rfl) (some 3) rfl (.int .i64 ((tt s (s.size)) % 65536 + (tt s (s.size)) / 65536)) (fun _ => by kernel_rfl) ?_
      refine pl_nil ?_
      refine au_block ?_
      refine au_then ?_
      refine rounds_go ?_
      refine wp_seq ?_
      refine wp_seq ?_
      refine rg_lit ?_
      refine pl_val (want_no rfl) (some 27) rfl (.int .i64 ((tt s (s.size)) % 65536 + (tt s (s.size)) / 65536)) (fun _ => by kernel_rfl) ?_
      by_cases c1 : 65535 < ((tt s (s.size)) % 65536 + (tt s (s.size)) / 65536)
      · skip
        refine pl_val (want_no rfl) (some 28) rfl (.bool true) (fun w => Eq.trans (b := .ok (.value (.bool (decide (65535 < ((tt s (s.size)) % 65536 + (tt s (s.size)) / 65536))))) w) (by kernel_rfl) (by rw [decide_eq_true (c1)])) ?_
        refine pl_nil ?_
        refine au_then ?_
        refine wp_cond_true (by kernel_rfl) ?_
        refine wp_skip ?_
        refine au_then ?_
        refine wp_block ?_
        refine rg_lit ?_
        refine pl_val (want_no rfl) (some 29) rfl (.int .i64 ((tt s (s.size)) % 65536 + (tt s (s.size)) / 65536)) (fun _ => by kernel_rfl) ?_
        refine pl_val (want_no rfl) (some 30) rfl (.int .i64 (((tt s (s.size)) % 65536 + (tt s (s.size)) / 65536) % 65536)) (fun w => Eq.trans (b := .ok (.value (.int .i64 (Int.tmod ((tt s (s.size)) % 65536 + (tt s (s.size)) / 65536) 65536))) w) (by kernel_rfl) (by rw [Int.tmod_eq_emod_of_nonneg (by omega)])) ?_
        refine pl_val (want_no rfl) (some 31) rfl (.int .i64 ((tt s (s.size)) % 65536 + (tt s (s.size)) / 65536)) (fun _ => by kernel_rfl) ?_
        refine pl_val (want_no rfl) (some 32) rfl (.int .i64 (((tt s (s.size)) % 65536 + (tt s (s.size)) / 65536) / 65536)) (fun w => Eq.trans (b := .ok (.value (.int .i64 (cv .i64 (Int.tdiv ((tt s (s.size)) % 65536 + (tt s (s.size)) / 65536) 65536)))) w) (by kernel_rfl) (by rw [Int.tdiv_eq_ediv_of_nonneg (by omega), cv_i64 (by omega) (by omega)])) ?_
        refine pl_val (want_no rfl) (some 33) rfl (.int .i64 (((tt s (s.size)) % 65536 + (tt s (s.size)) / 65536) % 65536 + ((tt s (s.size)) % 65536 + (tt s (s.size)) / 65536) / 65536)) (fun w => Eq.trans (b := .ok (.value (.int .i64 (cv .i64 ((((tt s (s.size)) % 65536 + (tt s (s.size)) / 65536) % 65536) + (((tt s (s.size)) % 65536 + (tt s (s.size)) / 65536) / 65536))))) w) (by kernel_rfl) (by rw [cv_i64 (by omega) (by omega)])) ?_
        refine pl_val (want_no rfl) (some 3) rfl (.int .i64 (((tt s (s.size)) % 65536 + (tt s (s.size)) / 65536) % 65536 + ((tt s (s.size)) % 65536 + (tt s (s.size)) / 65536) / 65536)) (fun _ => by kernel_rfl) ?_
        refine pl_nil ?_
        refine au_block ?_
        refine au_then ?_
        refine rounds_go ?_
        refine wp_seq ?_
        refine wp_seq ?_
        refine rg_lit ?_
        refine pl_val (want_no rfl) (some 27) rfl (.int .i64 (((tt s (s.size)) % 65536 + (tt s (s.size)) / 65536) % 65536 + ((tt s (s.size)) % 65536 + (tt s (s.size)) / 65536) / 65536)) (fun _ => by kernel_rfl) ?_
        by_cases c2 : 65535 < (((tt s (s.size)) % 65536 + (tt s (s.size)) / 65536) % 65536 + ((tt s (s.size)) % 65536 + (tt s (s.size)) / 65536) / 65536)
        · skip
          refine pl_val (want_no rfl) (some 28) rfl (.bool true) (fun w => Eq.trans (b := .ok (.value (.bool (decide (65535 < (((tt s (s.size)) % 65536 + (tt s (s.size)) / 65536) % 65536 + ((tt s (s.size)) % 65536 + (tt s (s.size)) / 65536) / 65536))))) w) (by kernel_rfl) (by rw [decide_eq_true (c2)])) ?_
          refine pl_nil ?_
          refine au_then ?_
          refine wp_cond_true (by kernel_rfl) ?_
          refine wp_skip ?_
          refine au_then ?_
          refine wp_block ?_
          refine rg_lit ?_
          refine pl_val (want_no rfl) (some 29) rfl (.int .i64 (((tt s (s.size)) % 65536 + (tt s (s.size)) / 65536) % 65536 + ((tt s (s.size)) % 65536 + (tt s (s.size)) / 65536) / 65536)) (fun _ => by kernel_rfl) ?_
          refine pl_val (want_no rfl) (some 30) rfl (.int .i64 ((((tt s (s.size)) % 65536 + (tt s (s.size)) / 65536) % 65536 + ((tt s (s.size)) % 65536 + (tt s (s.size)) / 65536) / 65536) % 65536)) (fun w => Eq.trans (b := .ok (.value (.int .i64 (Int.tmod (((tt s (s.size)) % 65536 + (tt s (s.size)) / 65536) % 65536 + ((tt s (s.size)) % 65536 + (tt s (s.size)) / 65536) / 65536) 65536))) w) (by kernel_rfl) (by rw [Int.tmod_eq_emod_of_nonneg (by omega)])) ?_
          refine pl_val (want_no rfl) (some 31) rfl (.int .i64 (((tt s (s.size)) % 65536 + (tt s (s.size)) / 65536) % 65536 + ((tt s (s.size)) % 65536 + (tt s (s.size)) / 65536) / 65536)) (fun _ => by kernel_rfl) ?_
          refine pl_val (want_no rfl) (some 32) rfl (.int .i64 ((((tt s (s.size)) % 65536 + (tt s (s.size)) / 65536) % 65536 + ((tt s (s.size)) % 65536 + (tt s (s.size)) / 65536) / 65536) / 65536)) (fun w => Eq.trans (b := .ok (.value (.int .i64 (cv .i64 (Int.tdiv (((tt s (s.size)) % 65536 + (tt s (s.size)) / 65536) % 65536 + ((tt s (s.size)) % 65536 + (tt s (s.size)) / 65536) / 65536) 65536)))) w) (by kernel_rfl) (by rw [Int.tdiv_eq_ediv_of_nonneg (by omega), cv_i64 (by omega) (by omega)])) ?_
          refine pl_val (want_no rfl) (some 33) rfl (.int .i64 ((((tt s (s.size)) % 65536 + (tt s (s.size)) / 65536) % 65536 + ((tt s (s.size)) % 65536 + (tt s (s.size)) / 65536) / 65536) % 65536 + (((tt s (s.size)) % 65536 + (tt s (s.size)) / 65536) % 65536 + ((tt s (s.size)) % 65536 + (tt s (s.size)) / 65536) / 65536) / 65536)) (fun w => Eq.trans (b := .ok (.value (.int .i64 (cv .i64 (((((tt s (s.size)) % 65536 + (tt s (s.size)) / 65536) % 65536 + ((tt s (s.size)) % 65536 + (tt s (s.size)) / 65536) / 65536) % 65536) + ((((tt s (s.size)) % 65536 + (tt s (s.size)) / 65536) % 65536 + ((tt s (s.size)) % 65536 + (tt s (s.size)) / 65536) / 65536) / 65536))))) w) (by kernel_rfl) (by rw [cv_i64 (by omega) (by omega)])) ?_
          refine pl_val (want_no rfl) (some 3) rfl (.int .i64 ((((tt s (s.size)) % 65536 + (tt s (s.size)) / 65536) % 65536 + ((tt s (s.size)) % 65536 + (tt s (s.size)) / 65536) / 65536) % 65536 + (((tt s (s.size)) % 65536 + (tt s (s.size)) / 65536) % 65536 + ((tt s (s.size)) % 65536 + (tt s (s.size)) / 65536) / 65536) / 65536)) (fun _ => by kernel_rfl) ?_
          refine pl_nil ?_
          refine au_block ?_
          refine au_then ?_
          refine rounds_go ?_
          refine wp_seq ?_
          refine wp_seq ?_
          refine rg_lit ?_
          refine pl_val (want_no rfl) (some 27) rfl (.int .i64 ((((tt s (s.size)) % 65536 + (tt s (s.size)) / 65536) % 65536 + ((tt s (s.size)) % 65536 + (tt s (s.size)) / 65536) / 65536) % 65536 + (((tt s (s.size)) % 65536 + (tt s (s.size)) / 65536) % 65536 + ((tt s (s.size)) % 65536 + (tt s (s.size)) / 65536) / 65536) / 65536)) (fun _ => by kernel_rfl) ?_
          by_cases c3 : 65535 < ((((tt s (s.size)) % 65536 + (tt s (s.size)) / 65536) % 65536 + ((tt s (s.size)) % 65536 + (tt s (s.size)) / 65536) / 65536) % 65536 + (((tt s (s.size)) % 65536 + (tt s (s.size)) / 65536) % 65536 + ((tt s (s.size)) % 65536 + (tt s (s.size)) / 65536) / 65536) / 65536)
          · exact absurd c3 (by omega)
          · skip
            refine pl_val (want_no rfl) (some 28) rfl (.bool false) (fun w => Eq.trans (b := .ok (.value (.bool (decide (65535 < ((((tt s (s.size)) % 65536 + (tt s (s.size)) / 65536) % 65536 + ((tt s (s.size)) % 65536 + (tt s (s.size)) / 65536) / 65536) % 65536 + (((tt s (s.size)) % 65536 + (tt s (s.size)) / 65536) % 65536 + ((tt s (s.size)) % 65536 + (tt s (s.size)) / 65536) / 65536) / 65536))))) w) (by kernel_rfl) (by rw [decide_eq_false (c3)])) ?_
            refine pl_nil ?_
            refine au_then ?_
            refine wp_cond_false (by kernel_rfl) ?_
            refine wp_exit ?_
            refine au_then_exit ?_
            refine au_then_exit ?_
            refine au_block_exit ?_
            refine au_then ?_
            refine wp_seq ?_
            refine rg_lit ?_
            refine pl_val (want_no rfl) (some 34) rfl (.int .i64 ((((tt s (s.size)) % 65536 + (tt s (s.size)) / 65536) % 65536 + ((tt s (s.size)) % 65536 + (tt s (s.size)) / 65536) / 65536) % 65536 + (((tt s (s.size)) % 65536 + (tt s (s.size)) / 65536) % 65536 + ((tt s (s.size)) % 65536 + (tt s (s.size)) / 65536) / 65536) / 65536)) (fun _ => by kernel_rfl) ?_
            refine pl_val (want_no rfl) (some 35) rfl (.int .i64 (65535 - ((((tt s (s.size)) % 65536 + (tt s (s.size)) / 65536) % 65536 + ((tt s (s.size)) % 65536 + (tt s (s.size)) / 65536) / 65536) % 65536 + (((tt s (s.size)) % 65536 + (tt s (s.size)) / 65536) % 65536 + ((tt s (s.size)) % 65536 + (tt s (s.size)) / 65536) / 65536) / 65536))) (fun w => Eq.trans (b := .ok (.value (.int .i64 (IntKind.wrap .i64 (65535 - ((((tt s (s.size)) % 65536 + (tt s (s.size)) / 65536) % 65536 + ((tt s (s.size)) % 65536 + (tt s (s.size)) / 65536) / 65536) % 65536 + (((tt s (s.size)) % 65536 + (tt s (s.size)) / 65536) % 65536 + ((tt s (s.size)) % 65536 + (tt s (s.size)) / 65536) / 65536) / 65536))))) w) (by kernel_rfl) (by rw [wrap64 (by omega) (by omega)])) ?_
            refine pl_val (want_no rfl) (some 36) rfl (.int .u16 (65535 - ((((tt s (s.size)) % 65536 + (tt s (s.size)) / 65536) % 65536 + ((tt s (s.size)) % 65536 + (tt s (s.size)) / 65536) / 65536) % 65536 + (((tt s (s.size)) % 65536 + (tt s (s.size)) / 65536) % 65536 + ((tt s (s.size)) % 65536 + (tt s (s.size)) / 65536) / 65536) / 65536))) (fun w => Eq.trans (b := .ok (.value (.int .u16 (cv .u16 (65535 - ((((tt s (s.size)) % 65536 + (tt s (s.size)) / 65536) % 65536 + ((tt s (s.size)) % 65536 + (tt s (s.size)) / 65536) / 65536) % 65536 + (((tt s (s.size)) % 65536 + (tt s (s.size)) / 65536) % 65536 + ((tt s (s.size)) % 65536 + (tt s (s.size)) / 65536) / 65536) / 65536))))) w) (by kernel_rfl) (by rw [cv_u16]; congr 3; omega)) ?_
            refine pl_val (want_no rfl) (some 2) rfl (.int .u16 (65535 - ((((tt s (s.size)) % 65536 + (tt s (s.size)) / 65536) % 65536 + ((tt s (s.size)) % 65536 + (tt s (s.size)) / 65536) / 65536) % 65536 + (((tt s (s.size)) % 65536 + (tt s (s.size)) / 65536) % 65536 + ((tt s (s.size)) % 65536 + (tt s (s.size)) / 65536) / 65536) / 65536))) (fun _ => by kernel_rfl) ?_
            refine pl_nil ?_
            refine au_then ?_
            refine wp_ret ?_
            have e0 : sumS s = 65535 - ((((tt s s.size) % 65536 + (tt s s.size) / 65536) % 65536 + ((tt s s.size) % 65536 + (tt s s.size) / 65536) / 65536) % 65536 + (((tt s s.size) % 65536 + (tt s s.size) / 65536) % 65536 + ((tt s s.size) % 65536 + (tt s s.size) / 65536) / 65536) / 65536) := congrArg (65535 - ·) ((Fs_fo (tt s s.size) c0).trans ((Fs_fo (fo (tt s s.size)) c1).trans ((Fs_fo (fo (fo (tt s s.size))) c2).trans (Fs_small (fo (fo (fo (tt s s.size)))) (show (0 : Int) ≤ ((((tt s s.size) % 65536 + (tt s s.size) / 65536) % 65536 + ((tt s s.size) % 65536 + (tt s s.size) / 65536) / 65536) % 65536 + (((tt s s.size) % 65536 + (tt s s.size) / 65536) % 65536 + ((tt s s.size) % 65536 + (tt s s.size) / 65536) / 65536) / 65536) by omega) (show ((((tt s s.size) % 65536 + (tt s s.size) / 65536) % 65536 + ((tt s s.size) % 65536 + (tt s s.size) / 65536) / 65536) % 65536 + (((tt s s.size) % 65536 + (tt s s.size) / 65536) % 65536 + ((tt s s.size) % 65536 + (tt s s.size) / 65536) / 65536) / 65536) ≤ (65535 : Int) by omega)))))
            exact bodyPost_ret (v := .int .u16 (65535 - ((((tt s s.size) % 65536 + (tt s s.size) / 65536) % 65536 + ((tt s s.size) % 65536 + (tt s s.size) / 65536) / 65536) % 65536 + (((tt s s.size) % 65536 + (tt s s.size) / 65536) % 65536 + ((tt s s.size) % 65536 + (tt s s.size) / 65536) / 65536) / 65536))) (results_tmp1 Try.results48 _ _ _ (by kernel_rfl)) (by kernel_rfl) ⟨by rw [e0], below_grown M.old⟩
        · skip
          refine pl_val (want_no rfl) (some 28) rfl (.bool false) (fun w => Eq.trans (b := .ok (.value (.bool (decide (65535 < (((tt s (s.size)) % 65536 + (tt s (s.size)) / 65536) % 65536 + ((tt s (s.size)) % 65536 + (tt s (s.size)) / 65536) / 65536))))) w) (by kernel_rfl) (by rw [decide_eq_false (c2)])) ?_
          refine pl_nil ?_
          refine au_then ?_
          refine wp_cond_false (by kernel_rfl) ?_
          refine wp_exit ?_
          refine au_then_exit ?_
          refine au_then_exit ?_
          refine au_block_exit ?_
          refine au_then ?_
          refine wp_seq ?_
          refine rg_lit ?_
          refine pl_val (want_no rfl) (some 34) rfl (.int .i64 (((tt s (s.size)) % 65536 + (tt s (s.size)) / 65536) % 65536 + ((tt s (s.size)) % 65536 + (tt s (s.size)) / 65536) / 65536)) (fun _ => by kernel_rfl) ?_
          refine pl_val (want_no rfl) (some 35) rfl (.int .i64 (65535 - (((tt s (s.size)) % 65536 + (tt s (s.size)) / 65536) % 65536 + ((tt s (s.size)) % 65536 + (tt s (s.size)) / 65536) / 65536))) (fun w => Eq.trans (b := .ok (.value (.int .i64 (IntKind.wrap .i64 (65535 - (((tt s (s.size)) % 65536 + (tt s (s.size)) / 65536) % 65536 + ((tt s (s.size)) % 65536 + (tt s (s.size)) / 65536) / 65536))))) w) (by kernel_rfl) (by rw [wrap64 (by omega) (by omega)])) ?_
          refine pl_val (want_no rfl) (some 36) rfl (.int .u16 (65535 - (((tt s (s.size)) % 65536 + (tt s (s.size)) / 65536) % 65536 + ((tt s (s.size)) % 65536 + (tt s (s.size)) / 65536) / 65536))) (fun w => Eq.trans (b := .ok (.value (.int .u16 (cv .u16 (65535 - (((tt s (s.size)) % 65536 + (tt s (s.size)) / 65536) % 65536 + ((tt s (s.size)) % 65536 + (tt s (s.size)) / 65536) / 65536))))) w) (by kernel_rfl) (by rw [cv_u16]; congr 3; omega)) ?_
          refine pl_val (want_no rfl) (some 2) rfl (.int .u16 (65535 - (((tt s (s.size)) % 65536 + (tt s (s.size)) / 65536) % 65536 + ((tt s (s.size)) % 65536 + (tt s (s.size)) / 65536) / 65536))) (fun _ => by kernel_rfl) ?_
          refine pl_nil ?_
          refine au_then ?_
          refine wp_ret ?_
          have e0 : sumS s = 65535 - (((tt s s.size) % 65536 + (tt s s.size) / 65536) % 65536 + ((tt s s.size) % 65536 + (tt s s.size) / 65536) / 65536) := congrArg (65535 - ·) ((Fs_fo (tt s s.size) c0).trans ((Fs_fo (fo (tt s s.size)) c1).trans (Fs_small (fo (fo (tt s s.size))) (show (0 : Int) ≤ (((tt s s.size) % 65536 + (tt s s.size) / 65536) % 65536 + ((tt s s.size) % 65536 + (tt s s.size) / 65536) / 65536) by omega) (show (((tt s s.size) % 65536 + (tt s s.size) / 65536) % 65536 + ((tt s s.size) % 65536 + (tt s s.size) / 65536) / 65536) ≤ (65535 : Int) by omega))))
          exact bodyPost_ret (v := .int .u16 (65535 - (((tt s s.size) % 65536 + (tt s s.size) / 65536) % 65536 + ((tt s s.size) % 65536 + (tt s s.size) / 65536) / 65536))) (results_tmp1 Try.results48 _ _ _ (by kernel_rfl)) (by kernel_rfl) ⟨by rw [e0], below_grown M.old⟩
      · skip
        refine pl_val (want_no rfl) (some 28) rfl (.bool false) (fun w => Eq.trans (b := .ok (.value (.bool (decide (65535 < ((tt s (s.size)) % 65536 + (tt s (s.size)) / 65536))))) w) (by kernel_rfl) (by rw [decide_eq_false (c1)])) ?_
        refine pl_nil ?_
        refine au_then ?_
        refine wp_cond_false (by kernel_rfl) ?_
        refine wp_exit ?_
        refine au_then_exit ?_
        refine au_then_exit ?_
        refine au_block_exit ?_
        refine au_then ?_
        refine wp_seq ?_
        refine rg_lit ?_
        refine pl_val (want_no rfl) (some 34) rfl (.int .i64 ((tt s (s.size)) % 65536 + (tt s (s.size)) / 65536)) (fun _ => by kernel_rfl) ?_
        refine pl_val (want_no rfl) (some 35) rfl (.int .i64 (65535 - ((tt s (s.size)) % 65536 + (tt s (s.size)) / 65536))) (fun w => Eq.trans (b := .ok (.value (.int .i64 (IntKind.wrap .i64 (65535 - ((tt s (s.size)) % 65536 + (tt s (s.size)) / 65536))))) w) (by kernel_rfl) (by rw [wrap64 (by omega) (by omega)])) ?_
        refine pl_val (want_no rfl) (some 36) rfl (.int .u16 (65535 - ((tt s (s.size)) % 65536 + (tt s (s.size)) / 65536))) (fun w => Eq.trans (b := .ok (.value (.int .u16 (cv .u16 (65535 - ((tt s (s.size)) % 65536 + (tt s (s.size)) / 65536))))) w) (by kernel_rfl) (by rw [cv_u16]; congr 3; omega)) ?_
        refine pl_val (want_no rfl) (some 2) rfl (.int .u16 (65535 - ((tt s (s.size)) % 65536 + (tt s (s.size)) / 65536))) (fun _ => by kernel_rfl) ?_
        refine pl_nil ?_
        refine au_then ?_
        refine wp_ret ?_
        have e0 : sumS s = 65535 - ((tt s s.size) % 65536 + (tt s s.size) / 65536) := congrArg (65535 - ·) ((Fs_fo (tt s s.size) c0).trans (Fs_small (fo (tt s s.size)) (show (0 : Int) ≤ ((tt s s.size) % 65536 + (tt s s.size) / 65536) by omega) (show ((tt s s.size) % 65536 + (tt s s.size) / 65536) ≤ (65535 : Int) by omega)))
        exact bodyPost_ret (v := .int .u16 (65535 - ((tt s s.size) % 65536 + (tt s s.size) / 65536))) (results_tmp1 Try.results48 _ _ _ (by kernel_rfl)) (by kernel_rfl) ⟨by rw [e0], below_grown M.old⟩
    · skip
      refine pl_val (want_no rfl) (some 28) rfl (.bool false) (fun w => Eq.trans (b := .ok (.value (.bool (decide (65535 < (tt s (s.size)))))) w) (by kernel_rfl) (by rw [decide_eq_false (c0)])) ?_
      refine pl_nil ?_
      refine au_then ?_
      refine wp_cond_false (by kernel_rfl) ?_
      refine wp_exit ?_
      refine au_then_exit ?_
      refine au_then_exit ?_
      refine au_block_exit ?_
      refine au_then ?_
      refine wp_seq ?_
      refine rg_lit ?_
      refine pl_val (want_no rfl) (some 34) rfl (.int .i64 (tt s (s.size))) (fun _ => by kernel_rfl) ?_
      refine pl_val (want_no rfl) (some 35) rfl (.int .i64 (65535 - (tt s (s.size)))) (fun w => Eq.trans (b := .ok (.value (.int .i64 (IntKind.wrap .i64 (65535 - (tt s (s.size)))))) w) (by kernel_rfl) (by rw [wrap64 (by omega) (by omega)])) ?_
      refine pl_val (want_no rfl) (some 36) rfl (.int .u16 (65535 - (tt s (s.size)))) (fun w => Eq.trans (b := .ok (.value (.int .u16 (cv .u16 (65535 - (tt s (s.size)))))) w) (by kernel_rfl) (by rw [cv_u16]; congr 3; omega)) ?_
      refine pl_val (want_no rfl) (some 2) rfl (.int .u16 (65535 - (tt s (s.size)))) (fun _ => by kernel_rfl) ?_
      refine pl_nil ?_
      refine au_then ?_
      refine wp_ret ?_
      have e0 : sumS s = 65535 - (tt s s.size) := congrArg (65535 - ·) (Fs_small (tt s s.size) (show (0 : Int) ≤ (tt s s.size) by omega) (show (tt s s.size) ≤ (65535 : Int) by omega))
      exact bodyPost_ret (v := .int .u16 (65535 - (tt s s.size))) (results_tmp1 Try.results48 _ _ _ (by kernel_rfl)) (by kernel_rfl) ⟨by rw [e0], below_grown M.old⟩


end Go.Proofs.Ytahknenmjnhmjaa
