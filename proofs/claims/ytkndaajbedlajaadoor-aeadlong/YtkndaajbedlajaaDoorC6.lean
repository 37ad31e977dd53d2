/- The walks of areKeyAndNonce, blocksFor, Block and Turn. -/
import Derived.Test.YtkndaajbedlajaaDoorC5
namespace Go.Proofs.YtkndaajbedlajaaDoor
open Go.RowKit

theorem cvu64 (n : Nat) (h : n < 1000000000000) : cv .u64 (n : Int) = (n : Int) := by
  unfold cv
  simp [IntKind.wrap, IntKind.signed, IntKind.bits]
  omega
theorem wu64 (n : Nat) (h : n < 1000000000000) : IntKind.wrap .u64 (n : Int) = (n : Int) := cvu64 n h
theorem quoU (n : Nat) (h : n < 1000000000000) : IntKind.wrap .u64 ((n : Int).tdiv 64) = ((n / 64 : Nat) : Int) := by
  rw [Int.tdiv_eq_ediv_of_nonneg (by omega), show ((n : Int) / 64) = ((n / 64 : Nat) : Int) by omega, wu64 _ (by omega)]
theorem bl_nn (f : Nat → Int) (i : Nat) : 0 ≤ bl f i ∧ bl f i < 256 := by
  unfold bl cv
  simp [IntKind.wrap, IntKind.signed, IntKind.bits]
  omega
/-- A block's bytes. -/
def blk (f : Nat → Int) : ByteArray := bs ((List.range 64).map (bl f))
theorem blk_size (f : Nat → Int) : (blk f).size = 64 := by
  unfold blk
  rw [bs_size]
  simp
theorem blk_nn (f : Nat → Int) : ∀ x ∈ (List.range 64).map (bl f), 0 ≤ x ∧ x < 256 := fun x hx => by
  obtain ⟨i, _, rfl⟩ := List.mem_map.1 hx
  exact bl_nn f i
def strE : ByteArray := ⟨#[]⟩

set_option maxRecDepth 100000 in
set_option maxHeartbeats 4000000 in
theorem c_areA (key nonce : ByteArray) (hk : key.size = 32) (hn : nonce.size = 12) (w : World) (hL : Laid w)  :
    Calls Tryd.prog 22 #[.string key, .string nonce] w fun r w' => r = .returned (.bool true) ∧ Below w.heap.size w w' := by
  go_enter Tryd.func22, Tryd.ntmps22
  have M := Mem.start hL
  refine wp_seq ?_
  refine rg_lit ?_
  refine pl_val (want_no rfl) (some 4) rfl (.bool false) (fun _ => by kernel_rfl) ?_
  refine pl_nil ?_
  refine au_then ?_
  refine wp_seq ?_
  refine rg_lit ?_
  refine pl_val (want_no rfl) (some 5) rfl (.string key) (fun _ => by kernel_rfl) ?_
  refine pl_val (want_no rfl) (some 6) rfl (.int .i64 (key.size : Int)) (fun _ => by kernel_rfl) ?_
  refine pl_val (want_no rfl) (some 7) rfl (.bool true) (fun w => Eq.trans (b := .ok (.value (.bool (decide ((key.size : Int) = 32)))) w) (by kernel_rfl) (by rw [decide_eq_true (by omega)])) ?_
  refine pl_val (want_no rfl) (some 8) rfl (.bool true) (fun _ => by kernel_rfl) ?_
  refine pl_val (want_on 3 true rfl 8 rfl (by kernel_rfl)) (some 9) rfl (.string nonce) (fun _ => by kernel_rfl) ?_
  refine pl_val (want_on 3 true rfl 8 rfl (by kernel_rfl)) (some 10) rfl (.int .i64 (nonce.size : Int)) (fun _ => by kernel_rfl) ?_
  refine pl_val (want_on 3 true rfl 8 rfl (by kernel_rfl)) (some 11) rfl (.bool true) (fun w => Eq.trans (b := .ok (.value (.bool (decide ((nonce.size : Int) = 12)))) w) (by kernel_rfl) (by rw [decide_eq_true (by omega)])) ?_
  refine pl_val (want_no rfl) (some 12) rfl (.bool true) (fun _ => by kernel_rfl) ?_
  refine pl_val (want_no rfl) (some 4) rfl (.bool true) (fun _ => by kernel_rfl) ?_
  refine pl_nil ?_
  refine au_then ?_
  refine wp_ret ?_
  exact bodyPost_ret (v := .bool true) (results_tmp1 Tryd.results22 _ _ _ (by kernel_rfl)) (by kernel_rfl) ⟨rfl, below_grown M.old⟩

set_option maxRecDepth 100000 in
set_option maxHeartbeats 4000000 in
theorem c_areB (key nonce : ByteArray) (hk : key.size = 32) (hn : nonce.size ≠ 12) (w : World) (hL : Laid w)  :
    Calls Tryd.prog 22 #[.string key, .string nonce] w fun r w' => r = .returned (.bool false) ∧ Below w.heap.size w w' := by
  go_enter Tryd.func22, Tryd.ntmps22
  have M := Mem.start hL
  refine wp_seq ?_
  refine rg_lit ?_
  refine pl_val (want_no rfl) (some 4) rfl (.bool false) (fun _ => by kernel_rfl) ?_
  refine pl_nil ?_
  refine au_then ?_
  refine wp_seq ?_
  refine rg_lit ?_
  refine pl_val (want_no rfl) (some 5) rfl (.string key) (fun _ => by kernel_rfl) ?_
  refine pl_val (want_no rfl) (some 6) rfl (.int .i64 (key.size : Int)) (fun _ => by kernel_rfl) ?_
  refine pl_val (want_no rfl) (some 7) rfl (.bool true) (fun w => Eq.trans (b := .ok (.value (.bool (decide ((key.size : Int) = 32)))) w) (by kernel_rfl) (by rw [decide_eq_true (by omega)])) ?_
  refine pl_val (want_no rfl) (some 8) rfl (.bool true) (fun _ => by kernel_rfl) ?_
  refine pl_val (want_on 3 true rfl 8 rfl (by kernel_rfl)) (some 9) rfl (.string nonce) (fun _ => by kernel_rfl) ?_
  refine pl_val (want_on 3 true rfl 8 rfl (by kernel_rfl)) (some 10) rfl (.int .i64 (nonce.size : Int)) (fun _ => by kernel_rfl) ?_
  refine pl_val (want_on 3 true rfl 8 rfl (by kernel_rfl)) (some 11) rfl (.bool false) (fun w => Eq.trans (b := .ok (.value (.bool (decide ((nonce.size : Int) = 12)))) w) (by kernel_rfl) (by rw [decide_eq_false (by omega)])) ?_
  refine pl_val (want_no rfl) (some 12) rfl (.bool false) (fun _ => by kernel_rfl) ?_
  refine pl_val (want_no rfl) (some 4) rfl (.bool false) (fun _ => by kernel_rfl) ?_
  refine pl_nil ?_
  refine au_then ?_
  refine wp_ret ?_
  exact bodyPost_ret (v := .bool false) (results_tmp1 Tryd.results22 _ _ _ (by kernel_rfl)) (by kernel_rfl) ⟨rfl, below_grown M.old⟩

set_option maxRecDepth 100000 in
set_option maxHeartbeats 4000000 in
theorem c_areC (key nonce : ByteArray) (hk : key.size ≠ 32) (w : World) (hL : Laid w)  :
    Calls Tryd.prog 22 #[.string key, .string nonce] w fun r w' => r = .returned (.bool false) ∧ Below w.heap.size w w' := by
  go_enter Tryd.func22, Tryd.ntmps22
  have M := Mem.start hL
  refine wp_seq ?_
  refine rg_lit ?_
  refine pl_val (want_no rfl) (some 4) rfl (.bool false) (fun _ => by kernel_rfl) ?_
  refine pl_nil ?_
  refine au_then ?_
  refine wp_seq ?_
  refine rg_lit ?_
  refine pl_val (want_no rfl) (some 5) rfl (.string key) (fun _ => by kernel_rfl) ?_
  refine pl_val (want_no rfl) (some 6) rfl (.int .i64 (key.size : Int)) (fun _ => by kernel_rfl) ?_
  refine pl_val (want_no rfl) (some 7) rfl (.bool false) (fun w => Eq.trans (b := .ok (.value (.bool (decide ((key.size : Int) = 32)))) w) (by kernel_rfl) (by rw [decide_eq_false (by omega)])) ?_
  refine pl_val (want_no rfl) (some 8) rfl (.bool false) (fun _ => by kernel_rfl) ?_
  refine pl_skip (want_off 3 true rfl 8 rfl (by kernel_rfl)) (some 9) rfl ?_
  refine pl_skip (want_off 3 true rfl 8 rfl (by kernel_rfl)) (some 10) rfl ?_
  refine pl_skip (want_off 3 true rfl 8 rfl (by kernel_rfl)) (some 11) rfl ?_
  refine pl_val (want_no rfl) (some 12) rfl (.bool false) (fun _ => by kernel_rfl) ?_
  refine pl_val (want_no rfl) (some 4) rfl (.bool false) (fun _ => by kernel_rfl) ?_
  refine pl_nil ?_
  refine au_then ?_
  refine wp_ret ?_
  exact bodyPost_ret (v := .bool false) (results_tmp1 Tryd.results22 _ _ _ (by kernel_rfl)) (by kernel_rfl) ⟨rfl, below_grown M.old⟩

theorem c_are (key nonce : ByteArray) (w : World) (hL : Laid w) : Calls Tryd.prog 22 #[.string key, .string nonce] w fun r w' => r = .returned (.bool (decide (key.size = 32 ∧ nonce.size = 12))) ∧ Below w.heap.size w w' := by
  by_cases hk : key.size = 32
  · by_cases hn : nonce.size = 12
    · rw [decide_eq_true ⟨hk, hn⟩]
      exact c_areA key nonce hk hn w hL
    · rw [decide_eq_false (fun h => hn h.2)]
      exact c_areB key nonce hk hn w hL
  · rw [decide_eq_false (fun h => hk h.1)]
    exact c_areC key nonce hk w hL

set_option maxRecDepth 100000 in
set_option maxHeartbeats 4000000 in
theorem d_mayA (key nonce : ByteArray) (hk : key.size = 32) (hn : nonce.size = 12) (w : World) (hL : Laid w)  :
    Calls Tryd.prog 16 #[.string key, .string nonce] w fun r w' => r = .returned (.bool true) ∧ Below w.heap.size w w' := by
  go_enter Tryd.func16, Tryd.ntmps16
  have M := Mem.start hL
  refine wp_seq ?_
  refine rg_lit ?_
  refine pl_val (want_no rfl) (some 4) rfl (.bool false) (fun _ => by kernel_rfl) ?_
  refine pl_nil ?_
  refine au_then ?_
  refine wp_seq ?_
  refine rg_lit ?_
  refine pl_val (want_no rfl) (some 5) rfl (.string key) (fun _ => by kernel_rfl) ?_
  refine pl_val (want_no rfl) (some 6) rfl (.int .i64 (key.size : Int)) (fun _ => by kernel_rfl) ?_
  refine pl_val (want_no rfl) (some 7) rfl (.bool true) (fun w => Eq.trans (b := .ok (.value (.bool (decide ((key.size : Int) = 32)))) w) (by kernel_rfl) (by rw [decide_eq_true (by omega)])) ?_
  refine pl_val (want_no rfl) (some 8) rfl (.bool true) (fun _ => by kernel_rfl) ?_
  refine pl_val (want_on 3 true rfl 8 rfl (by kernel_rfl)) (some 9) rfl (.string nonce) (fun _ => by kernel_rfl) ?_
  refine pl_val (want_on 3 true rfl 8 rfl (by kernel_rfl)) (some 10) rfl (.int .i64 (nonce.size : Int)) (fun _ => by kernel_rfl) ?_
  refine pl_val (want_on 3 true rfl 8 rfl (by kernel_rfl)) (some 11) rfl (.bool true) (fun w => Eq.trans (b := .ok (.value (.bool (decide ((nonce.size : Int) = 12)))) w) (by kernel_rfl) (by rw [decide_eq_true (by omega)])) ?_
  refine pl_val (want_no rfl) (some 12) rfl (.bool true) (fun _ => by kernel_rfl) ?_
  refine pl_val (want_no rfl) (some 4) rfl (.bool true) (fun _ => by kernel_rfl) ?_
  refine pl_nil ?_
  refine au_then ?_
  refine wp_ret ?_
  exact bodyPost_ret (v := .bool true) (results_tmp1 Tryd.results16 _ _ _ (by kernel_rfl)) (by kernel_rfl) ⟨rfl, below_grown M.old⟩

set_option maxRecDepth 100000 in
set_option maxHeartbeats 4000000 in
theorem d_mayB (key nonce : ByteArray) (hk : key.size = 32) (hn : nonce.size ≠ 12) (w : World) (hL : Laid w)  :
    Calls Tryd.prog 16 #[.string key, .string nonce] w fun r w' => r = .returned (.bool false) ∧ Below w.heap.size w w' := by
  go_enter Tryd.func16, Tryd.ntmps16
  have M := Mem.start hL
  refine wp_seq ?_
  refine rg_lit ?_
  refine pl_val (want_no rfl) (some 4) rfl (.bool false) (fun _ => by kernel_rfl) ?_
  refine pl_nil ?_
  refine au_then ?_
  refine wp_seq ?_
  refine rg_lit ?_
  refine pl_val (want_no rfl) (some 5) rfl (.string key) (fun _ => by kernel_rfl) ?_
  refine pl_val (want_no rfl) (some 6) rfl (.int .i64 (key.size : Int)) (fun _ => by kernel_rfl) ?_
  refine pl_val (want_no rfl) (some 7) rfl (.bool true) (fun w => Eq.trans (b := .ok (.value (.bool (decide ((key.size : Int) = 32)))) w) (by kernel_rfl) (by rw [decide_eq_true (by omega)])) ?_
  refine pl_val (want_no rfl) (some 8) rfl (.bool true) (fun _ => by kernel_rfl) ?_
  refine pl_val (want_on 3 true rfl 8 rfl (by kernel_rfl)) (some 9) rfl (.string nonce) (fun _ => by kernel_rfl) ?_
  refine pl_val (want_on 3 true rfl 8 rfl (by kernel_rfl)) (some 10) rfl (.int .i64 (nonce.size : Int)) (fun _ => by kernel_rfl) ?_
  refine pl_val (want_on 3 true rfl 8 rfl (by kernel_rfl)) (some 11) rfl (.bool false) (fun w => Eq.trans (b := .ok (.value (.bool (decide ((nonce.size : Int) = 12)))) w) (by kernel_rfl) (by rw [decide_eq_false (by omega)])) ?_
  refine pl_val (want_no rfl) (some 12) rfl (.bool false) (fun _ => by kernel_rfl) ?_
  refine pl_val (want_no rfl) (some 4) rfl (.bool false) (fun _ => by kernel_rfl) ?_
  refine pl_nil ?_
  refine au_then ?_
  refine wp_ret ?_
  exact bodyPost_ret (v := .bool false) (results_tmp1 Tryd.results16 _ _ _ (by kernel_rfl)) (by kernel_rfl) ⟨rfl, below_grown M.old⟩

set_option maxRecDepth 100000 in
set_option maxHeartbeats 4000000 in
theorem d_mayC (key nonce : ByteArray) (hk : key.size ≠ 32) (w : World) (hL : Laid w)  :
    Calls Tryd.prog 16 #[.string key, .string nonce] w fun r w' => r = .returned (.bool false) ∧ Below w.heap.size w w' := by
  go_enter Tryd.func16, Tryd.ntmps16
  have M := Mem.start hL
  refine wp_seq ?_
  refine rg_lit ?_
  refine pl_val (want_no rfl) (some 4) rfl (.bool false) (fun _ => by kernel_rfl) ?_
  refine pl_nil ?_
  refine au_then ?_
  refine wp_seq ?_
  refine rg_lit ?_
  refine pl_val (want_no rfl) (some 5) rfl (.string key) (fun _ => by kernel_rfl) ?_
  refine pl_val (want_no rfl) (some 6) rfl (.int .i64 (key.size : Int)) (fun _ => by kernel_rfl) ?_
  refine pl_val (want_no rfl) (some 7) rfl (.bool false) (fun w => Eq.trans (b := .ok (.value (.bool (decide ((key.size : Int) = 32)))) w) (by kernel_rfl) (by rw [decide_eq_false (by omega)])) ?_
  refine pl_val (want_no rfl) (some 8) rfl (.bool false) (fun _ => by kernel_rfl) ?_
  refine pl_skip (want_off 3 true rfl 8 rfl (by kernel_rfl)) (some 9) rfl ?_
  refine pl_skip (want_off 3 true rfl 8 rfl (by kernel_rfl)) (some 10) rfl ?_
  refine pl_skip (want_off 3 true rfl 8 rfl (by kernel_rfl)) (some 11) rfl ?_
  refine pl_val (want_no rfl) (some 12) rfl (.bool false) (fun _ => by kernel_rfl) ?_
  refine pl_val (want_no rfl) (some 4) rfl (.bool false) (fun _ => by kernel_rfl) ?_
  refine pl_nil ?_
  refine au_then ?_
  refine wp_ret ?_
  exact bodyPost_ret (v := .bool false) (results_tmp1 Tryd.results16 _ _ _ (by kernel_rfl)) (by kernel_rfl) ⟨rfl, below_grown M.old⟩

theorem d_may (key nonce : ByteArray) (w : World) (hL : Laid w) : Calls Tryd.prog 16 #[.string key, .string nonce] w fun r w' => r = .returned (.bool (decide (key.size = 32 ∧ nonce.size = 12))) ∧ Below w.heap.size w w' := by
  by_cases hk : key.size = 32
  · by_cases hn : nonce.size = 12
    · rw [decide_eq_true ⟨hk, hn⟩]
      exact d_mayA key nonce hk hn w hL
    · rw [decide_eq_false (fun h => hn h.2)]
      exact d_mayB key nonce hk hn w hL
  · rw [decide_eq_false (fun h => hk h.1)]
    exact d_mayC key nonce hk w hL

set_option maxRecDepth 100000 in
set_option maxHeartbeats 4000000 in
theorem c_need (s : ByteArray) (hz : s.size ≤ 200000) (w : World) (hL : Laid w)  :
    Calls Tryd.prog 23 #[.string s] w fun r w' => r = .returned (.int .u64 (((s.size + 63) / 64 : Nat) : Int)) ∧ Below w.heap.size w w' := by
  go_enter Tryd.func23, Tryd.ntmps23
  have M := Mem.start hL
  refine wp_seq ?_
  refine rg_lit ?_
  refine pl_val (want_no rfl) (some 2) rfl (.int .u64 0) (fun _ => by kernel_rfl) ?_
  refine pl_nil ?_
  refine au_then ?_
  refine wp_seq ?_
  refine rg_lit ?_
  refine pl_val (want_no rfl) (some 3) rfl (.string s) (fun _ => by kernel_rfl) ?_
  refine pl_val (want_no rfl) (some 4) rfl (.int .i64 (s.size : Int)) (fun _ => by kernel_rfl) ?_
  refine pl_val (want_no rfl) (some 5) rfl (.int .u64 (s.size : Int)) (fun w => Eq.trans (b := .ok (.value (.int .u64 (cv .u64 (s.size : Int)))) w) (by kernel_rfl) (by rw [cvu64 _ (by omega)])) ?_
  refine pl_val (want_no rfl) (some 6) rfl (.int .u64 ((s.size + 64 : Nat) : Int)) (fun w => Eq.trans (b := .ok (.value (.int .u64 (IntKind.wrap .u64 ((s.size : Int) + 64)))) w) (by kernel_rfl) (by rw [show (s.size : Int) + 64 = ((s.size + 64 : Nat) : Int) by omega, wu64 _ (by omega)])) ?_
  refine pl_val (want_no rfl) (some 7) rfl (.int .u64 ((s.size + 63 : Nat) : Int)) (fun w => Eq.trans (b := .ok (.value (.int .u64 (IntKind.wrap .u64 (((s.size + 64 : Nat) : Int) - 1)))) w) (by kernel_rfl) (by rw [show ((s.size + 64 : Nat) : Int) - 1 = ((s.size + 63 : Nat) : Int) by omega, wu64 _ (by omega)])) ?_
  refine pl_val (want_no rfl) (some 8) rfl (.int .u64 (((s.size + 63) / 64 : Nat) : Int)) (fun w => Eq.trans (b := .ok (.value (.int .u64 (IntKind.wrap .u64 (((s.size + 63 : Nat) : Int).tdiv 64)))) w) (by kernel_rfl) (by rw [quoU _ (by omega)])) ?_
  refine pl_val (want_no rfl) (some 2) rfl (.int .u64 (((s.size + 63) / 64 : Nat) : Int)) (fun _ => by kernel_rfl) ?_
  refine pl_nil ?_
  refine au_then ?_
  refine wp_ret ?_
  exact bodyPost_ret (v := .int .u64 (((s.size + 63) / 64 : Nat) : Int)) (results_tmp1 Tryd.results23 _ _ _ (by kernel_rfl)) (by kernel_rfl) ⟨rfl, below_grown M.old⟩

set_option maxRecDepth 100000 in
set_option maxHeartbeats 4000000 in
theorem c_BlockA (key nonce : ByteArray) (n : Int) (hm : (key.size = 32 ∧ nonce.size = 12)) (w : World) (hL : Laid w)  :
    Calls Tryd.prog 26 #[.string key, .string nonce, .int .u32 n] w fun r w' => r = .returned (.tuple #[.string (blk (fw key nonce n)), .int .i64 0]) ∧ Below w.heap.size w w' := by
  go_enter Tryd.func26, Tryd.ntmps26
  have M := Mem.start hL
  refine wp_seq ?_
  refine rg_lit ?_
  refine pl_val (want_no rfl) (some 6) rfl (.string ⟨#[]⟩) (fun _ => by kernel_rfl) ?_
  refine pl_val (want_no rfl) (some 7) rfl (.int .i64 0) (fun _ => by kernel_rfl) ?_
  refine pl_nil ?_
  refine au_then ?_
  refine wp_seq ?_
  refine wp_seq ?_
  refine rg_lit ?_
  refine pl_val (want_no rfl) (some 9) rfl (.string key) (fun _ => by kernel_rfl) ?_
  refine pl_val (want_no rfl) (some 10) rfl (.string nonce) (fun _ => by kernel_rfl) ?_
  refine pl_call M (want_no rfl) (some 11) rfl 22 #[.string key, .string nonce] (.bool true) (fun _ => by kernel_rfl) (fun w M => (by rw [← decide_eq_true hm]; exact c_are key nonce w M.laid)) ?_
  intro u1 M
  refine pl_val (want_no rfl) (some 12) rfl (.bool false) (fun _ => by kernel_rfl) ?_
  refine pl_nil ?_
  refine au_then ?_
  refine wp_cond_false (by kernel_rfl) ?_
  refine wp_skip ?_
  refine au_then ?_
  refine wp_seq ?_
  refine rg_lit ?_
  refine pl_val (want_no rfl) (some 13) rfl (.string key) (fun _ => by kernel_rfl) ?_
  refine pl_val (want_no rfl) (some 14) rfl (.string nonce) (fun _ => by kernel_rfl) ?_
  refine pl_val (want_no rfl) (some 15) rfl (.int .u32 n) (fun _ => by kernel_rfl) ?_
  refine pl_call M (want_no rfl) (some 16) rfl 25 #[.string key, .string nonce, .int .u32 n] (.agg (av 16 (w32 (fw key nonce n)))) (fun _ => by kernel_rfl) (fun w M => c_first key nonce n hm.1 hm.2 w M.laid) ?_
  intro u2 M
  refine pl_call M (want_no rfl) (some 17) rfl 37 #[.agg (av 16 (w32 (fw key nonce n)))] (.agg (av 64 (w8 (bl (fw key nonce n))))) (fun _ => by kernel_rfl) (fun w M => c_block (fw key nonce n) w M.laid) ?_
  intro u3 M
  refine pl_new M (want_no rfl) (some 8) rfl (.cells (av 64 (w8 (fun _ => 0))) 61) (fun _ => by kernel_rfl) ?_
  intro g1 u4 M
  replace M : Mem ⟨w, []⟩ [⟨g1, .cells (av 64 (w8 (fun _ => 0))) 61⟩] u4 := M
  refine pl_put M (want_no rfl) rfl 61 _ _ rfl 0 g1 0 (by kernel_rfl) 64 61 (w8 (fun _ => 0)) rfl 64 (w8 (bl (fw key nonce n))) (w8 (bl (fw key nonce n))) (by kernel_rfl) inz61 (by decide) (fun _ _ => rfl) (fun j hj => by rw [if_pos (by omega), Nat.sub_zero]) ?_
  intro u5 M
  replace M : Mem ⟨w, []⟩ [⟨g1, .cells (av 64 (w8 (bl (fw key nonce n)))) 61⟩] u5 := M
  refine pl_nil ?_
  refine au_then ?_
  refine wp_seq ?_
  refine rg_lit ?_
  refine pl_val (want_no rfl) (some 18) rfl (.slice (some ⟨g1, 0, none⟩) 64 64) (fun _ => by kernel_rfl) ?_
  refine pl_back M (want_no rfl) (some 19) rfl _ rfl 0 g1 64 64 (by kernel_rfl) _ rfl ((List.range 64).map (bl (fw key nonce n))) 64 (sb_av 64 _ _) (by simp) (blk_nn _) ?_
  refine pl_val (want_no rfl) (some 6) rfl (.string (blk (fw key nonce n))) (fun _ => by kernel_rfl) ?_
  refine pl_val (want_no rfl) (some 7) rfl (.int .i64 0) (fun _ => by kernel_rfl) ?_
  refine pl_nil ?_
  refine au_then ?_
  refine wp_ret ?_
  exact bodyPost_ret (v := .tuple #[.string (blk (fw key nonce n)), .int .i64 0]) (results_tmp2 Tryd.results26 _ _ _ _ (by kernel_rfl) (by kernel_rfl)) (by kernel_rfl) ⟨rfl, below_grown M.old⟩

set_option maxRecDepth 100000 in
set_option maxHeartbeats 4000000 in
theorem c_BlockB (key nonce : ByteArray) (n : Int) (hm : ¬ (key.size = 32 ∧ nonce.size = 12)) (w : World) (hL : Laid w)  :
    Calls Tryd.prog 26 #[.string key, .string nonce, .int .u32 n] w fun r w' => r = .returned (.tuple #[.string ⟨#[]⟩, .int .i64 2]) ∧ Below w.heap.size w w' := by
  go_enter Tryd.func26, Tryd.ntmps26
  have M := Mem.start hL
  refine wp_seq ?_
  refine rg_lit ?_
  refine pl_val (want_no rfl) (some 6) rfl (.string ⟨#[]⟩) (fun _ => by kernel_rfl) ?_
  refine pl_val (want_no rfl) (some 7) rfl (.int .i64 0) (fun _ => by kernel_rfl) ?_
  refine pl_nil ?_
  refine au_then ?_
  refine wp_seq ?_
  refine wp_seq ?_
  refine rg_lit ?_
  refine pl_val (want_no rfl) (some 9) rfl (.string key) (fun _ => by kernel_rfl) ?_
  refine pl_val (want_no rfl) (some 10) rfl (.string nonce) (fun _ => by kernel_rfl) ?_
  refine pl_call M (want_no rfl) (some 11) rfl 22 #[.string key, .string nonce] (.bool false) (fun _ => by kernel_rfl) (fun w M => (by rw [← decide_eq_false hm]; exact c_are key nonce w M.laid)) ?_
  intro u1 M
  refine pl_val (want_no rfl) (some 12) rfl (.bool true) (fun _ => by kernel_rfl) ?_
  refine pl_nil ?_
  refine au_then ?_
  refine wp_cond_true (by kernel_rfl) ?_
  refine wp_seq ?_
  refine rg_lit ?_
  refine pl_val (want_no rfl) (some 6) rfl (.string ⟨#[]⟩) (fun _ => by kernel_rfl) ?_
  refine pl_val (want_no rfl) (some 7) rfl (.int .i64 2) (fun _ => by kernel_rfl) ?_
  refine pl_nil ?_
  refine au_then ?_
  refine wp_ret ?_
  refine au_then_ret ?_
  exact bodyPost_ret (v := .tuple #[.string ⟨#[]⟩, .int .i64 2]) (results_tmp2 Tryd.results26 _ _ _ _ (by kernel_rfl) (by kernel_rfl)) (by kernel_rfl) ⟨rfl, below_grown M.old⟩

set_option maxRecDepth 100000 in
set_option maxHeartbeats 4000000 in
theorem c_TurnA (key nonce : ByteArray) (n : Nat) (hn : n < 4294967296) (s : ByteArray) (hz : s.size ≤ 200000) (hm : (key.size = 32 ∧ nonce.size = 12)) (hl : ¬ (4294967296 < n + (s.size + 63) / 64)) (w : World) (hL : Laid w)  :
    Calls Tryd.prog 14 #[.string key, .string nonce, .int .u32 (n : Int), .string s] w fun r w' => r = .returned (.tuple #[.string (oS (fw key nonce (n : Int)) s), .int .i64 0]) ∧ Below w.heap.size w w' := by
  go_enter Tryd.func14, Tryd.ntmps14
  have M := Mem.start hL
  refine wp_seq ?_
  refine rg_lit ?_
  refine pl_val (want_no rfl) (some 8) rfl (.string ⟨#[]⟩) (fun _ => by kernel_rfl) ?_
  refine pl_val (want_no rfl) (some 9) rfl (.int .i64 0) (fun _ => by kernel_rfl) ?_
  refine pl_nil ?_
  refine au_then ?_
  refine wp_seq ?_
  refine wp_seq ?_
  refine rg_lit ?_
  refine pl_val (want_no rfl) (some 10) rfl (.string key) (fun _ => by kernel_rfl) ?_
  refine pl_val (want_no rfl) (some 11) rfl (.string nonce) (fun _ => by kernel_rfl) ?_
  refine pl_call M (want_no rfl) (some 12) rfl 22 #[.string key, .string nonce] (.bool true) (fun _ => by kernel_rfl) (fun w M => (by rw [← decide_eq_true hm]; exact c_are key nonce w M.laid)) ?_
  intro u1 M
  refine pl_val (want_no rfl) (some 13) rfl (.bool false) (fun _ => by kernel_rfl) ?_
  refine pl_nil ?_
  refine au_then ?_
  refine wp_cond_false (by kernel_rfl) ?_
  refine wp_skip ?_
  refine au_then ?_
  refine wp_seq ?_
  refine wp_seq ?_
  refine rg_lit ?_
  refine pl_val (want_no rfl) (some 14) rfl (.int .u32 (n : Int)) (fun _ => by kernel_rfl) ?_
  refine pl_val (want_no rfl) (some 15) rfl (.int .u64 (n : Int)) (fun w => Eq.trans (b := .ok (.value (.int .u64 (cv .u64 (n : Int)))) w) (by kernel_rfl) (by rw [cvu64 _ (by omega)])) ?_
  refine pl_val (want_no rfl) (some 16) rfl (.string s) (fun _ => by kernel_rfl) ?_
  refine pl_call M (want_no rfl) (some 17) rfl 23 #[.string s] (.int .u64 (((s.size + 63) / 64 : Nat) : Int)) (fun _ => by kernel_rfl) (fun w M => c_need s hz w M.laid) ?_
  intro u2 M
  refine pl_val (want_no rfl) (some 18) rfl (.int .u64 ((n + (s.size + 63) / 64 : Nat) : Int)) (fun w => Eq.trans (b := .ok (.value (.int .u64 (IntKind.wrap .u64 ((n : Int) + (((s.size + 63) / 64 : Nat) : Int))))) w) (by kernel_rfl) (by rw [show (n : Int) + (((s.size + 63) / 64 : Nat) : Int) = ((n + (s.size + 63) / 64 : Nat) : Int) by omega, wu64 _ (by omega)])) ?_
  refine pl_val (want_no rfl) (some 19) rfl (.bool false) (fun w => Eq.trans (b := .ok (.value (.bool (decide ((4294967296 : Int) < ((n + (s.size + 63) / 64 : Nat) : Int))))) w) (by kernel_rfl) (by rw [decide_eq_false (by omega)])) ?_
  refine pl_nil ?_
  refine au_then ?_
  refine wp_cond_false (by kernel_rfl) ?_
  refine wp_skip ?_
  refine au_then ?_
  refine wp_seq ?_
  refine rg_lit ?_
  refine pl_val (want_no rfl) (some 20) rfl (.string s) (fun _ => by kernel_rfl) ?_
  refine pl_val (want_no rfl) (some 21) rfl (.string key) (fun _ => by kernel_rfl) ?_
  refine pl_val (want_no rfl) (some 22) rfl (.string nonce) (fun _ => by kernel_rfl) ?_
  refine pl_val (want_no rfl) (some 23) rfl (.int .u32 (n : Int)) (fun _ => by kernel_rfl) ?_
  refine pl_call M (want_no rfl) (some 24) rfl 25 #[.string key, .string nonce, .int .u32 (n : Int)] (.agg (av 16 (w32 (fw key nonce (n : Int))))) (fun _ => by kernel_rfl) (fun w M => c_first key nonce (n : Int) hm.1 hm.2 w M.laid) ?_
  intro u3 M
  refine pl_call M (want_no rfl) (some 25) rfl 24 #[.string s, .agg (av 16 (w32 (fw key nonce (n : Int))))] (.string (oS (fw key nonce (n : Int)) s)) (fun _ => by kernel_rfl) (fun w M => c_turned s (fw key nonce (n : Int)) hz w M.laid) ?_
  intro u4 M
  refine pl_val (want_no rfl) (some 8) rfl (.string (oS (fw key nonce (n : Int)) s)) (fun _ => by kernel_rfl) ?_
  refine pl_val (want_no rfl) (some 9) rfl (.int .i64 0) (fun _ => by kernel_rfl) ?_
  refine pl_nil ?_
  refine au_then ?_
  refine wp_ret ?_
  exact bodyPost_ret (v := .tuple #[.string (oS (fw key nonce (n : Int)) s), .int .i64 0]) (results_tmp2 Tryd.results14 _ _ _ _ (by kernel_rfl) (by kernel_rfl)) (by kernel_rfl) ⟨rfl, below_grown M.old⟩

set_option maxRecDepth 100000 in
set_option maxHeartbeats 4000000 in
theorem c_TurnB (key nonce : ByteArray) (n : Nat) (hn : n < 4294967296) (s : ByteArray) (hz : s.size ≤ 200000) (hm : (key.size = 32 ∧ nonce.size = 12)) (hl : (4294967296 < n + (s.size + 63) / 64)) (w : World) (hL : Laid w)  :
    Calls Tryd.prog 14 #[.string key, .string nonce, .int .u32 (n : Int), .string s] w fun r w' => r = .returned (.tuple #[.string ⟨#[]⟩, .int .i64 4]) ∧ Below w.heap.size w w' := by
  go_enter Tryd.func14, Tryd.ntmps14
  have M := Mem.start hL
  refine wp_seq ?_
  refine rg_lit ?_
  refine pl_val (want_no rfl) (some 8) rfl (.string ⟨#[]⟩) (fun _ => by kernel_rfl) ?_
  refine pl_val (want_no rfl) (some 9) rfl (.int .i64 0) (fun _ => by kernel_rfl) ?_
  refine pl_nil ?_
  refine au_then ?_
  refine wp_seq ?_
  refine wp_seq ?_
  refine rg_lit ?_
  refine pl_val (want_no rfl) (some 10) rfl (.string key) (fun _ => by kernel_rfl) ?_
  refine pl_val (want_no rfl) (some 11) rfl (.string nonce) (fun _ => by kernel_rfl) ?_
  refine pl_call M (want_no rfl) (some 12) rfl 22 #[.string key, .string nonce] (.bool true) (fun _ => by kernel_rfl) (fun w M => (by rw [← decide_eq_true hm]; exact c_are key nonce w M.laid)) ?_
  intro u1 M
  refine pl_val (want_no rfl) (some 13) rfl (.bool false) (fun _ => by kernel_rfl) ?_
  refine pl_nil ?_
  refine au_then ?_
  refine wp_cond_false (by kernel_rfl) ?_
  refine wp_skip ?_
  refine au_then ?_
  refine wp_seq ?_
  refine wp_seq ?_
  refine rg_lit ?_
  refine pl_val (want_no rfl) (some 14) rfl (.int .u32 (n : Int)) (fun _ => by kernel_rfl) ?_
  refine pl_val (want_no rfl) (some 15) rfl (.int .u64 (n : Int)) (fun w => Eq.trans (b := .ok (.value (.int .u64 (cv .u64 (n : Int)))) w) (by kernel_rfl) (by rw [cvu64 _ (by omega)])) ?_
  refine pl_val (want_no rfl) (some 16) rfl (.string s) (fun _ => by kernel_rfl) ?_
  refine pl_call M (want_no rfl) (some 17) rfl 23 #[.string s] (.int .u64 (((s.size + 63) / 64 : Nat) : Int)) (fun _ => by kernel_rfl) (fun w M => c_need s hz w M.laid) ?_
  intro u2 M
  refine pl_val (want_no rfl) (some 18) rfl (.int .u64 ((n + (s.size + 63) / 64 : Nat) : Int)) (fun w => Eq.trans (b := .ok (.value (.int .u64 (IntKind.wrap .u64 ((n : Int) + (((s.size + 63) / 64 : Nat) : Int))))) w) (by kernel_rfl) (by rw [show (n : Int) + (((s.size + 63) / 64 : Nat) : Int) = ((n + (s.size + 63) / 64 : Nat) : Int) by omega, wu64 _ (by omega)])) ?_
  refine pl_val (want_no rfl) (some 19) rfl (.bool true) (fun w => Eq.trans (b := .ok (.value (.bool (decide ((4294967296 : Int) < ((n + (s.size + 63) / 64 : Nat) : Int))))) w) (by kernel_rfl) (by rw [decide_eq_true (by omega)])) ?_
  refine pl_nil ?_
  refine au_then ?_
  refine wp_cond_true (by kernel_rfl) ?_
  refine wp_seq ?_
  refine rg_lit ?_
  refine pl_val (want_no rfl) (some 8) rfl (.string ⟨#[]⟩) (fun _ => by kernel_rfl) ?_
  refine pl_val (want_no rfl) (some 9) rfl (.int .i64 4) (fun _ => by kernel_rfl) ?_
  refine pl_nil ?_
  refine au_then ?_
  refine wp_ret ?_
  refine au_then_ret ?_
  exact bodyPost_ret (v := .tuple #[.string ⟨#[]⟩, .int .i64 4]) (results_tmp2 Tryd.results14 _ _ _ _ (by kernel_rfl) (by kernel_rfl)) (by kernel_rfl) ⟨rfl, below_grown M.old⟩

set_option maxRecDepth 100000 in
set_option maxHeartbeats 4000000 in
theorem c_TurnC (key nonce : ByteArray) (n : Nat) (s : ByteArray) (hm : ¬ (key.size = 32 ∧ nonce.size = 12)) (w : World) (hL : Laid w)  :
    Calls Tryd.prog 14 #[.string key, .string nonce, .int .u32 (n : Int), .string s] w fun r w' => r = .returned (.tuple #[.string ⟨#[]⟩, .int .i64 2]) ∧ Below w.heap.size w w' := by
  go_enter Tryd.func14, Tryd.ntmps14
  have M := Mem.start hL
  refine wp_seq ?_
  refine rg_lit ?_
  refine pl_val (want_no rfl) (some 8) rfl (.string ⟨#[]⟩) (fun _ => by kernel_rfl) ?_
  refine pl_val (want_no rfl) (some 9) rfl (.int .i64 0) (fun _ => by kernel_rfl) ?_
  refine pl_nil ?_
  refine au_then ?_
  refine wp_seq ?_
  refine wp_seq ?_
  refine rg_lit ?_
  refine pl_val (want_no rfl) (some 10) rfl (.string key) (fun _ => by kernel_rfl) ?_
  refine pl_val (want_no rfl) (some 11) rfl (.string nonce) (fun _ => by kernel_rfl) ?_
  refine pl_call M (want_no rfl) (some 12) rfl 22 #[.string key, .string nonce] (.bool false) (fun _ => by kernel_rfl) (fun w M => (by rw [← decide_eq_false hm]; exact c_are key nonce w M.laid)) ?_
  intro u1 M
  refine pl_val (want_no rfl) (some 13) rfl (.bool true) (fun _ => by kernel_rfl) ?_
  refine pl_nil ?_
  refine au_then ?_
  refine wp_cond_true (by kernel_rfl) ?_
  refine wp_seq ?_
  refine rg_lit ?_
  refine pl_val (want_no rfl) (some 8) rfl (.string ⟨#[]⟩) (fun _ => by kernel_rfl) ?_
  refine pl_val (want_no rfl) (some 9) rfl (.int .i64 2) (fun _ => by kernel_rfl) ?_
  refine pl_nil ?_
  refine au_then ?_
  refine wp_ret ?_
  refine au_then_ret ?_
  exact bodyPost_ret (v := .tuple #[.string ⟨#[]⟩, .int .i64 2]) (results_tmp2 Tryd.results14 _ _ _ _ (by kernel_rfl) (by kernel_rfl)) (by kernel_rfl) ⟨rfl, below_grown M.old⟩


end Go.Proofs.YtkndaajbedlajaaDoor
