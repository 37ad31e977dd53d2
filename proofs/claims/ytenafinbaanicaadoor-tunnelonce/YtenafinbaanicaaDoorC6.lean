/- The walks of areKeyAndNonce, blocksFor, Block and Turn. -/
import Derived.Test.YtenafinbaanicaaDoorC5
namespace Go.Proofs.YtenafinbaanicaaDoor
open Go.RowKit

theorem cvu64 (n : Nat) (h : n < 1000000000000) : cv .u64 (n : Int) = (n : Int) := by
  unfold cv
  simp [IntKind.wrap, IntKind.signed, IntKind.bits]
  omega
theorem wu64 (n : Nat) (h : n < 1000000000000) : IntKind.wrap .u64 (n : Int) = (n : Int) := cvu64 n h
theorem quoU (n : Nat) (h : n < 1000000000000) : IntKind.wrap .u64 ((n : Int).tdiv 64) = ((n / 64 : Nat) : Int) := by
  rw [Int.tdiv_eq_ediv_of_nonneg (by omega), show ((n : Int) / 64) = ((n / 64 : Nat) : Int) by omega, wu64 _ (by omega)]
theorem bl_nn (f : Nat → Int) (i : Nat) : 0 ≤ bl f i ∧ bl f i < 256 := by
  unfold bl cv
  simp [IntKind.wrap, IntKind.signed, IntKind.bits]
  omega
/-- A block's bytes. -/
def blk (f : Nat → Int) : ByteArray := bs ((List.range 64).map (bl f))
theorem blk_size (f : Nat → Int) : (blk f).size = 64 := by
  unfold blk
  rw [bs_size]
  simp
theorem blk_nn (f : Nat → Int) : ∀ x ∈ (List.range 64).map (bl f), 0 ≤ x ∧ x < 256 := fun x hx => by
  obtain ⟨i, _, rfl⟩ := List.mem_map.1 hx
  exact bl_nn f i
def strE : ByteArray := ⟨#[]⟩

set_option maxRecDepth 100000 in
set_option maxHeartbeats 4000000 in
theorem c_areA (key nonce : ByteArray) (hk : key.size = 32) (hn : nonce.size = 12) (w : World) (hL : Laid w)  :
    Calls Tryd.prog 60 #[.string key, .string nonce] w fun r w' => r = .returned (.bool true) ∧ Below w.heap.size w w' := by
  go_enter Tryd.func60, Tryd.ntmps60
  have M := Mem.start hL
  refine sq ?_
  refine sR ?_
  refine rV 2 ?_
  refine ZT 7 ((key.size : Int) = 32) ?_
  refine rV 3 ?_
  refine ZT 11 ((nonce.size : Int) = 12) ?_
  refine rV 2 ?_
  refine nT ?_
  refine wp_ret ?_
  exact b1 M

set_option maxRecDepth 100000 in
set_option maxHeartbeats 4000000 in
theorem c_areB (key nonce : ByteArray) (hk : key.size = 32) (hn : nonce.size ≠ 12) (w : World) (hL : Laid w)  :
    Calls Tryd.prog 60 #[.string key, .string nonce] w fun r w' => r = .returned (.bool false) ∧ Below w.heap.size w w' := by
  go_enter Tryd.func60, Tryd.ntmps60
  have M := Mem.start hL
  refine sq ?_
  refine sR ?_
  refine rV 2 ?_
  refine ZT 7 ((key.size : Int) = 32) ?_
  refine rV 3 ?_
  refine ZF 11 ((nonce.size : Int) = 12) ?_
  refine rV 2 ?_
  refine nT ?_
  refine wp_ret ?_
  exact b1 M

set_option maxRecDepth 100000 in
set_option maxHeartbeats 4000000 in
theorem c_areC (key nonce : ByteArray) (hk : key.size ≠ 32) (w : World) (hL : Laid w)  :
    Calls Tryd.prog 60 #[.string key, .string nonce] w fun r w' => r = .returned (.bool false) ∧ Below w.heap.size w w' := by
  go_enter Tryd.func60, Tryd.ntmps60
  have M := Mem.start hL
  refine sq ?_
  refine sR ?_
  refine rV 2 ?_
  refine ZF 7 ((key.size : Int) = 32) ?_
  refine rV 6 ?_
  refine nT ?_
  refine wp_ret ?_
  exact b1 M

theorem c_are (key nonce : ByteArray) (w : World) (hL : Laid w) : Calls Tryd.prog 60 #[.string key, .string nonce] w fun r w' => r = .returned (.bool (decide (key.size = 32 ∧ nonce.size = 12))) ∧ Below w.heap.size w w' := by
  by_cases hk : key.size = 32
  · by_cases hn : nonce.size = 12
    · rw [decide_eq_true ⟨hk, hn⟩]
      exact c_areA key nonce hk hn w hL
    · rw [decide_eq_false (fun h => hn h.2)]
      exact c_areB key nonce hk hn w hL
  · rw [decide_eq_false (fun h => hk h.1)]
    exact c_areC key nonce hk w hL

set_option maxRecDepth 100000 in
set_option maxHeartbeats 4000000 in
theorem c_need (s : ByteArray) (hz : s.size ≤ 200000) (w : World) (hL : Laid w)  :
    Calls Tryd.prog 61 #[.string s] w fun r w' => r = .returned (.int .u64 (((s.size + 63) / 64 : Nat) : Int)) ∧ Below w.heap.size w w' := by
  go_enter Tryd.func61, Tryd.ntmps61
  have M := Mem.start hL
  refine sq ?_
  refine sR ?_
  refine rV 2 ?_
  refine ZQ 5 .u64 (cv .u64 (s.size : Int)) (cvu64 _ (by omega)) ?_
  refine zJ 6 (.int .u64 ((s.size + 64 : Nat) : Int)) (.int .u64 (IntKind.wrap .u64 ((s.size : Int) + 64))) (by rw [show (s.size : Int) + 64 = ((s.size + 64 : Nat) : Int) by omega, wu64 _ (by omega)]) ?_
  refine zJ 7 (.int .u64 ((s.size + 63 : Nat) : Int)) (.int .u64 (IntKind.wrap .u64 (((s.size + 64 : Nat) : Int) - 1))) (by rw [show ((s.size + 64 : Nat) : Int) - 1 = ((s.size + 63 : Nat) : Int) by omega, wu64 _ (by omega)]) ?_
  refine ZQ 8 .u64 (IntKind.wrap .u64 (((s.size + 63 : Nat) : Int).tdiv 64)) (quoU _ (by omega)) ?_
  refine rV 1 ?_
  refine nT ?_
  refine wp_ret ?_
  exact b1 M

set_option maxRecDepth 100000 in
set_option maxHeartbeats 4000000 in
theorem c_BlockA (key nonce : ByteArray) (n : Int) (hm : (key.size = 32 ∧ nonce.size = 12)) (w : World) (hL : Laid w)  :
    Calls Tryd.prog 64 #[.string key, .string nonce, .int .u32 n] w fun r w' => r = .returned (.tuple #[.string (blk (fw key nonce n)), .int .i64 0]) ∧ Below w.heap.size w w' := by
  go_enter Tryd.func64, Tryd.ntmps64
  have M := Mem.start hL
  refine sq ?_
  refine wp_seq ?_
  refine sR ?_
  refine rV 2 ?_
  refine pC M 11 60 #[.string key, .string nonce] (.bool true) (fun w M => (by rw [← decide_eq_true hm]; exact c_are key nonce w M.laid)) fun u1 M => ?_
  refine rV 1 ?_
  refine nT ?_
  refine wp_cond_false (by kernel_rfl) ?_
  refine wp_skip ?_
  refine au_then ?_
  refine sR ?_
  refine rV 3 ?_
  refine ZC M 16 (fun w M => c_first key nonce n hm.1 hm.2 w M.laid) fun u2 M => ?_
  refine ZC M 17 (fun w M => c_block (fw key nonce n) w M.laid) fun u3 M => ?_
  refine pN M 8 (.cells (av 64 (w8 (fun _ => 0))) 114) fun g1 u4 M => ?_
  refine ZG M 0 64 (w8 (bl (fw key nonce n))) fun u5 M => ?_
  refine nT ?_
  refine sR ?_
  refine rV 1 ?_
  refine pl_back M (want_no rfl) (some 19) rfl _ rfl 0 g1 64 64 (by kernel_rfl) _ rfl ((List.range 64).map (bl (fw key nonce n))) 64 (sb_av 64 _ _) (by simp) (blk_nn _) ?_
  refine rV 2 ?_
  refine nT ?_
  refine wp_ret ?_
  exact b1 M

set_option maxRecDepth 100000 in
set_option maxHeartbeats 4000000 in
theorem c_BlockB (key nonce : ByteArray) (n : Int) (hm : ¬ (key.size = 32 ∧ nonce.size = 12)) (w : World) (hL : Laid w)  :
    Calls Tryd.prog 64 #[.string key, .string nonce, .int .u32 n] w fun r w' => r = .returned (.tuple #[.string ⟨#[]⟩, .int .i64 2]) ∧ Below w.heap.size w w' := by
  go_enter Tryd.func64, Tryd.ntmps64
  have M := Mem.start hL
  refine sq ?_
  refine wp_seq ?_
  refine sR ?_
  refine rV 2 ?_
  refine pC M 11 60 #[.string key, .string nonce] (.bool false) (fun w M => (by rw [← decide_eq_false hm]; exact c_are key nonce w M.laid)) fun u1 M => ?_
  refine rV 1 ?_
  refine nT ?_
  refine wp_cond_true (by kernel_rfl) ?_
  refine sq ?_
  refine wp_ret ?_
  refine au_then_ret ?_
  exact b1 M

set_option maxRecDepth 100000 in
set_option maxHeartbeats 4000000 in
theorem c_TurnA (key nonce : ByteArray) (n : Nat) (hn : n < 4294967296) (s : ByteArray) (hz : s.size ≤ 200000) (hm : (key.size = 32 ∧ nonce.size = 12)) (hl : ¬ (4294967296 < n + (s.size + 63) / 64)) (w : World) (hL : Laid w)  :
    Calls Tryd.prog 51 #[.string key, .string nonce, .int .u32 (n : Int), .string s] w fun r w' => r = .returned (.tuple #[.string (oS (fw key nonce (n : Int)) s), .int .i64 0]) ∧ Below w.heap.size w w' := by
  go_enter Tryd.func51, Tryd.ntmps51
  have M := Mem.start hL
  refine sq ?_
  refine wp_seq ?_
  refine sR ?_
  refine rV 2 ?_
  refine pC M 12 60 #[.string key, .string nonce] (.bool true) (fun w M => (by rw [← decide_eq_true hm]; exact c_are key nonce w M.laid)) fun u1 M => ?_
  refine rV 1 ?_
  refine nT ?_
  refine wp_cond_false (by kernel_rfl) ?_
  refine wp_skip ?_
  refine au_then ?_
  refine wp_seq ?_
  refine sR ?_
  refine rV 1 ?_
  refine ZQ 15 .u64 (cv .u64 (n : Int)) (cvu64 _ (by omega)) ?_
  refine rV 1 ?_
  refine ZC M 17 (fun w M => c_need s hz w M.laid) fun u2 M => ?_
  refine zJ 18 (.int .u64 ((n + (s.size + 63) / 64 : Nat) : Int)) (.int .u64 (IntKind.wrap .u64 ((n : Int) + (((s.size + 63) / 64 : Nat) : Int)))) (by rw [show (n : Int) + (((s.size + 63) / 64 : Nat) : Int) = ((n + (s.size + 63) / 64 : Nat) : Int) by omega, wu64 _ (by omega)]) ?_
  refine ZF 19 ((4294967296 : Int) < ((n + (s.size + 63) / 64 : Nat) : Int)) ?_
  refine nT ?_
  refine wp_cond_false (by kernel_rfl) ?_
  refine wp_skip ?_
  refine au_then ?_
  refine sR ?_
  refine rV 4 ?_
  refine ZC M 24 (fun w M => c_first key nonce (n : Int) hm.1 hm.2 w M.laid) fun u3 M => ?_
  refine ZC M 25 (fun w M => c_turned s (fw key nonce (n : Int)) hz w M.laid) fun u4 M => ?_
  refine rV 2 ?_
  refine nT ?_
  refine wp_ret ?_
  exact b1 M

set_option maxRecDepth 100000 in
set_option maxHeartbeats 4000000 in
theorem c_TurnB (key nonce : ByteArray) (n : Nat) (hn : n < 4294967296) (s : ByteArray) (hz : s.size ≤ 200000) (hm : (key.size = 32 ∧ nonce.size = 12)) (hl : (4294967296 < n + (s.size + 63) / 64)) (w : World) (hL : Laid w)  :
    Calls Tryd.prog 51 #[.string key, .string nonce, .int .u32 (n : Int), .string s] w fun r w' => r = .returned (.tuple #[.string ⟨#[]⟩, .int .i64 4]) ∧ Below w.heap.size w w' := by
  go_enter Tryd.func51, Tryd.ntmps51
  have M := Mem.start hL
  refine sq ?_
  refine wp_seq ?_
  refine sR ?_
  refine rV 2 ?_
  refine pC M 12 60 #[.string key, .string nonce] (.bool true) (fun w M => (by rw [← decide_eq_true hm]; exact c_are key nonce w M.laid)) fun u1 M => ?_
  refine rV 1 ?_
  refine nT ?_
  refine wp_cond_false (by kernel_rfl) ?_
  refine wp_skip ?_
  refine au_then ?_
  refine wp_seq ?_
  refine sR ?_
  refine rV 1 ?_
  refine ZQ 15 .u64 (cv .u64 (n : Int)) (cvu64 _ (by omega)) ?_
  refine rV 1 ?_
  refine ZC M 17 (fun w M => c_need s hz w M.laid) fun u2 M => ?_
  refine zJ 18 (.int .u64 ((n + (s.size + 63) / 64 : Nat) : Int)) (.int .u64 (IntKind.wrap .u64 ((n : Int) + (((s.size + 63) / 64 : Nat) : Int)))) (by rw [show (n : Int) + (((s.size + 63) / 64 : Nat) : Int) = ((n + (s.size + 63) / 64 : Nat) : Int) by omega, wu64 _ (by omega)]) ?_
  refine ZT 19 ((4294967296 : Int) < ((n + (s.size + 63) / 64 : Nat) : Int)) ?_
  refine nT ?_
  refine wp_cond_true (by kernel_rfl) ?_
  refine sq ?_
  refine wp_ret ?_
  refine au_then_ret ?_
  exact b1 M

set_option maxRecDepth 100000 in
set_option maxHeartbeats 4000000 in
theorem c_TurnC (key nonce : ByteArray) (n : Nat) (s : ByteArray) (hm : ¬ (key.size = 32 ∧ nonce.size = 12)) (w : World) (hL : Laid w)  :
    Calls Tryd.prog 51 #[.string key, .string nonce, .int .u32 (n : Int), .string s] w fun r w' => r = .returned (.tuple #[.string ⟨#[]⟩, .int .i64 2]) ∧ Below w.heap.size w w' := by
  go_enter Tryd.func51, Tryd.ntmps51
  have M := Mem.start hL
  refine sq ?_
  refine wp_seq ?_
  refine sR ?_
  refine rV 2 ?_
  refine pC M 12 60 #[.string key, .string nonce] (.bool false) (fun w M => (by rw [← decide_eq_false hm]; exact c_are key nonce w M.laid)) fun u1 M => ?_
  refine rV 1 ?_
  refine nT ?_
  refine wp_cond_true (by kernel_rfl) ?_
  refine sq ?_
  refine wp_ret ?_
  refine au_then_ret ?_
  exact b1 M


end Go.Proofs.YtenafinbaanicaaDoor
