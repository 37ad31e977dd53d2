/- Numbers as bytes, the highest byte first: the walks of both sides. -/
import Derived.Test.YtbechjlkmajcoaaV0
namespace Go.Proofs.Ytbechjlkmajcoaa
open Go.RowKit

set_option maxRecDepth 100000 in
set_option maxHeartbeats 4000000 in
set_option linter.unusedSimpArgs false in
theorem c_len8  (w : World) (hL : Laid w)  :
    Calls Try.prog 84 #[.int .u64 255] w fun r w' => r = .returned (.int .i64 8) ∧ Below w.heap.size w w' := by
  go_enter Try.func84, Try.ntmps84
  have M := Mem.start hL
  refine wp_seq ?_
  refine rg_lit ?_
  refine pl_val (want_no rfl) (some 2) rfl (.int .i64 0) (fun _ => by kernel_rfl) ?_
  refine pl_nil ?_
  refine au_then ?_
  refine wp_seq ?_
  refine wp_seq ?_
  refine rg_lit ?_
  refine pl_val (want_no rfl) (some 3) rfl (.int .u64 255) (fun _ => by kernel_rfl) ?_
  refine pl_val (want_no rfl) (some 4) rfl (.bool false) (fun _ => by kernel_rfl) ?_
  refine pl_nil ?_
  refine au_then ?_
  refine wp_cond_false (by kernel_rfl) ?_
  refine wp_skip ?_
  refine au_then ?_
  refine wp_seq ?_
  refine wp_seq ?_
  refine rg_lit ?_
  refine pl_val (want_no rfl) (some 7) rfl (.int .u64 255) (fun _ => by kernel_rfl) ?_
  refine pl_val (want_no rfl) (some 8) rfl (.bool false) (fun _ => by kernel_rfl) ?_
  refine pl_nil ?_
  refine au_then ?_
  refine wp_cond_false (by kernel_rfl) ?_
  refine wp_skip ?_
  refine au_then ?_
  refine wp_seq ?_
  refine wp_seq ?_
  refine rg_lit ?_
  refine pl_val (want_no rfl) (some 13) rfl (.int .u64 255) (fun _ => by kernel_rfl) ?_
  refine pl_val (want_no rfl) (some 14) rfl (.bool false) (fun _ => by kernel_rfl) ?_
  refine pl_nil ?_
  refine au_then ?_
  refine wp_cond_false (by kernel_rfl) ?_
  refine wp_skip ?_
  refine au_then ?_
  refine wp_seq ?_
  refine rg_lit ?_
  refine pl_val (want_no rfl) (some 19) rfl (.int .i64 0) (fun _ => by kernel_rfl) ?_
  refine pl_val (want_no rfl) (some 20) rfl (.int .u64 255) (fun _ => by kernel_rfl) ?_
  refine pl_val (want_no rfl) (some 21) rfl (.int .u8 255) (fun _ => by kernel_rfl) ?_
  refine pl_val (want_no rfl) (some 22) rfl (.int .u8 8) (fun _ => by kernel_rfl) ?_
  refine pl_val (want_no rfl) (some 23) rfl (.int .i64 8) (fun _ => by kernel_rfl) ?_
  refine pl_val (want_no rfl) (some 24) rfl (.int .i64 8) (fun _ => by kernel_rfl) ?_
  refine pl_val (want_no rfl) (some 2) rfl (.int .i64 8) (fun _ => by kernel_rfl) ?_
  refine pl_nil ?_
  refine au_then ?_
  refine wp_ret ?_
  exact bodyPost_ret (v := .int .i64 8) (results_tmp1 Try.results84 _ _ _ (by kernel_rfl)) (by kernel_rfl) ⟨rfl, below_grown M.old⟩

set_option maxRecDepth 100000 in
set_option maxHeartbeats 4000000 in
set_option linter.unusedSimpArgs false in
theorem c_len16  (w : World) (hL : Laid w)  :
    Calls Try.prog 84 #[.int .u64 65535] w fun r w' => r = .returned (.int .i64 16) ∧ Below w.heap.size w w' := by
  go_enter Try.func84, Try.ntmps84
  have M := Mem.start hL
  refine wp_seq ?_
  refine rg_lit ?_
  refine pl_val (want_no rfl) (some 2) rfl (.int .i64 0) (fun _ => by kernel_rfl) ?_
  refine pl_nil ?_
  refine au_then ?_
  refine wp_seq ?_
  refine wp_seq ?_
  refine rg_lit ?_
  refine pl_val (want_no rfl) (some 3) rfl (.int .u64 65535) (fun _ => by kernel_rfl) ?_
  refine pl_val (want_no rfl) (some 4) rfl (.bool false) (fun _ => by kernel_rfl) ?_
  refine pl_nil ?_
  refine au_then ?_
  refine wp_cond_false (by kernel_rfl) ?_
  refine wp_skip ?_
  refine au_then ?_
  refine wp_seq ?_
  refine wp_seq ?_
  refine rg_lit ?_
  refine pl_val (want_no rfl) (some 7) rfl (.int .u64 65535) (fun _ => by kernel_rfl) ?_
  refine pl_val (want_no rfl) (some 8) rfl (.bool false) (fun _ => by kernel_rfl) ?_
  refine pl_nil ?_
  refine au_then ?_
  refine wp_cond_false (by kernel_rfl) ?_
  refine wp_skip ?_
  refine au_then ?_
  refine wp_seq ?_
  refine wp_seq ?_
  refine rg_lit ?_
  refine pl_val (want_no rfl) (some 13) rfl (.int .u64 65535) (fun _ => by kernel_rfl) ?_
  refine pl_val (want_no rfl) (some 14) rfl (.bool true) (fun _ => by kernel_rfl) ?_
  refine pl_nil ?_
  refine au_then ?_
  refine wp_cond_true (by kernel_rfl) ?_
  refine wp_seq ?_
  refine rg_lit ?_
  refine pl_val (want_no rfl) (some 15) rfl (.int .u64 65535) (fun _ => by kernel_rfl) ?_
  refine pl_val (want_no rfl) (some 16) rfl (.int .u64 255) (fun _ => by kernel_rfl) ?_
  refine pl_val (want_no rfl) (some 0) rfl (.int .u64 255) (fun _ => by kernel_rfl) ?_
  refine pl_nil ?_
  refine au_then ?_
  refine rg_lit ?_
  refine pl_val (want_no rfl) (some 17) rfl (.int .i64 0) (fun _ => by kernel_rfl) ?_
  refine pl_val (want_no rfl) (some 18) rfl (.int .i64 8) (fun _ => by kernel_rfl) ?_
  refine pl_val (want_no rfl) (some 2) rfl (.int .i64 8) (fun _ => by kernel_rfl) ?_
  refine pl_nil ?_
  refine au_then ?_
  refine wp_seq ?_
  refine rg_lit ?_
  refine pl_val (want_no rfl) (some 19) rfl (.int .i64 8) (fun _ => by kernel_rfl) ?_
  refine pl_val (want_no rfl) (some 20) rfl (.int .u64 255) (fun _ => by kernel_rfl) ?_
  refine pl_val (want_no rfl) (some 21) rfl (.int .u8 255) (fun _ => by kernel_rfl) ?_
  refine pl_val (want_no rfl) (some 22) rfl (.int .u8 8) (fun _ => by kernel_rfl) ?_
  refine pl_val (want_no rfl) (some 23) rfl (.int .i64 8) (fun _ => by kernel_rfl) ?_
  refine pl_val (want_no rfl) (some 24) rfl (.int .i64 16) (fun _ => by kernel_rfl) ?_
  refine pl_val (want_no rfl) (some 2) rfl (.int .i64 16) (fun _ => by kernel_rfl) ?_
  refine pl_nil ?_
  refine au_then ?_
  refine wp_ret ?_
  exact bodyPost_ret (v := .int .i64 16) (results_tmp1 Try.results84 _ _ _ (by kernel_rfl)) (by kernel_rfl) ⟨rfl, below_grown M.old⟩

set_option maxRecDepth 100000 in
set_option maxHeartbeats 4000000 in
set_option linter.unusedSimpArgs false in
theorem c_len32  (w : World) (hL : Laid w)  :
    Calls Try.prog 84 #[.int .u64 4294967295] w fun r w' => r = .returned (.int .i64 32) ∧ Below w.heap.size w w' := by
  go_enter Try.func84, Try.ntmps84
  have M := Mem.start hL
  refine wp_seq ?_
  refine rg_lit ?_
  refine pl_val (want_no rfl) (some 2) rfl (.int .i64 0) (fun _ => by kernel_rfl) ?_
  refine pl_nil ?_
  refine au_then ?_
  refine wp_seq ?_
  refine wp_seq ?_
  refine rg_lit ?_
  refine pl_val (want_no rfl) (some 3) rfl (.int .u64 4294967295) (fun _ => by kernel_rfl) ?_
  refine pl_val (want_no rfl) (some 4) rfl (.bool false) (fun _ => by kernel_rfl) ?_
  refine pl_nil ?_
  refine au_then ?_
  refine wp_cond_false (by kernel_rfl) ?_
  refine wp_skip ?_
  refine au_then ?_
  refine wp_seq ?_
  refine wp_seq ?_
  refine rg_lit ?_
  refine pl_val (want_no rfl) (some 7) rfl (.int .u64 4294967295) (fun _ => by kernel_rfl) ?_
  refine pl_val (want_no rfl) (some 8) rfl (.bool true) (fun _ => by kernel_rfl) ?_
  refine pl_nil ?_
  refine au_then ?_
  refine wp_cond_true (by kernel_rfl) ?_
  refine wp_seq ?_
  refine rg_lit ?_
  refine pl_val (want_no rfl) (some 9) rfl (.int .u64 4294967295) (fun _ => by kernel_rfl) ?_
  refine pl_val (want_no rfl) (some 10) rfl (.int .u64 65535) (fun _ => by kernel_rfl) ?_
  refine pl_val (want_no rfl) (some 0) rfl (.int .u64 65535) (fun _ => by kernel_rfl) ?_
  refine pl_nil ?_
  refine au_then ?_
  refine rg_lit ?_
  refine pl_val (want_no rfl) (some 11) rfl (.int .i64 0) (fun _ => by kernel_rfl) ?_
  refine pl_val (want_no rfl) (some 12) rfl (.int .i64 16) (fun _ => by kernel_rfl) ?_
  refine pl_val (want_no rfl) (some 2) rfl (.int .i64 16) (fun _ => by kernel_rfl) ?_
  refine pl_nil ?_
  refine au_then ?_
  refine wp_seq ?_
  refine wp_seq ?_
  refine rg_lit ?_
  refine pl_val (want_no rfl) (some 13) rfl (.int .u64 65535) (fun _ => by kernel_rfl) ?_
  refine pl_val (want_no rfl) (some 14) rfl (.bool true) (fun _ => by kernel_rfl) ?_
  refine pl_nil ?_
  refine au_then ?_
  refine wp_cond_true (by kernel_rfl) ?_
  refine wp_seq ?_
  refine rg_lit ?_
  refine pl_val (want_no rfl) (some 15) rfl (.int .u64 65535) (fun _ => by kernel_rfl) ?_
  refine pl_val (want_no rfl) (some 16) rfl (.int .u64 255) (fun _ => by kernel_rfl) ?_
  refine pl_val (want_no rfl) (some 0) rfl (.int .u64 255) (fun _ => by kernel_rfl) ?_
  refine pl_nil ?_
  refine au_then ?_
  refine rg_lit ?_
  refine pl_val (want_no rfl) (some 17) rfl (.int .i64 16) (fun _ => by kernel_rfl) ?_
  refine pl_val (want_no rfl) (some 18) rfl (.int .i64 24) (fun _ => by kernel_rfl) ?_
  refine pl_val (want_no rfl) (some 2) rfl (.int .i64 24) (fun _ => by kernel_rfl) ?_
  refine pl_nil ?_
  refine au_then ?_
  refine wp_seq ?_
  refine rg_lit ?_
  refine pl_val (want_no rfl) (some 19) rfl (.int .i64 24) (fun _ => by kernel_rfl) ?_
  refine pl_val (want_no rfl) (some 20) rfl (.int .u64 255) (fun _ => by kernel_rfl) ?_
  refine pl_val (want_no rfl) (some 21) rfl (.int .u8 255) (fun _ => by kernel_rfl) ?_
  refine pl_val (want_no rfl) (some 22) rfl (.int .u8 8) (fun _ => by kernel_rfl) ?_
  refine pl_val (want_no rfl) (some 23) rfl (.int .i64 8) (fun _ => by kernel_rfl) ?_
  refine pl_val (want_no rfl) (some 24) rfl (.int .i64 32) (fun _ => by kernel_rfl) ?_
  refine pl_val (want_no rfl) (some 2) rfl (.int .i64 32) (fun _ => by kernel_rfl) ?_
  refine pl_nil ?_
  refine au_then ?_
  refine wp_ret ?_
  exact bodyPost_ret (v := .int .i64 32) (results_tmp1 Try.results84 _ _ _ (by kernel_rfl)) (by kernel_rfl) ⟨rfl, below_grown M.old⟩

set_option maxRecDepth 100000 in
set_option maxHeartbeats 4000000 in
set_option linter.unusedSimpArgs false in
theorem c_len64  (w : World) (hL : Laid w)  :
    Calls Try.prog 84 #[.int .u64 18446744073709551615] w fun r w' => r = .returned (.int .i64 64) ∧ Below w.heap.size w w' := by
  go_enter Try.func84, Try.ntmps84
  have M := Mem.start hL
  refine wp_seq ?_
  refine rg_lit ?_
  refine pl_val (want_no rfl) (some 2) rfl (.int .i64 0) (fun _ => by kernel_rfl) ?_
  refine pl_nil ?_
  refine au_then ?_
  refine wp_seq ?_
  refine wp_seq ?_
  refine rg_lit ?_
  refine pl_val (want_no rfl) (some 3) rfl (.int .u64 18446744073709551615) (fun _ => by kernel_rfl) ?_
  refine pl_val (want_no rfl) (some 4) rfl (.bool true) (fun _ => by kernel_rfl) ?_
  refine pl_nil ?_
  refine au_then ?_
  refine wp_cond_true (by kernel_rfl) ?_
  refine wp_seq ?_
  refine rg_lit ?_
  refine pl_val (want_no rfl) (some 5) rfl (.int .u64 18446744073709551615) (fun _ => by kernel_rfl) ?_
  refine pl_val (want_no rfl) (some 6) rfl (.int .u64 4294967295) (fun _ => by kernel_rfl) ?_
  refine pl_val (want_no rfl) (some 0) rfl (.int .u64 4294967295) (fun _ => by kernel_rfl) ?_
  refine pl_nil ?_
  refine au_then ?_
  refine rg_lit ?_
  refine pl_val (want_no rfl) (some 2) rfl (.int .i64 32) (fun _ => by kernel_rfl) ?_
  refine pl_nil ?_
  refine au_then ?_
  refine wp_seq ?_
  refine wp_seq ?_
  refine rg_lit ?_
  refine pl_val (want_no rfl) (some 7) rfl (.int .u64 4294967295) (fun _ => by kernel_rfl) ?_
  refine pl_val (want_no rfl) (some 8) rfl (.bool true) (fun _ => by kernel_rfl) ?_
  refine pl_nil ?_
  refine au_then ?_
  refine wp_cond_true (by kernel_rfl) ?_
  refine wp_seq ?_
  refine rg_lit ?_
  refine pl_val (want_no rfl) (some 9) rfl (.int .u64 4294967295) (fun _ => by kernel_rfl) ?_
  refine pl_val (want_no rfl) (some 10) rfl (.int .u64 65535) (fun _ => by kernel_rfl) ?_
  refine pl_val (want_no rfl) (some 0) rfl (.int .u64 65535) (fun _ => by kernel_rfl) ?_
  refine pl_nil ?_
  refine au_then ?_
  refine rg_lit ?_
  refine pl_val (want_no rfl) (some 11) rfl (.int .i64 32) (fun _ => by kernel_rfl) ?_
  refine pl_val (want_no rfl) (some 12) rfl (.int .i64 48) (fun _ => by kernel_rfl) ?_
  refine pl_val (want_no rfl) (some 2) rfl (.int .i64 48) (fun _ => by kernel_rfl) ?_
  refine pl_nil ?_
  refine au_then ?_
  refine wp_seq ?_
  refine wp_seq ?_
  refine rg_lit ?_
  refine pl_val (want_no rfl) (some 13) rfl (.int .u64 65535) (fun _ => by kernel_rfl) ?_
  refine pl_val (want_no rfl) (some 14) rfl (.bool true) (fun _ => by kernel_rfl) ?_
  refine pl_nil ?_
  refine au_then ?_
  refine wp_cond_true (by kernel_rfl) ?_
  refine wp_seq ?_
  refine rg_lit ?_
  refine pl_val (want_no rfl) (some 15) rfl (.int .u64 65535) (fun _ => by kernel_rfl) ?_
  refine pl_val (want_no rfl) (some 16) rfl (.int .u64 255) (fun _ => by kernel_rfl) ?_
  refine pl_val (want_no rfl) (some 0) rfl (.int .u64 255) (fun _ => by kernel_rfl) ?_
  refine pl_nil ?_
  refine au_then ?_
  refine rg_lit ?_
  refine pl_val (want_no rfl) (some 17) rfl (.int .i64 48) (fun _ => by kernel_rfl) ?_
  refine pl_val (want_no rfl) (some 18) rfl (.int .i64 56) (fun _ => by kernel_rfl) ?_
  refine pl_val (want_no rfl) (some 2) rfl (.int .i64 56) (fun _ => by kernel_rfl) ?_
  refine pl_nil ?_
  refine au_then ?_
  refine wp_seq ?_
  refine rg_lit ?_
  refine pl_val (want_no rfl) (some 19) rfl (.int .i64 56) (fun _ => by kernel_rfl) ?_
  refine pl_val (want_no rfl) (some 20) rfl (.int .u64 255) (fun _ => by kernel_rfl) ?_
  refine pl_val (want_no rfl) (some 21) rfl (.int .u8 255) (fun _ => by kernel_rfl) ?_
  refine pl_val (want_no rfl) (some 22) rfl (.int .u8 8) (fun _ => by kernel_rfl) ?_
  refine pl_val (want_no rfl) (some 23) rfl (.int .i64 8) (fun _ => by kernel_rfl) ?_
  refine pl_val (want_no rfl) (some 24) rfl (.int .i64 64) (fun _ => by kernel_rfl) ?_
  refine pl_val (want_no rfl) (some 2) rfl (.int .i64 64) (fun _ => by kernel_rfl) ?_
  refine pl_nil ?_
  refine au_then ?_
  refine wp_ret ?_
  exact bodyPost_ret (v := .int .i64 64) (results_tmp1 Try.results84 _ _ _ (by kernel_rfl)) (by kernel_rfl) ⟨rfl, below_grown M.old⟩

set_option maxRecDepth 100000 in
set_option maxHeartbeats 4000000 in
set_option linter.unusedSimpArgs false in
theorem c_size1  (w : World) (hL : Laid w)  :
    Calls Try.prog 80 #[] w fun r w' => r = .returned (.int .i64 1) ∧ Below w.heap.size w w' := by
  go_enter Try.func80, Try.ntmps80
  have M := Mem.start hL
  refine wp_seq ?_
  refine rg_lit ?_
  refine pl_val (want_no rfl) (some 0) rfl (.int .i64 0) (fun _ => by kernel_rfl) ?_
  refine pl_nil ?_
  refine au_then ?_
  refine wp_seq ?_
  refine rg_lit ?_
  refine pl_val (want_no rfl) (some 1) rfl (.int .u8 0) (fun _ => by kernel_rfl) ?_
  refine pl_val (want_no rfl) (some 2) rfl (.int .u8 255) (fun _ => by kernel_rfl) ?_
  refine pl_val (want_no rfl) (some 3) rfl (.int .u64 255) (fun _ => by kernel_rfl) ?_
  refine pl_call M (want_no rfl) (some 4) rfl 84 #[.int .u64 255] (.int .i64 8) (fun _ => by kernel_rfl) (fun w M => c_len8 w M.laid) ?_
  intro u1 M
  refine pl_val (want_no rfl) (some 5) rfl (.int .i64 1) (fun _ => by kernel_rfl) ?_
  refine pl_val (want_no rfl) (some 0) rfl (.int .i64 1) (fun _ => by kernel_rfl) ?_
  refine pl_nil ?_
  refine au_then ?_
  refine wp_ret ?_
  exact bodyPost_ret (v := .int .i64 1) (results_tmp1 Try.results80 _ _ _ (by kernel_rfl)) (by kernel_rfl) ⟨rfl, below_grown M.old⟩

set_option maxRecDepth 100000 in
set_option maxHeartbeats 4000000 in
set_option linter.unusedSimpArgs false in
theorem c_size2  (w : World) (hL : Laid w)  :
    Calls Try.prog 83 #[] w fun r w' => r = .returned (.int .i64 2) ∧ Below w.heap.size w w' := by
  go_enter Try.func83, Try.ntmps83
  have M := Mem.start hL
  refine wp_seq ?_
  refine rg_lit ?_
  refine pl_val (want_no rfl) (some 0) rfl (.int .i64 0) (fun _ => by kernel_rfl) ?_
  refine pl_nil ?_
  refine au_then ?_
  refine wp_seq ?_
  refine rg_lit ?_
  refine pl_val (want_no rfl) (some 1) rfl (.int .u16 0) (fun _ => by kernel_rfl) ?_
  refine pl_val (want_no rfl) (some 2) rfl (.int .u16 65535) (fun _ => by kernel_rfl) ?_
  refine pl_val (want_no rfl) (some 3) rfl (.int .u64 65535) (fun _ => by kernel_rfl) ?_
  refine pl_call M (want_no rfl) (some 4) rfl 84 #[.int .u64 65535] (.int .i64 16) (fun _ => by kernel_rfl) (fun w M => c_len16 w M.laid) ?_
  intro u1 M
  refine pl_val (want_no rfl) (some 5) rfl (.int .i64 2) (fun _ => by kernel_rfl) ?_
  refine pl_val (want_no rfl) (some 0) rfl (.int .i64 2) (fun _ => by kernel_rfl) ?_
  refine pl_nil ?_
  refine au_then ?_
  refine wp_ret ?_
  exact bodyPost_ret (v := .int .i64 2) (results_tmp1 Try.results83 _ _ _ (by kernel_rfl)) (by kernel_rfl) ⟨rfl, below_grown M.old⟩

set_option maxRecDepth 100000 in
set_option maxHeartbeats 4000000 in
set_option linter.unusedSimpArgs false in
theorem c_size4  (w : World) (hL : Laid w)  :
    Calls Try.prog 81 #[] w fun r w' => r = .returned (.int .i64 4) ∧ Below w.heap.size w w' := by
  go_enter Try.func81, Try.ntmps81
  have M := Mem.start hL
  refine wp_seq ?_
  refine rg_lit ?_
  refine pl_val (want_no rfl) (some 0) rfl (.int .i64 0) (fun _ => by kernel_rfl) ?_
  refine pl_nil ?_
  refine au_then ?_
  refine wp_seq ?_
  refine rg_lit ?_
  refine pl_val (want_no rfl) (some 1) rfl (.int .u32 0) (fun _ => by kernel_rfl) ?_
  refine pl_val (want_no rfl) (some 2) rfl (.int .u32 4294967295) (fun _ => by kernel_rfl) ?_
  refine pl_val (want_no rfl) (some 3) rfl (.int .u64 4294967295) (fun _ => by kernel_rfl) ?_
  refine pl_call M (want_no rfl) (some 4) rfl 84 #[.int .u64 4294967295] (.int .i64 32) (fun _ => by kernel_rfl) (fun w M => c_len32 w M.laid) ?_
  intro u1 M
  refine pl_val (want_no rfl) (some 5) rfl (.int .i64 4) (fun _ => by kernel_rfl) ?_
  refine pl_val (want_no rfl) (some 0) rfl (.int .i64 4) (fun _ => by kernel_rfl) ?_
  refine pl_nil ?_
  refine au_then ?_
  refine wp_ret ?_
  exact bodyPost_ret (v := .int .i64 4) (results_tmp1 Try.results81 _ _ _ (by kernel_rfl)) (by kernel_rfl) ⟨rfl, below_grown M.old⟩

set_option maxRecDepth 100000 in
set_option maxHeartbeats 4000000 in
set_option linter.unusedSimpArgs false in
theorem c_size8  (w : World) (hL : Laid w)  :
    Calls Try.prog 82 #[] w fun r w' => r = .returned (.int .i64 8) ∧ Below w.heap.size w w' := by
  go_enter Try.func82, Try.ntmps82
  have M := Mem.start hL
  refine wp_seq ?_
  refine rg_lit ?_
  refine pl_val (want_no rfl) (some 0) rfl (.int .i64 0) (fun _ => by kernel_rfl) ?_
  refine pl_nil ?_
  refine au_then ?_
  refine wp_seq ?_
  refine rg_lit ?_
  refine pl_val (want_no rfl) (some 1) rfl (.int .u64 0) (fun _ => by kernel_rfl) ?_
  refine pl_val (want_no rfl) (some 2) rfl (.int .u64 18446744073709551615) (fun _ => by kernel_rfl) ?_
  refine pl_call M (want_no rfl) (some 3) rfl 84 #[.int .u64 18446744073709551615] (.int .i64 64) (fun _ => by kernel_rfl) (fun w M => c_len64 w M.laid) ?_
  intro u1 M
  refine pl_val (want_no rfl) (some 4) rfl (.int .i64 8) (fun _ => by kernel_rfl) ?_
  refine pl_val (want_no rfl) (some 0) rfl (.int .i64 8) (fun _ => by kernel_rfl) ?_
  refine pl_nil ?_
  refine au_then ?_
  refine wp_ret ?_
  exact bodyPost_ret (v := .int .i64 8) (results_tmp1 Try.results82 _ _ _ (by kernel_rfl)) (by kernel_rfl) ⟨rfl, below_grown M.old⟩

/-- The lowest 2 bytes of a number, the highest first. -/
def be2 (x : Int) : ByteArray := bs [(cv .u8 (sr x 8)), (cv .u8 x)]
theorem be2_size (x : Int) : (be2 x).size = 2 := by
  unfold be2
  rw [bs_size]
  rfl
/-- The lowest 4 bytes of a number, the highest first. -/
def be4 (x : Int) : ByteArray := bs [(cv .u8 (sr (sr (sr x 8) 8) 8)), (cv .u8 (sr (sr x 8) 8)), (cv .u8 (sr x 8)), (cv .u8 x)]
theorem be4_size (x : Int) : (be4 x).size = 4 := by
  unfold be4
  rw [bs_size]
  rfl
/-- The lowest 8 bytes of a number, the highest first. -/
def be8 (x : Int) : ByteArray := bs [(cv .u8 (sr (sr (sr (sr (sr (sr (sr x 8) 8) 8) 8) 8) 8) 8)), (cv .u8 (sr (sr (sr (sr (sr (sr x 8) 8) 8) 8) 8) 8)), (cv .u8 (sr (sr (sr (sr (sr x 8) 8) 8) 8) 8)), (cv .u8 (sr (sr (sr (sr x 8) 8) 8) 8)), (cv .u8 (sr (sr (sr x 8) 8) 8)), (cv .u8 (sr (sr x 8) 8)), (cv .u8 (sr x 8)), (cv .u8 x)]
theorem be8_size (x : Int) : (be8 x).size = 8 := by
  unfold be8
  rw [bs_size]
  rfl
set_option maxRecDepth 100000 in
set_option maxHeartbeats 4000000 in
set_option linter.unusedSimpArgs false in
theorem c_bytes2 (x : Int) (w : World) (hL : Laid w)  :
    Calls Try.prog 77 #[.int .u16 x] w fun r w' => r = .returned (.string (be2 (cv .u64 x))) ∧ Below w.heap.size w w' := by
  go_enter Try.func77, Try.ntmps77
  have M := Mem.start hL
  refine wp_seq ?_
  refine rg_lit ?_
  refine pl_val (want_no rfl) (some 2) rfl (.string ⟨#[]⟩) (fun _ => by kernel_rfl) ?_
  refine pl_nil ?_
  refine au_then ?_
  refine wp_seq ?_
  refine rg_lit ?_
  refine pl_call M (want_no rfl) (some 6) rfl 83 #[] (.int .i64 2) (fun _ => by kernel_rfl) (fun w M => c_size2 w M.laid) ?_
  intro u1 M
  refine pl_mk M (want_no rfl) (some 7) rfl (fun g1 => .slice (some ⟨g1, 0, none⟩) 2 2) (.cells (av 2 (ls [.int .u8 0, .int .u8 0])) 5) (fun _ => by kernel_rfl) ?_
  intro g1 u2 M
  replace M : Mem ⟨w, []⟩ [⟨g1, .cells (av 2 (ls [.int .u8 0, .int .u8 0])) 5⟩] u2 := M
  refine pl_val (want_no rfl) (some 3) rfl (.slice (some ⟨g1, 0, none⟩) 2 2) (fun _ => by kernel_rfl) ?_
  refine pl_nil ?_
  refine au_then ?_
  refine wp_seq ?_
  refine rg_lit ?_
  refine pl_val (want_no rfl) (some 8) rfl (.int .u16 x) (fun _ => by kernel_rfl) ?_
  refine pl_val (want_no rfl) (some 9) rfl (.int .u64 (cv .u64 x)) (fun _ => by kernel_rfl) ?_
  refine pl_val (want_no rfl) (some 4) rfl (.int .u64 (cv .u64 x)) (fun _ => by kernel_rfl) ?_
  refine pl_nil ?_
  refine au_then ?_
  refine wp_seq ?_
  refine wp_seq ?_
  refine rg_lit ?_
  refine pl_val (want_no rfl) (some 10) rfl (.slice (some ⟨g1, 0, none⟩) 2 2) (fun _ => by kernel_rfl) ?_
  refine pl_val (want_no rfl) (some 11) rfl (.int .i64 2) (fun _ => by kernel_rfl) ?_
  refine pl_val (want_no rfl) (some 12) rfl (.int .i64 1) (fun _ => by kernel_rfl) ?_
  refine pl_val (want_no rfl) (some 5) rfl (.int .i64 1) (fun _ => by kernel_rfl) ?_
  refine pl_nil ?_
  refine au_then ?_
  refine wp_block ?_
  refine wp_loop_rounds 3 ?_
  refine rounds_go ?_
  refine wp_seq ?_
  refine wp_seq ?_
  refine rg_lit ?_
  refine pl_val (want_no rfl) (some 13) rfl (.int .i64 1) (fun _ => by kernel_rfl) ?_
  refine pl_val (want_no rfl) (some 14) rfl (.bool true) (fun _ => by kernel_rfl) ?_
  refine pl_nil ?_
  refine au_then ?_
  refine wp_cond_true (by kernel_rfl) ?_
  refine wp_skip ?_
  refine au_then ?_
  refine wp_seq ?_
  refine wp_block ?_
  refine wp_seq ?_
  refine rg_lit ?_
  refine pl_val (want_no rfl) (some 17) rfl (.slice (some ⟨g1, 0, none⟩) 2 2) (fun _ => by kernel_rfl) ?_
  refine pl_val (want_no rfl) (some 18) rfl (.int .i64 1) (fun _ => by kernel_rfl) ?_
  refine pl_val (want_no rfl) (some 19) rfl (.int .u64 (cv .u64 x)) (fun _ => by kernel_rfl) ?_
  refine pl_val (want_no rfl) (some 20) rfl (.int .u8 (cv .u8 (cv .u64 x))) (fun _ => by kernel_rfl) ?_
  refine pl_val (want_no rfl) (some 21) rfl (.pointer (some ⟨g1, 1, none⟩)) (fun _ => by kernel_rfl) ?_
  refine pl_put1 M (want_no rfl) rfl 5 _ _ rfl 0 g1 1 (by kernel_rfl) 2 5 (ls [.int .u8 0, .int .u8 0]) rfl (.int .u8 (cv .u8 (cv .u64 x))) (ls [.int .u8 0, .int .u8 (cv .u8 (cv .u64 x))]) (by kernel_rfl) inz5 (by decide) rfl rfl (put_ls _ 1 _ _ rfl) ?_
  intro u3 M
  replace M : Mem ⟨w, []⟩ [⟨g1, .cells (av 2 (ls [.int .u8 0, .int .u8 (cv .u8 (cv .u64 x))])) 5⟩] u3 := M
  refine pl_nil ?_
  refine au_then ?_
  refine rg_lit ?_
  refine pl_val (want_no rfl) (some 22) rfl (.int .u64 (cv .u64 x)) (fun _ => by kernel_rfl) ?_
  refine pl_val (want_no rfl) (some 23) rfl (.int .u64 (sr (cv .u64 x) 8)) (fun _ => by kernel_rfl) ?_
  refine pl_val (want_no rfl) (some 4) rfl (.int .u64 (sr (cv .u64 x) 8)) (fun _ => by kernel_rfl) ?_
  refine pl_nil ?_
  refine au_block ?_
  refine au_then ?_
  refine rg_lit ?_
  refine pl_val (want_no rfl) (some 15) rfl (.int .i64 1) (fun _ => by kernel_rfl) ?_
  refine pl_val (want_no rfl) (some 16) rfl (.int .i64 0) (fun _ => by kernel_rfl) ?_
  refine pl_val (want_no rfl) (some 5) rfl (.int .i64 0) (fun _ => by kernel_rfl) ?_
  refine pl_nil ?_
  refine au_then ?_
  refine rounds_go ?_
  refine wp_seq ?_
  refine wp_seq ?_
  refine rg_lit ?_
  refine pl_val (want_no rfl) (some 13) rfl (.int .i64 0) (fun _ => by kernel_rfl) ?_
  refine pl_val (want_no rfl) (some 14) rfl (.bool true) (fun _ => by kernel_rfl) ?_
  refine pl_nil ?_
  refine au_then ?_
  refine wp_cond_true (by kernel_rfl) ?_
  refine wp_skip ?_
  refine au_then ?_
  refine wp_seq ?_
  refine wp_block ?_
  refine wp_seq ?_
  refine rg_lit ?_
  refine pl_val (want_no rfl) (some 17) rfl (.slice (some ⟨g1, 0, none⟩) 2 2) (fun _ => by kernel_rfl) ?_
  refine pl_val (want_no rfl) (some 18) rfl (.int .i64 0) (fun _ => by kernel_rfl) ?_
  refine pl_val (want_no rfl) (some 19) rfl (.int .u64 (sr (cv .u64 x) 8)) (fun _ => by kernel_rfl) ?_
  refine pl_val (want_no rfl) (some 20) rfl (.int .u8 (cv .u8 (sr (cv .u64 x) 8))) (fun _ => by kernel_rfl) ?_
  refine pl_val (want_no rfl) (some 21) rfl (.pointer (some ⟨g1, 0, none⟩)) (fun _ => by kernel_rfl) ?_
  refine pl_put1 M (want_no rfl) rfl 5 _ _ rfl 0 g1 0 (by kernel_rfl) 2 5 (ls [.int .u8 0, .int .u8 (cv .u8 (cv .u64 x))]) rfl (.int .u8 (cv .u8 (sr (cv .u64 x) 8))) (ls [.int .u8 (cv .u8 (sr (cv .u64 x) 8)), .int .u8 (cv .u8 (cv .u64 x))]) (by kernel_rfl) inz5 (by decide) rfl rfl (put_ls _ 0 _ _ rfl) ?_
  intro u4 M
  replace M : Mem ⟨w, []⟩ [⟨g1, .cells (av 2 (ls [.int .u8 (cv .u8 (sr (cv .u64 x) 8)), .int .u8 (cv .u8 (cv .u64 x))])) 5⟩] u4 := M
  refine pl_nil ?_
  refine au_then ?_
  refine rg_lit ?_
  refine pl_val (want_no rfl) (some 22) rfl (.int .u64 (sr (cv .u64 x) 8)) (fun _ => by kernel_rfl) ?_
  refine pl_val (want_no rfl) (some 23) rfl (.int .u64 (sr (sr (cv .u64 x) 8) 8)) (fun _ => by kernel_rfl) ?_
  refine pl_val (want_no rfl) (some 4) rfl (.int .u64 (sr (sr (cv .u64 x) 8) 8)) (fun _ => by kernel_rfl) ?_
  refine pl_nil ?_
  refine au_block ?_
  refine au_then ?_
  refine rg_lit ?_
  refine pl_val (want_no rfl) (some 15) rfl (.int .i64 0) (fun _ => by kernel_rfl) ?_
  refine pl_val (want_no rfl) (some 16) rfl (.int .i64 (-1)) (fun _ => by kernel_rfl) ?_
  refine pl_val (want_no rfl) (some 5) rfl (.int .i64 (-1)) (fun _ => by kernel_rfl) ?_
  refine pl_nil ?_
  refine au_then ?_
  refine rounds_go ?_
  refine wp_seq ?_
  refine wp_seq ?_
  refine rg_lit ?_
  refine pl_val (want_no rfl) (some 13) rfl (.int .i64 (-1)) (fun _ => by kernel_rfl) ?_
  refine pl_val (want_no rfl) (some 14) rfl (.bool false) (fun _ => by kernel_rfl) ?_
  refine pl_nil ?_
  refine au_then ?_
  refine wp_cond_false (by kernel_rfl) ?_
  refine wp_exit ?_
  refine au_then_exit ?_
  refine au_then_exit ?_
  refine au_block_exit ?_
  refine au_then ?_
  refine wp_seq ?_
  refine rg_lit ?_
  refine pl_val (want_no rfl) (some 24) rfl (.slice (some ⟨g1, 0, none⟩) 2 2) (fun _ => by kernel_rfl) ?_
  refine pl_back M (want_no rfl) (some 25) rfl _ rfl 0 g1 2 2 (by kernel_rfl) _ rfl [(cv .u8 (sr (cv .u64 x) 8)), (cv .u8 (cv .u64 x))] 2 (sb_ls [(cv .u8 (sr (cv .u64 x) 8)), (cv .u8 (cv .u64 x))] _) rfl (by intro x hx; simp only [List.mem_cons, List.mem_nil_iff, or_false] at hx; rcases hx with rfl | rfl <;> exact cv8_nn _) ?_
  refine pl_val (want_no rfl) (some 2) rfl (.string (bs [(cv .u8 (sr (cv .u64 x) 8)), (cv .u8 (cv .u64 x))])) (fun _ => by kernel_rfl) ?_
  refine pl_nil ?_
  refine au_then ?_
  refine wp_ret ?_
  have e0 : (be2 (cv .u64 x)) = (bs [(cv .u8 (sr (cv .u64 x) 8)), (cv .u8 (cv .u64 x))]) := rfl
  exact bodyPost_ret (v := .string (bs [(cv .u8 (sr (cv .u64 x) 8)), (cv .u8 (cv .u64 x))])) (results_tmp1 Try.results77 _ _ _ (by kernel_rfl)) (by kernel_rfl) ⟨by rw [e0], below_grown M.old⟩

set_option maxRecDepth 100000 in
set_option maxHeartbeats 4000000 in
set_option linter.unusedSimpArgs false in
theorem c_U16 (x : Int) (w : World) (hL : Laid w)  :
    Calls Try.prog 63 #[.int .u16 x] w fun r w' => r = .returned (.string (be2 (cv .u64 x))) ∧ Below w.heap.size w w' := by
  go_enter Try.func63, Try.ntmps63
  have M := Mem.start hL
  refine wp_seq ?_
  refine rg_lit ?_
  refine pl_val (want_no rfl) (some 2) rfl (.string ⟨#[]⟩) (fun _ => by kernel_rfl) ?_
  refine pl_nil ?_
  refine au_then ?_
  refine wp_seq ?_
  refine rg_lit ?_
  refine pl_val (want_no rfl) (some 3) rfl (.int .u16 x) (fun _ => by kernel_rfl) ?_
  refine pl_call M (want_no rfl) (some 4) rfl 77 #[.int .u16 x] (.string (be2 (cv .u64 x))) (fun _ => by kernel_rfl) (fun w M => c_bytes2 x w M.laid) ?_
  intro u1 M
  refine pl_val (want_no rfl) (some 2) rfl (.string (be2 (cv .u64 x))) (fun _ => by kernel_rfl) ?_
  refine pl_nil ?_
  refine au_then ?_
  refine wp_ret ?_
  exact bodyPost_ret (v := .string (be2 (cv .u64 x))) (results_tmp1 Try.results63 _ _ _ (by kernel_rfl)) (by kernel_rfl) ⟨rfl, below_grown M.old⟩

set_option maxRecDepth 100000 in
set_option maxHeartbeats 4000000 in
set_option linter.unusedSimpArgs false in
theorem c_num2 (x : Int) (w : World) (hL : Laid w)  :
    Calls Try.prog 42 #[.int .u64 x, .int .i64 2] w fun r w' => r = .returned (.string (be2 x)) ∧ Below w.heap.size w w' := by
  go_enter Try.func42, Try.ntmps42
  have M := Mem.start hL
  refine wp_seq ?_
  refine rg_lit ?_
  refine pl_val (want_no rfl) (some 4) rfl (.string ⟨#[]⟩) (fun _ => by kernel_rfl) ?_
  refine pl_nil ?_
  refine au_then ?_
  refine wp_seq ?_
  refine rg_lit ?_
  refine pl_val (want_no rfl) (some 7) rfl (.int .i64 2) (fun _ => by kernel_rfl) ?_
  refine pl_mk M (want_no rfl) (some 8) rfl (fun g1 => .slice (some ⟨g1, 0, none⟩) 2 2) (.cells (av 2 (ls [.int .u8 0, .int .u8 0])) 5) (fun _ => by kernel_rfl) ?_
  intro g1 u1 M
  replace M : Mem ⟨w, []⟩ [⟨g1, .cells (av 2 (ls [.int .u8 0, .int .u8 0])) 5⟩] u1 := M
  refine pl_val (want_no rfl) (some 5) rfl (.slice (some ⟨g1, 0, none⟩) 2 2) (fun _ => by kernel_rfl) ?_
  refine pl_nil ?_
  refine au_then ?_
  refine wp_seq ?_
  refine wp_seq ?_
  refine rg_lit ?_
  refine pl_val (want_no rfl) (some 9) rfl (.int .i64 2) (fun _ => by kernel_rfl) ?_
  refine pl_val (want_no rfl) (some 10) rfl (.int .i64 1) (fun _ => by kernel_rfl) ?_
  refine pl_val (want_no rfl) (some 6) rfl (.int .i64 1) (fun _ => by kernel_rfl) ?_
  refine pl_nil ?_
  refine au_then ?_
  refine wp_block ?_
  refine wp_loop_rounds 3 ?_
  refine rounds_go ?_
  refine wp_seq ?_
  refine wp_seq ?_
  refine rg_lit ?_
  refine pl_val (want_no rfl) (some 11) rfl (.int .i64 1) (fun _ => by kernel_rfl) ?_
  refine pl_val (want_no rfl) (some 12) rfl (.bool true) (fun _ => by kernel_rfl) ?_
  refine pl_nil ?_
  refine au_then ?_
  refine wp_cond_true (by kernel_rfl) ?_
  refine wp_skip ?_
  refine au_then ?_
  refine wp_seq ?_
  refine wp_block ?_
  refine wp_seq ?_
  refine rg_lit ?_
  refine pl_val (want_no rfl) (some 15) rfl (.slice (some ⟨g1, 0, none⟩) 2 2) (fun _ => by kernel_rfl) ?_
  refine pl_val (want_no rfl) (some 16) rfl (.int .i64 1) (fun _ => by kernel_rfl) ?_
  refine pl_val (want_no rfl) (some 17) rfl (.int .u64 x) (fun _ => by kernel_rfl) ?_
  refine pl_val (want_no rfl) (some 18) rfl (.int .u8 (cv .u8 x)) (fun _ => by kernel_rfl) ?_
  refine pl_val (want_no rfl) (some 19) rfl (.pointer (some ⟨g1, 1, none⟩)) (fun _ => by kernel_rfl) ?_
  refine pl_put1 M (want_no rfl) rfl 5 _ _ rfl 0 g1 1 (by kernel_rfl) 2 5 (ls [.int .u8 0, .int .u8 0]) rfl (.int .u8 (cv .u8 x)) (ls [.int .u8 0, .int .u8 (cv .u8 x)]) (by kernel_rfl) inz5 (by decide) rfl rfl (put_ls _ 1 _ _ rfl) ?_
  intro u2 M
  replace M : Mem ⟨w, []⟩ [⟨g1, .cells (av 2 (ls [.int .u8 0, .int .u8 (cv .u8 x)])) 5⟩] u2 := M
  refine pl_nil ?_
  refine au_then ?_
  refine rg_lit ?_
  refine pl_val (want_no rfl) (some 20) rfl (.int .u64 x) (fun _ => by kernel_rfl) ?_
  refine pl_val (want_no rfl) (some 21) rfl (.int .u64 (sr x 8)) (fun _ => by kernel_rfl) ?_
  refine pl_val (want_no rfl) (some 0) rfl (.int .u64 (sr x 8)) (fun _ => by kernel_rfl) ?_
  refine pl_nil ?_
  refine au_block ?_
  refine au_then ?_
  refine rg_lit ?_
  refine pl_val (want_no rfl) (some 13) rfl (.int .i64 1) (fun _ => by kernel_rfl) ?_
  refine pl_val (want_no rfl) (some 14) rfl (.int .i64 0) (fun _ => by kernel_rfl) ?_
  refine pl_val (want_no rfl) (some 6) rfl (.int .i64 0) (fun _ => by kernel_rfl) ?_
  refine pl_nil ?_
  refine au_then ?_
  refine rounds_go ?_
  refine wp_seq ?_
  refine wp_seq ?_
  refine rg_lit ?_
  refine pl_val (want_no rfl) (some 11) rfl (.int .i64 0) (fun _ => by kernel_rfl) ?_
  refine pl_val (want_no rfl) (some 12) rfl (.bool true) (fun _ => by kernel_rfl) ?_
  refine pl_nil ?_
  refine au_then ?_
  refine wp_cond_true (by kernel_rfl) ?_
  refine wp_skip ?_
  refine au_then ?_
  refine wp_seq ?_
  refine wp_block ?_
  refine wp_seq ?_
  refine rg_lit ?_
  refine pl_val (want_no rfl) (some 15) rfl (.slice (some ⟨g1, 0, none⟩) 2 2) (fun _ => by kernel_rfl) ?_
  refine pl_val (want_no rfl) (some 16) rfl (.int .i64 0) (fun _ => by kernel_rfl) ?_
  refine pl_val (want_no rfl) (some 17) rfl (.int .u64 (sr x 8)) (fun _ => by kernel_rfl) ?_
  refine pl_val (want_no rfl) (some 18) rfl (.int .u8 (cv .u8 (sr x 8))) (fun _ => by kernel_rfl) ?_
  refine pl_val (want_no rfl) (some 19) rfl (.pointer (some ⟨g1, 0, none⟩)) (fun _ => by kernel_rfl) ?_
  refine pl_put1 M (want_no rfl) rfl 5 _ _ rfl 0 g1 0 (by kernel_rfl) 2 5 (ls [.int .u8 0, .int .u8 (cv .u8 x)]) rfl (.int .u8 (cv .u8 (sr x 8))) (ls [.int .u8 (cv .u8 (sr x 8)), .int .u8 (cv .u8 x)]) (by kernel_rfl) inz5 (by decide) rfl rfl (put_ls _ 0 _ _ rfl) ?_
  intro u3 M
  replace M : Mem ⟨w, []⟩ [⟨g1, .cells (av 2 (ls [.int .u8 (cv .u8 (sr x 8)), .int .u8 (cv .u8 x)])) 5⟩] u3 := M
  refine pl_nil ?_
  refine au_then ?_
  refine rg_lit ?_
  refine pl_val (want_no rfl) (some 20) rfl (.int .u64 (sr x 8)) (fun _ => by kernel_rfl) ?_
  refine pl_val (want_no rfl) (some 21) rfl (.int .u64 (sr (sr x 8) 8)) (fun _ => by kernel_rfl) ?_
  refine pl_val (want_no rfl) (some 0) rfl (.int .u64 (sr (sr x 8) 8)) (fun _ => by kernel_rfl) ?_
  refine pl_nil ?_
  refine au_block ?_
  refine au_then ?_
  refine rg_lit ?_
  refine pl_val (want_no rfl) (some 13) rfl (.int .i64 0) (fun _ => by kernel_rfl) ?_
  refine pl_val (want_no rfl) (some 14) rfl (.int .i64 (-1)) (fun _ => by kernel_rfl) ?_
  refine pl_val (want_no rfl) (some 6) rfl (.int .i64 (-1)) (fun _ => by kernel_rfl) ?_
  refine pl_nil ?_
  refine au_then ?_
  refine rounds_go ?_
  refine wp_seq ?_
  refine wp_seq ?_
  refine rg_lit ?_
  refine pl_val (want_no rfl) (some 11) rfl (.int .i64 (-1)) (fun _ => by kernel_rfl) ?_
  refine pl_val (want_no rfl) (some 12) rfl (.bool false) (fun _ => by kernel_rfl) ?_
  refine pl_nil ?_
  refine au_then ?_
  refine wp_cond_false (by kernel_rfl) ?_
  refine wp_exit ?_
  refine au_then_exit ?_
  refine au_then_exit ?_
  refine au_block_exit ?_
  refine au_then ?_
  refine wp_seq ?_
  refine rg_lit ?_
  refine pl_val (want_no rfl) (some 22) rfl (.slice (some ⟨g1, 0, none⟩) 2 2) (fun _ => by kernel_rfl) ?_
  refine pl_back M (want_no rfl) (some 23) rfl _ rfl 0 g1 2 2 (by kernel_rfl) _ rfl [(cv .u8 (sr x 8)), (cv .u8 x)] 2 (sb_ls [(cv .u8 (sr x 8)), (cv .u8 x)] _) rfl (by intro x hx; simp only [List.mem_cons, List.mem_nil_iff, or_false] at hx; rcases hx with rfl | rfl <;> exact cv8_nn _) ?_
  refine pl_val (want_no rfl) (some 4) rfl (.string (bs [(cv .u8 (sr x 8)), (cv .u8 x)])) (fun _ => by kernel_rfl) ?_
  refine pl_nil ?_
  refine au_then ?_
  refine wp_ret ?_
  have e0 : (be2 x) = (bs [(cv .u8 (sr x 8)), (cv .u8 x)]) := rfl
  exact bodyPost_ret (v := .string (bs [(cv .u8 (sr x 8)), (cv .u8 x)])) (results_tmp1 Try.results42 _ _ _ (by kernel_rfl)) (by kernel_rfl) ⟨by rw [e0], below_grown M.old⟩

set_option maxRecDepth 100000 in
set_option maxHeartbeats 4000000 in
set_option linter.unusedSimpArgs false in
theorem c_bytes4 (x : Int) (w : World) (hL : Laid w)  :
    Calls Try.prog 75 #[.int .u32 x] w fun r w' => r = .returned (.string (be4 (cv .u64 x))) ∧ Below w.heap.size w w' := by
  go_enter Try.func75, Try.ntmps75
  have M := Mem.start hL
  refine wp_seq ?_
  refine rg_lit ?_
  refine pl_val (want_no rfl) (some 2) rfl (.string ⟨#[]⟩) (fun _ => by kernel_rfl) ?_
  refine pl_nil ?_
  refine au_then ?_
  refine wp_seq ?_
  refine rg_lit ?_
  refine pl_call M (want_no rfl) (some 6) rfl 81 #[] (.int .i64 4) (fun _ => by kernel_rfl) (fun w M => c_size4 w M.laid) ?_
  intro u1 M
  refine pl_mk M (want_no rfl) (some 7) rfl (fun g1 => .slice (some ⟨g1, 0, none⟩) 4 4) (.cells (av 4 (ls [.int .u8 0, .int .u8 0, .int .u8 0, .int .u8 0])) 5) (fun _ => by kernel_rfl) ?_
  intro g1 u2 M
  replace M : Mem ⟨w, []⟩ [⟨g1, .cells (av 4 (ls [.int .u8 0, .int .u8 0, .int .u8 0, .int .u8 0])) 5⟩] u2 := M
  refine pl_val (want_no rfl) (some 3) rfl (.slice (some ⟨g1, 0, none⟩) 4 4) (fun _ => by kernel_rfl) ?_
  refine pl_nil ?_
  refine au_then ?_
  refine wp_seq ?_
  refine rg_lit ?_
  refine pl_val (want_no rfl) (some 8) rfl (.int .u32 x) (fun _ => by kernel_rfl) ?_
  refine pl_val (want_no rfl) (some 9) rfl (.int .u64 (cv .u64 x)) (fun _ => by kernel_rfl) ?_
  refine pl_val (want_no rfl) (some 4) rfl (.int .u64 (cv .u64 x)) (fun _ => by kernel_rfl) ?_
  refine pl_nil ?_
  refine au_then ?_
  refine wp_seq ?_
  refine wp_seq ?_
  refine rg_lit ?_
  refine pl_val (want_no rfl) (some 10) rfl (.slice (some ⟨g1, 0, none⟩) 4 4) (fun _ => by kernel_rfl) ?_
  refine pl_val (want_no rfl) (some 11) rfl (.int .i64 4) (fun _ => by kernel_rfl) ?_
  refine pl_val (want_no rfl) (some 12) rfl (.int .i64 3) (fun _ => by kernel_rfl) ?_
  refine pl_val (want_no rfl) (some 5) rfl (.int .i64 3) (fun _ => by kernel_rfl) ?_
  refine pl_nil ?_
  refine au_then ?_
  refine wp_block ?_
  refine wp_loop_rounds 5 ?_
  refine rounds_go ?_
  refine wp_seq ?_
  refine wp_seq ?_
  refine rg_lit ?_
  refine pl_val (want_no rfl) (some 13) rfl (.int .i64 3) (fun _ => by kernel_rfl) ?_
  refine pl_val (want_no rfl) (some 14) rfl (.bool true) (fun _ => by kernel_rfl) ?_
  refine pl_nil ?_
  refine au_then ?_
  refine wp_cond_true (by kernel_rfl) ?_
  refine wp_skip ?_
  refine au_then ?_
  refine wp_seq ?_
  refine wp_block ?_
  refine wp_seq ?_
  refine rg_lit ?_
  refine pl_val (want_no rfl) (some 17) rfl (.slice (some ⟨g1, 0, none⟩) 4 4) (fun _ => by kernel_rfl) ?_
  refine pl_val (want_no rfl) (some 18) rfl (.int .i64 3) (fun _ => by kernel_rfl) ?_
  refine pl_val (want_no rfl) (some 19) rfl (.int .u64 (cv .u64 x)) (fun _ => by kernel_rfl) ?_
  refine pl_val (want_no rfl) (some 20) rfl (.int .u8 (cv .u8 (cv .u64 x))) (fun _ => by kernel_rfl) ?_
  refine pl_val (want_no rfl) (some 21) rfl (.pointer (some ⟨g1, 3, none⟩)) (fun _ => by kernel_rfl) ?_
  refine pl_put1 M (want_no rfl) rfl 5 _ _ rfl 0 g1 3 (by kernel_rfl) 4 5 (ls [.int .u8 0, .int .u8 0, .int .u8 0, .int .u8 0]) rfl (.int .u8 (cv .u8 (cv .u64 x))) (ls [.int .u8 0, .int .u8 0, .int .u8 0, .int .u8 (cv .u8 (cv .u64 x))]) (by kernel_rfl) inz5 (by decide) rfl rfl (put_ls _ 3 _ _ rfl) ?_
  intro u3 M
  replace M : Mem ⟨w, []⟩ [⟨g1, .cells (av 4 (ls [.int .u8 0, .int .u8 0, .int .u8 0, .int .u8 (cv .u8 (cv .u64 x))])) 5⟩] u3 := M
  refine pl_nil ?_
  refine au_then ?_
  refine rg_lit ?_
  refine pl_val (want_no rfl) (some 22) rfl (.int .u64 (cv .u64 x)) (fun _ => by kernel_rfl) ?_
  refine pl_val (want_no rfl) (some 23) rfl (.int .u64 (sr (cv .u64 x) 8)) (fun _ => by kernel_rfl) ?_
  refine pl_val (want_no rfl) (some 4) rfl (.int .u64 (sr (cv .u64 x) 8)) (fun _ => by kernel_rfl) ?_
  refine pl_nil ?_
  refine au_block ?_
  refine au_then ?_
  refine rg_lit ?_
  refine pl_val (want_no rfl) (some 15) rfl (.int .i64 3) (fun _ => by kernel_rfl) ?_
  refine pl_val (want_no rfl) (some 16) rfl (.int .i64 2) (fun _ => by kernel_rfl) ?_
  refine pl_val (want_no rfl) (some 5) rfl (.int .i64 2) (fun _ => by kernel_rfl) ?_
  refine pl_nil ?_
  refine au_then ?_
  refine rounds_go ?_
  refine wp_seq ?_
  refine wp_seq ?_
  refine rg_lit ?_
  refine pl_val (want_no rfl) (some 13) rfl (.int .i64 2) (fun _ => by kernel_rfl) ?_
  refine pl_val (want_no rfl) (some 14) rfl (.bool true) (fun _ => by kernel_rfl) ?_
  refine pl_nil ?_
  refine au_then ?_
  refine wp_cond_true (by kernel_rfl) ?_
  refine wp_skip ?_
  refine au_then ?_
  refine wp_seq ?_
  refine wp_block ?_
  refine wp_seq ?_
  refine rg_lit ?_
  refine pl_val (want_no rfl) (some 17) rfl (.slice (some ⟨g1, 0, none⟩) 4 4) (fun _ => by kernel_rfl) ?_
  refine pl_val (want_no rfl) (some 18) rfl (.int .i64 2) (fun _ => by kernel_rfl) ?_
  refine pl_val (want_no rfl) (some 19) rfl (.int .u64 (sr (cv .u64 x) 8)) (fun _ => by kernel_rfl) ?_
  refine pl_val (want_no rfl) (some 20) rfl (.int .u8 (cv .u8 (sr (cv .u64 x) 8))) (fun _ => by kernel_rfl) ?_
  refine pl_val (want_no rfl) (some 21) rfl (.pointer (some ⟨g1, 2, none⟩)) (fun _ => by kernel_rfl) ?_
  refine pl_put1 M (want_no rfl) rfl 5 _ _ rfl 0 g1 2 (by kernel_rfl) 4 5 (ls [.int .u8 0, .int .u8 0, .int .u8 0, .int .u8 (cv .u8 (cv .u64 x))]) rfl (.int .u8 (cv .u8 (sr (cv .u64 x) 8))) (ls [.int .u8 0, .int .u8 0, .int .u8 (cv .u8 (sr (cv .u64 x) 8)), .int .u8 (cv .u8 (cv .u64 x))]) (by kernel_rfl) inz5 (by decide) rfl rfl (put_ls _ 2 _ _ rfl) ?_
  intro u4 M
  replace M : Mem ⟨w, []⟩ [⟨g1, .cells (av 4 (ls [.int .u8 0, .int .u8 0, .int .u8 (cv .u8 (sr (cv .u64 x) 8)), .int .u8 (cv .u8 (cv .u64 x))])) 5⟩] u4 := M
  refine pl_nil ?_
  refine au_then ?_
  refine rg_lit ?_
  refine pl_val (want_no rfl) (some 22) rfl (.int .u64 (sr (cv .u64 x) 8)) (fun _ => by kernel_rfl) ?_
  refine pl_val (want_no rfl) (some 23) rfl (.int .u64 (sr (sr (cv .u64 x) 8) 8)) (fun _ => by kernel_rfl) ?_
  refine pl_val (want_no rfl) (some 4) rfl (.int .u64 (sr (sr (cv .u64 x) 8) 8)) (fun _ => by kernel_rfl) ?_
  refine pl_nil ?_
  refine au_block ?_
  refine au_then ?_
  refine rg_lit ?_
  refine pl_val (want_no rfl) (some 15) rfl (.int .i64 2) (fun _ => by kernel_rfl) ?_
  refine pl_val (want_no rfl) (some 16) rfl (.int .i64 1) (fun _ => by kernel_rfl) ?_
  refine pl_val (want_no rfl) (some 5) rfl (.int .i64 1) (fun _ => by kernel_rfl) ?_
  refine pl_nil ?_
  refine au_then ?_
  refine rounds_go ?_
  refine wp_seq ?_
  refine wp_seq ?_
  refine rg_lit ?_
  refine pl_val (want_no rfl) (some 13) rfl (.int .i64 1) (fun _ => by kernel_rfl) ?_
  refine pl_val (want_no rfl) (some 14) rfl (.bool true) (fun _ => by kernel_rfl) ?_
  refine pl_nil ?_
  refine au_then ?_
  refine wp_cond_true (by kernel_rfl) ?_
  refine wp_skip ?_
  refine au_then ?_
  refine wp_seq ?_
  refine wp_block ?_
  refine wp_seq ?_
  refine rg_lit ?_
  refine pl_val (want_no rfl) (some 17) rfl (.slice (some ⟨g1, 0, none⟩) 4 4) (fun _ => by kernel_rfl) ?_
  refine pl_val (want_no rfl) (some 18) rfl (.int .i64 1) (fun _ => by kernel_rfl) ?_
  refine pl_val (want_no rfl) (some 19) rfl (.int .u64 (sr (sr (cv .u64 x) 8) 8)) (fun _ => by kernel_rfl) ?_
  refine pl_val (want_no rfl) (some 20) rfl (.int .u8 (cv .u8 (sr (sr (cv .u64 x) 8) 8))) (fun _ => by kernel_rfl) ?_
  refine pl_val (want_no rfl) (some 21) rfl (.pointer (some ⟨g1, 1, none⟩)) (fun _ => by kernel_rfl) ?_
  refine pl_put1 M (want_no rfl) rfl 5 _ _ rfl 0 g1 1 (by kernel_rfl) 4 5 (ls [.int .u8 0, .int .u8 0, .int .u8 (cv .u8 (sr (cv .u64 x) 8)), .int .u8 (cv .u8 (cv .u64 x))]) rfl (.int .u8 (cv .u8 (sr (sr (cv .u64 x) 8) 8))) (ls [.int .u8 0, .int .u8 (cv .u8 (sr (sr (cv .u64 x) 8) 8)), .int .u8 (cv .u8 (sr (cv .u64 x) 8)), .int .u8 (cv .u8 (cv .u64 x))]) (by kernel_rfl) inz5 (by decide) rfl rfl (put_ls _ 1 _ _ rfl) ?_
  intro u5 M
  replace M : Mem ⟨w, []⟩ [⟨g1, .cells (av 4 (ls [.int .u8 0, .int .u8 (cv .u8 (sr (sr (cv .u64 x) 8) 8)), .int .u8 (cv .u8 (sr (cv .u64 x) 8)), .int .u8 (cv .u8 (cv .u64 x))])) 5⟩] u5 := M
  refine pl_nil ?_
  refine au_then ?_
  refine rg_lit ?_
  refine pl_val (want_no rfl) (some 22) rfl (.int .u64 (sr (sr (cv .u64 x) 8) 8)) (fun _ => by kernel_rfl) ?_
  refine pl_val (want_no rfl) (some 23) rfl (.int .u64 (sr (sr (sr (cv .u64 x) 8) 8) 8)) (fun _ => by kernel_rfl) ?_
  refine pl_val (want_no rfl) (some 4) rfl (.int .u64 (sr (sr (sr (cv .u64 x) 8) 8) 8)) (fun _ => by kernel_rfl) ?_
  refine pl_nil ?_
  refine au_block ?_
  refine au_then ?_
  refine rg_lit ?_
  refine pl_val (want_no rfl) (some 15) rfl (.int .i64 1) (fun _ => by kernel_rfl) ?_
  refine pl_val (want_no rfl) (some 16) rfl (.int .i64 0) (fun _ => by kernel_rfl) ?_
  refine pl_val (want_no rfl) (some 5) rfl (.int .i64 0) (fun _ => by kernel_rfl) ?_
  refine pl_nil ?_
  refine au_then ?_
  refine rounds_go ?_
  refine wp_seq ?_
  refine wp_seq ?_
  refine rg_lit ?_
  refine pl_val (want_no rfl) (some 13) rfl (.int .i64 0) (fun _ => by kernel_rfl) ?_
  refine pl_val (want_no rfl) (some 14) rfl (.bool true) (fun _ => by kernel_rfl) ?_
  refine pl_nil ?_
  refine au_then ?_
  refine wp_cond_true (by kernel_rfl) ?_
  refine wp_skip ?_
  refine au_then ?_
  refine wp_seq ?_
  refine wp_block ?_
  refine wp_seq ?_
  refine rg_lit ?_
  refine pl_val (want_no rfl) (some 17) rfl (.slice (some ⟨g1, 0, none⟩) 4 4) (fun _ => by kernel_rfl) ?_
  refine pl_val (want_no rfl) (some 18) rfl (.int .i64 0) (fun _ => by kernel_rfl) ?_
  refine pl_val (want_no rfl) (some 19) rfl (.int .u64 (sr (sr (sr (cv .u64 x) 8) 8) 8)) (fun _ => by kernel_rfl) ?_
  refine pl_val (want_no rfl) (some 20) rfl (.int .u8 (cv .u8 (sr (sr (sr (cv .u64 x) 8) 8) 8))) (fun _ => by kernel_rfl) ?_
  refine pl_val (want_no rfl) (some 21) rfl (.pointer (some ⟨g1, 0, none⟩)) (fun _ => by kernel_rfl) ?_
  refine pl_put1 M (want_no rfl) rfl 5 _ _ rfl 0 g1 0 (by kernel_rfl) 4 5 (ls [.int .u8 0, .int .u8 (cv .u8 (sr (sr (cv .u64 x) 8) 8)), .int .u8 (cv .u8 (sr (cv .u64 x) 8)), .int .u8 (cv .u8 (cv .u64 x))]) rfl (.int .u8 (cv .u8 (sr (sr (sr (cv .u64 x) 8) 8) 8))) (ls [.int .u8 (cv .u8 (sr (sr (sr (cv .u64 x) 8) 8) 8)), .int .u8 (cv .u8 (sr (sr (cv .u64 x) 8) 8)), .int .u8 (cv .u8 (sr (cv .u64 x) 8)), .int .u8 (cv .u8 (cv .u64 x))]) (by kernel_rfl) inz5 (by decide) rfl rfl (put_ls _ 0 _ _ rfl) ?_
  intro u6 M
  replace M : Mem ⟨w, []⟩ [⟨g1, .cells (av 4 (ls [.int .u8 (cv .u8 (sr (sr (sr (cv .u64 x) 8) 8) 8)), .int .u8 (cv .u8 (sr (sr (cv .u64 x) 8) 8)), .int .u8 (cv .u8 (sr (cv .u64 x) 8)), .int .u8 (cv .u8 (cv .u64 x))])) 5⟩] u6 := M
  refine pl_nil ?_
  refine au_then ?_
  refine rg_lit ?_
  refine pl_val (want_no rfl) (some 22) rfl (.int .u64 (sr (sr (sr (cv .u64 x) 8) 8) 8)) (fun _ => by kernel_rfl) ?_
  refine pl_val (want_no rfl) (some 23) rfl (.int .u64 (sr (sr (sr (sr (cv .u64 x) 8) 8) 8) 8)) (fun _ => by kernel_rfl) ?_
  refine pl_val (want_no rfl) (some 4) rfl (.int .u64 (sr (sr (sr (sr (cv .u64 x) 8) 8) 8) 8)) (fun _ => by kernel_rfl) ?_
  refine pl_nil ?_
  refine au_block ?_
  refine au_then ?_
  refine rg_lit ?_
  refine pl_val (want_no rfl) (some 15) rfl (.int .i64 0) (fun _ => by kernel_rfl) ?_
  refine pl_val (want_no rfl) (some 16) rfl (.int .i64 (-1)) (fun _ => by kernel_rfl) ?_
  refine pl_val (want_no rfl) (some 5) rfl (.int .i64 (-1)) (fun _ => by kernel_rfl) ?_
  refine pl_nil ?_
  refine au_then ?_
  refine rounds_go ?_
  refine wp_seq ?_
  refine wp_seq ?_
  refine rg_lit ?_
  refine pl_val (want_no rfl) (some 13) rfl (.int .i64 (-1)) (fun _ => by kernel_rfl) ?_
  refine pl_val (want_no rfl) (some 14) rfl (.bool false) (fun _ => by kernel_rfl) ?_
  refine pl_nil ?_
  refine au_then ?_
  refine wp_cond_false (by kernel_rfl) ?_
  refine wp_exit ?_
  refine au_then_exit ?_
  refine au_then_exit ?_
  refine au_block_exit ?_
  refine au_then ?_
  refine wp_seq ?_
  refine rg_lit ?_
  refine pl_val (want_no rfl) (some 24) rfl (.slice (some ⟨g1, 0, none⟩) 4 4) (fun _ => by kernel_rfl) ?_
  refine pl_back M (want_no rfl) (some 25) rfl _ rfl 0 g1 4 4 (by kernel_rfl) _ rfl [(cv .u8 (sr (sr (sr (cv .u64 x) 8) 8) 8)), (cv .u8 (sr (sr (cv .u64 x) 8) 8)), (cv .u8 (sr (cv .u64 x) 8)), (cv .u8 (cv .u64 x))] 4 (sb_ls [(cv .u8 (sr (sr (sr (cv .u64 x) 8) 8) 8)), (cv .u8 (sr (sr (cv .u64 x) 8) 8)), (cv .u8 (sr (cv .u64 x) 8)), (cv .u8 (cv .u64 x))] _) rfl (by intro x hx; simp only [List.mem_cons, List.mem_nil_iff, or_false] at hx; rcases hx with rfl | rfl | rfl | rfl <;> exact cv8_nn _) ?_
  refine pl_val (want_no rfl) (some 2) rfl (.string (bs [(cv .u8 (sr (sr (sr (cv .u64 x) 8) 8) 8)), (cv .u8 (sr (sr (cv .u64 x) 8) 8)), (cv .u8 (sr (cv .u64 x) 8)), (cv .u8 (cv .u64 x))])) (fun _ => by kernel_rfl) ?_
  refine pl_nil ?_
  refine au_then ?_
  refine wp_ret ?_
  have e0 : (be4 (cv .u64 x)) = (bs [(cv .u8 (sr (sr (sr (cv .u64 x) 8) 8) 8)), (cv .u8 (sr (sr (cv .u64 x) 8) 8)), (cv .u8 (sr (cv .u64 x) 8)), (cv .u8 (cv .u64 x))]) := rfl
  exact bodyPost_ret (v := .string (bs [(cv .u8 (sr (sr (sr (cv .u64 x) 8) 8) 8)), (cv .u8 (sr (sr (cv .u64 x) 8) 8)), (cv .u8 (sr (cv .u64 x) 8)), (cv .u8 (cv .u64 x))])) (results_tmp1 Try.results75 _ _ _ (by kernel_rfl)) (by kernel_rfl) ⟨by rw [e0], below_grown M.old⟩

set_option maxRecDepth 100000 in
set_option maxHeartbeats 4000000 in
set_option linter.unusedSimpArgs false in
theorem c_U32 (x : Int) (w : World) (hL : Laid w)  :
    Calls Try.prog 61 #[.int .u32 x] w fun r w' => r = .returned (.string (be4 (cv .u64 x))) ∧ Below w.heap.size w w' := by
  go_enter Try.func61, Try.ntmps61
  have M := Mem.start hL
  refine wp_seq ?_
  refine rg_lit ?_
  refine pl_val (want_no rfl) (some 2) rfl (.string ⟨#[]⟩) (fun _ => by kernel_rfl) ?_
  refine pl_nil ?_
  refine au_then ?_
  refine wp_seq ?_
  refine rg_lit ?_
  refine pl_val (want_no rfl) (some 3) rfl (.int .u32 x) (fun _ => by kernel_rfl) ?_
  refine pl_call M (want_no rfl) (some 4) rfl 75 #[.int .u32 x] (.string (be4 (cv .u64 x))) (fun _ => by kernel_rfl) (fun w M => c_bytes4 x w M.laid) ?_
  intro u1 M
  refine pl_val (want_no rfl) (some 2) rfl (.string (be4 (cv .u64 x))) (fun _ => by kernel_rfl) ?_
  refine pl_nil ?_
  refine au_then ?_
  refine wp_ret ?_
  exact bodyPost_ret (v := .string (be4 (cv .u64 x))) (results_tmp1 Try.results61 _ _ _ (by kernel_rfl)) (by kernel_rfl) ⟨rfl, below_grown M.old⟩

set_option maxRecDepth 100000 in
set_option maxHeartbeats 4000000 in
set_option linter.unusedSimpArgs false in
theorem c_num4 (x : Int) (w : World) (hL : Laid w)  :
    Calls Try.prog 42 #[.int .u64 x, .int .i64 4] w fun r w' => r = .returned (.string (be4 x)) ∧ Below w.heap.size w w' := by
  go_enter Try.func42, Try.ntmps42
  have M := Mem.start hL
  refine wp_seq ?_
  refine rg_lit ?_
  refine pl_val (want_no rfl) (some 4) rfl (.string ⟨#[]⟩) (fun _ => by kernel_rfl) ?_
  refine pl_nil ?_
  refine au_then ?_
  refine wp_seq ?_
  refine rg_lit ?_
  refine pl_val (want_no rfl) (some 7) rfl (.int .i64 4) (fun _ => by kernel_rfl) ?_
  refine pl_mk M (want_no rfl) (some 8) rfl (fun g1 => .slice (some ⟨g1, 0, none⟩) 4 4) (.cells (av 4 (ls [.int .u8 0, .int .u8 0, .int .u8 0, .int .u8 0])) 5) (fun _ => by kernel_rfl) ?_
  intro g1 u1 M
  replace M : Mem ⟨w, []⟩ [⟨g1, .cells (av 4 (ls [.int .u8 0, .int .u8 0, .int .u8 0, .int .u8 0])) 5⟩] u1 := M
  refine pl_val (want_no rfl) (some 5) rfl (.slice (some ⟨g1, 0, none⟩) 4 4) (fun _ => by kernel_rfl) ?_
  refine pl_nil ?_
  refine au_then ?_
  refine wp_seq ?_
  refine wp_seq ?_
  refine rg_lit ?_
  refine pl_val (want_no rfl) (some 9) rfl (.int .i64 4) (fun _ => by kernel_rfl) ?_
  refine pl_val (want_no rfl) (some 10) rfl (.int .i64 3) (fun _ => by kernel_rfl) ?_
  refine pl_val (want_no rfl) (some 6) rfl (.int .i64 3) (fun _ => by kernel_rfl) ?_
  refine pl_nil ?_
  refine au_then ?_
  refine wp_block ?_
  refine wp_loop_rounds 5 ?_
  refine rounds_go ?_
  refine wp_seq ?_
  refine wp_seq ?_
  refine rg_lit ?_
  refine pl_val (want_no rfl) (some 11) rfl (.int .i64 3) (fun _ => by kernel_rfl) ?_
  refine pl_val (want_no rfl) (some 12) rfl (.bool true) (fun _ => by kernel_rfl) ?_
  refine pl_nil ?_
  refine au_then ?_
  refine wp_cond_true (by kernel_rfl) ?_
  refine wp_skip ?_
  refine au_then ?_
  refine wp_seq ?_
  refine wp_block ?_
  refine wp_seq ?_
  refine rg_lit ?_
  refine pl_val (want_no rfl) (some 15) rfl (.slice (some ⟨g1, 0, none⟩) 4 4) (fun _ => by kernel_rfl) ?_
  refine pl_val (want_no rfl) (some 16) rfl (.int .i64 3) (fun _ => by kernel_rfl) ?_
  refine pl_val (want_no rfl) (some 17) rfl (.int .u64 x) (fun _ => by kernel_rfl) ?_
  refine pl_val (want_no rfl) (some 18) rfl (.int .u8 (cv .u8 x)) (fun _ => by kernel_rfl) ?_
  refine pl_val (want_no rfl) (some 19) rfl (.pointer (some ⟨g1, 3, none⟩)) (fun _ => by kernel_rfl) ?_
  refine pl_put1 M (want_no rfl) rfl 5 _ _ rfl 0 g1 3 (by kernel_rfl) 4 5 (ls [.int .u8 0, .int .u8 0, .int .u8 0, .int .u8 0]) rfl (.int .u8 (cv .u8 x)) (ls [.int .u8 0, .int .u8 0, .int .u8 0, .int .u8 (cv .u8 x)]) (by kernel_rfl) inz5 (by decide) rfl rfl (put_ls _ 3 _ _ rfl) ?_
  intro u2 M
  replace M : Mem ⟨w, []⟩ [⟨g1, .cells (av 4 (ls [.int .u8 0, .int .u8 0, .int .u8 0, .int .u8 (cv .u8 x)])) 5⟩] u2 := M
  refine pl_nil ?_
  refine au_then ?_
  refine rg_lit ?_
  refine pl_val (want_no rfl) (some 20) rfl (.int .u64 x) (fun _ => by kernel_rfl) ?_
  refine pl_val (want_no rfl) (some 21) rfl (.int .u64 (sr x 8)) (fun _ => by kernel_rfl) ?_
  refine pl_val (want_no rfl) (some 0) rfl (.int .u64 (sr x 8)) (fun _ => by kernel_rfl) ?_
  refine pl_nil ?_
  refine au_block ?_
  refine au_then ?_
  refine rg_lit ?_
  refine pl_val (want_no rfl) (some 13) rfl (.int .i64 3) (fun _ => by kernel_rfl) ?_
  refine pl_val (want_no rfl) (some 14) rfl (.int .i64 2) (fun _ => by kernel_rfl) ?_
  refine pl_val (want_no rfl) (some 6) rfl (.int .i64 2) (fun _ => by kernel_rfl) ?_
  refine pl_nil ?_
  refine au_then ?_
  refine rounds_go ?_
  refine wp_seq ?_
  refine wp_seq ?_
  refine rg_lit ?_
  refine pl_val (want_no rfl) (some 11) rfl (.int .i64 2) (fun _ => by kernel_rfl) ?_
  refine pl_val (want_no rfl) (some 12) rfl (.bool true) (fun _ => by kernel_rfl) ?_
  refine pl_nil ?_
  refine au_then ?_
  refine wp_cond_true (by kernel_rfl) ?_
  refine wp_skip ?_
  refine au_then ?_
  refine wp_seq ?_
  refine wp_block ?_
  refine wp_seq ?_
  refine rg_lit ?_
  refine pl_val (want_no rfl) (some 15) rfl (.slice (some ⟨g1, 0, none⟩) 4 4) (fun _ => by kernel_rfl) ?_
  refine pl_val (want_no rfl) (some 16) rfl (.int .i64 2) (fun _ => by kernel_rfl) ?_
  refine pl_val (want_no rfl) (some 17) rfl (.int .u64 (sr x 8)) (fun _ => by kernel_rfl) ?_
  refine pl_val (want_no rfl) (some 18) rfl (.int .u8 (cv .u8 (sr x 8))) (fun _ => by kernel_rfl) ?_
  refine pl_val (want_no rfl) (some 19) rfl (.pointer (some ⟨g1, 2, none⟩)) (fun _ => by kernel_rfl) ?_
  refine pl_put1 M (want_no rfl) rfl 5 _ _ rfl 0 g1 2 (by kernel_rfl) 4 5 (ls [.int .u8 0, .int .u8 0, .int .u8 0, .int .u8 (cv .u8 x)]) rfl (.int .u8 (cv .u8 (sr x 8))) (ls [.int .u8 0, .int .u8 0, .int .u8 (cv .u8 (sr x 8)), .int .u8 (cv .u8 x)]) (by kernel_rfl) inz5 (by decide) rfl rfl (put_ls _ 2 _ _ rfl) ?_
  intro u3 M
  replace M : Mem ⟨w, []⟩ [⟨g1, .cells (av 4 (ls [.int .u8 0, .int .u8 0, .int .u8 (cv .u8 (sr x 8)), .int .u8 (cv .u8 x)])) 5⟩] u3 := M
  refine pl_nil ?_
  refine au_then ?_
  refine rg_lit ?_
  refine pl_val (want_no rfl) (some 20) rfl (.int .u64 (sr x 8)) (fun _ => by kernel_rfl) ?_
  refine pl_val (want_no rfl) (some 21) rfl (.int .u64 (sr (sr x 8) 8)) (fun _ => by kernel_rfl) ?_
  refine pl_val (want_no rfl) (some 0) rfl (.int .u64 (sr (sr x 8) 8)) (fun _ => by kernel_rfl) ?_
  refine pl_nil ?_
  refine au_block ?_
  refine au_then ?_
  refine rg_lit ?_
  refine pl_val (want_no rfl) (some 13) rfl (.int .i64 2) (fun _ => by kernel_rfl) ?_
  refine pl_val (want_no rfl) (some 14) rfl (.int .i64 1) (fun _ => by kernel_rfl) ?_
  refine pl_val (want_no rfl) (some 6) rfl (.int .i64 1) (fun _ => by kernel_rfl) ?_
  refine pl_nil ?_
  refine au_then ?_
  refine rounds_go ?_
  refine wp_seq ?_
  refine wp_seq ?_
  refine rg_lit ?_
  refine pl_val (want_no rfl) (some 11) rfl (.int .i64 1) (fun _ => by kernel_rfl) ?_
  refine pl_val (want_no rfl) (some 12) rfl (.bool true) (fun _ => by kernel_rfl) ?_
  refine pl_nil ?_
  refine au_then ?_
  refine wp_cond_true (by kernel_rfl) ?_
  refine wp_skip ?_
  refine au_then ?_
  refine wp_seq ?_
  refine wp_block ?_
  refine wp_seq ?_
  refine rg_lit ?_
  refine pl_val (want_no rfl) (some 15) rfl (.slice (some ⟨g1, 0, none⟩) 4 4) (fun _ => by kernel_rfl) ?_
  refine pl_val (want_no rfl) (some 16) rfl (.int .i64 1) (fun _ => by kernel_rfl) ?_
  refine pl_val (want_no rfl) (some 17) rfl (.int .u64 (sr (sr x 8) 8)) (fun _ => by kernel_rfl) ?_
  refine pl_val (want_no rfl) (some 18) rfl (.int .u8 (cv .u8 (sr (sr x 8) 8))) (fun _ => by kernel_rfl) ?_
  refine pl_val (want_no rfl) (some 19) rfl (.pointer (some ⟨g1, 1, none⟩)) (fun _ => by kernel_rfl) ?_
  refine pl_put1 M (want_no rfl) rfl 5 _ _ rfl 0 g1 1 (by kernel_rfl) 4 5 (ls [.int .u8 0, .int .u8 0, .int .u8 (cv .u8 (sr x 8)), .int .u8 (cv .u8 x)]) rfl (.int .u8 (cv .u8 (sr (sr x 8) 8))) (ls [.int .u8 0, .int .u8 (cv .u8 (sr (sr x 8) 8)), .int .u8 (cv .u8 (sr x 8)), .int .u8 (cv .u8 x)]) (by kernel_rfl) inz5 (by decide) rfl rfl (put_ls _ 1 _ _ rfl) ?_
  intro u4 M
  replace M : Mem ⟨w, []⟩ [⟨g1, .cells (av 4 (ls [.int .u8 0, .int .u8 (cv .u8 (sr (sr x 8) 8)), .int .u8 (cv .u8 (sr x 8)), .int .u8 (cv .u8 x)])) 5⟩] u4 := M
  refine pl_nil ?_
  refine au_then ?_
  refine rg_lit ?_
  refine pl_val (want_no rfl) (some 20) rfl (.int .u64 (sr (sr x 8) 8)) (fun _ => by kernel_rfl) ?_
  refine pl_val (want_no rfl) (some 21) rfl (.int .u64 (sr (sr (sr x 8) 8) 8)) (fun _ => by kernel_rfl) ?_
  refine pl_val (want_no rfl) (some 0) rfl (.int .u64 (sr (sr (sr x 8) 8) 8)) (fun _ => by kernel_rfl) ?_
  refine pl_nil ?_
  refine au_block ?_
  refine au_then ?_
  refine rg_lit ?_
  refine pl_val (want_no rfl) (some 13) rfl (.int .i64 1) (fun _ => by kernel_rfl) ?_
  refine pl_val (want_no rfl) (some 14) rfl (.int .i64 0) (fun _ => by kernel_rfl) ?_
  refine pl_val (want_no rfl) (some 6) rfl (.int .i64 0) (fun _ => by kernel_rfl) ?_
  refine pl_nil ?_
  refine au_then ?_
  refine rounds_go ?_
  refine wp_seq ?_
  refine wp_seq ?_
  refine rg_lit ?_
  refine pl_val (want_no rfl) (some 11) rfl (.int .i64 0) (fun _ => by kernel_rfl) ?_
  refine pl_val (want_no rfl) (some 12) rfl (.bool true) (fun _ => by kernel_rfl) ?_
  refine pl_nil ?_
  refine au_then ?_
  refine wp_cond_true (by kernel_rfl) ?_
  refine wp_skip ?_
  refine au_then ?_
  refine wp_seq ?_
  refine wp_block ?_
  refine wp_seq ?_
  refine rg_lit ?_
  refine pl_val (want_no rfl) (some 15) rfl (.slice (some ⟨g1, 0, none⟩) 4 4) (fun _ => by kernel_rfl) ?_
  refine pl_val (want_no rfl) (some 16) rfl (.int .i64 0) (fun _ => by kernel_rfl) ?_
  refine pl_val (want_no rfl) (some 17) rfl (.int .u64 (sr (sr (sr x 8) 8) 8)) (fun _ => by kernel_rfl) ?_
  refine pl_val (want_no rfl) (some 18) rfl (.int .u8 (cv .u8 (sr (sr (sr x 8) 8) 8))) (fun _ => by kernel_rfl) ?_
  refine pl_val (want_no rfl) (some 19) rfl (.pointer (some ⟨g1, 0, none⟩)) (fun _ => by kernel_rfl) ?_
  refine pl_put1 M (want_no rfl) rfl 5 _ _ rfl 0 g1 0 (by kernel_rfl) 4 5 (ls [.int .u8 0, .int .u8 (cv .u8 (sr (sr x 8) 8)), .int .u8 (cv .u8 (sr x 8)), .int .u8 (cv .u8 x)]) rfl (.int .u8 (cv .u8 (sr (sr (sr x 8) 8) 8))) (ls [.int .u8 (cv .u8 (sr (sr (sr x 8) 8) 8)), .int .u8 (cv .u8 (sr (sr x 8) 8)), .int .u8 (cv .u8 (sr x 8)), .int .u8 (cv .u8 x)]) (by kernel_rfl) inz5 (by decide) rfl rfl (put_ls _ 0 _ _ rfl) ?_
  intro u5 M
  replace M : Mem ⟨w, []⟩ [⟨g1, .cells (av 4 (ls [.int .u8 (cv .u8 (sr (sr (sr x 8) 8) 8)), .int .u8 (cv .u8 (sr (sr x 8) 8)), .int .u8 (cv .u8 (sr x 8)), .int .u8 (cv .u8 x)])) 5⟩] u5 := M
  refine pl_nil ?_
  refine au_then ?_
  refine rg_lit ?_
  refine pl_val (want_no rfl) (some 20) rfl (.int .u64 (sr (sr (sr x 8) 8) 8)) (fun _ => by kernel_rfl) ?_
  refine pl_val (want_no rfl) (some 21) rfl (.int .u64 (sr (sr (sr (sr x 8) 8) 8) 8)) (fun _ => by kernel_rfl) ?_
  refine pl_val (want_no rfl) (some 0) rfl (.int .u64 (sr (sr (sr (sr x 8) 8) 8) 8)) (fun _ => by kernel_rfl) ?_
  refine pl_nil ?_
  refine au_block ?_
  refine au_then ?_
  refine rg_lit ?_
  refine pl_val (want_no rfl) (some 13) rfl (.int .i64 0) (fun _ => by kernel_rfl) ?_
  refine pl_val (want_no rfl) (some 14) rfl (.int .i64 (-1)) (fun _ => by kernel_rfl) ?_
  refine pl_val (want_no rfl) (some 6) rfl (.int .i64 (-1)) (fun _ => by kernel_rfl) ?_
  refine pl_nil ?_
  refine au_then ?_
  refine rounds_go ?_
  refine wp_seq ?_
  refine wp_seq ?_
  refine rg_lit ?_
  refine pl_val (want_no rfl) (some 11) rfl (.int .i64 (-1)) (fun _ => by kernel_rfl) ?_
  refine pl_val (want_no rfl) (some 12) rfl (.bool false) (fun _ => by kernel_rfl) ?_
  refine pl_nil ?_
  refine au_then ?_
  refine wp_cond_false (by kernel_rfl) ?_
  refine wp_exit ?_
  refine au_then_exit ?_
  refine au_then_exit ?_
  refine au_block_exit ?_
  refine au_then ?_
  refine wp_seq ?_
  refine rg_lit ?_
  refine pl_val (want_no rfl) (some 22) rfl (.slice (some ⟨g1, 0, none⟩) 4 4) (fun _ => by kernel_rfl) ?_
  refine pl_back M (want_no rfl) (some 23) rfl _ rfl 0 g1 4 4 (by kernel_rfl) _ rfl [(cv .u8 (sr (sr (sr x 8) 8) 8)), (cv .u8 (sr (sr x 8) 8)), (cv .u8 (sr x 8)), (cv .u8 x)] 4 (sb_ls [(cv .u8 (sr (sr (sr x 8) 8) 8)), (cv .u8 (sr (sr x 8) 8)), (cv .u8 (sr x 8)), (cv .u8 x)] _) rfl (by intro x hx; simp only [List.mem_cons, List.mem_nil_iff, or_false] at hx; rcases hx with rfl | rfl | rfl | rfl <;> exact cv8_nn _) ?_
  refine pl_val (want_no rfl) (some 4) rfl (.string (bs [(cv .u8 (sr (sr (sr x 8) 8) 8)), (cv .u8 (sr (sr x 8) 8)), (cv .u8 (sr x 8)), (cv .u8 x)])) (fun _ => by kernel_rfl) ?_
  refine pl_nil ?_
  refine au_then ?_
  refine wp_ret ?_
  have e0 : (be4 x) = (bs [(cv .u8 (sr (sr (sr x 8) 8) 8)), (cv .u8 (sr (sr x 8) 8)), (cv .u8 (sr x 8)), (cv .u8 x)]) := rfl
  exact bodyPost_ret (v := .string (bs [(cv .u8 (sr (sr (sr x 8) 8) 8)), (cv .u8 (sr (sr x 8) 8)), (cv .u8 (sr x 8)), (cv .u8 x)])) (results_tmp1 Try.results42 _ _ _ (by kernel_rfl)) (by kernel_rfl) ⟨by rw [e0], below_grown M.old⟩

set_option maxRecDepth 100000 in
set_option maxHeartbeats 4000000 in
set_option linter.unusedSimpArgs false in
theorem c_bytes8 (x : Int) (w : World) (hL : Laid w)  :
    Calls Try.prog 76 #[.int .u64 x] w fun r w' => r = .returned (.string (be8 x)) ∧ Below w.heap.size w w' := by
  go_enter Try.func76, Try.ntmps76
  have M := Mem.start hL
  refine wp_seq ?_
  refine rg_lit ?_
  refine pl_val (want_no rfl) (some 2) rfl (.string ⟨#[]⟩) (fun _ => by kernel_rfl) ?_
  refine pl_nil ?_
  refine au_then ?_
  refine wp_seq ?_
  refine rg_lit ?_
  refine pl_call M (want_no rfl) (some 6) rfl 82 #[] (.int .i64 8) (fun _ => by kernel_rfl) (fun w M => c_size8 w M.laid) ?_
  intro u1 M
  refine pl_mk M (want_no rfl) (some 7) rfl (fun g1 => .slice (some ⟨g1, 0, none⟩) 8 8) (.cells (av 8 (ls [.int .u8 0, .int .u8 0, .int .u8 0, .int .u8 0, .int .u8 0, .int .u8 0, .int .u8 0, .int .u8 0])) 5) (fun _ => by kernel_rfl) ?_
  intro g1 u2 M
  replace M : Mem ⟨w, []⟩ [⟨g1, .cells (av 8 (ls [.int .u8 0, .int .u8 0, .int .u8 0, .int .u8 0, .int .u8 0, .int .u8 0, .int .u8 0, .int .u8 0])) 5⟩] u2 := M
  refine pl_val (want_no rfl) (some 3) rfl (.slice (some ⟨g1, 0, none⟩) 8 8) (fun _ => by kernel_rfl) ?_
  refine pl_nil ?_
  refine au_then ?_
  refine wp_seq ?_
  refine rg_lit ?_
  refine pl_val (want_no rfl) (some 8) rfl (.int .u64 x) (fun _ => by kernel_rfl) ?_
  refine pl_val (want_no rfl) (some 4) rfl (.int .u64 x) (fun _ => by kernel_rfl) ?_
  refine pl_nil ?_
  refine au_then ?_
  refine wp_seq ?_
  refine wp_seq ?_
  refine rg_lit ?_
  refine pl_val (want_no rfl) (some 9) rfl (.slice (some ⟨g1, 0, none⟩) 8 8) (fun _ => by kernel_rfl) ?_
  refine pl_val (want_no rfl) (some 10) rfl (.int .i64 8) (fun _ => by kernel_rfl) ?_
  refine pl_val (want_no rfl) (some 11) rfl (.int .i64 7) (fun _ => by kernel_rfl) ?_
  refine pl_val (want_no rfl) (some 5) rfl (.int .i64 7) (fun _ => by kernel_rfl) ?_
  refine pl_nil ?_
  refine au_then ?_
  refine wp_block ?_
  refine wp_loop_rounds 9 ?_
  refine rounds_go ?_
  refine wp_seq ?_
  refine wp_seq ?_
  refine rg_lit ?_
  refine pl_val (want_no rfl) (some 12) rfl (.int .i64 7) (fun _ => by kernel_rfl) ?_
  refine pl_val (want_no rfl) (some 13) rfl (.bool true) (fun _ => by kernel_rfl) ?_
  refine pl_nil ?_
  refine au_then ?_
  refine wp_cond_true (by kernel_rfl) ?_
  refine wp_skip ?_
  refine au_then ?_
  refine wp_seq ?_
  refine wp_block ?_
  refine wp_seq ?_
  refine rg_lit ?_
  refine pl_val (want_no rfl) (some 16) rfl (.slice (some ⟨g1, 0, none⟩) 8 8) (fun _ => by kernel_rfl) ?_
  refine pl_val (want_no rfl) (some 17) rfl (.int .i64 7) (fun _ => by kernel_rfl) ?_
  refine pl_val (want_no rfl) (some 18) rfl (.int .u64 x) (fun _ => by kernel_rfl) ?_
  refine pl_val (want_no rfl) (some 19) rfl (.int .u8 (cv .u8 x)) (fun _ => by kernel_rfl) ?_
  refine pl_val (want_no rfl) (some 20) rfl (.pointer (some ⟨g1, 7, none⟩)) (fun _ => by kernel_rfl) ?_
  refine pl_put1 M (want_no rfl) rfl 5 _ _ rfl 0 g1 7 (by kernel_rfl) 8 5 (ls [.int .u8 0, .int .u8 0, .int .u8 0, .int .u8 0, .int .u8 0, .int .u8 0, .int .u8 0, .int .u8 0]) rfl (.int .u8 (cv .u8 x)) (ls [.int .u8 0, .int .u8 0, .int .u8 0, .int .u8 0, .int .u8 0, .int .u8 0, .int .u8 0, .int .u8 (cv .u8 x)]) (by kernel_rfl) inz5 (by decide) rfl rfl (put_ls _ 7 _ _ rfl) ?_
  intro u3 M
  replace M : Mem ⟨w, []⟩ [⟨g1, .cells (av 8 (ls [.int .u8 0, .int .u8 0, .int .u8 0, .int .u8 0, .int .u8 0, .int .u8 0, .int .u8 0, .int .u8 (cv .u8 x)])) 5⟩] u3 := M
  refine pl_nil ?_
  refine au_then ?_
  refine rg_lit ?_
  refine pl_val (want_no rfl) (some 21) rfl (.int .u64 x) (fun _ => by kernel_rfl) ?_
  refine pl_val (want_no rfl) (some 22) rfl (.int .u64 (sr x 8)) (fun _ => by kernel_rfl) ?_
  refine pl_val (want_no rfl) (some 4) rfl (.int .u64 (sr x 8)) (fun _ => by kernel_rfl) ?_
  refine pl_nil ?_
  refine au_block ?_
  refine au_then ?_
  refine rg_lit ?_
  refine pl_val (want_no rfl) (some 14) rfl (.int .i64 7) (fun _ => by kernel_rfl) ?_
  refine pl_val (want_no rfl) (some 15) rfl (.int .i64 6) (fun _ => by kernel_rfl) ?_
  refine pl_val (want_no rfl) (some 5) rfl (.int .i64 6) (fun _ => by kernel_rfl) ?_
  refine pl_nil ?_
  refine au_then ?_
  refine rounds_go ?_
  refine wp_seq ?_
  refine wp_seq ?_
  refine rg_lit ?_
  refine pl_val (want_no rfl) (some 12) rfl (.int .i64 6) (fun _ => by kernel_rfl) ?_
  refine pl_val (want_no rfl) (some 13) rfl (.bool true) (fun _ => by kernel_rfl) ?_
  refine pl_nil ?_
  refine au_then ?_
  refine wp_cond_true (by kernel_rfl) ?_
  refine wp_skip ?_
  refine au_then ?_
  refine wp_seq ?_
  refine wp_block ?_
  refine wp_seq ?_
  refine rg_lit ?_
  refine pl_val (want_no rfl) (some 16) rfl (.slice (some ⟨g1, 0, none⟩) 8 8) (fun _ => by kernel_rfl) ?_
  refine pl_val (want_no rfl) (some 17) rfl (.int .i64 6) (fun _ => by kernel_rfl) ?_
  refine pl_val (want_no rfl) (some 18) rfl (.int .u64 (sr x 8)) (fun _ => by kernel_rfl) ?_
  refine pl_val (want_no rfl) (some 19) rfl (.int .u8 (cv .u8 (sr x 8))) (fun _ => by kernel_rfl) ?_
  refine pl_val (want_no rfl) (some 20) rfl (.pointer (some ⟨g1, 6, none⟩)) (fun _ => by kernel_rfl) ?_
  refine pl_put1 M (want_no rfl) rfl 5 _ _ rfl 0 g1 6 (by kernel_rfl) 8 5 (ls [.int .u8 0, .int .u8 0, .int .u8 0, .int .u8 0, .int .u8 0, .int .u8 0, .int .u8 0, .int .u8 (cv .u8 x)]) rfl (.int .u8 (cv .u8 (sr x 8))) (ls [.int .u8 0, .int .u8 0, .int .u8 0, .int .u8 0, .int .u8 0, .int .u8 0, .int .u8 (cv .u8 (sr x 8)), .int .u8 (cv .u8 x)]) (by kernel_rfl) inz5 (by decide) rfl rfl (put_ls _ 6 _ _ rfl) ?_
  intro u4 M
  replace M : Mem ⟨w, []⟩ [⟨g1, .cells (av 8 (ls [.int .u8 0, .int .u8 0, .int .u8 0, .int .u8 0, .int .u8 0, .int .u8 0, .int .u8 (cv .u8 (sr x 8)), .int .u8 (cv .u8 x)])) 5⟩] u4 := M
  refine pl_nil ?_
  refine au_then ?_
  refine rg_lit ?_
  refine pl_val (want_no rfl) (some 21) rfl (.int .u64 (sr x 8)) (fun _ => by kernel_rfl) ?_
  refine pl_val (want_no rfl) (some 22) rfl (.int .u64 (sr (sr x 8) 8)) (fun _ => by kernel_rfl) ?_
  refine pl_val (want_no rfl) (some 4) rfl (.int .u64 (sr (sr x 8) 8)) (fun _ => by kernel_rfl) ?_
  refine pl_nil ?_
  refine au_block ?_
  refine au_then ?_
  refine rg_lit ?_
  refine pl_val (want_no rfl) (some 14) rfl (.int .i64 6) (fun _ => by kernel_rfl) ?_
  refine pl_val (want_no rfl) (some 15) rfl (.int .i64 5) (fun _ => by kernel_rfl) ?_
  refine pl_val (want_no rfl) (some 5) rfl (.int .i64 5) (fun _ => by kernel_rfl) ?_
  refine pl_nil ?_
  refine au_then ?_
  refine rounds_go ?_
  refine wp_seq ?_
  refine wp_seq ?_
  refine rg_lit ?_
  refine pl_val (want_no rfl) (some 12) rfl (.int .i64 5) (fun _ => by kernel_rfl) ?_
  refine pl_val (want_no rfl) (some 13) rfl (.bool true) (fun _ => by kernel_rfl) ?_
  refine pl_nil ?_
  refine au_then ?_
  refine wp_cond_true (by kernel_rfl) ?_
  refine wp_skip ?_
  refine au_then ?_
  refine wp_seq ?_
  refine wp_block ?_
  refine wp_seq ?_
  refine rg_lit ?_
  refine pl_val (want_no rfl) (some 16) rfl (.slice (some ⟨g1, 0, none⟩) 8 8) (fun _ => by kernel_rfl) ?_
  refine pl_val (want_no rfl) (some 17) rfl (.int .i64 5) (fun _ => by kernel_rfl) ?_
  refine pl_val (want_no rfl) (some 18) rfl (.int .u64 (sr (sr x 8) 8)) (fun _ => by kernel_rfl) ?_
  refine pl_val (want_no rfl) (some 19) rfl (.int .u8 (cv .u8 (sr (sr x 8) 8))) (fun _ => by kernel_rfl) ?_
  refine pl_val (want_no rfl) (some 20) rfl (.pointer (some ⟨g1, 5, none⟩)) (fun _ => by kernel_rfl) ?_
  refine pl_put1 M (want_no rfl) rfl 5 _ _ rfl 0 g1 5 (by kernel_rfl) 8 5 (ls [.int .u8 0, .int .u8 0, .int .u8 0, .int .u8 0, .int .u8 0, .int .u8 0, .int .u8 (cv .u8 (sr x 8)), .int .u8 (cv .u8 x)]) rfl (.int .u8 (cv .u8 (sr (sr x 8) 8))) (ls [.int .u8 0, .int .u8 0, .int .u8 0, .int .u8 0, .int .u8 0, .int .u8 (cv .u8 (sr (sr x 8) 8)), .int .u8 (cv .u8 (sr x 8)), .int .u8 (cv .u8 x)]) (by kernel_rfl) inz5 (by decide) rfl rfl (put_ls _ 5 _ _ rfl) ?_
  intro u5 M
  replace M : Mem ⟨w, []⟩ [⟨g1, .cells (av 8 (ls [.int .u8 0, .int .u8 0, .int .u8 0, .int .u8 0, .int .u8 0, .int .u8 (cv .u8 (sr (sr x 8) 8)), .int .u8 (cv .u8 (sr x 8)), .int .u8 (cv .u8 x)])) 5⟩] u5 := M
  refine pl_nil ?_
  refine au_then ?_
  refine rg_lit ?_
  refine pl_val (want_no rfl) (some 21) rfl (.int .u64 (sr (sr x 8) 8)) (fun _ => by kernel_rfl) ?_
  refine pl_val (want_no rfl) (some 22) rfl (.int .u64 (sr (sr (sr x 8) 8) 8)) (fun _ => by kernel_rfl) ?_
  refine pl_val (want_no rfl) (some 4) rfl (.int .u64 (sr (sr (sr x 8) 8) 8)) (fun _ => by kernel_rfl) ?_
  refine pl_nil ?_
  refine au_block ?_
  refine au_then ?_
  refine rg_lit ?_
  refine pl_val (want_no rfl) (some 14) rfl (.int .i64 5) (fun _ => by kernel_rfl) ?_
  refine pl_val (want_no rfl) (some 15) rfl (.int .i64 4) (fun _ => by kernel_rfl) ?_
  refine pl_val (want_no rfl) (some 5) rfl (.int .i64 4) (fun _ => by kernel_rfl) ?_
  refine pl_nil ?_
  refine au_then ?_
  refine rounds_go ?_
  refine wp_seq ?_
  refine wp_seq ?_
  refine rg_lit ?_
  refine pl_val (want_no rfl) (some 12) rfl (.int .i64 4) (fun _ => by kernel_rfl) ?_
  refine pl_val (want_no rfl) (some 13) rfl (.bool true) (fun _ => by kernel_rfl) ?_
  refine pl_nil ?_
  refine au_then ?_
  refine wp_cond_true (by kernel_rfl) ?_
  refine wp_skip ?_
  refine au_then ?_
  refine wp_seq ?_
  refine wp_block ?_
  refine wp_seq ?_
  refine rg_lit ?_
  refine pl_val (want_no rfl) (some 16) rfl (.slice (some ⟨g1, 0, none⟩) 8 8) (fun _ => by kernel_rfl) ?_
  refine pl_val (want_no rfl) (some 17) rfl (.int .i64 4) (fun _ => by kernel_rfl) ?_
  refine pl_val (want_no rfl) (some 18) rfl (.int .u64 (sr (sr (sr x 8) 8) 8)) (fun _ => by kernel_rfl) ?_
  refine pl_val (want_no rfl) (some 19) rfl (.int .u8 (cv .u8 (sr (sr (sr x 8) 8) 8))) (fun _ => by kernel_rfl) ?_
  refine pl_val (want_no rfl) (some 20) rfl (.pointer (some ⟨g1, 4, none⟩)) (fun _ => by kernel_rfl) ?_
  refine pl_put1 M (want_no rfl) rfl 5 _ _ rfl 0 g1 4 (by kernel_rfl) 8 5 (ls [.int .u8 0, .int .u8 0, .int .u8 0, .int .u8 0, .int .u8 0, .int .u8 (cv .u8 (sr (sr x 8) 8)), .int .u8 (cv .u8 (sr x 8)), .int .u8 (cv .u8 x)]) rfl (.int .u8 (cv .u8 (sr (sr (sr x 8) 8) 8))) (ls [.int .u8 0, .int .u8 0, .int .u8 0, .int .u8 0, .int .u8 (cv .u8 (sr (sr (sr x 8) 8) 8)), .int .u8 (cv .u8 (sr (sr x 8) 8)), .int .u8 (cv .u8 (sr x 8)), .int .u8 (cv .u8 x)]) (by kernel_rfl) inz5 (by decide) rfl rfl (put_ls _ 4 _ _ rfl) ?_
  intro u6 M
  replace M : Mem ⟨w, []⟩ [⟨g1, .cells (av 8 (ls [.int .u8 0, .int .u8 0, .int .u8 0, .int .u8 0, .int .u8 (cv .u8 (sr (sr (sr x 8) 8) 8)), .int .u8 (cv .u8 (sr (sr x 8) 8)), .int .u8 (cv .u8 (sr x 8)), .int .u8 (cv .u8 x)])) 5⟩] u6 := M
  refine pl_nil ?_
  refine au_then ?_
  refine rg_lit ?_
  refine pl_val (want_no rfl) (some 21) rfl (.int .u64 (sr (sr (sr x 8) 8) 8)) (fun _ => by kernel_rfl) ?_
  refine pl_val (want_no rfl) (some 22) rfl (.int .u64 (sr (sr (sr (sr x 8) 8) 8) 8)) (fun _ => by kernel_rfl) ?_
  refine pl_val (want_no rfl) (some 4) rfl (.int .u64 (sr (sr (sr (sr x 8) 8) 8) 8)) (fun _ => by kernel_rfl) ?_
  refine pl_nil ?_
  refine au_block ?_
  refine au_then ?_
  refine rg_lit ?_
  refine pl_val (want_no rfl) (some 14) rfl (.int .i64 4) (fun _ => by kernel_rfl) ?_
  refine pl_val (want_no rfl) (some 15) rfl (.int .i64 3) (fun _ => by kernel_rfl) ?_
  refine pl_val (want_no rfl) (some 5) rfl (.int .i64 3) (fun _ => by kernel_rfl) ?_
  refine pl_nil ?_
  refine au_then ?_
  refine rounds_go ?_
  refine wp_seq ?_
  refine wp_seq ?_
  refine rg_lit ?_
  refine pl_val (want_no rfl) (some 12) rfl (.int .i64 3) (fun _ => by kernel_rfl) ?_
  refine pl_val (want_no rfl) (some 13) rfl (.bool true) (fun _ => by kernel_rfl) ?_
  refine pl_nil ?_
  refine au_then ?_
  refine wp_cond_true (by kernel_rfl) ?_
  refine wp_skip ?_
  refine au_then ?_
  refine wp_seq ?_
  refine wp_block ?_
  refine wp_seq ?_
  refine rg_lit ?_
  refine pl_val (want_no rfl) (some 16) rfl (.slice (some ⟨g1, 0, none⟩) 8 8) (fun _ => by kernel_rfl) ?_
  refine pl_val (want_no rfl) (some 17) rfl (.int .i64 3) (fun _ => by kernel_rfl) ?_
  refine pl_val (want_no rfl) (some 18) rfl (.int .u64 (sr (sr (sr (sr x 8) 8) 8) 8)) (fun _ => by kernel_rfl) ?_
  refine pl_val (want_no rfl) (some 19) rfl (.int .u8 (cv .u8 (sr (sr (sr (sr x 8) 8) 8) 8))) (fun _ => by kernel_rfl) ?_
  refine pl_val (want_no rfl) (some 20) rfl (.pointer (some ⟨g1, 3, none⟩)) (fun _ => by kernel_rfl) ?_
  refine pl_put1 M (want_no rfl) rfl 5 _ _ rfl 0 g1 3 (by kernel_rfl) 8 5 (ls [.int .u8 0, .int .u8 0, .int .u8 0, .int .u8 0, .int .u8 (cv .u8 (sr (sr (sr x 8) 8) 8)), .int .u8 (cv .u8 (sr (sr x 8) 8)), .int .u8 (cv .u8 (sr x 8)), .int .u8 (cv .u8 x)]) rfl (.int .u8 (cv .u8 (sr (sr (sr (sr x 8) 8) 8) 8))) (ls [.int .u8 0, .int .u8 0, .int .u8 0, .int .u8 (cv .u8 (sr (sr (sr (sr x 8) 8) 8) 8)), .int .u8 (cv .u8 (sr (sr (sr x 8) 8) 8)), .int .u8 (cv .u8 (sr (sr x 8) 8)), .int .u8 (cv .u8 (sr x 8)), .int .u8 (cv .u8 x)]) (by kernel_rfl) inz5 (by decide) rfl rfl (put_ls _ 3 _ _ rfl) ?_
  intro u7 M
  replace M : Mem ⟨w, []⟩ [⟨g1, .cells (av 8 (ls [.int .u8 0, .int .u8 0, .int .u8 0, .int .u8 (cv .u8 (sr (sr (sr (sr x 8) 8) 8) 8)), .int .u8 (cv .u8 (sr (sr (sr x 8) 8) 8)), .int .u8 (cv .u8 (sr (sr x 8) 8)), .int .u8 (cv .u8 (sr x 8)), .int .u8 (cv .u8 x)])) 5⟩] u7 := M
  refine pl_nil ?_
  refine au_then ?_
  refine rg_lit ?_
  refine pl_val (want_no rfl) (some 21) rfl (.int .u64 (sr (sr (sr (sr x 8) 8) 8) 8)) (fun _ => by kernel_rfl) ?_
  refine pl_val (want_no rfl) (some 22) rfl (.int .u64 (sr (sr (sr (sr (sr x 8) 8) 8) 8) 8)) (fun _ => by kernel_rfl) ?_
  refine pl_val (want_no rfl) (some 4) rfl (.int .u64 (sr (sr (sr (sr (sr x 8) 8) 8) 8) 8)) (fun _ => by kernel_rfl) ?_
  refine pl_nil ?_
  refine au_block ?_
  refine au_then ?_
  refine rg_lit ?_
  refine pl_val (want_no rfl) (some 14) rfl (.int .i64 3) (fun _ => by kernel_rfl) ?_
  refine pl_val (want_no rfl) (some 15) rfl (.int .i64 2) (fun _ => by kernel_rfl) ?_
  refine pl_val (want_no rfl) (some 5) rfl (.int .i64 2) (fun _ => by kernel_rfl) ?_
  refine pl_nil ?_
  refine au_then ?_
  refine rounds_go ?_
  refine wp_seq ?_
  refine wp_seq ?_
  refine rg_lit ?_
  refine pl_val (want_no rfl) (some 12) rfl (.int .i64 2) (fun _ => by kernel_rfl) ?_
  refine pl_val (want_no rfl) (some 13) rfl (.bool true) (fun _ => by kernel_rfl) ?_
  refine pl_nil ?_
  refine au_then ?_
  refine wp_cond_true (by kernel_rfl) ?_
  refine wp_skip ?_
  refine au_then ?_
  refine wp_seq ?_
  refine wp_block ?_
  refine wp_seq ?_
  refine rg_lit ?_
  refine pl_val (want_no rfl) (some 16) rfl (.slice (some ⟨g1, 0, none⟩) 8 8) (fun _ => by kernel_rfl) ?_
  refine pl_val (want_no rfl) (some 17) rfl (.int .i64 2) (fun _ => by kernel_rfl) ?_
  refine pl_val (want_no rfl) (some 18) rfl (.int .u64 (sr (sr (sr (sr (sr x 8) 8) 8) 8) 8)) (fun _ => by kernel_rfl) ?_
  refine pl_val (want_no rfl) (some 19) rfl (.int .u8 (cv .u8 (sr (sr (sr (sr (sr x 8) 8) 8) 8) 8))) (fun _ => by kernel_rfl) ?_
  refine pl_val (want_no rfl) (some 20) rfl (.pointer (some ⟨g1, 2, none⟩)) (fun _ => by kernel_rfl) ?_
  refine pl_put1 M (want_no rfl) rfl 5 _ _ rfl 0 g1 2 (by kernel_rfl) 8 5 (ls [.int .u8 0, .int .u8 0, .int .u8 0, .int .u8 (cv .u8 (sr (sr (sr (sr x 8) 8) 8) 8)), .int .u8 (cv .u8 (sr (sr (sr x 8) 8) 8)), .int .u8 (cv .u8 (sr (sr x 8) 8)), .int .u8 (cv .u8 (sr x 8)), .int .u8 (cv .u8 x)]) rfl (.int .u8 (cv .u8 (sr (sr (sr (sr (sr x 8) 8) 8) 8) 8))) (ls [.int .u8 0, .int .u8 0, .int .u8 (cv .u8 (sr (sr (sr (sr (sr x 8) 8) 8) 8) 8)), .int .u8 (cv .u8 (sr (sr (sr (sr x 8) 8) 8) 8)), .int .u8 (cv .u8 (sr (sr (sr x 8) 8) 8)), .int .u8 (cv .u8 (sr (sr x 8) 8)), .int .u8 (cv .u8 (sr x 8)), .int .u8 (cv .u8 x)]) (by kernel_rfl) inz5 (by decide) rfl rfl (put_ls _ 2 _ _ rfl) ?_
  intro u8 M
  replace M : Mem ⟨w, []⟩ [⟨g1, .cells (av 8 (ls [.int .u8 0, .int .u8 0, .int .u8 (cv .u8 (sr (sr (sr (sr (sr x 8) 8) 8) 8) 8)), .int .u8 (cv .u8 (sr (sr (sr (sr x 8) 8) 8) 8)), .int .u8 (cv .u8 (sr (sr (sr x 8) 8) 8)), .int .u8 (cv .u8 (sr (sr x 8) 8)), .int .u8 (cv .u8 (sr x 8)), .int .u8 (cv .u8 x)])) 5⟩] u8 := M
  refine pl_nil ?_
  refine au_then ?_
  refine rg_lit ?_
  refine pl_val (want_no rfl) (some 21) rfl (.int .u64 (sr (sr (sr (sr (sr x 8) 8) 8) 8) 8)) (fun _ => by kernel_rfl) ?_
  refine pl_val (want_no rfl) (some 22) rfl (.int .u64 (sr (sr (sr (sr (sr (sr x 8) 8) 8) 8) 8) 8)) (fun _ => by kernel_rfl) ?_
  refine pl_val (want_no rfl) (some 4) rfl (.int .u64 (sr (sr (sr (sr (sr (sr x 8) 8) 8) 8) 8) 8)) (fun _ => by kernel_rfl) ?_
  refine pl_nil ?_
  refine au_block ?_
  refine au_then ?_
  refine rg_lit ?_
  refine pl_val (want_no rfl) (some 14) rfl (.int .i64 2) (fun _ => by kernel_rfl) ?_
  refine pl_val (want_no rfl) (some 15) rfl (.int .i64 1) (fun _ => by kernel_rfl) ?_
  refine pl_val (want_no rfl) (some 5) rfl (.int .i64 1) (fun _ => by kernel_rfl) ?_
  refine pl_nil ?_
  refine au_then ?_
  refine rounds_go ?_
  refine wp_seq ?_
  refine wp_seq ?_
  refine rg_lit ?_
  refine pl_val (want_no rfl) (some 12) rfl (.int .i64 1) (fun _ => by kernel_rfl) ?_
  refine pl_val (want_no rfl) (some 13) rfl (.bool true) (fun _ => by kernel_rfl) ?_
  refine pl_nil ?_
  refine au_then ?_
  refine wp_cond_true (by kernel_rfl) ?_
  refine wp_skip ?_
  refine au_then ?_
  refine wp_seq ?_
  refine wp_block ?_
  refine wp_seq ?_
  refine rg_lit ?_
  refine pl_val (want_no rfl) (some 16) rfl (.slice (some ⟨g1, 0, none⟩) 8 8) (fun _ => by kernel_rfl) ?_
  refine pl_val (want_no rfl) (some 17) rfl (.int .i64 1) (fun _ => by kernel_rfl) ?_
  refine pl_val (want_no rfl) (some 18) rfl (.int .u64 (sr (sr (sr (sr (sr (sr x 8) 8) 8) 8) 8) 8)) (fun _ => by kernel_rfl) ?_
  refine pl_val (want_no rfl) (some 19) rfl (.int .u8 (cv .u8 (sr (sr (sr (sr (sr (sr x 8) 8) 8) 8) 8) 8))) (fun _ => by kernel_rfl) ?_
  refine pl_val (want_no rfl) (some 20) rfl (.pointer (some ⟨g1, 1, none⟩)) (fun _ => by kernel_rfl) ?_
  refine pl_put1 M (want_no rfl) rfl 5 _ _ rfl 0 g1 1 (by kernel_rfl) 8 5 (ls [.int .u8 0, .int .u8 0, .int .u8 (cv .u8 (sr (sr (sr (sr (sr x 8) 8) 8) 8) 8)), .int .u8 (cv .u8 (sr (sr (sr (sr x 8) 8) 8) 8)), .int .u8 (cv .u8 (sr (sr (sr x 8) 8) 8)), .int .u8 (cv .u8 (sr (sr x 8) 8)), .int .u8 (cv .u8 (sr x 8)), .int .u8 (cv .u8 x)]) rfl (.int .u8 (cv .u8 (sr (sr (sr (sr (sr (sr x 8) 8) 8) 8) 8) 8))) (ls [.int .u8 0, .int .u8 (cv .u8 (sr (sr (sr (sr (sr (sr x 8) 8) 8) 8) 8) 8)), .int .u8 (cv .u8 (sr (sr (sr (sr (sr x 8) 8) 8) 8) 8)), .int .u8 (cv .u8 (sr (sr (sr (sr x 8) 8) 8) 8)), .int .u8 (cv .u8 (sr (sr (sr x 8) 8) 8)), .int .u8 (cv .u8 (sr (sr x 8) 8)), .int .u8 (cv .u8 (sr x 8)), .int .u8 (cv .u8 x)]) (by kernel_rfl) inz5 (by decide) rfl rfl (put_ls _ 1 _ _ rfl) ?_
  intro u9 M
  replace M : Mem ⟨w, []⟩ [⟨g1, .cells (av 8 (ls [.int .u8 0, .int .u8 (cv .u8 (sr (sr (sr (sr (sr (sr x 8) 8) 8) 8) 8) 8)), .int .u8 (cv .u8 (sr (sr (sr (sr (sr x 8) 8) 8) 8) 8)), .int .u8 (cv .u8 (sr (sr (sr (sr x 8) 8) 8) 8)), .int .u8 (cv .u8 (sr (sr (sr x 8) 8) 8)), .int .u8 (cv .u8 (sr (sr x 8) 8)), .int .u8 (cv .u8 (sr x 8)), .int .u8 (cv .u8 x)])) 5⟩] u9 := M
  refine pl_nil ?_
  refine au_then ?_
  refine rg_lit ?_
  refine pl_val (want_no rfl) (some 21) rfl (.int .u64 (sr (sr (sr (sr (sr (sr x 8) 8) 8) 8) 8) 8)) (fun _ => by kernel_rfl) ?_
  refine pl_val (want_no rfl) (some 22) rfl (.int .u64 (sr (sr (sr (sr (sr (sr (sr x 8) 8) 8) 8) 8) 8) 8)) (fun _ => by kernel_rfl) ?_
  refine pl_val (want_no rfl) (some 4) rfl (.int .u64 (sr (sr (sr (sr (sr (sr (sr x 8) 8) 8) 8) 8) 8) 8)) (fun _ => by kernel_rfl) ?_
  refine pl_nil ?_
  refine au_block ?_
  refine au_then ?_
  refine rg_lit ?_
  refine pl_val (want_no rfl) (some 14) rfl (.int .i64 1) (fun _ => by kernel_rfl) ?_
  refine pl_val (want_no rfl) (some 15) rfl (.int .i64 0) (fun _ => by kernel_rfl) ?_
  refine pl_val (want_no rfl) (some 5) rfl (.int .i64 0) (fun _ => by kernel_rfl) ?_
  refine pl_nil ?_
  refine au_then ?_
  refine rounds_go ?_
  refine wp_seq ?_
  refine wp_seq ?_
  refine rg_lit ?_
  refine pl_val (want_no rfl) (some 12) rfl (.int .i64 0) (fun _ => by kernel_rfl) ?_
  refine pl_val (want_no rfl) (some 13) rfl (.bool true) (fun _ => by kernel_rfl) ?_
  refine pl_nil ?_
  refine au_then ?_
  refine wp_cond_true (by kernel_rfl) ?_
  refine wp_skip ?_
  refine au_then ?_
  refine wp_seq ?_
  refine wp_block ?_
  refine wp_seq ?_
  refine rg_lit ?_
  refine pl_val (want_no rfl) (some 16) rfl (.slice (some ⟨g1, 0, none⟩) 8 8) (fun _ => by kernel_rfl) ?_
  refine pl_val (want_no rfl) (some 17) rfl (.int .i64 0) (fun _ => by kernel_rfl) ?_
  refine pl_val (want_no rfl) (some 18) rfl (.int .u64 (sr (sr (sr (sr (sr (sr (sr x 8) 8) 8) 8) 8) 8) 8)) (fun _ => by kernel_rfl) ?_
  refine pl_val (want_no rfl) (some 19) rfl (.int .u8 (cv .u8 (sr (sr (sr (sr (sr (sr (sr x 8) 8) 8) 8) 8) 8) 8))) (fun _ => by kernel_rfl) ?_
  refine pl_val (want_no rfl) (some 20) rfl (.pointer (some ⟨g1, 0, none⟩)) (fun _ => by kernel_rfl) ?_
  refine pl_put1 M (want_no rfl) rfl 5 _ _ rfl 0 g1 0 (by kernel_rfl) 8 5 (ls [.int .u8 0, .int .u8 (cv .u8 (sr (sr (sr (sr (sr (sr x 8) 8) 8) 8) 8) 8)), .int .u8 (cv .u8 (sr (sr (sr (sr (sr x 8) 8) 8) 8) 8)), .int .u8 (cv .u8 (sr (sr (sr (sr x 8) 8) 8) 8)), .int .u8 (cv .u8 (sr (sr (sr x 8) 8) 8)), .int .u8 (cv .u8 (sr (sr x 8) 8)), .int .u8 (cv .u8 (sr x 8)), .int .u8 (cv .u8 x)]) rfl (.int .u8 (cv .u8 (sr (sr (sr (sr (sr (sr (sr x 8) 8) 8) 8) 8) 8) 8))) (ls [.int .u8 (cv .u8 (sr (sr (sr (sr (sr (sr (sr x 8) 8) 8) 8) 8) 8) 8)), .int .u8 (cv .u8 (sr (sr (sr (sr (sr (sr x 8) 8) 8) 8) 8) 8)), .int .u8 (cv .u8 (sr (sr (sr (sr (sr x 8) 8) 8) 8) 8)), .int .u8 (cv .u8 (sr (sr (sr (sr x 8) 8) 8) 8)), .int .u8 (cv .u8 (sr (sr (sr x 8) 8) 8)), .int .u8 (cv .u8 (sr (sr x 8) 8)), .int .u8 (cv .u8 (sr x 8)), .int .u8 (cv .u8 x)]) (by kernel_rfl) inz5 (by decide) rfl rfl (put_ls _ 0 _ _ rfl) ?_
  intro u10 M
  replace M : Mem ⟨w, []⟩ [⟨g1, .cells (av 8 (ls [.int .u8 (cv .u8 (sr (sr (sr (sr (sr (sr (sr x 8) 8) 8) 8) 8) 8) 8)), .int .u8 (cv .u8 (sr (sr (sr (sr (sr (sr x 8) 8) 8) 8) 8) 8)), .int .u8 (cv .u8 (sr (sr (sr (sr (sr x 8) 8) 8) 8) 8)), .int .u8 (cv .u8 (sr (sr (sr (sr x 8) 8) 8) 8)), .int .u8 (cv .u8 (sr (sr (sr x 8) 8) 8)), .int .u8 (cv .u8 (sr (sr x 8) 8)), .int .u8 (cv .u8 (sr x 8)), .int .u8 (cv .u8 x)])) 5⟩] u10 := M
  refine pl_nil ?_
  refine au_then ?_
  refine rg_lit ?_
  refine pl_val (want_no rfl) (some 21) rfl (.int .u64 (sr (sr (sr (sr (sr (sr (sr x 8) 8) 8) 8) 8) 8) 8)) (fun _ => by kernel_rfl) ?_
  refine pl_val (want_no rfl) (some 22) rfl (.int .u64 (sr (sr (sr (sr (sr (sr (sr (sr x 8) 8) 8) 8) 8) 8) 8) 8)) (fun _ => by kernel_rfl) ?_
  refine pl_val (want_no rfl) (some 4) rfl (.int .u64 (sr (sr (sr (sr (sr (sr (sr (sr x 8) 8) 8) 8) 8) 8) 8) 8)) (fun _ => by kernel_rfl) ?_
  refine pl_nil ?_
  refine au_block ?_
  refine au_then ?_
  refine rg_lit ?_
  refine pl_val (want_no rfl) (some 14) rfl (.int .i64 0) (fun _ => by kernel_rfl) ?_
  refine pl_val (want_no rfl) (some 15) rfl (.int .i64 (-1)) (fun _ => by kernel_rfl) ?_
  refine pl_val (want_no rfl) (some 5) rfl (.int .i64 (-1)) (fun _ => by kernel_rfl) ?_
  refine pl_nil ?_
  refine au_then ?_
  refine rounds_go ?_
  refine wp_seq ?_
  refine wp_seq ?_
  refine rg_lit ?_
  refine pl_val (want_no rfl) (some 12) rfl (.int .i64 (-1)) (fun _ => by kernel_rfl) ?_
  refine pl_val (want_no rfl) (some 13) rfl (.bool false) (fun _ => by kernel_rfl) ?_
  refine pl_nil ?_
  refine au_then ?_
  refine wp_cond_false (by kernel_rfl) ?_
  refine wp_exit ?_
  refine au_then_exit ?_
  refine au_then_exit ?_
  refine au_block_exit ?_
  refine au_then ?_
  refine wp_seq ?_
  refine rg_lit ?_
  refine pl_val (want_no rfl) (some 23) rfl (.slice (some ⟨g1, 0, none⟩) 8 8) (fun _ => by kernel_rfl) ?_
  refine pl_back M (want_no rfl) (some 24) rfl _ rfl 0 g1 8 8 (by kernel_rfl) _ rfl [(cv .u8 (sr (sr (sr (sr (sr (sr (sr x 8) 8) 8) 8) 8) 8) 8)), (cv .u8 (sr (sr (sr (sr (sr (sr x 8) 8) 8) 8) 8) 8)), (cv .u8 (sr (sr (sr (sr (sr x 8) 8) 8) 8) 8)), (cv .u8 (sr (sr (sr (sr x 8) 8) 8) 8)), (cv .u8 (sr (sr (sr x 8) 8) 8)), (cv .u8 (sr (sr x 8) 8)), (cv .u8 (sr x 8)), (cv .u8 x)] 8 (sb_ls [(cv .u8 (sr (sr (sr (sr (sr (sr (sr x 8) 8) 8) 8) 8) 8) 8)), (cv .u8 (sr (sr (sr (sr (sr (sr x 8) 8) 8) 8) 8) 8)), (cv .u8 (sr (sr (sr (sr (sr x 8) 8) 8) 8) 8)), (cv .u8 (sr (sr (sr (sr x 8) 8) 8) 8)), (cv .u8 (sr (sr (sr x 8) 8) 8)), (cv .u8 (sr (sr x 8) 8)), (cv .u8 (sr x 8)), (cv .u8 x)] _) rfl (by intro x hx; simp only [List.mem_cons, List.mem_nil_iff, or_false] at hx; rcases hx with rfl | rfl | rfl | rfl | rfl | rfl | rfl | rfl <;> exact cv8_nn _) ?_
  refine pl_val (want_no rfl) (some 2) rfl (.string (bs [(cv .u8 (sr (sr (sr (sr (sr (sr (sr x 8) 8) 8) 8) 8) 8) 8)), (cv .u8 (sr (sr (sr (sr (sr (sr x 8) 8) 8) 8) 8) 8)), (cv .u8 (sr (sr (sr (sr (sr x 8) 8) 8) 8) 8)), (cv .u8 (sr (sr (sr (sr x 8) 8) 8) 8)), (cv .u8 (sr (sr (sr x 8) 8) 8)), (cv .u8 (sr (sr x 8) 8)), (cv .u8 (sr x 8)), (cv .u8 x)])) (fun _ => by kernel_rfl) ?_
  refine pl_nil ?_
  refine au_then ?_
  refine wp_ret ?_
  have e0 : (be8 x) = (bs [(cv .u8 (sr (sr (sr (sr (sr (sr (sr x 8) 8) 8) 8) 8) 8) 8)), (cv .u8 (sr (sr (sr (sr (sr (sr x 8) 8) 8) 8) 8) 8)), (cv .u8 (sr (sr (sr (sr (sr x 8) 8) 8) 8) 8)), (cv .u8 (sr (sr (sr (sr x 8) 8) 8) 8)), (cv .u8 (sr (sr (sr x 8) 8) 8)), (cv .u8 (sr (sr x 8) 8)), (cv .u8 (sr x 8)), (cv .u8 x)]) := rfl
  exact bodyPost_ret (v := .string (bs [(cv .u8 (sr (sr (sr (sr (sr (sr (sr x 8) 8) 8) 8) 8) 8) 8)), (cv .u8 (sr (sr (sr (sr (sr (sr x 8) 8) 8) 8) 8) 8)), (cv .u8 (sr (sr (sr (sr (sr x 8) 8) 8) 8) 8)), (cv .u8 (sr (sr (sr (sr x 8) 8) 8) 8)), (cv .u8 (sr (sr (sr x 8) 8) 8)), (cv .u8 (sr (sr x 8) 8)), (cv .u8 (sr x 8)), (cv .u8 x)])) (results_tmp1 Try.results76 _ _ _ (by kernel_rfl)) (by kernel_rfl) ⟨by rw [e0], below_grown M.old⟩

set_option maxRecDepth 100000 in
set_option maxHeartbeats 4000000 in
set_option linter.unusedSimpArgs false in
theorem c_U64 (x : Int) (w : World) (hL : Laid w)  :
    Calls Try.prog 62 #[.int .u64 x] w fun r w' => r = .returned (.string (be8 x)) ∧ Below w.heap.size w w' := by
  go_enter Try.func62, Try.ntmps62
  have M := Mem.start hL
  refine wp_seq ?_
  refine rg_lit ?_
  refine pl_val (want_no rfl) (some 2) rfl (.string ⟨#[]⟩) (fun _ => by kernel_rfl) ?_
  refine pl_nil ?_
  refine au_then ?_
  refine wp_seq ?_
  refine rg_lit ?_
  refine pl_val (want_no rfl) (some 3) rfl (.int .u64 x) (fun _ => by kernel_rfl) ?_
  refine pl_call M (want_no rfl) (some 4) rfl 76 #[.int .u64 x] (.string (be8 x)) (fun _ => by kernel_rfl) (fun w M => c_bytes8 x w M.laid) ?_
  intro u1 M
  refine pl_val (want_no rfl) (some 2) rfl (.string (be8 x)) (fun _ => by kernel_rfl) ?_
  refine pl_nil ?_
  refine au_then ?_
  refine wp_ret ?_
  exact bodyPost_ret (v := .string (be8 x)) (results_tmp1 Try.results62 _ _ _ (by kernel_rfl)) (by kernel_rfl) ⟨rfl, below_grown M.old⟩

set_option maxRecDepth 100000 in
set_option maxHeartbeats 4000000 in
set_option linter.unusedSimpArgs false in
theorem c_num8 (x : Int) (w : World) (hL : Laid w)  :
    Calls Try.prog 42 #[.int .u64 x, .int .i64 8] w fun r w' => r = .returned (.string (be8 x)) ∧ Below w.heap.size w w' := by
  go_enter Try.func42, Try.ntmps42
  have M := Mem.start hL
  refine wp_seq ?_
  refine rg_lit ?_
  refine pl_val (want_no rfl) (some 4) rfl (.string ⟨#[]⟩) (fun _ => by kernel_rfl) ?_
  refine pl_nil ?_
  refine au_then ?_
  refine wp_seq ?_
  refine rg_lit ?_
  refine pl_val (want_no rfl) (some 7) rfl (.int .i64 8) (fun _ => by kernel_rfl) ?_
  refine pl_mk M (want_no rfl) (some 8) rfl (fun g1 => .slice (some ⟨g1, 0, none⟩) 8 8) (.cells (av 8 (ls [.int .u8 0, .int .u8 0, .int .u8 0, .int .u8 0, .int .u8 0, .int .u8 0, .int .u8 0, .int .u8 0])) 5) (fun _ => by kernel_rfl) ?_
  intro g1 u1 M
  replace M : Mem ⟨w, []⟩ [⟨g1, .cells (av 8 (ls [.int .u8 0, .int .u8 0, .int .u8 0, .int .u8 0, .int .u8 0, .int .u8 0, .int .u8 0, .int .u8 0])) 5⟩] u1 := M
  refine pl_val (want_no rfl) (some 5) rfl (.slice (some ⟨g1, 0, none⟩) 8 8) (fun _ => by kernel_rfl) ?_
  refine pl_nil ?_
  refine au_then ?_
  refine wp_seq ?_
  refine wp_seq ?_
  refine rg_lit ?_
  refine pl_val (want_no rfl) (some 9) rfl (.int .i64 8) (fun _ => by kernel_rfl) ?_
  refine pl_val (want_no rfl) (some 10) rfl (.int .i64 7) (fun _ => by kernel_rfl) ?_
  refine pl_val (want_no rfl) (some 6) rfl (.int .i64 7) (fun _ => by kernel_rfl) ?_
  refine pl_nil ?_
  refine au_then ?_
  refine wp_block ?_
  refine wp_loop_rounds 9 ?_
  refine rounds_go ?_
  refine wp_seq ?_
  refine wp_seq ?_
  refine rg_lit ?_
  refine pl_val (want_no rfl) (some 11) rfl (.int .i64 7) (fun _ => by kernel_rfl) ?_
  refine pl_val (want_no rfl) (some 12) rfl (.bool true) (fun _ => by kernel_rfl) ?_
  refine pl_nil ?_
  refine au_then ?_
  refine wp_cond_true (by kernel_rfl) ?_
  refine wp_skip ?_
  refine au_then ?_
  refine wp_seq ?_
  refine wp_block ?_
  refine wp_seq ?_
  refine rg_lit ?_
  refine pl_val (want_no rfl) (some 15) rfl (.slice (some ⟨g1, 0, none⟩) 8 8) (fun _ => by kernel_rfl) ?_
  refine pl_val (want_no rfl) (some 16) rfl (.int .i64 7) (fun _ => by kernel_rfl) ?_
  refine pl_val (want_no rfl) (some 17) rfl (.int .u64 x) (fun _ => by kernel_rfl) ?_
  refine pl_val (want_no rfl) (some 18) rfl (.int .u8 (cv .u8 x)) (fun _ => by kernel_rfl) ?_
  refine pl_val (want_no rfl) (some 19) rfl (.pointer (some ⟨g1, 7, none⟩)) (fun _ => by kernel_rfl) ?_
  refine pl_put1 M (want_no rfl) rfl 5 _ _ rfl 0 g1 7 (by kernel_rfl) 8 5 (ls [.int .u8 0, .int .u8 0, .int .u8 0, .int .u8 0, .int .u8 0, .int .u8 0, .int .u8 0, .int .u8 0]) rfl (.int .u8 (cv .u8 x)) (ls [.int .u8 0, .int .u8 0, .int .u8 0, .int .u8 0, .int .u8 0, .int .u8 0, .int .u8 0, .int .u8 (cv .u8 x)]) (by kernel_rfl) inz5 (by decide) rfl rfl (put_ls _ 7 _ _ rfl) ?_
  intro u2 M
  replace M : Mem ⟨w, []⟩ [⟨g1, .cells (av 8 (ls [.int .u8 0, .int .u8 0, .int .u8 0, .int .u8 0, .int .u8 0, .int .u8 0, .int .u8 0, .int .u8 (cv .u8 x)])) 5⟩] u2 := M
  refine pl_nil ?_
  refine au_then ?_
  refine rg_lit ?_
  refine pl_val (want_no rfl) (some 20) rfl (.int .u64 x) (fun _ => by kernel_rfl) ?_
  refine pl_val (want_no rfl) (some 21) rfl (.int .u64 (sr x 8)) (fun _ => by kernel_rfl) ?_
  refine pl_val (want_no rfl) (some 0) rfl (.int .u64 (sr x 8)) (fun _ => by kernel_rfl) ?_
  refine pl_nil ?_
  refine au_block ?_
  refine au_then ?_
  refine rg_lit ?_
  refine pl_val (want_no rfl) (some 13) rfl (.int .i64 7) (fun _ => by kernel_rfl) ?_
  refine pl_val (want_no rfl) (some 14) rfl (.int .i64 6) (fun _ => by kernel_rfl) ?_
  refine pl_val (want_no rfl) (some 6) rfl (.int .i64 6) (fun _ => by kernel_rfl) ?_
  refine pl_nil ?_
  refine au_then ?_
  refine rounds_go ?_
  refine wp_seq ?_
  refine wp_seq ?_
  refine rg_lit ?_
  refine pl_val (want_no rfl) (some 11) rfl (.int .i64 6) (fun _ => by kernel_rfl) ?_
  refine pl_val (want_no rfl) (some 12) rfl (.bool true) (fun _ => by kernel_rfl) ?_
  refine pl_nil ?_
  refine au_then ?_
  refine wp_cond_true (by kernel_rfl) ?_
  refine wp_skip ?_
  refine au_then ?_
  refine wp_seq ?_
  refine wp_block ?_
  refine wp_seq ?_
  refine rg_lit ?_
  refine pl_val (want_no rfl) (some 15) rfl (.slice (some ⟨g1, 0, none⟩) 8 8) (fun _ => by kernel_rfl) ?_
  refine pl_val (want_no rfl) (some 16) rfl (.int .i64 6) (fun _ => by kernel_rfl) ?_
  refine pl_val (want_no rfl) (some 17) rfl (.int .u64 (sr x 8)) (fun _ => by kernel_rfl) ?_
  refine pl_val (want_no rfl) (some 18) rfl (.int .u8 (cv .u8 (sr x 8))) (fun _ => by kernel_rfl) ?_
  refine pl_val (want_no rfl) (some 19) rfl (.pointer (some ⟨g1, 6, none⟩)) (fun _ => by kernel_rfl) ?_
  refine pl_put1 M (want_no rfl) rfl 5 _ _ rfl 0 g1 6 (by kernel_rfl) 8 5 (ls [.int .u8 0, .int .u8 0, .int .u8 0, .int .u8 0, .int .u8 0, .int .u8 0, .int .u8 0, .int .u8 (cv .u8 x)]) rfl (.int .u8 (cv .u8 (sr x 8))) (ls [.int .u8 0, .int .u8 0, .int .u8 0, .int .u8 0, .int .u8 0, .int .u8 0, .int .u8 (cv .u8 (sr x 8)), .int .u8 (cv .u8 x)]) (by kernel_rfl) inz5 (by decide) rfl rfl (put_ls _ 6 _ _ rfl) ?_
  intro u3 M
  replace M : Mem ⟨w, []⟩ [⟨g1, .cells (av 8 (ls [.int .u8 0, .int .u8 0, .int .u8 0, .int .u8 0, .int .u8 0, .int .u8 0, .int .u8 (cv .u8 (sr x 8)), .int .u8 (cv .u8 x)])) 5⟩] u3 := M
  refine pl_nil ?_
  refine au_then ?_
  refine rg_lit ?_
  refine pl_val (want_no rfl) (some 20) rfl (.int .u64 (sr x 8)) (fun _ => by kernel_rfl) ?_
  refine pl_val (want_no rfl) (some 21) rfl (.int .u64 (sr (sr x 8) 8)) (fun _ => by kernel_rfl) ?_
  refine pl_val (want_no rfl) (some 0) rfl (.int .u64 (sr (sr x 8) 8)) (fun _ => by kernel_rfl) ?_
  refine pl_nil ?_
  refine au_block ?_
  refine au_then ?_
  refine rg_lit ?_
  refine pl_val (want_no rfl) (some 13) rfl (.int .i64 6) (fun _ => by kernel_rfl) ?_
  refine pl_val (want_no rfl) (some 14) rfl (.int .i64 5) (fun _ => by kernel_rfl) ?_
  refine pl_val (want_no rfl) (some 6) rfl (.int .i64 5) (fun _ => by kernel_rfl) ?_
  refine pl_nil ?_
  refine au_then ?_
  refine rounds_go ?_
  refine wp_seq ?_
  refine wp_seq ?_
  refine rg_lit ?_
  refine pl_val (want_no rfl) (some 11) rfl (.int .i64 5) (fun _ => by kernel_rfl) ?_
  refine pl_val (want_no rfl) (some 12) rfl (.bool true) (fun _ => by kernel_rfl) ?_
  refine pl_nil ?_
  refine au_then ?_
  refine wp_cond_true (by kernel_rfl) ?_
  refine wp_skip ?_
  refine au_then ?_
  refine wp_seq ?_
  refine wp_block ?_
  refine wp_seq ?_
  refine rg_lit ?_
  refine pl_val (want_no rfl) (some 15) rfl (.slice (some ⟨g1, 0, none⟩) 8 8) (fun _ => by kernel_rfl) ?_
  refine pl_val (want_no rfl) (some 16) rfl (.int .i64 5) (fun _ => by kernel_rfl) ?_
  refine pl_val (want_no rfl) (some 17) rfl (.int .u64 (sr (sr x 8) 8)) (fun _ => by kernel_rfl) ?_
  refine pl_val (want_no rfl) (some 18) rfl (.int .u8 (cv .u8 (sr (sr x 8) 8))) (fun _ => by kernel_rfl) ?_
  refine pl_val (want_no rfl) (some 19) rfl (.pointer (some ⟨g1, 5, none⟩)) (fun _ => by kernel_rfl) ?_
  refine pl_put1 M (want_no rfl) rfl 5 _ _ rfl 0 g1 5 (by kernel_rfl) 8 5 (ls [.int .u8 0, .int .u8 0, .int .u8 0, .int .u8 0, .int .u8 0, .int .u8 0, .int .u8 (cv .u8 (sr x 8)), .int .u8 (cv .u8 x)]) rfl (.int .u8 (cv .u8 (sr (sr x 8) 8))) (ls [.int .u8 0, .int .u8 0, .int .u8 0, .int .u8 0, .int .u8 0, .int .u8 (cv .u8 (sr (sr x 8) 8)), .int .u8 (cv .u8 (sr x 8)), .int .u8 (cv .u8 x)]) (by kernel_rfl) inz5 (by decide) rfl rfl (put_ls _ 5 _ _ rfl) ?_
  intro u4 M
  replace M : Mem ⟨w, []⟩ [⟨g1, .cells (av 8 (ls [.int .u8 0, .int .u8 0, .int .u8 0, .int .u8 0, .int .u8 0, .int .u8 (cv .u8 (sr (sr x 8) 8)), .int .u8 (cv .u8 (sr x 8)), .int .u8 (cv .u8 x)])) 5⟩] u4 := M
  refine pl_nil ?_
  refine au_then ?_
  refine rg_lit ?_
  refine pl_val (want_no rfl) (some 20) rfl (.int .u64 (sr (sr x 8) 8)) (fun _ => by kernel_rfl) ?_
  refine pl_val (want_no rfl) (some 21) rfl (.int .u64 (sr (sr (sr x 8) 8) 8)) (fun _ => by kernel_rfl) ?_
  refine pl_val (want_no rfl) (some 0) rfl (.int .u64 (sr (sr (sr x 8) 8) 8)) (fun _ => by kernel_rfl) ?_
  refine pl_nil ?_
  refine au_block ?_
  refine au_then ?_
  refine rg_lit ?_
  refine pl_val (want_no rfl) (some 13) rfl (.int .i64 5) (fun _ => by kernel_rfl) ?_
  refine pl_val (want_no rfl) (some 14) rfl (.int .i64 4) (fun _ => by kernel_rfl) ?_
  refine pl_val (want_no rfl) (some 6) rfl (.int .i64 4) (fun _ => by kernel_rfl) ?_
  refine pl_nil ?_
  refine au_then ?_
  refine rounds_go ?_
  refine wp_seq ?_
  refine wp_seq ?_
  refine rg_lit ?_
  refine pl_val (want_no rfl) (some 11) rfl (.int .i64 4) (fun _ => by kernel_rfl) ?_
  refine pl_val (want_no rfl) (some 12) rfl (.bool true) (fun _ => by kernel_rfl) ?_
  refine pl_nil ?_
  refine au_then ?_
  refine wp_cond_true (by kernel_rfl) ?_
  refine wp_skip ?_
  refine au_then ?_
  refine wp_seq ?_
  refine wp_block ?_
  refine wp_seq ?_
  refine rg_lit ?_
  refine pl_val (want_no rfl) (some 15) rfl (.slice (some ⟨g1, 0, none⟩) 8 8) (fun _ => by kernel_rfl) ?_
  refine pl_val (want_no rfl) (some 16) rfl (.int .i64 4) (fun _ => by kernel_rfl) ?_
  refine pl_val (want_no rfl) (some 17) rfl (.int .u64 (sr (sr (sr x 8) 8) 8)) (fun _ => by kernel_rfl) ?_
  refine pl_val (want_no rfl) (some 18) rfl (.int .u8 (cv .u8 (sr (sr (sr x 8) 8) 8))) (fun _ => by kernel_rfl) ?_
  refine pl_val (want_no rfl) (some 19) rfl (.pointer (some ⟨g1, 4, none⟩)) (fun _ => by kernel_rfl) ?_
  refine pl_put1 M (want_no rfl) rfl 5 _ _ rfl 0 g1 4 (by kernel_rfl) 8 5 (ls [.int .u8 0, .int .u8 0, .int .u8 0, .int .u8 0, .int .u8 0, .int .u8 (cv .u8 (sr (sr x 8) 8)), .int .u8 (cv .u8 (sr x 8)), .int .u8 (cv .u8 x)]) rfl (.int .u8 (cv .u8 (sr (sr (sr x 8) 8) 8))) (ls [.int .u8 0, .int .u8 0, .int .u8 0, .int .u8 0, .int .u8 (cv .u8 (sr (sr (sr x 8) 8) 8)), .int .u8 (cv .u8 (sr (sr x 8) 8)), .int .u8 (cv .u8 (sr x 8)), .int .u8 (cv .u8 x)]) (by kernel_rfl) inz5 (by decide) rfl rfl (put_ls _ 4 _ _ rfl) ?_
  intro u5 M
  replace M : Mem ⟨w, []⟩ [⟨g1, .cells (av 8 (ls [.int .u8 0, .int .u8 0, .int .u8 0, .int .u8 0, .int .u8 (cv .u8 (sr (sr (sr x 8) 8) 8)), .int .u8 (cv .u8 (sr (sr x 8) 8)), .int .u8 (cv .u8 (sr x 8)), .int .u8 (cv .u8 x)])) 5⟩] u5 := M
  refine pl_nil ?_
  refine au_then ?_
  refine rg_lit ?_
  refine pl_val (want_no rfl) (some 20) rfl (.int .u64 (sr (sr (sr x 8) 8) 8)) (fun _ => by kernel_rfl) ?_
  refine pl_val (want_no rfl) (some 21) rfl (.int .u64 (sr (sr (sr (sr x 8) 8) 8) 8)) (fun _ => by kernel_rfl) ?_
  refine pl_val (want_no rfl) (some 0) rfl (.int .u64 (sr (sr (sr (sr x 8) 8) 8) 8)) (fun _ => by kernel_rfl) ?_
  refine pl_nil ?_
  refine au_block ?_
  refine au_then ?_
  refine rg_lit ?_
  refine pl_val (want_no rfl) (some 13) rfl (.int .i64 4) (fun _ => by kernel_rfl) ?_
  refine pl_val (want_no rfl) (some 14) rfl (.int .i64 3) (fun _ => by kernel_rfl) ?_
  refine pl_val (want_no rfl) (some 6) rfl (.int .i64 3) (fun _ => by kernel_rfl) ?_
  refine pl_nil ?_
  refine au_then ?_
  refine rounds_go ?_
  refine wp_seq ?_
  refine wp_seq ?_
  refine rg_lit ?_
  refine pl_val (want_no rfl) (some 11) rfl (.int .i64 3) (fun _ => by kernel_rfl) ?_
  refine pl_val (want_no rfl) (some 12) rfl (.bool true) (fun _ => by kernel_rfl) ?_
  refine pl_nil ?_
  refine au_then ?_
  refine wp_cond_true (by kernel_rfl) ?_
  refine wp_skip ?_
  refine au_then ?_
  refine wp_seq ?_
  refine wp_block ?_
  refine wp_seq ?_
  refine rg_lit ?_
  refine pl_val (want_no rfl) (some 15) rfl (.slice (some ⟨g1, 0, none⟩) 8 8) (fun _ => by kernel_rfl) ?_
  refine pl_val (want_no rfl) (some 16) rfl (.int .i64 3) (fun _ => by kernel_rfl) ?_
  refine pl_val (want_no rfl) (some 17) rfl (.int .u64 (sr (sr (sr (sr x 8) 8) 8) 8)) (fun _ => by kernel_rfl) ?_
  refine pl_val (want_no rfl) (some 18) rfl (.int .u8 (cv .u8 (sr (sr (sr (sr x 8) 8) 8) 8))) (fun _ => by kernel_rfl) ?_
  refine pl_val (want_no rfl) (some 19) rfl (.pointer (some ⟨g1, 3, none⟩)) (fun _ => by kernel_rfl) ?_
  refine pl_put1 M (want_no rfl) rfl 5 _ _ rfl 0 g1 3 (by kernel_rfl) 8 5 (ls [.int .u8 0, .int .u8 0, .int .u8 0, .int .u8 0, .int .u8 (cv .u8 (sr (sr (sr x 8) 8) 8)), .int .u8 (cv .u8 (sr (sr x 8) 8)), .int .u8 (cv .u8 (sr x 8)), .int .u8 (cv .u8 x)]) rfl (.int .u8 (cv .u8 (sr (sr (sr (sr x 8) 8) 8) 8))) (ls [.int .u8 0, .int .u8 0, .int .u8 0, .int .u8 (cv .u8 (sr (sr (sr (sr x 8) 8) 8) 8)), .int .u8 (cv .u8 (sr (sr (sr x 8) 8) 8)), .int .u8 (cv .u8 (sr (sr x 8) 8)), .int .u8 (cv .u8 (sr x 8)), .int .u8 (cv .u8 x)]) (by kernel_rfl) inz5 (by decide) rfl rfl (put_ls _ 3 _ _ rfl) ?_
  intro u6 M
  replace M : Mem ⟨w, []⟩ [⟨g1, .cells (av 8 (ls [.int .u8 0, .int .u8 0, .int .u8 0, .int .u8 (cv .u8 (sr (sr (sr (sr x 8) 8) 8) 8)), .int .u8 (cv .u8 (sr (sr (sr x 8) 8) 8)), .int .u8 (cv .u8 (sr (sr x 8) 8)), .int .u8 (cv .u8 (sr x 8)), .int .u8 (cv .u8 x)])) 5⟩] u6 := M
  refine pl_nil ?_
  refine au_then ?_
  refine rg_lit ?_
  refine pl_val (want_no rfl) (some 20) rfl (.int .u64 (sr (sr (sr (sr x 8) 8) 8) 8)) (fun _ => by kernel_rfl) ?_
  refine pl_val (want_no rfl) (some 21) rfl (.int .u64 (sr (sr (sr (sr (sr x 8) 8) 8) 8) 8)) (fun _ => by kernel_rfl) ?_
  refine pl_val (want_no rfl) (some 0) rfl (.int .u64 (sr (sr (sr (sr (sr x 8) 8) 8) 8) 8)) (fun _ => by kernel_rfl) ?_
  refine pl_nil ?_
  refine au_block ?_
  refine au_then ?_
  refine rg_lit ?_
  refine pl_val (want_no rfl) (some 13) rfl (.int .i64 3) (fun _ => by kernel_rfl) ?_
  refine pl_val (want_no rfl) (some 14) rfl (.int .i64 2) (fun _ => by kernel_rfl) ?_
  refine pl_val (want_no rfl) (some 6) rfl (.int .i64 2) (fun _ => by kernel_rfl) ?_
  refine pl_nil ?_
  refine au_then ?_
  refine rounds_go ?_
  refine wp_seq ?_
  refine wp_seq ?_
  refine rg_lit ?_
  refine pl_val (want_no rfl) (some 11) rfl (.int .i64 2) (fun _ => by kernel_rfl) ?_
  refine pl_val (want_no rfl) (some 12) rfl (.bool true) (fun _ => by kernel_rfl) ?_
  refine pl_nil ?_
  refine au_then ?_
  refine wp_cond_true (by kernel_rfl) ?_
  refine wp_skip ?_
  refine au_then ?_
  refine wp_seq ?_
  refine wp_block ?_
  refine wp_seq ?_
  refine rg_lit ?_
  refine pl_val (want_no rfl) (some 15) rfl (.slice (some ⟨g1, 0, none⟩) 8 8) (fun _ => by kernel_rfl) ?_
  refine pl_val (want_no rfl) (some 16) rfl (.int .i64 2) (fun _ => by kernel_rfl) ?_
  refine pl_val (want_no rfl) (some 17) rfl (.int .u64 (sr (sr (sr (sr (sr x 8) 8) 8) 8) 8)) (fun _ => by kernel_rfl) ?_
  refine pl_val (want_no rfl) (some 18) rfl (.int .u8 (cv .u8 (sr (sr (sr (sr (sr x 8) 8) 8) 8) 8))) (fun _ => by kernel_rfl) ?_
  refine pl_val (want_no rfl) (some 19) rfl (.pointer (some ⟨g1, 2, none⟩)) (fun _ => by kernel_rfl) ?_
  refine pl_put1 M (want_no rfl) rfl 5 _ _ rfl 0 g1 2 (by kernel_rfl) 8 5 (ls [.int .u8 0, .int .u8 0, .int .u8 0, .int .u8 (cv .u8 (sr (sr (sr (sr x 8) 8) 8) 8)), .int .u8 (cv .u8 (sr (sr (sr x 8) 8) 8)), .int .u8 (cv .u8 (sr (sr x 8) 8)), .int .u8 (cv .u8 (sr x 8)), .int .u8 (cv .u8 x)]) rfl (.int .u8 (cv .u8 (sr (sr (sr (sr (sr x 8) 8) 8) 8) 8))) (ls [.int .u8 0, .int .u8 0, .int .u8 (cv .u8 (sr (sr (sr (sr (sr x 8) 8) 8) 8) 8)), .int .u8 (cv .u8 (sr (sr (sr (sr x 8) 8) 8) 8)), .int .u8 (cv .u8 (sr (sr (sr x 8) 8) 8)), .int .u8 (cv .u8 (sr (sr x 8) 8)), .int .u8 (cv .u8 (sr x 8)), .int .u8 (cv .u8 x)]) (by kernel_rfl) inz5 (by decide) rfl rfl (put_ls _ 2 _ _ rfl) ?_
  intro u7 M
  replace M : Mem ⟨w, []⟩ [⟨g1, .cells (av 8 (ls [.int .u8 0, .int .u8 0, .int .u8 (cv .u8 (sr (sr (sr (sr (sr x 8) 8) 8) 8) 8)), .int .u8 (cv .u8 (sr (sr (sr (sr x 8) 8) 8) 8)), .int .u8 (cv .u8 (sr (sr (sr x 8) 8) 8)), .int .u8 (cv .u8 (sr (sr x 8) 8)), .int .u8 (cv .u8 (sr x 8)), .int .u8 (cv .u8 x)])) 5⟩] u7 := M
  refine pl_nil ?_
  refine au_then ?_
  refine rg_lit ?_
  refine pl_val (want_no rfl) (some 20) rfl (.int .u64 (sr (sr (sr (sr (sr x 8) 8) 8) 8) 8)) (fun _ => by kernel_rfl) ?_
  refine pl_val (want_no rfl) (some 21) rfl (.int .u64 (sr (sr (sr (sr (sr (sr x 8) 8) 8) 8) 8) 8)) (fun _ => by kernel_rfl) ?_
  refine pl_val (want_no rfl) (some 0) rfl (.int .u64 (sr (sr (sr (sr (sr (sr x 8) 8) 8) 8) 8) 8)) (fun _ => by kernel_rfl) ?_
  refine pl_nil ?_
  refine au_block ?_
  refine au_then ?_
  refine rg_lit ?_
  refine pl_val (want_no rfl) (some 13) rfl (.int .i64 2) (fun _ => by kernel_rfl) ?_
  refine pl_val (want_no rfl) (some 14) rfl (.int .i64 1) (fun _ => by kernel_rfl) ?_
  refine pl_val (want_no rfl) (some 6) rfl (.int .i64 1) (fun _ => by kernel_rfl) ?_
  refine pl_nil ?_
  refine au_then ?_
  refine rounds_go ?_
  refine wp_seq ?_
  refine wp_seq ?_
  refine rg_lit ?_
  refine pl_val (want_no rfl) (some 11) rfl (.int .i64 1) (fun _ => by kernel_rfl) ?_
  refine pl_val (want_no rfl) (some 12) rfl (.bool true) (fun _ => by kernel_rfl) ?_
  refine pl_nil ?_
  refine au_then ?_
  refine wp_cond_true (by kernel_rfl) ?_
  refine wp_skip ?_
  refine au_then ?_
  refine wp_seq ?_
  refine wp_block ?_
  refine wp_seq ?_
  refine rg_lit ?_
  refine pl_val (want_no rfl) (some 15) rfl (.slice (some ⟨g1, 0, none⟩) 8 8) (fun _ => by kernel_rfl) ?_
  refine pl_val (want_no rfl) (some 16) rfl (.int .i64 1) (fun _ => by kernel_rfl) ?_
  refine pl_val (want_no rfl) (some 17) rfl (.int .u64 (sr (sr (sr (sr (sr (sr x 8) 8) 8) 8) 8) 8)) (fun _ => by kernel_rfl) ?_
  refine pl_val (want_no rfl) (some 18) rfl (.int .u8 (cv .u8 (sr (sr (sr (sr (sr (sr x 8) 8) 8) 8) 8) 8))) (fun _ => by kernel_rfl) ?_
  refine pl_val (want_no rfl) (some 19) rfl (.pointer (some ⟨g1, 1, none⟩)) (fun _ => by kernel_rfl) ?_
  refine pl_put1 M (want_no rfl) rfl 5 _ _ rfl 0 g1 1 (by kernel_rfl) 8 5 (ls [.int .u8 0, .int .u8 0, .int .u8 (cv .u8 (sr (sr (sr (sr (sr x 8) 8) 8) 8) 8)), .int .u8 (cv .u8 (sr (sr (sr (sr x 8) 8) 8) 8)), .int .u8 (cv .u8 (sr (sr (sr x 8) 8) 8)), .int .u8 (cv .u8 (sr (sr x 8) 8)), .int .u8 (cv .u8 (sr x 8)), .int .u8 (cv .u8 x)]) rfl (.int .u8 (cv .u8 (sr (sr (sr (sr (sr (sr x 8) 8) 8) 8) 8) 8))) (ls [.int .u8 0, .int .u8 (cv .u8 (sr (sr (sr (sr (sr (sr x 8) 8) 8) 8) 8) 8)), .int .u8 (cv .u8 (sr (sr (sr (sr (sr x 8) 8) 8) 8) 8)), .int .u8 (cv .u8 (sr (sr (sr (sr x 8) 8) 8) 8)), .int .u8 (cv .u8 (sr (sr (sr x 8) 8) 8)), .int .u8 (cv .u8 (sr (sr x 8) 8)), .int .u8 (cv .u8 (sr x 8)), .int .u8 (cv .u8 x)]) (by kernel_rfl) inz5 (by decide) rfl rfl (put_ls _ 1 _ _ rfl) ?_
  intro u8 M
  replace M : Mem ⟨w, []⟩ [⟨g1, .cells (av 8 (ls [.int .u8 0, .int .u8 (cv .u8 (sr (sr (sr (sr (sr (sr x 8) 8) 8) 8) 8) 8)), .int .u8 (cv .u8 (sr (sr (sr (sr (sr x 8) 8) 8) 8) 8)), .int .u8 (cv .u8 (sr (sr (sr (sr x 8) 8) 8) 8)), .int .u8 (cv .u8 (sr (sr (sr x 8) 8) 8)), .int .u8 (cv .u8 (sr (sr x 8) 8)), .int .u8 (cv .u8 (sr x 8)), .int .u8 (cv .u8 x)])) 5⟩] u8 := M
  refine pl_nil ?_
  refine au_then ?_
  refine rg_lit ?_
  refine pl_val (want_no rfl) (some 20) rfl (.int .u64 (sr (sr (sr (sr (sr (sr x 8) 8) 8) 8) 8) 8)) (fun _ => by kernel_rfl) ?_
  refine pl_val (want_no rfl) (some 21) rfl (.int .u64 (sr (sr (sr (sr (sr (sr (sr x 8) 8) 8) 8) 8) 8) 8)) (fun _ => by kernel_rfl) ?_
  refine pl_val (want_no rfl) (some 0) rfl (.int .u64 (sr (sr (sr (sr (sr (sr (sr x 8) 8) 8) 8) 8) 8) 8)) (fun _ => by kernel_rfl) ?_
  refine pl_nil ?_
  refine au_block ?_
  refine au_then ?_
  refine rg_lit ?_
  refine pl_val (want_no rfl) (some 13) rfl (.int .i64 1) (fun _ => by kernel_rfl) ?_
  refine pl_val (want_no rfl) (some 14) rfl (.int .i64 0) (fun _ => by kernel_rfl) ?_
  refine pl_val (want_no rfl) (some 6) rfl (.int .i64 0) (fun _ => by kernel_rfl) ?_
  refine pl_nil ?_
  refine au_then ?_
  refine rounds_go ?_
  refine wp_seq ?_
  refine wp_seq ?_
  refine rg_lit ?_
  refine pl_val (want_no rfl) (some 11) rfl (.int .i64 0) (fun _ => by kernel_rfl) ?_
  refine pl_val (want_no rfl) (some 12) rfl (.bool true) (fun _ => by kernel_rfl) ?_
  refine pl_nil ?_
  refine au_then ?_
  refine wp_cond_true (by kernel_rfl) ?_
  refine wp_skip ?_
  refine au_then ?_
  refine wp_seq ?_
  refine wp_block ?_
  refine wp_seq ?_
  refine rg_lit ?_
  refine pl_val (want_no rfl) (some 15) rfl (.slice (some ⟨g1, 0, none⟩) 8 8) (fun _ => by kernel_rfl) ?_
  refine pl_val (want_no rfl) (some 16) rfl (.int .i64 0) (fun _ => by kernel_rfl) ?_
  refine pl_val (want_no rfl) (some 17) rfl (.int .u64 (sr (sr (sr (sr (sr (sr (sr x 8) 8) 8) 8) 8) 8) 8)) (fun _ => by kernel_rfl) ?_
  refine pl_val (want_no rfl) (some 18) rfl (.int .u8 (cv .u8 (sr (sr (sr (sr (sr (sr (sr x 8) 8) 8) 8) 8) 8) 8))) (fun _ => by kernel_rfl) ?_
  refine pl_val (want_no rfl) (some 19) rfl (.pointer (some ⟨g1, 0, none⟩)) (fun _ => by kernel_rfl) ?_
  refine pl_put1 M (want_no rfl) rfl 5 _ _ rfl 0 g1 0 (by kernel_rfl) 8 5 (ls [.int .u8 0, .int .u8 (cv .u8 (sr (sr (sr (sr (sr (sr x 8) 8) 8) 8) 8) 8)), .int .u8 (cv .u8 (sr (sr (sr (sr (sr x 8) 8) 8) 8) 8)), .int .u8 (cv .u8 (sr (sr (sr (sr x 8) 8) 8) 8)), .int .u8 (cv .u8 (sr (sr (sr x 8) 8) 8)), .int .u8 (cv .u8 (sr (sr x 8) 8)), .int .u8 (cv .u8 (sr x 8)), .int .u8 (cv .u8 x)]) rfl (.int .u8 (cv .u8 (sr (sr (sr (sr (sr (sr (sr x 8) 8) 8) 8) 8) 8) 8))) (ls [.int .u8 (cv .u8 (sr (sr (sr (sr (sr (sr (sr x 8) 8) 8) 8) 8) 8) 8)), .int .u8 (cv .u8 (sr (sr (sr (sr (sr (sr x 8) 8) 8) 8) 8) 8)), .int .u8 (cv .u8 (sr (sr (sr (sr (sr x 8) 8) 8) 8) 8)), .int .u8 (cv .u8 (sr (sr (sr (sr x 8) 8) 8) 8)), .int .u8 (cv .u8 (sr (sr (sr x 8) 8) 8)), .int .u8 (cv .u8 (sr (sr x 8) 8)), .int .u8 (cv .u8 (sr x 8)), .int .u8 (cv .u8 x)]) (by kernel_rfl) inz5 (by decide) rfl rfl (put_ls _ 0 _ _ rfl) ?_
  intro u9 M
  replace M : Mem ⟨w, []⟩ [⟨g1, .cells (av 8 (ls [.int .u8 (cv .u8 (sr (sr (sr (sr (sr (sr (sr x 8) 8) 8) 8) 8) 8) 8)), .int .u8 (cv .u8 (sr (sr (sr (sr (sr (sr x 8) 8) 8) 8) 8) 8)), .int .u8 (cv .u8 (sr (sr (sr (sr (sr x 8) 8) 8) 8) 8)), .int .u8 (cv .u8 (sr (sr (sr (sr x 8) 8) 8) 8)), .int .u8 (cv .u8 (sr (sr (sr x 8) 8) 8)), .int .u8 (cv .u8 (sr (sr x 8) 8)), .int .u8 (cv .u8 (sr x 8)), .int .u8 (cv .u8 x)])) 5⟩] u9 := M
  refine pl_nil ?_
  refine au_then ?_
  refine rg_lit ?_
  refine pl_val (want_no rfl) (some 20) rfl (.int .u64 (sr (sr (sr (sr (sr (sr (sr x 8) 8) 8) 8) 8) 8) 8)) (fun _ => by kernel_rfl) ?_
  refine pl_val (want_no rfl) (some 21) rfl (.int .u64 (sr (sr (sr (sr (sr (sr (sr (sr x 8) 8) 8) 8) 8) 8) 8) 8)) (fun _ => by kernel_rfl) ?_
  refine pl_val (want_no rfl) (some 0) rfl (.int .u64 (sr (sr (sr (sr (sr (sr (sr (sr x 8) 8) 8) 8) 8) 8) 8) 8)) (fun _ => by kernel_rfl) ?_
  refine pl_nil ?_
  refine au_block ?_
  refine au_then ?_
  refine rg_lit ?_
  refine pl_val (want_no rfl) (some 13) rfl (.int .i64 0) (fun _ => by kernel_rfl) ?_
  refine pl_val (want_no rfl) (some 14) rfl (.int .i64 (-1)) (fun _ => by kernel_rfl) ?_
  refine pl_val (want_no rfl) (some 6) rfl (.int .i64 (-1)) (fun _ => by kernel_rfl) ?_
  refine pl_nil ?_
  refine au_then ?_
  refine rounds_go ?_
  refine wp_seq ?_
  refine wp_seq ?_
  refine rg_lit ?_
  refine pl_val (want_no rfl) (some 11) rfl (.int .i64 (-1)) (fun _ => by kernel_rfl) ?_
  refine pl_val (want_no rfl) (some 12) rfl (.bool false) (fun _ => by kernel_rfl) ?_
  refine pl_nil ?_
  refine au_then ?_
  refine wp_cond_false (by kernel_rfl) ?_
  refine wp_exit ?_
  refine au_then_exit ?_
  refine au_then_exit ?_
  refine au_block_exit ?_
  refine au_then ?_
  refine wp_seq ?_
  refine rg_lit ?_
  refine pl_val (want_no rfl) (some 22) rfl (.slice (some ⟨g1, 0, none⟩) 8 8) (fun _ => by kernel_rfl) ?_
  refine pl_back M (want_no rfl) (some 23) rfl _ rfl 0 g1 8 8 (by kernel_rfl) _ rfl [(cv .u8 (sr (sr (sr (sr (sr (sr (sr x 8) 8) 8) 8) 8) 8) 8)), (cv .u8 (sr (sr (sr (sr (sr (sr x 8) 8) 8) 8) 8) 8)), (cv .u8 (sr (sr (sr (sr (sr x 8) 8) 8) 8) 8)), (cv .u8 (sr (sr (sr (sr x 8) 8) 8) 8)), (cv .u8 (sr (sr (sr x 8) 8) 8)), (cv .u8 (sr (sr x 8) 8)), (cv .u8 (sr x 8)), (cv .u8 x)] 8 (sb_ls [(cv .u8 (sr (sr (sr (sr (sr (sr (sr x 8) 8) 8) 8) 8) 8) 8)), (cv .u8 (sr (sr (sr (sr (sr (sr x 8) 8) 8) 8) 8) 8)), (cv .u8 (sr (sr (sr (sr (sr x 8) 8) 8) 8) 8)), (cv .u8 (sr (sr (sr (sr x 8) 8) 8) 8)), (cv .u8 (sr (sr (sr x 8) 8) 8)), (cv .u8 (sr (sr x 8) 8)), (cv .u8 (sr x 8)), (cv .u8 x)] _) rfl (by intro x hx; simp only [List.mem_cons, List.mem_nil_iff, or_false] at hx; rcases hx with rfl | rfl | rfl | rfl | rfl | rfl | rfl | rfl <;> exact cv8_nn _) ?_
  refine pl_val (want_no rfl) (some 4) rfl (.string (bs [(cv .u8 (sr (sr (sr (sr (sr (sr (sr x 8) 8) 8) 8) 8) 8) 8)), (cv .u8 (sr (sr (sr (sr (sr (sr x 8) 8) 8) 8) 8) 8)), (cv .u8 (sr (sr (sr (sr (sr x 8) 8) 8) 8) 8)), (cv .u8 (sr (sr (sr (sr x 8) 8) 8) 8)), (cv .u8 (sr (sr (sr x 8) 8) 8)), (cv .u8 (sr (sr x 8) 8)), (cv .u8 (sr x 8)), (cv .u8 x)])) (fun _ => by kernel_rfl) ?_
  refine pl_nil ?_
  refine au_then ?_
  refine wp_ret ?_
  have e0 : (be8 x) = (bs [(cv .u8 (sr (sr (sr (sr (sr (sr (sr x 8) 8) 8) 8) 8) 8) 8)), (cv .u8 (sr (sr (sr (sr (sr (sr x 8) 8) 8) 8) 8) 8)), (cv .u8 (sr (sr (sr (sr (sr x 8) 8) 8) 8) 8)), (cv .u8 (sr (sr (sr (sr x 8) 8) 8) 8)), (cv .u8 (sr (sr (sr x 8) 8) 8)), (cv .u8 (sr (sr x 8) 8)), (cv .u8 (sr x 8)), (cv .u8 x)]) := rfl
  exact bodyPost_ret (v := .string (bs [(cv .u8 (sr (sr (sr (sr (sr (sr (sr x 8) 8) 8) 8) 8) 8) 8)), (cv .u8 (sr (sr (sr (sr (sr (sr x 8) 8) 8) 8) 8) 8)), (cv .u8 (sr (sr (sr (sr (sr x 8) 8) 8) 8) 8)), (cv .u8 (sr (sr (sr (sr x 8) 8) 8) 8)), (cv .u8 (sr (sr (sr x 8) 8) 8)), (cv .u8 (sr (sr x 8) 8)), (cv .u8 (sr x 8)), (cv .u8 x)])) (results_tmp1 Try.results42 _ _ _ (by kernel_rfl)) (by kernel_rfl) ⟨by rw [e0], below_grown M.old⟩


end Go.Proofs.Ytbechjlkmajcoaa
