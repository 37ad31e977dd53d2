/- The document: turn, K, Begin and piece. -/
import Derived.Test.YtghobmgdadpplaaDoorD9
namespace Go.Proofs.YtghobmgdadpplaaDoor
open Go.RowKit

theorem uo_comm (x y : Int) : uo x y = uo y x := by
  unfold uo
  rw [BitVec.or_comm]
theorem ua_assoc (x y z : Int) : ua (ua x y) z = ua x (ua y z) := by
  rw [ua_eq, ua_eq, ua_eq, ua_eq]
  omega

set_option maxRecDepth 100000 in
set_option maxHeartbeats 4000000 in
theorem c_turn1 (x : Int) (w : World) (hL : Laid w)  :
    Calls Tryd.prog 23 #[.int .u64 x, .int .u64 1] w fun r w' => r = .returned (.int .u64 (rot x 1)) ∧ Below w.heap.size w w' := by
  go_enter Tryd.func23, Tryd.ntmps23
  have M := Mem.start hL
  refine wp_seq ?_
  refine rg_lit ?_
  refine pl_val (want_no rfl) (some 4) rfl (.int .u64 0) (fun _ => by kernel_rfl) ?_
  refine pl_nil ?_
  refine au_then ?_
  refine wp_seq ?_
  refine rg_lit ?_
  refine pl_val (want_no rfl) (some 5) rfl (.int .u64 x) (fun _ => by kernel_rfl) ?_
  refine pl_val (want_no rfl) (some 6) rfl (.int .u64 1) (fun _ => by kernel_rfl) ?_
  refine pl_val (want_no rfl) (some 7) rfl (.int .u64 (sr x 1)) (fun _ => by kernel_rfl) ?_
  refine pl_val (want_no rfl) (some 8) rfl (.int .u64 x) (fun _ => by kernel_rfl) ?_
  refine pl_val (want_no rfl) (some 9) rfl (.int .u64 1) (fun _ => by kernel_rfl) ?_
  refine pl_val (want_no rfl) (some 10) rfl (.int .u64 63) (fun _ => by kernel_rfl) ?_
  refine pl_val (want_no rfl) (some 11) rfl (.int .u64 (sl x 63)) (fun _ => by kernel_rfl) ?_
  refine pl_val (want_no rfl) (some 12) rfl (.int .u64 (uo (sr x 1) (sl x 63))) (fun _ => by kernel_rfl) ?_
  refine pl_val (want_no rfl) (some 4) rfl (.int .u64 (uo (sr x 1) (sl x 63))) (fun _ => by kernel_rfl) ?_
  refine pl_nil ?_
  refine au_then ?_
  refine wp_ret ?_
  refine bodyPost_ret (v := .int .u64 (rot x 1)) (Eq.trans (b := .ok (.int .u64 (uo (sr x 1) (sl x 63))) _) (results_tmp1 Tryd.results23 _ _ _ (by kernel_rfl)) (by unfold rot; rw [uo_comm])) (by kernel_rfl) ⟨rfl, below_grown M.old⟩

set_option maxRecDepth 100000 in
set_option maxHeartbeats 4000000 in
theorem c_turn8 (x : Int) (w : World) (hL : Laid w)  :
    Calls Tryd.prog 23 #[.int .u64 x, .int .u64 8] w fun r w' => r = .returned (.int .u64 (rot x 8)) ∧ Below w.heap.size w w' := by
  go_enter Tryd.func23, Tryd.ntmps23
  have M := Mem.start hL
  refine wp_seq ?_
  refine rg_lit ?_
  refine pl_val (want_no rfl) (some 4) rfl (.int .u64 0) (fun _ => by kernel_rfl) ?_
  refine pl_nil ?_
  refine au_then ?_
  refine wp_seq ?_
  refine rg_lit ?_
  refine pl_val (want_no rfl) (some 5) rfl (.int .u64 x) (fun _ => by kernel_rfl) ?_
  refine pl_val (want_no rfl) (some 6) rfl (.int .u64 8) (fun _ => by kernel_rfl) ?_
  refine pl_val (want_no rfl) (some 7) rfl (.int .u64 (sr x 8)) (fun _ => by kernel_rfl) ?_
  refine pl_val (want_no rfl) (some 8) rfl (.int .u64 x) (fun _ => by kernel_rfl) ?_
  refine pl_val (want_no rfl) (some 9) rfl (.int .u64 8) (fun _ => by kernel_rfl) ?_
  refine pl_val (want_no rfl) (some 10) rfl (.int .u64 56) (fun _ => by kernel_rfl) ?_
  refine pl_val (want_no rfl) (some 11) rfl (.int .u64 (sl x 56)) (fun _ => by kernel_rfl) ?_
  refine pl_val (want_no rfl) (some 12) rfl (.int .u64 (uo (sr x 8) (sl x 56))) (fun _ => by kernel_rfl) ?_
  refine pl_val (want_no rfl) (some 4) rfl (.int .u64 (uo (sr x 8) (sl x 56))) (fun _ => by kernel_rfl) ?_
  refine pl_nil ?_
  refine au_then ?_
  refine wp_ret ?_
  refine bodyPost_ret (v := .int .u64 (rot x 8)) (Eq.trans (b := .ok (.int .u64 (uo (sr x 8) (sl x 56))) _) (results_tmp1 Tryd.results23 _ _ _ (by kernel_rfl)) (by unfold rot; rw [uo_comm])) (by kernel_rfl) ⟨rfl, below_grown M.old⟩

set_option maxRecDepth 100000 in
set_option maxHeartbeats 4000000 in
theorem c_turn19 (x : Int) (w : World) (hL : Laid w)  :
    Calls Tryd.prog 23 #[.int .u64 x, .int .u64 19] w fun r w' => r = .returned (.int .u64 (rot x 19)) ∧ Below w.heap.size w w' := by
  go_enter Tryd.func23, Tryd.ntmps23
  have M := Mem.start hL
  refine wp_seq ?_
  refine rg_lit ?_
  refine pl_val (want_no rfl) (some 4) rfl (.int .u64 0) (fun _ => by kernel_rfl) ?_
  refine pl_nil ?_
  refine au_then ?_
  refine wp_seq ?_
  refine rg_lit ?_
  refine pl_val (want_no rfl) (some 5) rfl (.int .u64 x) (fun _ => by kernel_rfl) ?_
  refine pl_val (want_no rfl) (some 6) rfl (.int .u64 19) (fun _ => by kernel_rfl) ?_
  refine pl_val (want_no rfl) (some 7) rfl (.int .u64 (sr x 19)) (fun _ => by kernel_rfl) ?_
  refine pl_val (want_no rfl) (some 8) rfl (.int .u64 x) (fun _ => by kernel_rfl) ?_
  refine pl_val (want_no rfl) (some 9) rfl (.int .u64 19) (fun _ => by kernel_rfl) ?_
  refine pl_val (want_no rfl) (some 10) rfl (.int .u64 45) (fun _ => by kernel_rfl) ?_
  refine pl_val (want_no rfl) (some 11) rfl (.int .u64 (sl x 45)) (fun _ => by kernel_rfl) ?_
  refine pl_val (want_no rfl) (some 12) rfl (.int .u64 (uo (sr x 19) (sl x 45))) (fun _ => by kernel_rfl) ?_
  refine pl_val (want_no rfl) (some 4) rfl (.int .u64 (uo (sr x 19) (sl x 45))) (fun _ => by kernel_rfl) ?_
  refine pl_nil ?_
  refine au_then ?_
  refine wp_ret ?_
  refine bodyPost_ret (v := .int .u64 (rot x 19)) (Eq.trans (b := .ok (.int .u64 (uo (sr x 19) (sl x 45))) _) (results_tmp1 Tryd.results23 _ _ _ (by kernel_rfl)) (by unfold rot; rw [uo_comm])) (by kernel_rfl) ⟨rfl, below_grown M.old⟩

set_option maxRecDepth 100000 in
set_option maxHeartbeats 4000000 in
theorem c_turn61 (x : Int) (w : World) (hL : Laid w)  :
    Calls Tryd.prog 23 #[.int .u64 x, .int .u64 61] w fun r w' => r = .returned (.int .u64 (rot x 61)) ∧ Below w.heap.size w w' := by
  go_enter Tryd.func23, Tryd.ntmps23
  have M := Mem.start hL
  refine wp_seq ?_
  refine rg_lit ?_
  refine pl_val (want_no rfl) (some 4) rfl (.int .u64 0) (fun _ => by kernel_rfl) ?_
  refine pl_nil ?_
  refine au_then ?_
  refine wp_seq ?_
  refine rg_lit ?_
  refine pl_val (want_no rfl) (some 5) rfl (.int .u64 x) (fun _ => by kernel_rfl) ?_
  refine pl_val (want_no rfl) (some 6) rfl (.int .u64 61) (fun _ => by kernel_rfl) ?_
  refine pl_val (want_no rfl) (some 7) rfl (.int .u64 (sr x 61)) (fun _ => by kernel_rfl) ?_
  refine pl_val (want_no rfl) (some 8) rfl (.int .u64 x) (fun _ => by kernel_rfl) ?_
  refine pl_val (want_no rfl) (some 9) rfl (.int .u64 61) (fun _ => by kernel_rfl) ?_
  refine pl_val (want_no rfl) (some 10) rfl (.int .u64 3) (fun _ => by kernel_rfl) ?_
  refine pl_val (want_no rfl) (some 11) rfl (.int .u64 (sl x 3)) (fun _ => by kernel_rfl) ?_
  refine pl_val (want_no rfl) (some 12) rfl (.int .u64 (uo (sr x 61) (sl x 3))) (fun _ => by kernel_rfl) ?_
  refine pl_val (want_no rfl) (some 4) rfl (.int .u64 (uo (sr x 61) (sl x 3))) (fun _ => by kernel_rfl) ?_
  refine pl_nil ?_
  refine au_then ?_
  refine wp_ret ?_
  refine bodyPost_ret (v := .int .u64 (rot x 61)) (Eq.trans (b := .ok (.int .u64 (uo (sr x 61) (sl x 3))) _) (results_tmp1 Tryd.results23 _ _ _ (by kernel_rfl)) (by unfold rot; rw [uo_comm])) (by kernel_rfl) ⟨rfl, below_grown M.old⟩

set_option maxRecDepth 100000 in
set_option maxHeartbeats 4000000 in
theorem c_turn14 (x : Int) (w : World) (hL : Laid w)  :
    Calls Tryd.prog 23 #[.int .u64 x, .int .u64 14] w fun r w' => r = .returned (.int .u64 (rot x 14)) ∧ Below w.heap.size w w' := by
  go_enter Tryd.func23, Tryd.ntmps23
  have M := Mem.start hL
  refine wp_seq ?_
  refine rg_lit ?_
  refine pl_val (want_no rfl) (some 4) rfl (.int .u64 0) (fun _ => by kernel_rfl) ?_
  refine pl_nil ?_
  refine au_then ?_
  refine wp_seq ?_
  refine rg_lit ?_
  refine pl_val (want_no rfl) (some 5) rfl (.int .u64 x) (fun _ => by kernel_rfl) ?_
  refine pl_val (want_no rfl) (some 6) rfl (.int .u64 14) (fun _ => by kernel_rfl) ?_
  refine pl_val (want_no rfl) (some 7) rfl (.int .u64 (sr x 14)) (fun _ => by kernel_rfl) ?_
  refine pl_val (want_no rfl) (some 8) rfl (.int .u64 x) (fun _ => by kernel_rfl) ?_
  refine pl_val (want_no rfl) (some 9) rfl (.int .u64 14) (fun _ => by kernel_rfl) ?_
  refine pl_val (want_no rfl) (some 10) rfl (.int .u64 50) (fun _ => by kernel_rfl) ?_
  refine pl_val (want_no rfl) (some 11) rfl (.int .u64 (sl x 50)) (fun _ => by kernel_rfl) ?_
  refine pl_val (want_no rfl) (some 12) rfl (.int .u64 (uo (sr x 14) (sl x 50))) (fun _ => by kernel_rfl) ?_
  refine pl_val (want_no rfl) (some 4) rfl (.int .u64 (uo (sr x 14) (sl x 50))) (fun _ => by kernel_rfl) ?_
  refine pl_nil ?_
  refine au_then ?_
  refine wp_ret ?_
  refine bodyPost_ret (v := .int .u64 (rot x 14)) (Eq.trans (b := .ok (.int .u64 (uo (sr x 14) (sl x 50))) _) (results_tmp1 Tryd.results23 _ _ _ (by kernel_rfl)) (by unfold rot; rw [uo_comm])) (by kernel_rfl) ⟨rfl, below_grown M.old⟩

set_option maxRecDepth 100000 in
set_option maxHeartbeats 4000000 in
theorem c_turn18 (x : Int) (w : World) (hL : Laid w)  :
    Calls Tryd.prog 23 #[.int .u64 x, .int .u64 18] w fun r w' => r = .returned (.int .u64 (rot x 18)) ∧ Below w.heap.size w w' := by
  go_enter Tryd.func23, Tryd.ntmps23
  have M := Mem.start hL
  refine wp_seq ?_
  refine rg_lit ?_
  refine pl_val (want_no rfl) (some 4) rfl (.int .u64 0) (fun _ => by kernel_rfl) ?_
  refine pl_nil ?_
  refine au_then ?_
  refine wp_seq ?_
  refine rg_lit ?_
  refine pl_val (want_no rfl) (some 5) rfl (.int .u64 x) (fun _ => by kernel_rfl) ?_
  refine pl_val (want_no rfl) (some 6) rfl (.int .u64 18) (fun _ => by kernel_rfl) ?_
  refine pl_val (want_no rfl) (some 7) rfl (.int .u64 (sr x 18)) (fun _ => by kernel_rfl) ?_
  refine pl_val (want_no rfl) (some 8) rfl (.int .u64 x) (fun _ => by kernel_rfl) ?_
  refine pl_val (want_no rfl) (some 9) rfl (.int .u64 18) (fun _ => by kernel_rfl) ?_
  refine pl_val (want_no rfl) (some 10) rfl (.int .u64 46) (fun _ => by kernel_rfl) ?_
  refine pl_val (want_no rfl) (some 11) rfl (.int .u64 (sl x 46)) (fun _ => by kernel_rfl) ?_
  refine pl_val (want_no rfl) (some 12) rfl (.int .u64 (uo (sr x 18) (sl x 46))) (fun _ => by kernel_rfl) ?_
  refine pl_val (want_no rfl) (some 4) rfl (.int .u64 (uo (sr x 18) (sl x 46))) (fun _ => by kernel_rfl) ?_
  refine pl_nil ?_
  refine au_then ?_
  refine wp_ret ?_
  refine bodyPost_ret (v := .int .u64 (rot x 18)) (Eq.trans (b := .ok (.int .u64 (uo (sr x 18) (sl x 46))) _) (results_tmp1 Tryd.results23 _ _ _ (by kernel_rfl)) (by unfold rot; rw [uo_comm])) (by kernel_rfl) ⟨rfl, below_grown M.old⟩

set_option maxRecDepth 100000 in
set_option maxHeartbeats 4000000 in
theorem c_turn41 (x : Int) (w : World) (hL : Laid w)  :
    Calls Tryd.prog 23 #[.int .u64 x, .int .u64 41] w fun r w' => r = .returned (.int .u64 (rot x 41)) ∧ Below w.heap.size w w' := by
  go_enter Tryd.func23, Tryd.ntmps23
  have M := Mem.start hL
  refine wp_seq ?_
  refine rg_lit ?_
  refine pl_val (want_no rfl) (some 4) rfl (.int .u64 0) (fun _ => by kernel_rfl) ?_
  refine pl_nil ?_
  refine au_then ?_
  refine wp_seq ?_
  refine rg_lit ?_
  refine pl_val (want_no rfl) (some 5) rfl (.int .u64 x) (fun _ => by kernel_rfl) ?_
  refine pl_val (want_no rfl) (some 6) rfl (.int .u64 41) (fun _ => by kernel_rfl) ?_
  refine pl_val (want_no rfl) (some 7) rfl (.int .u64 (sr x 41)) (fun _ => by kernel_rfl) ?_
  refine pl_val (want_no rfl) (some 8) rfl (.int .u64 x) (fun _ => by kernel_rfl) ?_
  refine pl_val (want_no rfl) (some 9) rfl (.int .u64 41) (fun _ => by kernel_rfl) ?_
  refine pl_val (want_no rfl) (some 10) rfl (.int .u64 23) (fun _ => by kernel_rfl) ?_
  refine pl_val (want_no rfl) (some 11) rfl (.int .u64 (sl x 23)) (fun _ => by kernel_rfl) ?_
  refine pl_val (want_no rfl) (some 12) rfl (.int .u64 (uo (sr x 41) (sl x 23))) (fun _ => by kernel_rfl) ?_
  refine pl_val (want_no rfl) (some 4) rfl (.int .u64 (uo (sr x 41) (sl x 23))) (fun _ => by kernel_rfl) ?_
  refine pl_nil ?_
  refine au_then ?_
  refine wp_ret ?_
  refine bodyPost_ret (v := .int .u64 (rot x 41)) (Eq.trans (b := .ok (.int .u64 (uo (sr x 41) (sl x 23))) _) (results_tmp1 Tryd.results23 _ _ _ (by kernel_rfl)) (by unfold rot; rw [uo_comm])) (by kernel_rfl) ⟨rfl, below_grown M.old⟩

set_option maxRecDepth 100000 in
set_option maxHeartbeats 4000000 in
theorem c_turn28 (x : Int) (w : World) (hL : Laid w)  :
    Calls Tryd.prog 23 #[.int .u64 x, .int .u64 28] w fun r w' => r = .returned (.int .u64 (rot x 28)) ∧ Below w.heap.size w w' := by
  go_enter Tryd.func23, Tryd.ntmps23
  have M := Mem.start hL
  refine wp_seq ?_
  refine rg_lit ?_
  refine pl_val (want_no rfl) (some 4) rfl (.int .u64 0) (fun _ => by kernel_rfl) ?_
  refine pl_nil ?_
  refine au_then ?_
  refine wp_seq ?_
  refine rg_lit ?_
  refine pl_val (want_no rfl) (some 5) rfl (.int .u64 x) (fun _ => by kernel_rfl) ?_
  refine pl_val (want_no rfl) (some 6) rfl (.int .u64 28) (fun _ => by kernel_rfl) ?_
  refine pl_val (want_no rfl) (some 7) rfl (.int .u64 (sr x 28)) (fun _ => by kernel_rfl) ?_
  refine pl_val (want_no rfl) (some 8) rfl (.int .u64 x) (fun _ => by kernel_rfl) ?_
  refine pl_val (want_no rfl) (some 9) rfl (.int .u64 28) (fun _ => by kernel_rfl) ?_
  refine pl_val (want_no rfl) (some 10) rfl (.int .u64 36) (fun _ => by kernel_rfl) ?_
  refine pl_val (want_no rfl) (some 11) rfl (.int .u64 (sl x 36)) (fun _ => by kernel_rfl) ?_
  refine pl_val (want_no rfl) (some 12) rfl (.int .u64 (uo (sr x 28) (sl x 36))) (fun _ => by kernel_rfl) ?_
  refine pl_val (want_no rfl) (some 4) rfl (.int .u64 (uo (sr x 28) (sl x 36))) (fun _ => by kernel_rfl) ?_
  refine pl_nil ?_
  refine au_then ?_
  refine wp_ret ?_
  refine bodyPost_ret (v := .int .u64 (rot x 28)) (Eq.trans (b := .ok (.int .u64 (uo (sr x 28) (sl x 36))) _) (results_tmp1 Tryd.results23 _ _ _ (by kernel_rfl)) (by unfold rot; rw [uo_comm])) (by kernel_rfl) ⟨rfl, below_grown M.old⟩

set_option maxRecDepth 100000 in
set_option maxHeartbeats 4000000 in
theorem c_turn34 (x : Int) (w : World) (hL : Laid w)  :
    Calls Tryd.prog 23 #[.int .u64 x, .int .u64 34] w fun r w' => r = .returned (.int .u64 (rot x 34)) ∧ Below w.heap.size w w' := by
  go_enter Tryd.func23, Tryd.ntmps23
  have M := Mem.start hL
  refine wp_seq ?_
  refine rg_lit ?_
  refine pl_val (want_no rfl) (some 4) rfl (.int .u64 0) (fun _ => by kernel_rfl) ?_
  refine pl_nil ?_
  refine au_then ?_
  refine wp_seq ?_
  refine rg_lit ?_
  refine pl_val (want_no rfl) (some 5) rfl (.int .u64 x) (fun _ => by kernel_rfl) ?_
  refine pl_val (want_no rfl) (some 6) rfl (.int .u64 34) (fun _ => by kernel_rfl) ?_
  refine pl_val (want_no rfl) (some 7) rfl (.int .u64 (sr x 34)) (fun _ => by kernel_rfl) ?_
  refine pl_val (want_no rfl) (some 8) rfl (.int .u64 x) (fun _ => by kernel_rfl) ?_
  refine pl_val (want_no rfl) (some 9) rfl (.int .u64 34) (fun _ => by kernel_rfl) ?_
  refine pl_val (want_no rfl) (some 10) rfl (.int .u64 30) (fun _ => by kernel_rfl) ?_
  refine pl_val (want_no rfl) (some 11) rfl (.int .u64 (sl x 30)) (fun _ => by kernel_rfl) ?_
  refine pl_val (want_no rfl) (some 12) rfl (.int .u64 (uo (sr x 34) (sl x 30))) (fun _ => by kernel_rfl) ?_
  refine pl_val (want_no rfl) (some 4) rfl (.int .u64 (uo (sr x 34) (sl x 30))) (fun _ => by kernel_rfl) ?_
  refine pl_nil ?_
  refine au_then ?_
  refine wp_ret ?_
  refine bodyPost_ret (v := .int .u64 (rot x 34)) (Eq.trans (b := .ok (.int .u64 (uo (sr x 34) (sl x 30))) _) (results_tmp1 Tryd.results23 _ _ _ (by kernel_rfl)) (by unfold rot; rw [uo_comm])) (by kernel_rfl) ⟨rfl, below_grown M.old⟩

set_option maxRecDepth 100000 in
set_option maxHeartbeats 4000000 in
theorem c_turn39 (x : Int) (w : World) (hL : Laid w)  :
    Calls Tryd.prog 23 #[.int .u64 x, .int .u64 39] w fun r w' => r = .returned (.int .u64 (rot x 39)) ∧ Below w.heap.size w w' := by
  go_enter Tryd.func23, Tryd.ntmps23
  have M := Mem.start hL
  refine wp_seq ?_
  refine rg_lit ?_
  refine pl_val (want_no rfl) (some 4) rfl (.int .u64 0) (fun _ => by kernel_rfl) ?_
  refine pl_nil ?_
  refine au_then ?_
  refine wp_seq ?_
  refine rg_lit ?_
  refine pl_val (want_no rfl) (some 5) rfl (.int .u64 x) (fun _ => by kernel_rfl) ?_
  refine pl_val (want_no rfl) (some 6) rfl (.int .u64 39) (fun _ => by kernel_rfl) ?_
  refine pl_val (want_no rfl) (some 7) rfl (.int .u64 (sr x 39)) (fun _ => by kernel_rfl) ?_
  refine pl_val (want_no rfl) (some 8) rfl (.int .u64 x) (fun _ => by kernel_rfl) ?_
  refine pl_val (want_no rfl) (some 9) rfl (.int .u64 39) (fun _ => by kernel_rfl) ?_
  refine pl_val (want_no rfl) (some 10) rfl (.int .u64 25) (fun _ => by kernel_rfl) ?_
  refine pl_val (want_no rfl) (some 11) rfl (.int .u64 (sl x 25)) (fun _ => by kernel_rfl) ?_
  refine pl_val (want_no rfl) (some 12) rfl (.int .u64 (uo (sr x 39) (sl x 25))) (fun _ => by kernel_rfl) ?_
  refine pl_val (want_no rfl) (some 4) rfl (.int .u64 (uo (sr x 39) (sl x 25))) (fun _ => by kernel_rfl) ?_
  refine pl_nil ?_
  refine au_then ?_
  refine wp_ret ?_
  refine bodyPost_ret (v := .int .u64 (rot x 39)) (Eq.trans (b := .ok (.int .u64 (uo (sr x 39) (sl x 25))) _) (results_tmp1 Tryd.results23 _ _ _ (by kernel_rfl)) (by unfold rot; rw [uo_comm])) (by kernel_rfl) ⟨rfl, below_grown M.old⟩

set_option maxRecDepth 100000 in
set_option maxHeartbeats 4000000 in
theorem c_K  (w : World) (hL : Laid w)  :
    Calls Tryd.prog 10 #[] w fun r w' => r = .returned (.agg (av 80 (w64 KF))) ∧ Below w.heap.size w w' := by
  go_enter Tryd.func10, Tryd.ntmps10
  have M := Mem.start hL
  refine wp_seq ?_
  refine rg_lit ?_
  refine pl_new M (want_no rfl) (some 0) rfl (.cells (av 80 (w64 fun _ => 0)) 26) (fun _ => by kernel_rfl) ?_
  intro g1 u1 M
  replace M : Mem ⟨w, none⟩ [⟨g1, .cells (av 80 (w64 fun _ => 0)) 26⟩] u1 := M
  refine pl_nil ?_
  refine au_then ?_
  refine wp_seq ?_
  refine rg_lit ?_
  refine pl_val (want_no rfl) (some 1) rfl (.agg (av 80 (w64 KF))) (fun _ => by kernel_rfl) ?_
  refine pl_put M (want_no rfl) rfl 26 _ _ rfl 0 g1 0 (by kernel_rfl) 80 26 (w64 fun _ => 0) rfl 80 (w64 KF) (w64 KF) (by kernel_rfl) inz26 (by decide) (fun _ _ => rfl) (fun j hj => by rw [if_pos (by omega), Nat.sub_zero]) ?_
  intro u2 M
  replace M : Mem ⟨w, none⟩ [⟨g1, .cells (av 80 (w64 KF)) 26⟩] u2 := M
  refine pl_nil ?_
  refine au_then ?_
  refine wp_ret ?_
  exact bodyPost_ret (v := .agg (av 80 (w64 KF))) (results_cell_row Tryd.results10 _ _ g1 26 (av 80 (w64 KF)) (0, 0) _ (by kernel_rfl) (M.get 0 rfl) Tryd.underlying26 rfl (by rw [av_size]; exact inz26)) (by kernel_rfl) ⟨rfl, below_grown M.old⟩

set_option maxRecDepth 100000 in
set_option maxHeartbeats 4000000 in
theorem c_begin  (w : World) (hL : Laid w)  :
    Calls Tryd.prog 11 #[] w fun r w' => r = .returned (.agg (av 8 (w64 HB))) ∧ Below w.heap.size w w' := by
  go_enter Tryd.func11, Tryd.ntmps11
  have M := Mem.start hL
  refine wp_seq ?_
  refine rg_lit ?_
  refine pl_new M (want_no rfl) (some 0) rfl (.cells (av 8 (w64 fun _ => 0)) 28) (fun _ => by kernel_rfl) ?_
  intro g1 u1 M
  replace M : Mem ⟨w, none⟩ [⟨g1, .cells (av 8 (w64 fun _ => 0)) 28⟩] u1 := M
  refine pl_nil ?_
  refine au_then ?_
  refine wp_seq ?_
  refine rg_lit ?_
  refine pl_val (want_no rfl) (some 1) rfl (.agg (av 8 (w64 HB))) (fun _ => by kernel_rfl) ?_
  refine pl_put M (want_no rfl) rfl 28 _ _ rfl 0 g1 0 (by kernel_rfl) 8 28 (w64 fun _ => 0) rfl 8 (w64 HB) (w64 HB) (by kernel_rfl) inz28 (by decide) (fun _ _ => rfl) (fun j hj => by rw [if_pos (by omega), Nat.sub_zero]) ?_
  intro u2 M
  replace M : Mem ⟨w, none⟩ [⟨g1, .cells (av 8 (w64 HB)) 28⟩] u2 := M
  refine pl_nil ?_
  refine au_then ?_
  refine wp_ret ?_
  exact bodyPost_ret (v := .agg (av 8 (w64 HB))) (results_cell_row Tryd.results11 _ _ g1 28 (av 8 (w64 HB)) (0, 0) _ (by kernel_rfl) (M.get 0 rfl) Tryd.underlying28 rfl (by rw [av_size]; exact inz28)) (by kernel_rfl) ⟨rfl, below_grown M.old⟩

set_option maxRecDepth 100000 in
set_option maxHeartbeats 4000000 in
theorem c_piece (h rs : Nat → Int) (g off cap : Nat) (w : World) (hL : Laid w) (hc : ∀ i, i < 128 → w.cell? ⟨g, off + i, none⟩ = some (.int .u8 (rs i))) :
    Calls Tryd.prog 17 #[.agg (av 8 (w64 h)), .slice (some ⟨g, off, none⟩) 128 cap] w fun r w' => r = .returned (.agg (av 8 (w64 (mixV h rs)))) ∧ Below w.heap.size w w' := by
  go_enter Tryd.func17, Tryd.ntmps17
  have M := Mem.start hL
  refine wp_seq ?_
  refine rg_lit ?_
  refine pl_new M (want_no rfl) (some 2) rfl (.cells (av 8 (w64 h)) 28) (fun _ => by kernel_rfl) ?_
  intro g1 u1 M
  replace M : Mem ⟨w, none⟩ [⟨g1, .cells (av 8 (w64 h)) 28⟩] u1 := M
  refine pl_new M (want_no rfl) (some 4) rfl (.cells (av 8 (w64 fun _ => 0)) 28) (fun _ => by kernel_rfl) ?_
  intro g2 u2 M
  replace M : Mem ⟨w, none⟩ [⟨g1, .cells (av 8 (w64 h)) 28⟩, ⟨g2, .cells (av 8 (w64 fun _ => 0)) 28⟩] u2 := M
  refine pl_nil ?_
  refine au_then ?_
  refine wp_seq ?_
  refine rg_lit ?_
  refine pl_new M (want_no rfl) (some 5) rfl (.cells (av 80 (w64 fun _ => 0)) 26) (fun _ => by kernel_rfl) ?_
  intro g3 u3 M
  replace M : Mem ⟨w, none⟩ [⟨g1, .cells (av 8 (w64 h)) 28⟩, ⟨g2, .cells (av 8 (w64 fun _ => 0)) 28⟩, ⟨g3, .cells (av 80 (w64 fun _ => 0)) 26⟩] u3 := M
  refine pl_nil ?_
  refine au_then ?_
  refine wp_seq ?_
  refine wp_seq ?_
  refine rg_lit ?_
  refine pl_val (want_no rfl) (some 6) rfl (.int .i64 0) (fun _ => by kernel_rfl) ?_
  refine pl_nil ?_
  refine au_then ?_
  refine wp_block ?_
  refine au_loop (fun j a w' => ∃ v1 : Nat → Value, a = ⟨#[.agg (av 8 (w64 h)), .slice (some ⟨g, off, none⟩) 128 cap, .pointer (some ⟨g1, 0, none⟩), undef, .pointer (some ⟨g2, 0, none⟩), .pointer (some ⟨g3, 0, none⟩), .int .i64 (j : Int), undef, undef, undef, undef, undef, undef, undef, undef, undef, undef, undef, v1 18, v1 19, v1 20, v1 21, v1 22, v1 23, v1 24, v1 25, v1 26, v1 27, v1 28, v1 29, v1 30, v1 31, v1 32, v1 33, v1 34, v1 35, undef, undef, undef, undef, undef, undef, undef, undef, undef, undef, undef, undef, undef, undef, undef, undef, undef, undef, undef, undef, undef, undef, undef, undef, undef, undef, undef, undef, undef, undef, undef, undef, undef, undef, undef, undef, undef, undef, undef, undef, undef, undef, undef, undef, undef, undef, undef, undef, undef, undef, undef, undef, undef, undef, undef, undef, undef, undef, undef, undef, undef, undef, undef, undef, undef, undef, undef, undef, undef, undef, undef, undef, undef, undef, undef, undef, undef, undef, undef, undef, undef, undef, undef, undef, undef, undef, undef, undef, undef, undef, undef, undef, undef, undef, undef, undef, undef, undef, undef, undef, undef, undef, undef, undef, undef, undef, undef, undef, undef, undef, undef, undef, undef, undef, undef, undef, undef, undef, undef, undef, undef, undef, undef, undef, undef, undef, undef, undef, undef, undef, undef, undef, undef, undef, undef, undef, undef, undef, undef], []⟩ ∧ Mem ⟨w, none⟩ [⟨g1, .cells (av 8 (w64 h)) 28⟩, ⟨g2, .cells (av 8 (w64 fun _ => 0)) 28⟩, ⟨g3, .cells (av 80 (w64 (sp1 rs j))) 26⟩] w') 128 ⟨fun k_ => ([undef, undef, undef, undef, undef, undef, undef, undef, undef, undef, undef, undef, undef, undef, undef, undef, undef, undef] : List Value).getD (k_ - 18) undef, by kernel_rfl, M⟩ ?_ ?_
  · intro j a u0 hj hI
    obtain ⟨v1, rfl, M⟩ := hI
    refine wp_seq ?_
    refine wp_seq ?_
    refine rg_lit ?_
    refine pl_val (want_no rfl) (some 18) rfl (.int .i64 (j : Int)) (fun _ => by kernel_rfl) ?_
    refine pl_val (want_no rfl) (some 19) rfl (.bool true) (fun w => Eq.trans (b := .ok (.value (.bool (decide ((j : Int) < 128)))) w) (by kernel_rfl) (by rw [decide_eq_true (by omega)])) ?_
    refine pl_nil ?_
    refine au_then ?_
    refine wp_cond_true (by kernel_rfl) ?_
    refine wp_skip ?_
    refine au_then ?_
    refine wp_seq ?_
    refine wp_block ?_
    refine rg_tail M 14 (by kernel_rfl) (by kernel_rfl) ?_
    simp only [List.take_succ_cons, List.take_zero]
    refine k_val (want_no rfl) (some 22) rfl (.int .i64 (j : Int)) (fun _ => by kernel_rfl) ?_
    refine k_val (want_no rfl) (some 23) rfl (.int .i64 ((j / 8 : Nat) : Int)) (fun w => Eq.trans (b := .ok (.value (.int .i64 (IntKind.wrap .i64 ((j : Int).tdiv 8)))) w) (by kernel_rfl) (by rw [quo8 j (by omega)])) ?_
    refine k_val (want_no rfl) (some 24) rfl (.int .i64 (j : Int)) (fun _ => by kernel_rfl) ?_
    refine k_val (want_no rfl) (some 25) rfl (.int .i64 ((j / 8 : Nat) : Int)) (fun w => Eq.trans (b := .ok (.value (.int .i64 (IntKind.wrap .i64 ((j : Int).tdiv 8)))) w) (by kernel_rfl) (by rw [quo8 j (by omega)])) ?_
    refine k_val (want_no rfl) (some 26) rfl (.pointer (some ⟨g3, ((j / 8 : Nat)), none⟩)) (run_ix1 26 80 25 Tryd.underlying26 inz25 _ _ rfl g3 (by kernel_rfl) .i64 ((j / 8 : Nat)) (by kernel_rfl) (by omega)) ?_
    refine k_cell M (want_no rfl) (some 27) rfl 25 _ rfl g3 ((j / 8 : Nat)) (by kernel_rfl) (.int .u64 ((sp1 rs j) ((j / 8 : Nat)))) (fun _ => by kernel_rfl) (fun w M => M.cell 2 rfl (by omega) rfl) ?_
    refine k_val (want_no rfl) (some 28) rfl (.int .u64 (sl ((sp1 rs j) ((j / 8 : Nat))) 8)) (fun _ => by kernel_rfl) ?_
    refine k_val (want_no rfl) (some 29) rfl (.slice (some ⟨g, off, none⟩) 128 cap) (fun _ => by kernel_rfl) ?_
    refine k_val (want_no rfl) (some 30) rfl (.int .i64 (j : Int)) (fun _ => by kernel_rfl) ?_
    refine k_val (want_no rfl) (some 31) rfl (.pointer (some ⟨g, off + j, none⟩)) (run_ixL 41 5 Tryd.underlying41 inz5 _ _ rfl g off 128 cap (by kernel_rfl) .i64 j (by kernel_rfl) hj) ?_
    refine k_cell M (want_no rfl) (some 32) rfl 5 _ rfl g (off + j) (by kernel_rfl) (.int .u8 (rs j)) (fun _ => by kernel_rfl) (fun w M => M.oldc (hc j hj) (by simp)) ?_
    refine k_val (want_no rfl) (some 33) rfl (.int .u64 (cv .u64 (rs j))) (fun _ => by kernel_rfl) ?_
    refine k_val (want_no rfl) (some 34) rfl (.int .u64 (uo (sl ((sp1 rs j) ((j / 8 : Nat))) 8) (cv .u64 (rs j)))) (fun _ => by kernel_rfl) ?_
    refine k_val (want_no rfl) (some 35) rfl (.pointer (some ⟨g3, ((j / 8 : Nat)), none⟩)) (run_ix1 26 80 25 Tryd.underlying26 inz25 _ _ rfl g3 (by kernel_rfl) .i64 ((j / 8 : Nat)) (by kernel_rfl) (by omega)) ?_
    refine kl_nil ?_
    intro u4 M
    replace M : Mem ⟨w, none⟩ [⟨g1, .cells (av 8 (w64 h)) 28⟩, ⟨g2, .cells (av 8 (w64 fun _ => 0)) 28⟩, ⟨g3, .cells (av 80 (w64 (sp1 rs j))) 26⟩] u4 := M
    refine pl_put1 M (want_no rfl) rfl 25 _ _ rfl 2 g3 ((j / 8 : Nat)) (by kernel_rfl) 80 26 (w64 (sp1 rs j)) rfl (.int .u64 (uo (sl ((sp1 rs j) ((j / 8 : Nat))) 8) (cv .u64 (rs j)))) (w64 (upd (sp1 rs j) ((j / 8 : Nat)) (uo (sl ((sp1 rs j) ((j / 8 : Nat))) 8) (cv .u64 (rs j))))) (by kernel_rfl) inz25 (by omega) rfl rfl (fun j _ => put_w64 _ _ _ j) ?_
    intro u5 M
    replace M : Mem ⟨w, none⟩ [⟨g1, .cells (av 8 (w64 h)) 28⟩, ⟨g2, .cells (av 8 (w64 fun _ => 0)) 28⟩, ⟨g3, .cells (av 80 (w64 (upd (sp1 rs j) ((j / 8 : Nat)) (uo (sl ((sp1 rs j) ((j / 8 : Nat))) 8) (cv .u64 (rs j)))))) 26⟩] u5 := M
    refine pl_nil ?_
    refine au_block ?_
    refine au_then ?_
    refine rg_lit ?_
    refine pl_val (want_no rfl) (some 20) rfl (.int .i64 (j : Int)) (fun _ => by kernel_rfl) ?_
    refine pl_val (want_no rfl) (some 21) rfl (.int .i64 ((j + 1 : Nat) : Int)) (fun w => Eq.trans (b := .ok (.value (.int .i64 (IntKind.wrap .i64 ((j : Int) + 1)))) w) (by kernel_rfl) (by rw [wrap64 (by omega) (by omega)]; congr 3)) ?_
    refine pl_val (want_no rfl) (some 6) rfl (.int .i64 ((j + 1 : Nat) : Int)) (fun _ => by kernel_rfl) ?_
    refine pl_nil ?_
    refine au_then ?_
    exact ⟨fun k_ => ([.int .i64 (j : Int), .bool true, .int .i64 (j : Int), .int .i64 ((j + 1 : Nat) : Int), .int .i64 (j : Int), .int .i64 ((j / 8 : Nat) : Int), .int .i64 (j : Int), .int .i64 ((j / 8 : Nat) : Int), .pointer (some ⟨g3, ((j / 8 : Nat)), none⟩), .int .u64 ((sp1 rs j) ((j / 8 : Nat))), .int .u64 (sl ((sp1 rs j) ((j / 8 : Nat))) 8), .slice (some ⟨g, off, none⟩) 128 cap, .int .i64 (j : Int), .pointer (some ⟨g, off + j, none⟩), .int .u8 (rs j), .int .u64 (cv .u64 (rs j)), .int .u64 (uo (sl ((sp1 rs j) ((j / 8 : Nat))) 8) (cv .u64 (rs j))), .pointer (some ⟨g3, ((j / 8 : Nat)), none⟩)] : List Value).getD (k_ - 18) undef, by kernel_rfl, M⟩
  · intro a u0 hI
    obtain ⟨v1, rfl, M⟩ := hI
    refine wp_seq ?_
    refine wp_seq ?_
    refine rg_lit ?_
    refine pl_val (want_no rfl) (some 18) rfl (.int .i64 (128 : Int)) (fun _ => by kernel_rfl) ?_
    refine pl_val (want_no rfl) (some 19) rfl (.bool false) (fun w => Eq.trans (b := .ok (.value (.bool (decide (128 < 128)))) w) (by kernel_rfl) (by rw [decide_eq_false (by omega)])) ?_
    refine pl_nil ?_
    refine au_then ?_
    refine wp_cond_false (by kernel_rfl) ?_
    refine wp_exit ?_
    refine au_then_exit ?_
    refine au_then_exit ?_
    refine au_block_exit ?_
    refine au_then ?_
    refine wp_seq ?_
    refine wp_seq ?_
    refine rg_lit ?_
    refine pl_val (want_no rfl) (some 7) rfl (.int .i64 16) (fun _ => by kernel_rfl) ?_
    refine pl_nil ?_
    refine au_then ?_
    refine wp_block ?_
    refine au_loop (fun j a w' => ∃ v2 : Nat → Value, a = ⟨#[.agg (av 8 (w64 h)), .slice (some ⟨g, off, none⟩) 128 cap, .pointer (some ⟨g1, 0, none⟩), undef, .pointer (some ⟨g2, 0, none⟩), .pointer (some ⟨g3, 0, none⟩), .int .i64 (128 : Int), .int .i64 ((16 + j : Nat) : Int), v2 8, v2 9, undef, undef, undef, undef, undef, undef, undef, undef, .int .i64 (128 : Int), .bool false, v1 20, v1 21, v1 22, v1 23, v1 24, v1 25, v1 26, v1 27, v1 28, v1 29, v1 30, v1 31, v1 32, v1 33, v1 34, v1 35, v2 36, v2 37, v2 38, v2 39, v2 40, v2 41, v2 42, v2 43, v2 44, v2 45, v2 46, v2 47, v2 48, v2 49, v2 50, v2 51, v2 52, v2 53, v2 54, v2 55, v2 56, v2 57, v2 58, v2 59, v2 60, v2 61, v2 62, v2 63, v2 64, v2 65, v2 66, v2 67, v2 68, v2 69, v2 70, v2 71, v2 72, v2 73, v2 74, v2 75, v2 76, undef, undef, undef, undef, undef, undef, undef, undef, undef, undef, undef, undef, undef, undef, undef, undef, undef, undef, undef, undef, undef, undef, undef, undef, undef, undef, undef, undef, undef, undef, undef, undef, undef, undef, undef, undef, undef, undef, undef, undef, undef, undef, undef, undef, undef, undef, undef, undef, undef, undef, undef, undef, undef, undef, undef, undef, undef, undef, undef, undef, undef, undef, undef, undef, undef, undef, undef, undef, undef, undef, undef, undef, undef, undef, undef, undef, undef, undef, undef, undef, undef, undef, undef, undef, undef, undef, undef, undef, undef, undef, undef, undef, undef, undef, undef, undef, undef, undef], []⟩ ∧ Mem ⟨w, none⟩ [⟨g1, .cells (av 8 (w64 h)) 28⟩, ⟨g2, .cells (av 8 (w64 fun _ => 0)) 28⟩, ⟨g3, .cells (av 80 (w64 (sp2 rs j))) 26⟩] w') 64 ⟨fun k_ => ([undef, undef, undef, undef, undef, undef, undef, undef, undef, undef, undef, undef, undef, undef, undef, undef, undef, undef, undef, undef, undef, undef, undef, undef, undef, undef, undef, undef, undef, undef, undef, undef, undef, undef, undef, undef, undef, undef, undef, undef, undef, undef, undef, undef, undef, undef, undef, undef, undef, undef, undef, undef, undef, undef, undef, undef, undef, undef, undef, undef, undef, undef, undef, undef, undef, undef, undef, undef, undef] : List Value).getD (k_ - 8) undef, by kernel_rfl, M⟩ ?_ ?_
    · intro j a u0 hj hI
      obtain ⟨v2, rfl, M⟩ := hI
      refine wp_seq ?_
      refine wp_seq ?_
      refine rg_lit ?_
      refine pl_val (want_no rfl) (some 36) rfl (.int .i64 ((16 + j : Nat) : Int)) (fun _ => by kernel_rfl) ?_
      refine pl_val (want_no rfl) (some 37) rfl (.bool true) (fun w => Eq.trans (b := .ok (.value (.bool (decide (((16 + j : Nat) : Int) < 80)))) w) (by kernel_rfl) (by rw [decide_eq_true (by omega)])) ?_
      refine pl_nil ?_
      refine au_then ?_
      refine wp_cond_true (by kernel_rfl) ?_
      refine wp_skip ?_
      refine au_then ?_
      refine wp_seq ?_
      refine wp_block ?_
      refine wp_seq ?_
      refine rg_lit ?_
      refine pl_val (want_no rfl) (some 40) rfl (.int .i64 ((16 + j : Nat) : Int)) (fun _ => by kernel_rfl) ?_
      refine pl_val (want_no rfl) (some 41) rfl (.int .i64 ((j + 1 : Nat) : Int)) (fun w => Eq.trans (b := .ok (.value (.int .i64 (IntKind.wrap .i64 (((16 + j : Nat) : Int) - 15)))) w) (by kernel_rfl) (by rw [wrap64 (by omega) (by omega)]; congr 3 <;> omega)) ?_
      refine pl_val (want_no rfl) (some 42) rfl (.pointer (some ⟨g3, ((j + 1 : Nat)), none⟩)) (run_ix1 26 80 25 Tryd.underlying26 inz25 _ _ rfl g3 (by kernel_rfl) .i64 ((j + 1 : Nat)) (by kernel_rfl) (by omega)) ?_
      refine pl_cell M (want_no rfl) (some 43) rfl 25 _ rfl g3 ((j + 1 : Nat)) (by kernel_rfl) (.int .u64 ((sp2 rs j) ((j + 1 : Nat)))) (fun _ => by kernel_rfl) (fun w M => M.cell 2 rfl (by omega) rfl) ?_
      refine pl_val (want_no rfl) (some 8) rfl (.int .u64 ((sp2 rs j) ((j + 1 : Nat)))) (fun _ => by kernel_rfl) ?_
      refine pl_nil ?_
      refine au_then ?_
      refine wp_seq ?_
      refine rg_lit ?_
      refine pl_val (want_no rfl) (some 44) rfl (.int .i64 ((16 + j : Nat) : Int)) (fun _ => by kernel_rfl) ?_
      refine pl_val (want_no rfl) (some 45) rfl (.int .i64 ((j + 14 : Nat) : Int)) (fun w => Eq.trans (b := .ok (.value (.int .i64 (IntKind.wrap .i64 (((16 + j : Nat) : Int) - 2)))) w) (by kernel_rfl) (by rw [wrap64 (by omega) (by omega)]; congr 3 <;> omega)) ?_
      refine pl_val (want_no rfl) (some 46) rfl (.pointer (some ⟨g3, ((j + 14 : Nat)), none⟩)) (run_ix1 26 80 25 Tryd.underlying26 inz25 _ _ rfl g3 (by kernel_rfl) .i64 ((j + 14 : Nat)) (by kernel_rfl) (by omega)) ?_
      refine pl_cell M (want_no rfl) (some 47) rfl 25 _ rfl g3 ((j + 14 : Nat)) (by kernel_rfl) (.int .u64 ((sp2 rs j) ((j + 14 : Nat)))) (fun _ => by kernel_rfl) (fun w M => M.cell 2 rfl (by omega) rfl) ?_
      refine pl_val (want_no rfl) (some 9) rfl (.int .u64 ((sp2 rs j) ((j + 14 : Nat)))) (fun _ => by kernel_rfl) ?_
      refine pl_nil ?_
      refine au_then ?_
      refine rg_tail M 29 (by kernel_rfl) (by kernel_rfl) ?_
      simp only [List.take_succ_cons, List.take_zero]
      refine k_val (want_no rfl) (some 48) rfl (.int .i64 ((16 + j : Nat) : Int)) (fun _ => by kernel_rfl) ?_
      refine k_val (want_no rfl) (some 49) rfl (.int .i64 ((16 + j : Nat) : Int)) (fun _ => by kernel_rfl) ?_
      refine k_val (want_no rfl) (some 50) rfl (.int .i64 (j : Int)) (fun w => Eq.trans (b := .ok (.value (.int .i64 (IntKind.wrap .i64 (((16 + j : Nat) : Int) - 16)))) w) (by kernel_rfl) (by rw [wrap64 (by omega) (by omega)]; congr 3 <;> omega)) ?_
      refine k_val (want_no rfl) (some 51) rfl (.pointer (some ⟨g3, j, none⟩)) (run_ix1 26 80 25 Tryd.underlying26 inz25 _ _ rfl g3 (by kernel_rfl) .i64 (j) (by kernel_rfl) (by omega)) ?_
      refine k_cell M (want_no rfl) (some 52) rfl 25 _ rfl g3 j (by kernel_rfl) (.int .u64 ((sp2 rs j) j)) (fun _ => by kernel_rfl) (fun w M => M.cell 2 rfl (by omega) rfl) ?_
      refine k_val (want_no rfl) (some 53) rfl (.int .u64 ((sp2 rs j) ((j + 1 : Nat)))) (fun _ => by kernel_rfl) ?_
      refine k_call M (want_no rfl) (some 54) rfl 23 #[.int .u64 ((sp2 rs j) ((j + 1 : Nat))), .int .u64 1] (.int .u64 (rot ((sp2 rs j) ((j + 1 : Nat))) 1)) (fun _ => by kernel_rfl) (fun w M => c_turn1 ((sp2 rs j) ((j + 1 : Nat))) w M.laid) ?_
      refine k_val (want_no rfl) (some 55) rfl (.int .u64 ((sp2 rs j) ((j + 1 : Nat)))) (fun _ => by kernel_rfl) ?_
      refine k_call M (want_no rfl) (some 56) rfl 23 #[.int .u64 ((sp2 rs j) ((j + 1 : Nat))), .int .u64 8] (.int .u64 (rot ((sp2 rs j) ((j + 1 : Nat))) 8)) (fun _ => by kernel_rfl) (fun w M => c_turn8 ((sp2 rs j) ((j + 1 : Nat))) w M.laid) ?_
      refine k_val (want_no rfl) (some 57) rfl (.int .u64 (ux (rot ((sp2 rs j) ((j + 1 : Nat))) 1) (rot ((sp2 rs j) ((j + 1 : Nat))) 8))) (fun _ => by kernel_rfl) ?_
      refine k_val (want_no rfl) (some 58) rfl (.int .u64 ((sp2 rs j) ((j + 1 : Nat)))) (fun _ => by kernel_rfl) ?_
      refine k_val (want_no rfl) (some 59) rfl (.int .u64 (sr ((sp2 rs j) ((j + 1 : Nat))) 7)) (fun _ => by kernel_rfl) ?_
      refine k_val (want_no rfl) (some 60) rfl (.int .u64 (ux (ux (rot ((sp2 rs j) ((j + 1 : Nat))) 1) (rot ((sp2 rs j) ((j + 1 : Nat))) 8)) (sr ((sp2 rs j) ((j + 1 : Nat))) 7))) (fun _ => by kernel_rfl) ?_
      refine k_val (want_no rfl) (some 61) rfl (.int .u64 (ua ((sp2 rs j) j) (ux (ux (rot ((sp2 rs j) ((j + 1 : Nat))) 1) (rot ((sp2 rs j) ((j + 1 : Nat))) 8)) (sr ((sp2 rs j) ((j + 1 : Nat))) 7)))) (fun _ => by kernel_rfl) ?_
      refine k_val (want_no rfl) (some 62) rfl (.int .i64 ((16 + j : Nat) : Int)) (fun _ => by kernel_rfl) ?_
      refine k_val (want_no rfl) (some 63) rfl (.int .i64 ((j + 9 : Nat) : Int)) (fun w => Eq.trans (b := .ok (.value (.int .i64 (IntKind.wrap .i64 (((16 + j : Nat) : Int) - 7)))) w) (by kernel_rfl) (by rw [wrap64 (by omega) (by omega)]; congr 3 <;> omega)) ?_
      refine k_val (want_no rfl) (some 64) rfl (.pointer (some ⟨g3, ((j + 9 : Nat)), none⟩)) (run_ix1 26 80 25 Tryd.underlying26 inz25 _ _ rfl g3 (by kernel_rfl) .i64 ((j + 9 : Nat)) (by kernel_rfl) (by omega)) ?_
      refine k_cell M (want_no rfl) (some 65) rfl 25 _ rfl g3 ((j + 9 : Nat)) (by kernel_rfl) (.int .u64 ((sp2 rs j) ((j + 9 : Nat)))) (fun _ => by kernel_rfl) (fun w M => M.cell 2 rfl (by omega) rfl) ?_
      refine k_val (want_no rfl) (some 66) rfl (.int .u64 (ua (ua ((sp2 rs j) j) (ux (ux (rot ((sp2 rs j) ((j + 1 : Nat))) 1) (rot ((sp2 rs j) ((j + 1 : Nat))) 8)) (sr ((sp2 rs j) ((j + 1 : Nat))) 7))) ((sp2 rs j) ((j + 9 : Nat))))) (fun _ => by kernel_rfl) ?_
      refine k_val (want_no rfl) (some 67) rfl (.int .u64 ((sp2 rs j) ((j + 14 : Nat)))) (fun _ => by kernel_rfl) ?_
      refine k_call M (want_no rfl) (some 68) rfl 23 #[.int .u64 ((sp2 rs j) ((j + 14 : Nat))), .int .u64 19] (.int .u64 (rot ((sp2 rs j) ((j + 14 : Nat))) 19)) (fun _ => by kernel_rfl) (fun w M => c_turn19 ((sp2 rs j) ((j + 14 : Nat))) w M.laid) ?_
      refine k_val (want_no rfl) (some 69) rfl (.int .u64 ((sp2 rs j) ((j + 14 : Nat)))) (fun _ => by kernel_rfl) ?_
      refine k_call M (want_no rfl) (some 70) rfl 23 #[.int .u64 ((sp2 rs j) ((j + 14 : Nat))), .int .u64 61] (.int .u64 (rot ((sp2 rs j) ((j + 14 : Nat))) 61)) (fun _ => by kernel_rfl) (fun w M => c_turn61 ((sp2 rs j) ((j + 14 : Nat))) w M.laid) ?_
      refine k_val (want_no rfl) (some 71) rfl (.int .u64 (ux (rot ((sp2 rs j) ((j + 14 : Nat))) 19) (rot ((sp2 rs j) ((j + 14 : Nat))) 61))) (fun _ => by kernel_rfl) ?_
      refine k_val (want_no rfl) (some 72) rfl (.int .u64 ((sp2 rs j) ((j + 14 : Nat)))) (fun _ => by kernel_rfl) ?_
      refine k_val (want_no rfl) (some 73) rfl (.int .u64 (sr ((sp2 rs j) ((j + 14 : Nat))) 6)) (fun _ => by kernel_rfl) ?_
      refine k_val (want_no rfl) (some 74) rfl (.int .u64 (ux (ux (rot ((sp2 rs j) ((j + 14 : Nat))) 19) (rot ((sp2 rs j) ((j + 14 : Nat))) 61)) (sr ((sp2 rs j) ((j + 14 : Nat))) 6))) (fun _ => by kernel_rfl) ?_
      refine k_val (want_no rfl) (some 75) rfl (.int .u64 (ua (ua (ua ((sp2 rs j) j) (ux (ux (rot ((sp2 rs j) ((j + 1 : Nat))) 1) (rot ((sp2 rs j) ((j + 1 : Nat))) 8)) (sr ((sp2 rs j) ((j + 1 : Nat))) 7))) ((sp2 rs j) ((j + 9 : Nat)))) (ux (ux (rot ((sp2 rs j) ((j + 14 : Nat))) 19) (rot ((sp2 rs j) ((j + 14 : Nat))) 61)) (sr ((sp2 rs j) ((j + 14 : Nat))) 6)))) (fun _ => by kernel_rfl) ?_
      refine k_val (want_no rfl) (some 76) rfl (.pointer (some ⟨g3, ((16 + j : Nat)), none⟩)) (run_ix1 26 80 25 Tryd.underlying26 inz25 _ _ rfl g3 (by kernel_rfl) .i64 ((16 + j : Nat)) (by kernel_rfl) (by omega)) ?_
      refine kl_nil ?_
      intro u6 M
      replace M : Mem ⟨w, none⟩ [⟨g1, .cells (av 8 (w64 h)) 28⟩, ⟨g2, .cells (av 8 (w64 fun _ => 0)) 28⟩, ⟨g3, .cells (av 80 (w64 (sp2 rs j))) 26⟩] u6 := M
      refine pl_put1 M (want_no rfl) rfl 25 _ _ rfl 2 g3 ((16 + j : Nat)) (by kernel_rfl) 80 26 (w64 (sp2 rs j)) rfl (.int .u64 (ua (ua (ua ((sp2 rs j) j) (ux (ux (rot ((sp2 rs j) ((j + 1 : Nat))) 1) (rot ((sp2 rs j) ((j + 1 : Nat))) 8)) (sr ((sp2 rs j) ((j + 1 : Nat))) 7))) ((sp2 rs j) ((j + 9 : Nat)))) (ux (ux (rot ((sp2 rs j) ((j + 14 : Nat))) 19) (rot ((sp2 rs j) ((j + 14 : Nat))) 61)) (sr ((sp2 rs j) ((j + 14 : Nat))) 6)))) (w64 (upd (sp2 rs j) ((16 + j : Nat)) (ua (ua (ua ((sp2 rs j) j) (ux (ux (rot ((sp2 rs j) ((j + 1 : Nat))) 1) (rot ((sp2 rs j) ((j + 1 : Nat))) 8)) (sr ((sp2 rs j) ((j + 1 : Nat))) 7))) ((sp2 rs j) ((j + 9 : Nat)))) (ux (ux (rot ((sp2 rs j) ((j + 14 : Nat))) 19) (rot ((sp2 rs j) ((j + 14 : Nat))) 61)) (sr ((sp2 rs j) ((j + 14 : Nat))) 6))))) (by kernel_rfl) inz25 (by omega) rfl rfl (fun j _ => put_w64 _ _ _ j) ?_
      intro u7 M
      replace M : Mem ⟨w, none⟩ [⟨g1, .cells (av 8 (w64 h)) 28⟩, ⟨g2, .cells (av 8 (w64 fun _ => 0)) 28⟩, ⟨g3, .cells (av 80 (w64 (upd (sp2 rs j) ((16 + j : Nat)) (ua (ua (ua ((sp2 rs j) j) (ux (ux (rot ((sp2 rs j) ((j + 1 : Nat))) 1) (rot ((sp2 rs j) ((j + 1 : Nat))) 8)) (sr ((sp2 rs j) ((j + 1 : Nat))) 7))) ((sp2 rs j) ((j + 9 : Nat)))) (ux (ux (rot ((sp2 rs j) ((j + 14 : Nat))) 19) (rot ((sp2 rs j) ((j + 14 : Nat))) 61)) (sr ((sp2 rs j) ((j + 14 : Nat))) 6)))))) 26⟩] u7 := M
      refine pl_nil ?_
      refine au_block ?_
      refine au_then ?_
      refine rg_lit ?_
      refine pl_val (want_no rfl) (some 38) rfl (.int .i64 ((16 + j : Nat) : Int)) (fun _ => by kernel_rfl) ?_
      refine pl_val (want_no rfl) (some 39) rfl (.int .i64 ((16 + (j + 1) : Nat) : Int)) (fun w => Eq.trans (b := .ok (.value (.int .i64 (IntKind.wrap .i64 (((16 + j : Nat) : Int) + 1)))) w) (by kernel_rfl) (by rw [wrap64 (by omega) (by omega)]; congr 3 <;> omega)) ?_
      refine pl_val (want_no rfl) (some 7) rfl (.int .i64 ((16 + (j + 1) : Nat) : Int)) (fun _ => by kernel_rfl) ?_
      refine pl_nil ?_
      refine au_then ?_
      exact ⟨fun k_ => ([.int .u64 ((sp2 rs j) ((j + 1 : Nat))), .int .u64 ((sp2 rs j) ((j + 14 : Nat))), undef, undef, undef, undef, undef, undef, undef, undef, undef, undef, undef, undef, undef, undef, undef, undef, undef, undef, undef, undef, undef, undef, undef, undef, undef, undef, .int .i64 ((16 + j : Nat) : Int), .bool true, .int .i64 ((16 + j : Nat) : Int), .int .i64 ((16 + (j + 1) : Nat) : Int), .int .i64 ((16 + j : Nat) : Int), .int .i64 ((j + 1 : Nat) : Int), .pointer (some ⟨g3, ((j + 1 : Nat)), none⟩), .int .u64 ((sp2 rs j) ((j + 1 : Nat))), .int .i64 ((16 + j : Nat) : Int), .int .i64 ((j + 14 : Nat) : Int), .pointer (some ⟨g3, ((j + 14 : Nat)), none⟩), .int .u64 ((sp2 rs j) ((j + 14 : Nat))), .int .i64 ((16 + j : Nat) : Int), .int .i64 ((16 + j : Nat) : Int), .int .i64 (j : Int), .pointer (some ⟨g3, j, none⟩), .int .u64 ((sp2 rs j) j), .int .u64 ((sp2 rs j) ((j + 1 : Nat))), .int .u64 (rot ((sp2 rs j) ((j + 1 : Nat))) 1), .int .u64 ((sp2 rs j) ((j + 1 : Nat))), .int .u64 (rot ((sp2 rs j) ((j + 1 : Nat))) 8), .int .u64 (ux (rot ((sp2 rs j) ((j + 1 : Nat))) 1) (rot ((sp2 rs j) ((j + 1 : Nat))) 8)), .int .u64 ((sp2 rs j) ((j + 1 : Nat))), .int .u64 (sr ((sp2 rs j) ((j + 1 : Nat))) 7), .int .u64 (ux (ux (rot ((sp2 rs j) ((j + 1 : Nat))) 1) (rot ((sp2 rs j) ((j + 1 : Nat))) 8)) (sr ((sp2 rs j) ((j + 1 : Nat))) 7)), .int .u64 (ua ((sp2 rs j) j) (ux (ux (rot ((sp2 rs j) ((j + 1 : Nat))) 1) (rot ((sp2 rs j) ((j + 1 : Nat))) 8)) (sr ((sp2 rs j) ((j + 1 : Nat))) 7))), .int .i64 ((16 + j : Nat) : Int), .int .i64 ((j + 9 : Nat) : Int), .pointer (some ⟨g3, ((j + 9 : Nat)), none⟩), .int .u64 ((sp2 rs j) ((j + 9 : Nat))), .int .u64 (ua (ua ((sp2 rs j) j) (ux (ux (rot ((sp2 rs j) ((j + 1 : Nat))) 1) (rot ((sp2 rs j) ((j + 1 : Nat))) 8)) (sr ((sp2 rs j) ((j + 1 : Nat))) 7))) ((sp2 rs j) ((j + 9 : Nat)))), .int .u64 ((sp2 rs j) ((j + 14 : Nat))), .int .u64 (rot ((sp2 rs j) ((j + 14 : Nat))) 19), .int .u64 ((sp2 rs j) ((j + 14 : Nat))), .int .u64 (rot ((sp2 rs j) ((j + 14 : Nat))) 61), .int .u64 (ux (rot ((sp2 rs j) ((j + 14 : Nat))) 19) (rot ((sp2 rs j) ((j + 14 : Nat))) 61)), .int .u64 ((sp2 rs j) ((j + 14 : Nat))), .int .u64 (sr ((sp2 rs j) ((j + 14 : Nat))) 6), .int .u64 (ux (ux (rot ((sp2 rs j) ((j + 14 : Nat))) 19) (rot ((sp2 rs j) ((j + 14 : Nat))) 61)) (sr ((sp2 rs j) ((j + 14 : Nat))) 6)), .int .u64 (ua (ua (ua ((sp2 rs j) j) (ux (ux (rot ((sp2 rs j) ((j + 1 : Nat))) 1) (rot ((sp2 rs j) ((j + 1 : Nat))) 8)) (sr ((sp2 rs j) ((j + 1 : Nat))) 7))) ((sp2 rs j) ((j + 9 : Nat)))) (ux (ux (rot ((sp2 rs j) ((j + 14 : Nat))) 19) (rot ((sp2 rs j) ((j + 14 : Nat))) 61)) (sr ((sp2 rs j) ((j + 14 : Nat))) 6))), .pointer (some ⟨g3, ((16 + j : Nat)), none⟩)] : List Value).getD (k_ - 8) undef, by kernel_rfl, M⟩
    · intro a u0 hI
      obtain ⟨v2, rfl, M⟩ := hI
      refine wp_seq ?_
      refine wp_seq ?_
      refine rg_lit ?_
      refine pl_val (want_no rfl) (some 36) rfl (.int .i64 ((16 + 64 : Nat) : Int)) (fun _ => by kernel_rfl) ?_
      refine pl_val (want_no rfl) (some 37) rfl (.bool false) (fun w => Eq.trans (b := .ok (.value (.bool (decide (((16 + 64 : Nat) : Int) < 80)))) w) (by kernel_rfl) (by rw [decide_eq_false (by omega)])) ?_
      refine pl_nil ?_
      refine au_then ?_
      refine wp_cond_false (by kernel_rfl) ?_
      refine wp_exit ?_
      refine au_then_exit ?_
      refine au_then_exit ?_
      refine au_block_exit ?_
      refine au_then ?_
      refine wp_seq ?_
      refine rg_lit ?_
      refine pl_call M (want_no rfl) (some 77) rfl 10 #[] (.agg (av 80 (w64 KF))) (fun _ => by kernel_rfl) (fun w M => c_K w M.laid) ?_
      intro u8 M
      refine pl_new M (want_no rfl) (some 10) rfl (.cells (av 80 (w64 fun _ => 0)) 26) (fun _ => by kernel_rfl) ?_
      intro g4 u9 M
      replace M : Mem ⟨w, none⟩ [⟨g1, .cells (av 8 (w64 h)) 28⟩, ⟨g2, .cells (av 8 (w64 fun _ => 0)) 28⟩, ⟨g3, .cells (av 80 (w64 (sp2 rs 64))) 26⟩, ⟨g4, .cells (av 80 (w64 fun _ => 0)) 26⟩] u9 := M
      refine pl_put M (want_no rfl) rfl 26 _ _ rfl 3 g4 0 (by kernel_rfl) 80 26 (w64 fun _ => 0) rfl 80 (w64 KF) (w64 KF) (by kernel_rfl) inz26 (by decide) (fun _ _ => rfl) (fun j hj => by rw [if_pos (by omega), Nat.sub_zero]) ?_
      intro u10 M
      replace M : Mem ⟨w, none⟩ [⟨g1, .cells (av 8 (w64 h)) 28⟩, ⟨g2, .cells (av 8 (w64 fun _ => 0)) 28⟩, ⟨g3, .cells (av 80 (w64 (sp2 rs 64))) 26⟩, ⟨g4, .cells (av 80 (w64 KF)) 26⟩] u10 := M
      refine pl_nil ?_
      refine au_then ?_
      refine wp_seq ?_
      refine rg_lit ?_
      refine pl_load M (want_no rfl) (some 78) rfl 28 _ rfl 0 g1 0 (by kernel_rfl) 8 28 (w64 h) rfl 8 (w64 h) (fun j _ => by rw [Nat.zero_add]) (by decide) _ Tryd.underlying28 rfl inz28 ?_
      refine pl_new M (want_no rfl) (some 11) rfl (.cells (av 8 (w64 fun _ => 0)) 28) (fun _ => by kernel_rfl) ?_
      intro g5 u11 M
      replace M : Mem ⟨w, none⟩ [⟨g1, .cells (av 8 (w64 h)) 28⟩, ⟨g2, .cells (av 8 (w64 fun _ => 0)) 28⟩, ⟨g3, .cells (av 80 (w64 (sp2 rs 64))) 26⟩, ⟨g4, .cells (av 80 (w64 KF)) 26⟩, ⟨g5, .cells (av 8 (w64 fun _ => 0)) 28⟩] u11 := M
      refine pl_put M (want_no rfl) rfl 28 _ _ rfl 4 g5 0 (by kernel_rfl) 8 28 (w64 fun _ => 0) rfl 8 (w64 h) (w64 h) (by kernel_rfl) inz28 (by decide) (fun _ _ => rfl) (fun j hj => by rw [if_pos (by omega), Nat.sub_zero]) ?_
      intro u12 M
      replace M : Mem ⟨w, none⟩ [⟨g1, .cells (av 8 (w64 h)) 28⟩, ⟨g2, .cells (av 8 (w64 fun _ => 0)) 28⟩, ⟨g3, .cells (av 80 (w64 (sp2 rs 64))) 26⟩, ⟨g4, .cells (av 80 (w64 KF)) 26⟩, ⟨g5, .cells (av 8 (w64 h)) 28⟩] u12 := M
      refine pl_nil ?_
      refine au_then ?_
      refine wp_seq ?_
      refine wp_seq ?_
      refine rg_lit ?_
      refine pl_val (want_no rfl) (some 12) rfl (.int .i64 0) (fun _ => by kernel_rfl) ?_
      refine pl_nil ?_
      refine au_then ?_
      refine wp_block ?_
      refine au_loop (fun j a w' => ∃ v3 : Nat → Value, a = ⟨#[.agg (av 8 (w64 h)), .slice (some ⟨g, off, none⟩) 128 cap, .pointer (some ⟨g1, 0, none⟩), undef, .pointer (some ⟨g2, 0, none⟩), .pointer (some ⟨g3, 0, none⟩), .int .i64 (128 : Int), .int .i64 ((16 + 64 : Nat) : Int), v2 8, v2 9, .pointer (some ⟨g4, 0, none⟩), .pointer (some ⟨g5, 0, none⟩), .int .i64 (j : Int), v3 13, v3 14, v3 15, v3 16, undef, .int .i64 (128 : Int), .bool false, v1 20, v1 21, v1 22, v1 23, v1 24, v1 25, v1 26, v1 27, v1 28, v1 29, v1 30, v1 31, v1 32, v1 33, v1 34, v1 35, .int .i64 ((16 + 64 : Nat) : Int), .bool false, v2 38, v2 39, v2 40, v2 41, v2 42, v2 43, v2 44, v2 45, v2 46, v2 47, v2 48, v2 49, v2 50, v2 51, v2 52, v2 53, v2 54, v2 55, v2 56, v2 57, v2 58, v2 59, v2 60, v2 61, v2 62, v2 63, v2 64, v2 65, v2 66, v2 67, v2 68, v2 69, v2 70, v2 71, v2 72, v2 73, v2 74, v2 75, v2 76, .agg (av 80 (w64 KF)), .agg (av 8 (w64 h)), v3 79, v3 80, v3 81, v3 82, v3 83, v3 84, v3 85, v3 86, v3 87, v3 88, v3 89, v3 90, v3 91, v3 92, v3 93, v3 94, v3 95, v3 96, v3 97, v3 98, v3 99, v3 100, v3 101, v3 102, v3 103, v3 104, v3 105, v3 106, v3 107, v3 108, v3 109, v3 110, v3 111, v3 112, v3 113, v3 114, v3 115, v3 116, v3 117, v3 118, v3 119, v3 120, v3 121, v3 122, v3 123, v3 124, v3 125, v3 126, v3 127, v3 128, v3 129, v3 130, v3 131, v3 132, v3 133, v3 134, v3 135, v3 136, v3 137, v3 138, v3 139, v3 140, v3 141, v3 142, v3 143, v3 144, v3 145, v3 146, v3 147, v3 148, v3 149, v3 150, v3 151, v3 152, v3 153, v3 154, v3 155, v3 156, v3 157, v3 158, v3 159, v3 160, undef, undef, undef, undef, undef, undef, undef, undef, undef, undef, undef, undef, undef, undef], []⟩ ∧ Mem ⟨w, none⟩ [⟨g1, .cells (av 8 (w64 h)) 28⟩, ⟨g2, .cells (av 8 (w64 fun _ => 0)) 28⟩, ⟨g3, .cells (av 80 (w64 (sp2 rs 64))) 26⟩, ⟨g4, .cells (av 80 (w64 KF)) 26⟩, ⟨g5, .cells (av 8 (w64 (rd h rs j))) 28⟩] w') 80 ⟨fun k_ => ([undef, undef, undef, undef, undef, undef, undef, undef, undef, undef, undef, undef, undef, undef, undef, undef, undef, undef, undef, undef, undef, undef, undef, undef, undef, undef, undef, undef, undef, undef, undef, undef, undef, undef, undef, undef, undef, undef, undef, undef, undef, undef, undef, undef, undef, undef, undef, undef, undef, undef, undef, undef, undef, undef, undef, undef, undef, undef, undef, undef, undef, undef, undef, undef, undef, undef, undef, undef, undef, undef, undef, undef, undef, undef, undef, undef, undef, undef, undef, undef, undef, undef, undef, undef, undef, undef, undef, undef, undef, undef, undef, undef, undef, undef, undef, undef, undef, undef, undef, undef, undef, undef, undef, undef, undef, undef, undef, undef, undef, undef, undef, undef, undef, undef, undef, undef, undef, undef, undef, undef, undef, undef, undef, undef, undef, undef, undef, undef, undef, undef, undef, undef, undef, undef, undef, undef, undef, undef, undef, undef, undef, undef, undef, undef, undef, undef, undef, undef] : List Value).getD (k_ - 13) undef, by kernel_rfl, M⟩ ?_ ?_
      · intro j a u0 hj hI
        obtain ⟨v3, rfl, M⟩ := hI
        refine wp_seq ?_
        refine wp_seq ?_
        refine rg_lit ?_
        refine pl_val (want_no rfl) (some 79) rfl (.int .i64 (j : Int)) (fun _ => by kernel_rfl) ?_
        refine pl_val (want_no rfl) (some 80) rfl (.bool true) (fun w => Eq.trans (b := .ok (.value (.bool (decide ((j : Int) < 80)))) w) (by kernel_rfl) (by rw [decide_eq_true (by omega)])) ?_
        refine pl_nil ?_
        refine au_then ?_
        refine wp_cond_true (by kernel_rfl) ?_
        refine wp_skip ?_
        refine au_then ?_
        refine wp_seq ?_
        refine wp_block ?_
        refine wp_seq ?_
        refine rg_lit ?_
        refine pl_val (want_no rfl) (some 83) rfl (.pointer (some ⟨g5, 4, none⟩)) (fun _ => by kernel_rfl) ?_
        refine pl_cell M (want_no rfl) (some 84) rfl 25 _ rfl g5 4 (by kernel_rfl) (.int .u64 ((rd h rs j) 4)) (fun _ => by kernel_rfl) (fun w M => M.cell 4 rfl (by decide) rfl) ?_
        refine pl_val (want_no rfl) (some 13) rfl (.int .u64 ((rd h rs j) 4)) (fun _ => by kernel_rfl) ?_
        refine pl_nil ?_
        refine au_then ?_
        refine wp_seq ?_
        refine rg_tail M 30 (by kernel_rfl) (by kernel_rfl) ?_
        simp only [List.take_succ_cons, List.take_zero]
        refine k_val (want_no rfl) (some 85) rfl (.pointer (some ⟨g5, 7, none⟩)) (fun _ => by kernel_rfl) ?_
        refine k_cell M (want_no rfl) (some 86) rfl 25 _ rfl g5 7 (by kernel_rfl) (.int .u64 ((rd h rs j) 7)) (fun _ => by kernel_rfl) (fun w M => M.cell 4 rfl (by decide) rfl) ?_
        refine k_val (want_no rfl) (some 87) rfl (.int .u64 ((rd h rs j) 4)) (fun _ => by kernel_rfl) ?_
        refine k_call M (want_no rfl) (some 88) rfl 23 #[.int .u64 ((rd h rs j) 4), .int .u64 14] (.int .u64 (rot ((rd h rs j) 4) 14)) (fun _ => by kernel_rfl) (fun w M => c_turn14 ((rd h rs j) 4) w M.laid) ?_
        refine k_val (want_no rfl) (some 89) rfl (.int .u64 ((rd h rs j) 4)) (fun _ => by kernel_rfl) ?_
        refine k_call M (want_no rfl) (some 90) rfl 23 #[.int .u64 ((rd h rs j) 4), .int .u64 18] (.int .u64 (rot ((rd h rs j) 4) 18)) (fun _ => by kernel_rfl) (fun w M => c_turn18 ((rd h rs j) 4) w M.laid) ?_
        refine k_val (want_no rfl) (some 91) rfl (.int .u64 (ux (rot ((rd h rs j) 4) 14) (rot ((rd h rs j) 4) 18))) (fun _ => by kernel_rfl) ?_
        refine k_val (want_no rfl) (some 92) rfl (.int .u64 ((rd h rs j) 4)) (fun _ => by kernel_rfl) ?_
        refine k_call M (want_no rfl) (some 93) rfl 23 #[.int .u64 ((rd h rs j) 4), .int .u64 41] (.int .u64 (rot ((rd h rs j) 4) 41)) (fun _ => by kernel_rfl) (fun w M => c_turn41 ((rd h rs j) 4) w M.laid) ?_
        refine k_val (want_no rfl) (some 94) rfl (.int .u64 (ux (ux (rot ((rd h rs j) 4) 14) (rot ((rd h rs j) 4) 18)) (rot ((rd h rs j) 4) 41))) (fun _ => by kernel_rfl) ?_
        refine k_val (want_no rfl) (some 95) rfl (.int .u64 (ua ((rd h rs j) 7) (ux (ux (rot ((rd h rs j) 4) 14) (rot ((rd h rs j) 4) 18)) (rot ((rd h rs j) 4) 41)))) (fun _ => by kernel_rfl) ?_
        refine k_val (want_no rfl) (some 96) rfl (.int .u64 ((rd h rs j) 4)) (fun _ => by kernel_rfl) ?_
        refine k_val (want_no rfl) (some 97) rfl (.pointer (some ⟨g5, 5, none⟩)) (fun _ => by kernel_rfl) ?_
        refine k_cell M (want_no rfl) (some 98) rfl 25 _ rfl g5 5 (by kernel_rfl) (.int .u64 ((rd h rs j) 5)) (fun _ => by kernel_rfl) (fun w M => M.cell 4 rfl (by decide) rfl) ?_
        refine k_val (want_no rfl) (some 99) rfl (.int .u64 (un ((rd h rs j) 4) ((rd h rs j) 5))) (fun _ => by kernel_rfl) ?_
        refine k_val (want_no rfl) (some 100) rfl (.int .u64 ((rd h rs j) 4)) (fun _ => by kernel_rfl) ?_
        refine k_val (want_no rfl) (some 101) rfl (.int .u64 (ut ((rd h rs j) 4))) (fun _ => by kernel_rfl) ?_
        refine k_val (want_no rfl) (some 102) rfl (.pointer (some ⟨g5, 6, none⟩)) (fun _ => by kernel_rfl) ?_
        refine k_cell M (want_no rfl) (some 103) rfl 25 _ rfl g5 6 (by kernel_rfl) (.int .u64 ((rd h rs j) 6)) (fun _ => by kernel_rfl) (fun w M => M.cell 4 rfl (by decide) rfl) ?_
        refine k_val (want_no rfl) (some 104) rfl (.int .u64 (un (ut ((rd h rs j) 4)) ((rd h rs j) 6))) (fun _ => by kernel_rfl) ?_
        refine k_val (want_no rfl) (some 105) rfl (.int .u64 (ux (un ((rd h rs j) 4) ((rd h rs j) 5)) (un (ut ((rd h rs j) 4)) ((rd h rs j) 6)))) (fun _ => by kernel_rfl) ?_
        refine k_val (want_no rfl) (some 106) rfl (.int .u64 (ua (ua ((rd h rs j) 7) (ux (ux (rot ((rd h rs j) 4) 14) (rot ((rd h rs j) 4) 18)) (rot ((rd h rs j) 4) 41))) (ux (un ((rd h rs j) 4) ((rd h rs j) 5)) (un (ut ((rd h rs j) 4)) ((rd h rs j) 6))))) (fun _ => by kernel_rfl) ?_
        refine k_val (want_no rfl) (some 107) rfl (.int .i64 (j : Int)) (fun _ => by kernel_rfl) ?_
        refine k_val (want_no rfl) (some 108) rfl (.pointer (some ⟨g4, j, none⟩)) (run_ix1 26 80 25 Tryd.underlying26 inz25 _ _ rfl g4 (by kernel_rfl) .i64 (j) (by kernel_rfl) (by omega)) ?_
        refine k_cell M (want_no rfl) (some 109) rfl 25 _ rfl g4 j (by kernel_rfl) (.int .u64 (KF j)) (fun _ => by kernel_rfl) (fun w M => M.cell 3 rfl (by omega) rfl) ?_
        refine k_val (want_no rfl) (some 110) rfl (.int .u64 (ua (ua (ua ((rd h rs j) 7) (ux (ux (rot ((rd h rs j) 4) 14) (rot ((rd h rs j) 4) 18)) (rot ((rd h rs j) 4) 41))) (ux (un ((rd h rs j) 4) ((rd h rs j) 5)) (un (ut ((rd h rs j) 4)) ((rd h rs j) 6)))) (KF j))) (fun _ => by kernel_rfl) ?_
        refine k_val (want_no rfl) (some 111) rfl (.int .i64 (j : Int)) (fun _ => by kernel_rfl) ?_
        refine k_val (want_no rfl) (some 112) rfl (.pointer (some ⟨g3, j, none⟩)) (run_ix1 26 80 25 Tryd.underlying26 inz25 _ _ rfl g3 (by kernel_rfl) .i64 (j) (by kernel_rfl) (by omega)) ?_
        refine k_cell M (want_no rfl) (some 113) rfl 25 _ rfl g3 j (by kernel_rfl) (.int .u64 ((sp2 rs 64) j)) (fun _ => by kernel_rfl) (fun w M => M.cell 2 rfl (by omega) rfl) ?_
        refine k_val (want_no rfl) (some 114) rfl (.int .u64 (ua (ua (ua (ua ((rd h rs j) 7) (ux (ux (rot ((rd h rs j) 4) 14) (rot ((rd h rs j) 4) 18)) (rot ((rd h rs j) 4) 41))) (ux (un ((rd h rs j) 4) ((rd h rs j) 5)) (un (ut ((rd h rs j) 4)) ((rd h rs j) 6)))) (KF j)) ((sp2 rs 64) j))) (fun _ => by kernel_rfl) ?_
        refine kl_nil ?_
        intro u13 M
        replace M : Mem ⟨w, none⟩ [⟨g1, .cells (av 8 (w64 h)) 28⟩, ⟨g2, .cells (av 8 (w64 fun _ => 0)) 28⟩, ⟨g3, .cells (av 80 (w64 (sp2 rs 64))) 26⟩, ⟨g4, .cells (av 80 (w64 KF)) 26⟩, ⟨g5, .cells (av 8 (w64 (rd h rs j))) 28⟩] u13 := M
        refine pl_val (want_no rfl) (some 14) rfl (.int .u64 (uF (rd h rs j) (ua (KF j) (sp2 rs 64 j)))) (fun w => Eq.trans (b := .ok (.value (.int .u64 (ua (ua (ua (ua ((rd h rs j) 7) (bS1 ((rd h rs j) 4))) (chF ((rd h rs j) 4) ((rd h rs j) 5) ((rd h rs j) 6))) (KF j)) (sp2 rs 64 j)))) w) (by kernel_rfl) (by rw [ua_assoc]; rfl)) ?_
        refine pl_nil ?_
        refine au_then ?_
        refine wp_seq ?_
        refine rg_lit ?_
        refine pl_val (want_no rfl) (some 115) rfl (.pointer (some ⟨g5, 0, none⟩)) (fun _ => by kernel_rfl) ?_
        refine pl_cell M (want_no rfl) (some 116) rfl 25 _ rfl g5 0 (by kernel_rfl) (.int .u64 ((rd h rs j) 0)) (fun _ => by kernel_rfl) (fun w M => M.cell 4 rfl (by decide) rfl) ?_
        refine pl_val (want_no rfl) (some 15) rfl (.int .u64 ((rd h rs j) 0)) (fun _ => by kernel_rfl) ?_
        refine pl_nil ?_
        refine au_then ?_
        refine wp_seq ?_
        refine rg_tail M 24 (by kernel_rfl) (by kernel_rfl) ?_
        simp only [List.take_succ_cons, List.take_zero]
        refine k_val (want_no rfl) (some 117) rfl (.int .u64 ((rd h rs j) 0)) (fun _ => by kernel_rfl) ?_
        refine k_call M (want_no rfl) (some 118) rfl 23 #[.int .u64 ((rd h rs j) 0), .int .u64 28] (.int .u64 (rot ((rd h rs j) 0) 28)) (fun _ => by kernel_rfl) (fun w M => c_turn28 ((rd h rs j) 0) w M.laid) ?_
        refine k_val (want_no rfl) (some 119) rfl (.int .u64 ((rd h rs j) 0)) (fun _ => by kernel_rfl) ?_
        refine k_call M (want_no rfl) (some 120) rfl 23 #[.int .u64 ((rd h rs j) 0), .int .u64 34] (.int .u64 (rot ((rd h rs j) 0) 34)) (fun _ => by kernel_rfl) (fun w M => c_turn34 ((rd h rs j) 0) w M.laid) ?_
        refine k_val (want_no rfl) (some 121) rfl (.int .u64 (ux (rot ((rd h rs j) 0) 28) (rot ((rd h rs j) 0) 34))) (fun _ => by kernel_rfl) ?_
        refine k_val (want_no rfl) (some 122) rfl (.int .u64 ((rd h rs j) 0)) (fun _ => by kernel_rfl) ?_
        refine k_call M (want_no rfl) (some 123) rfl 23 #[.int .u64 ((rd h rs j) 0), .int .u64 39] (.int .u64 (rot ((rd h rs j) 0) 39)) (fun _ => by kernel_rfl) (fun w M => c_turn39 ((rd h rs j) 0) w M.laid) ?_
        refine k_val (want_no rfl) (some 124) rfl (.int .u64 (ux (ux (rot ((rd h rs j) 0) 28) (rot ((rd h rs j) 0) 34)) (rot ((rd h rs j) 0) 39))) (fun _ => by kernel_rfl) ?_
        refine k_val (want_no rfl) (some 125) rfl (.int .u64 ((rd h rs j) 0)) (fun _ => by kernel_rfl) ?_
        refine k_val (want_no rfl) (some 126) rfl (.pointer (some ⟨g5, 1, none⟩)) (fun _ => by kernel_rfl) ?_
        refine k_cell M (want_no rfl) (some 127) rfl 25 _ rfl g5 1 (by kernel_rfl) (.int .u64 ((rd h rs j) 1)) (fun _ => by kernel_rfl) (fun w M => M.cell 4 rfl (by decide) rfl) ?_
        refine k_val (want_no rfl) (some 128) rfl (.int .u64 (un ((rd h rs j) 0) ((rd h rs j) 1))) (fun _ => by kernel_rfl) ?_
        refine k_val (want_no rfl) (some 129) rfl (.int .u64 ((rd h rs j) 0)) (fun _ => by kernel_rfl) ?_
        refine k_val (want_no rfl) (some 130) rfl (.pointer (some ⟨g5, 2, none⟩)) (fun _ => by kernel_rfl) ?_
        refine k_cell M (want_no rfl) (some 131) rfl 25 _ rfl g5 2 (by kernel_rfl) (.int .u64 ((rd h rs j) 2)) (fun _ => by kernel_rfl) (fun w M => M.cell 4 rfl (by decide) rfl) ?_
        refine k_val (want_no rfl) (some 132) rfl (.int .u64 (un ((rd h rs j) 0) ((rd h rs j) 2))) (fun _ => by kernel_rfl) ?_
        refine k_val (want_no rfl) (some 133) rfl (.int .u64 (ux (un ((rd h rs j) 0) ((rd h rs j) 1)) (un ((rd h rs j) 0) ((rd h rs j) 2)))) (fun _ => by kernel_rfl) ?_
        refine k_val (want_no rfl) (some 134) rfl (.pointer (some ⟨g5, 1, none⟩)) (fun _ => by kernel_rfl) ?_
        refine k_cell M (want_no rfl) (some 135) rfl 25 _ rfl g5 1 (by kernel_rfl) (.int .u64 ((rd h rs j) 1)) (fun _ => by kernel_rfl) (fun w M => M.cell 4 rfl (by decide) rfl) ?_
        refine k_val (want_no rfl) (some 136) rfl (.pointer (some ⟨g5, 2, none⟩)) (fun _ => by kernel_rfl) ?_
        refine k_cell M (want_no rfl) (some 137) rfl 25 _ rfl g5 2 (by kernel_rfl) (.int .u64 ((rd h rs j) 2)) (fun _ => by kernel_rfl) (fun w M => M.cell 4 rfl (by decide) rfl) ?_
        refine k_val (want_no rfl) (some 138) rfl (.int .u64 (un ((rd h rs j) 1) ((rd h rs j) 2))) (fun _ => by kernel_rfl) ?_
        refine k_val (want_no rfl) (some 139) rfl (.int .u64 (ux (ux (un ((rd h rs j) 0) ((rd h rs j) 1)) (un ((rd h rs j) 0) ((rd h rs j) 2))) (un ((rd h rs j) 1) ((rd h rs j) 2)))) (fun _ => by kernel_rfl) ?_
        refine k_val (want_no rfl) (some 140) rfl (.int .u64 (ua (ux (ux (rot ((rd h rs j) 0) 28) (rot ((rd h rs j) 0) 34)) (rot ((rd h rs j) 0) 39)) (ux (ux (un ((rd h rs j) 0) ((rd h rs j) 1)) (un ((rd h rs j) 0) ((rd h rs j) 2))) (un ((rd h rs j) 1) ((rd h rs j) 2))))) (fun _ => by kernel_rfl) ?_
        refine kl_nil ?_
        intro u14 M
        replace M : Mem ⟨w, none⟩ [⟨g1, .cells (av 8 (w64 h)) 28⟩, ⟨g2, .cells (av 8 (w64 fun _ => 0)) 28⟩, ⟨g3, .cells (av 80 (w64 (sp2 rs 64))) 26⟩, ⟨g4, .cells (av 80 (w64 KF)) 26⟩, ⟨g5, .cells (av 8 (w64 (rd h rs j))) 28⟩] u14 := M
        refine pl_val (want_no rfl) (some 16) rfl (.int .u64 (vF (rd h rs j))) (fun _ => by kernel_rfl) ?_
        refine pl_nil ?_
        refine au_then ?_
        refine rg_lit ?_
        refine pl_val (want_no rfl) (some 141) rfl (.int .u64 (uF (rd h rs j) (ua (KF j) (sp2 rs 64 j)))) (fun _ => by kernel_rfl) ?_
        refine pl_val (want_no rfl) (some 142) rfl (.int .u64 (vF (rd h rs j))) (fun _ => by kernel_rfl) ?_
        refine pl_val (want_no rfl) (some 143) rfl (.int .u64 (ua (uF (rd h rs j) (ua (KF j) (sp2 rs 64 j))) (vF (rd h rs j)))) (fun _ => by kernel_rfl) ?_
        refine pl_val (want_no rfl) (some 144) rfl (.pointer (some ⟨g5, 0, none⟩)) (fun _ => by kernel_rfl) ?_
        refine pl_cell M (want_no rfl) (some 145) rfl 25 _ rfl g5 0 (by kernel_rfl) (.int .u64 ((rd h rs j) 0)) (fun _ => by kernel_rfl) (fun w M => M.cell 4 rfl (by decide) rfl) ?_
        refine pl_val (want_no rfl) (some 146) rfl (.pointer (some ⟨g5, 1, none⟩)) (fun _ => by kernel_rfl) ?_
        refine pl_cell M (want_no rfl) (some 147) rfl 25 _ rfl g5 1 (by kernel_rfl) (.int .u64 ((rd h rs j) 1)) (fun _ => by kernel_rfl) (fun w M => M.cell 4 rfl (by decide) rfl) ?_
        refine pl_val (want_no rfl) (some 148) rfl (.pointer (some ⟨g5, 2, none⟩)) (fun _ => by kernel_rfl) ?_
        refine pl_cell M (want_no rfl) (some 149) rfl 25 _ rfl g5 2 (by kernel_rfl) (.int .u64 ((rd h rs j) 2)) (fun _ => by kernel_rfl) (fun w M => M.cell 4 rfl (by decide) rfl) ?_
        refine pl_val (want_no rfl) (some 150) rfl (.pointer (some ⟨g5, 3, none⟩)) (fun _ => by kernel_rfl) ?_
        refine pl_cell M (want_no rfl) (some 151) rfl 25 _ rfl g5 3 (by kernel_rfl) (.int .u64 ((rd h rs j) 3)) (fun _ => by kernel_rfl) (fun w M => M.cell 4 rfl (by decide) rfl) ?_
        refine pl_val (want_no rfl) (some 152) rfl (.int .u64 (uF (rd h rs j) (ua (KF j) (sp2 rs 64 j)))) (fun _ => by kernel_rfl) ?_
        refine pl_val (want_no rfl) (some 153) rfl (.int .u64 (ua ((rd h rs j) 3) (uF (rd h rs j) (ua (KF j) (sp2 rs 64 j))))) (fun _ => by kernel_rfl) ?_
        refine pl_val (want_no rfl) (some 154) rfl (.pointer (some ⟨g5, 4, none⟩)) (fun _ => by kernel_rfl) ?_
        refine pl_cell M (want_no rfl) (some 155) rfl 25 _ rfl g5 4 (by kernel_rfl) (.int .u64 ((rd h rs j) 4)) (fun _ => by kernel_rfl) (fun w M => M.cell 4 rfl (by decide) rfl) ?_
        refine pl_val (want_no rfl) (some 156) rfl (.pointer (some ⟨g5, 5, none⟩)) (fun _ => by kernel_rfl) ?_
        refine pl_cell M (want_no rfl) (some 157) rfl 25 _ rfl g5 5 (by kernel_rfl) (.int .u64 ((rd h rs j) 5)) (fun _ => by kernel_rfl) (fun w M => M.cell 4 rfl (by decide) rfl) ?_
        refine pl_val (want_no rfl) (some 158) rfl (.pointer (some ⟨g5, 6, none⟩)) (fun _ => by kernel_rfl) ?_
        refine pl_cell M (want_no rfl) (some 159) rfl 25 _ rfl g5 6 (by kernel_rfl) (.int .u64 ((rd h rs j) 6)) (fun _ => by kernel_rfl) (fun w M => M.cell 4 rfl (by decide) rfl) ?_
        refine pl_val (want_no rfl) (some 160) rfl (.agg (av 8 (w64 (r8 (ua (uF (rd h rs j) (ua (KF j) (sp2 rs 64 j))) (vF (rd h rs j))) ((rd h rs j) 0) ((rd h rs j) 1) ((rd h rs j) 2) (ua ((rd h rs j) 3) (uF (rd h rs j) (ua (KF j) (sp2 rs 64 j)))) ((rd h rs j) 4) ((rd h rs j) 5) ((rd h rs j) 6))))) (fun _ => by kernel_rfl) ?_
        refine pl_put M (want_no rfl) rfl 28 _ _ rfl 4 g5 0 (by kernel_rfl) 8 28 (w64 (rd h rs j)) rfl 8 (w64 (r8 (ua (uF (rd h rs j) (ua (KF j) (sp2 rs 64 j))) (vF (rd h rs j))) ((rd h rs j) 0) ((rd h rs j) 1) ((rd h rs j) 2) (ua ((rd h rs j) 3) (uF (rd h rs j) (ua (KF j) (sp2 rs 64 j)))) ((rd h rs j) 4) ((rd h rs j) 5) ((rd h rs j) 6))) (w64 (r8 (ua (uF (rd h rs j) (ua (KF j) (sp2 rs 64 j))) (vF (rd h rs j))) ((rd h rs j) 0) ((rd h rs j) 1) ((rd h rs j) 2) (ua ((rd h rs j) 3) (uF (rd h rs j) (ua (KF j) (sp2 rs 64 j)))) ((rd h rs j) 4) ((rd h rs j) 5) ((rd h rs j) 6))) (by kernel_rfl) inz28 (by decide) (fun _ _ => rfl) (fun j hj => by rw [if_pos (by omega), Nat.sub_zero]) ?_
        intro u15 M
        replace M : Mem ⟨w, none⟩ [⟨g1, .cells (av 8 (w64 h)) 28⟩, ⟨g2, .cells (av 8 (w64 fun _ => 0)) 28⟩, ⟨g3, .cells (av 80 (w64 (sp2 rs 64))) 26⟩, ⟨g4, .cells (av 80 (w64 KF)) 26⟩, ⟨g5, .cells (av 8 (w64 (r8 (ua (uF (rd h rs j) (ua (KF j) (sp2 rs 64 j))) (vF (rd h rs j))) ((rd h rs j) 0) ((rd h rs j) 1) ((rd h rs j) 2) (ua ((rd h rs j) 3) (uF (rd h rs j) (ua (KF j) (sp2 rs 64 j)))) ((rd h rs j) 4) ((rd h rs j) 5) ((rd h rs j) 6)))) 28⟩] u15 := M
        refine pl_nil ?_
        refine au_block ?_
        refine au_then ?_
        refine rg_lit ?_
        refine pl_val (want_no rfl) (some 81) rfl (.int .i64 (j : Int)) (fun _ => by kernel_rfl) ?_
        refine pl_val (want_no rfl) (some 82) rfl (.int .i64 ((j + 1 : Nat) : Int)) (fun w => Eq.trans (b := .ok (.value (.int .i64 (IntKind.wrap .i64 ((j : Int) + 1)))) w) (by kernel_rfl) (by rw [wrap64 (by omega) (by omega)]; congr 3)) ?_
        refine pl_val (want_no rfl) (some 12) rfl (.int .i64 ((j + 1 : Nat) : Int)) (fun _ => by kernel_rfl) ?_
        refine pl_nil ?_
        refine au_then ?_
        exact ⟨fun k_ => ([.int .u64 ((rd h rs j) 4), .int .u64 (uF (rd h rs j) (ua (KF j) (sp2 rs 64 j))), .int .u64 ((rd h rs j) 0), .int .u64 (vF (rd h rs j)), undef, undef, undef, undef, undef, undef, undef, undef, undef, undef, undef, undef, undef, undef, undef, undef, undef, undef, undef, undef, undef, undef, undef, undef, undef, undef, undef, undef, undef, undef, undef, undef, undef, undef, undef, undef, undef, undef, undef, undef, undef, undef, undef, undef, undef, undef, undef, undef, undef, undef, undef, undef, undef, undef, undef, undef, undef, undef, undef, undef, undef, undef, .int .i64 (j : Int), .bool true, .int .i64 (j : Int), .int .i64 ((j + 1 : Nat) : Int), .pointer (some ⟨g5, 4, none⟩), .int .u64 ((rd h rs j) 4), .pointer (some ⟨g5, 7, none⟩), .int .u64 ((rd h rs j) 7), .int .u64 ((rd h rs j) 4), .int .u64 (rot ((rd h rs j) 4) 14), .int .u64 ((rd h rs j) 4), .int .u64 (rot ((rd h rs j) 4) 18), .int .u64 (ux (rot ((rd h rs j) 4) 14) (rot ((rd h rs j) 4) 18)), .int .u64 ((rd h rs j) 4), .int .u64 (rot ((rd h rs j) 4) 41), .int .u64 (ux (ux (rot ((rd h rs j) 4) 14) (rot ((rd h rs j) 4) 18)) (rot ((rd h rs j) 4) 41)), .int .u64 (ua ((rd h rs j) 7) (ux (ux (rot ((rd h rs j) 4) 14) (rot ((rd h rs j) 4) 18)) (rot ((rd h rs j) 4) 41))), .int .u64 ((rd h rs j) 4), .pointer (some ⟨g5, 5, none⟩), .int .u64 ((rd h rs j) 5), .int .u64 (un ((rd h rs j) 4) ((rd h rs j) 5)), .int .u64 ((rd h rs j) 4), .int .u64 (ut ((rd h rs j) 4)), .pointer (some ⟨g5, 6, none⟩), .int .u64 ((rd h rs j) 6), .int .u64 (un (ut ((rd h rs j) 4)) ((rd h rs j) 6)), .int .u64 (ux (un ((rd h rs j) 4) ((rd h rs j) 5)) (un (ut ((rd h rs j) 4)) ((rd h rs j) 6))), .int .u64 (ua (ua ((rd h rs j) 7) (ux (ux (rot ((rd h rs j) 4) 14) (rot ((rd h rs j) 4) 18)) (rot ((rd h rs j) 4) 41))) (ux (un ((rd h rs j) 4) ((rd h rs j) 5)) (un (ut ((rd h rs j) 4)) ((rd h rs j) 6)))), .int .i64 (j : Int), .pointer (some ⟨g4, j, none⟩), .int .u64 (KF j), .int .u64 (ua (ua (ua ((rd h rs j) 7) (ux (ux (rot ((rd h rs j) 4) 14) (rot ((rd h rs j) 4) 18)) (rot ((rd h rs j) 4) 41))) (ux (un ((rd h rs j) 4) ((rd h rs j) 5)) (un (ut ((rd h rs j) 4)) ((rd h rs j) 6)))) (KF j)), .int .i64 (j : Int), .pointer (some ⟨g3, j, none⟩), .int .u64 ((sp2 rs 64) j), .int .u64 (ua (ua (ua (ua ((rd h rs j) 7) (ux (ux (rot ((rd h rs j) 4) 14) (rot ((rd h rs j) 4) 18)) (rot ((rd h rs j) 4) 41))) (ux (un ((rd h rs j) 4) ((rd h rs j) 5)) (un (ut ((rd h rs j) 4)) ((rd h rs j) 6)))) (KF j)) ((sp2 rs 64) j)), .pointer (some ⟨g5, 0, none⟩), .int .u64 ((rd h rs j) 0), .int .u64 ((rd h rs j) 0), .int .u64 (rot ((rd h rs j) 0) 28), .int .u64 ((rd h rs j) 0), .int .u64 (rot ((rd h rs j) 0) 34), .int .u64 (ux (rot ((rd h rs j) 0) 28) (rot ((rd h rs j) 0) 34)), .int .u64 ((rd h rs j) 0), .int .u64 (rot ((rd h rs j) 0) 39), .int .u64 (ux (ux (rot ((rd h rs j) 0) 28) (rot ((rd h rs j) 0) 34)) (rot ((rd h rs j) 0) 39)), .int .u64 ((rd h rs j) 0), .pointer (some ⟨g5, 1, none⟩), .int .u64 ((rd h rs j) 1), .int .u64 (un ((rd h rs j) 0) ((rd h rs j) 1)), .int .u64 ((rd h rs j) 0), .pointer (some ⟨g5, 2, none⟩), .int .u64 ((rd h rs j) 2), .int .u64 (un ((rd h rs j) 0) ((rd h rs j) 2)), .int .u64 (ux (un ((rd h rs j) 0) ((rd h rs j) 1)) (un ((rd h rs j) 0) ((rd h rs j) 2))), .pointer (some ⟨g5, 1, none⟩), .int .u64 ((rd h rs j) 1), .pointer (some ⟨g5, 2, none⟩), .int .u64 ((rd h rs j) 2), .int .u64 (un ((rd h rs j) 1) ((rd h rs j) 2)), .int .u64 (ux (ux (un ((rd h rs j) 0) ((rd h rs j) 1)) (un ((rd h rs j) 0) ((rd h rs j) 2))) (un ((rd h rs j) 1) ((rd h rs j) 2))), .int .u64 (ua (ux (ux (rot ((rd h rs j) 0) 28) (rot ((rd h rs j) 0) 34)) (rot ((rd h rs j) 0) 39)) (ux (ux (un ((rd h rs j) 0) ((rd h rs j) 1)) (un ((rd h rs j) 0) ((rd h rs j) 2))) (un ((rd h rs j) 1) ((rd h rs j) 2)))), .int .u64 (uF (rd h rs j) (ua (KF j) (sp2 rs 64 j))), .int .u64 (vF (rd h rs j)), .int .u64 (ua (uF (rd h rs j) (ua (KF j) (sp2 rs 64 j))) (vF (rd h rs j))), .pointer (some ⟨g5, 0, none⟩), .int .u64 ((rd h rs j) 0), .pointer (some ⟨g5, 1, none⟩), .int .u64 ((rd h rs j) 1), .pointer (some ⟨g5, 2, none⟩), .int .u64 ((rd h rs j) 2), .pointer (some ⟨g5, 3, none⟩), .int .u64 ((rd h rs j) 3), .int .u64 (uF (rd h rs j) (ua (KF j) (sp2 rs 64 j))), .int .u64 (ua ((rd h rs j) 3) (uF (rd h rs j) (ua (KF j) (sp2 rs 64 j)))), .pointer (some ⟨g5, 4, none⟩), .int .u64 ((rd h rs j) 4), .pointer (some ⟨g5, 5, none⟩), .int .u64 ((rd h rs j) 5), .pointer (some ⟨g5, 6, none⟩), .int .u64 ((rd h rs j) 6), .agg (av 8 (w64 (r8 (ua (uF (rd h rs j) (ua (KF j) (sp2 rs 64 j))) (vF (rd h rs j))) ((rd h rs j) 0) ((rd h rs j) 1) ((rd h rs j) 2) (ua ((rd h rs j) 3) (uF (rd h rs j) (ua (KF j) (sp2 rs 64 j)))) ((rd h rs j) 4) ((rd h rs j) 5) ((rd h rs j) 6))))] : List Value).getD (k_ - 13) undef, by kernel_rfl, M⟩
      · intro a u0 hI
        obtain ⟨v3, rfl, M⟩ := hI
        refine wp_seq ?_
        refine wp_seq ?_
        refine rg_lit ?_
        refine pl_val (want_no rfl) (some 79) rfl (.int .i64 (80 : Int)) (fun _ => by kernel_rfl) ?_
        refine pl_val (want_no rfl) (some 80) rfl (.bool false) (fun w => Eq.trans (b := .ok (.value (.bool (decide (80 < 80)))) w) (by kernel_rfl) (by rw [decide_eq_false (by omega)])) ?_
        refine pl_nil ?_
        refine au_then ?_
        refine wp_cond_false (by kernel_rfl) ?_
        refine wp_exit ?_
        refine au_then_exit ?_
        refine au_then_exit ?_
        refine au_block_exit ?_
        refine au_then ?_
        refine wp_seq ?_
        refine wp_seq ?_
        refine rg_lit ?_
        refine pl_val (want_no rfl) (some 17) rfl (.int .i64 0) (fun _ => by kernel_rfl) ?_
        refine pl_nil ?_
        refine au_then ?_
        refine wp_block ?_
        refine au_loop (fun j a w' => ∃ v4 : Nat → Value, a = ⟨#[.agg (av 8 (w64 h)), .slice (some ⟨g, off, none⟩) 128 cap, .pointer (some ⟨g1, 0, none⟩), undef, .pointer (some ⟨g2, 0, none⟩), .pointer (some ⟨g3, 0, none⟩), .int .i64 (128 : Int), .int .i64 ((16 + 64 : Nat) : Int), v2 8, v2 9, .pointer (some ⟨g4, 0, none⟩), .pointer (some ⟨g5, 0, none⟩), .int .i64 (80 : Int), v3 13, v3 14, v3 15, v3 16, .int .i64 (j : Int), .int .i64 (128 : Int), .bool false, v1 20, v1 21, v1 22, v1 23, v1 24, v1 25, v1 26, v1 27, v1 28, v1 29, v1 30, v1 31, v1 32, v1 33, v1 34, v1 35, .int .i64 ((16 + 64 : Nat) : Int), .bool false, v2 38, v2 39, v2 40, v2 41, v2 42, v2 43, v2 44, v2 45, v2 46, v2 47, v2 48, v2 49, v2 50, v2 51, v2 52, v2 53, v2 54, v2 55, v2 56, v2 57, v2 58, v2 59, v2 60, v2 61, v2 62, v2 63, v2 64, v2 65, v2 66, v2 67, v2 68, v2 69, v2 70, v2 71, v2 72, v2 73, v2 74, v2 75, v2 76, .agg (av 80 (w64 KF)), .agg (av 8 (w64 h)), .int .i64 (80 : Int), .bool false, v3 81, v3 82, v3 83, v3 84, v3 85, v3 86, v3 87, v3 88, v3 89, v3 90, v3 91, v3 92, v3 93, v3 94, v3 95, v3 96, v3 97, v3 98, v3 99, v3 100, v3 101, v3 102, v3 103, v3 104, v3 105, v3 106, v3 107, v3 108, v3 109, v3 110, v3 111, v3 112, v3 113, v3 114, v3 115, v3 116, v3 117, v3 118, v3 119, v3 120, v3 121, v3 122, v3 123, v3 124, v3 125, v3 126, v3 127, v3 128, v3 129, v3 130, v3 131, v3 132, v3 133, v3 134, v3 135, v3 136, v3 137, v3 138, v3 139, v3 140, v3 141, v3 142, v3 143, v3 144, v3 145, v3 146, v3 147, v3 148, v3 149, v3 150, v3 151, v3 152, v3 153, v3 154, v3 155, v3 156, v3 157, v3 158, v3 159, v3 160, v4 161, v4 162, v4 163, v4 164, v4 165, v4 166, v4 167, v4 168, v4 169, v4 170, v4 171, v4 172, v4 173, undef], []⟩ ∧ Mem ⟨w, none⟩ [⟨g1, .cells (av 8 (w64 (ad h (rd h rs 80) j))) 28⟩, ⟨g2, .cells (av 8 (w64 fun _ => 0)) 28⟩, ⟨g3, .cells (av 80 (w64 (sp2 rs 64))) 26⟩, ⟨g4, .cells (av 80 (w64 KF)) 26⟩, ⟨g5, .cells (av 8 (w64 (rd h rs 80))) 28⟩] w') 8 ⟨fun k_ => ([undef, undef, undef, undef, undef, undef, undef, undef, undef, undef, undef, undef, undef] : List Value).getD (k_ - 161) undef, by kernel_rfl, M⟩ ?_ ?_
        · intro j a u0 hj hI
          obtain ⟨v4, rfl, M⟩ := hI
          refine wp_seq ?_
          refine wp_seq ?_
          refine rg_lit ?_
          refine pl_val (want_no rfl) (some 161) rfl (.int .i64 (j : Int)) (fun _ => by kernel_rfl) ?_
          refine pl_val (want_no rfl) (some 162) rfl (.bool true) (fun w => Eq.trans (b := .ok (.value (.bool (decide ((j : Int) < 8)))) w) (by kernel_rfl) (by rw [decide_eq_true (by omega)])) ?_
          refine pl_nil ?_
          refine au_then ?_
          refine wp_cond_true (by kernel_rfl) ?_
          refine wp_skip ?_
          refine au_then ?_
          refine wp_seq ?_
          refine wp_block ?_
          refine rg_tail M 9 (by kernel_rfl) (by kernel_rfl) ?_
          simp only [List.take_succ_cons, List.take_zero]
          refine k_val (want_no rfl) (some 165) rfl (.int .i64 (j : Int)) (fun _ => by kernel_rfl) ?_
          refine k_val (want_no rfl) (some 166) rfl (.int .i64 (j : Int)) (fun _ => by kernel_rfl) ?_
          refine k_val (want_no rfl) (some 167) rfl (.pointer (some ⟨g1, j, none⟩)) (run_ix1 28 8 25 Tryd.underlying28 inz25 _ _ rfl g1 (by kernel_rfl) .i64 (j) (by kernel_rfl) (by omega)) ?_
          refine k_cell M (want_no rfl) (some 168) rfl 25 _ rfl g1 j (by kernel_rfl) (.int .u64 ((ad h (rd h rs 80) j) j)) (fun _ => by kernel_rfl) (fun w M => M.cell 0 rfl (by omega) rfl) ?_
          refine k_val (want_no rfl) (some 169) rfl (.int .i64 (j : Int)) (fun _ => by kernel_rfl) ?_
          refine k_val (want_no rfl) (some 170) rfl (.pointer (some ⟨g5, j, none⟩)) (run_ix1 28 8 25 Tryd.underlying28 inz25 _ _ rfl g5 (by kernel_rfl) .i64 (j) (by kernel_rfl) (by omega)) ?_
          refine k_cell M (want_no rfl) (some 171) rfl 25 _ rfl g5 j (by kernel_rfl) (.int .u64 ((rd h rs 80) j)) (fun _ => by kernel_rfl) (fun w M => M.cell 4 rfl (by omega) rfl) ?_
          refine k_val (want_no rfl) (some 172) rfl (.int .u64 (ua ((ad h (rd h rs 80) j) j) ((rd h rs 80) j))) (fun _ => by kernel_rfl) ?_
          refine k_val (want_no rfl) (some 173) rfl (.pointer (some ⟨g1, j, none⟩)) (run_ix1 28 8 25 Tryd.underlying28 inz25 _ _ rfl g1 (by kernel_rfl) .i64 (j) (by kernel_rfl) (by omega)) ?_
          refine kl_nil ?_
          intro u16 M
          replace M : Mem ⟨w, none⟩ [⟨g1, .cells (av 8 (w64 (ad h (rd h rs 80) j))) 28⟩, ⟨g2, .cells (av 8 (w64 fun _ => 0)) 28⟩, ⟨g3, .cells (av 80 (w64 (sp2 rs 64))) 26⟩, ⟨g4, .cells (av 80 (w64 KF)) 26⟩, ⟨g5, .cells (av 8 (w64 (rd h rs 80))) 28⟩] u16 := M
          refine pl_put1 M (want_no rfl) rfl 25 _ _ rfl 0 g1 j (by kernel_rfl) 8 28 (w64 (ad h (rd h rs 80) j)) rfl (.int .u64 (ua ((ad h (rd h rs 80) j) j) ((rd h rs 80) j))) (w64 (upd (ad h (rd h rs 80) j) j (ua ((ad h (rd h rs 80) j) j) ((rd h rs 80) j)))) (by kernel_rfl) inz25 (by omega) rfl rfl (fun j _ => put_w64 _ _ _ j) ?_
          intro u17 M
          replace M : Mem ⟨w, none⟩ [⟨g1, .cells (av 8 (w64 (upd (ad h (rd h rs 80) j) j (ua ((ad h (rd h rs 80) j) j) ((rd h rs 80) j))))) 28⟩, ⟨g2, .cells (av 8 (w64 fun _ => 0)) 28⟩, ⟨g3, .cells (av 80 (w64 (sp2 rs 64))) 26⟩, ⟨g4, .cells (av 80 (w64 KF)) 26⟩, ⟨g5, .cells (av 8 (w64 (rd h rs 80))) 28⟩] u17 := M
          refine pl_nil ?_
          refine au_block ?_
          refine au_then ?_
          refine rg_lit ?_
          refine pl_val (want_no rfl) (some 163) rfl (.int .i64 (j : Int)) (fun _ => by kernel_rfl) ?_
          refine pl_val (want_no rfl) (some 164) rfl (.int .i64 ((j + 1 : Nat) : Int)) (fun w => Eq.trans (b := .ok (.value (.int .i64 (IntKind.wrap .i64 ((j : Int) + 1)))) w) (by kernel_rfl) (by rw [wrap64 (by omega) (by omega)]; congr 3)) ?_
          refine pl_val (want_no rfl) (some 17) rfl (.int .i64 ((j + 1 : Nat) : Int)) (fun _ => by kernel_rfl) ?_
          refine pl_nil ?_
          refine au_then ?_
          exact ⟨fun k_ => ([.int .i64 (j : Int), .bool true, .int .i64 (j : Int), .int .i64 ((j + 1 : Nat) : Int), .int .i64 (j : Int), .int .i64 (j : Int), .pointer (some ⟨g1, j, none⟩), .int .u64 ((ad h (rd h rs 80) j) j), .int .i64 (j : Int), .pointer (some ⟨g5, j, none⟩), .int .u64 ((rd h rs 80) j), .int .u64 (ua ((ad h (rd h rs 80) j) j) ((rd h rs 80) j)), .pointer (some ⟨g1, j, none⟩)] : List Value).getD (k_ - 161) undef, by kernel_rfl, M⟩
        · intro a u0 hI
          obtain ⟨v4, rfl, M⟩ := hI
          refine wp_seq ?_
          refine wp_seq ?_
          refine rg_lit ?_
          refine pl_val (want_no rfl) (some 161) rfl (.int .i64 (8 : Int)) (fun _ => by kernel_rfl) ?_
          refine pl_val (want_no rfl) (some 162) rfl (.bool false) (fun w => Eq.trans (b := .ok (.value (.bool (decide (8 < 8)))) w) (by kernel_rfl) (by rw [decide_eq_false (by omega)])) ?_
          refine pl_nil ?_
          refine au_then ?_
          refine wp_cond_false (by kernel_rfl) ?_
          refine wp_exit ?_
          refine au_then_exit ?_
          refine au_then_exit ?_
          refine au_block_exit ?_
          refine au_then ?_
          refine wp_seq ?_
          refine rg_lit ?_
          refine pl_load M (want_no rfl) (some 174) rfl 28 _ rfl 0 g1 0 (by kernel_rfl) 8 28 (w64 (ad h (rd h rs 80) 8)) rfl 8 (w64 (ad h (rd h rs 80) 8)) (fun j _ => by rw [Nat.zero_add]) (by decide) _ Tryd.underlying28 rfl inz28 ?_
          refine pl_put M (want_no rfl) rfl 28 _ _ rfl 1 g2 0 (by kernel_rfl) 8 28 (w64 fun _ => 0) rfl 8 (w64 (ad h (rd h rs 80) 8)) (w64 (ad h (rd h rs 80) 8)) (by kernel_rfl) inz28 (by decide) (fun _ _ => rfl) (fun j hj => by rw [if_pos (by omega), Nat.sub_zero]) ?_
          intro u18 M
          replace M : Mem ⟨w, none⟩ [⟨g1, .cells (av 8 (w64 (ad h (rd h rs 80) 8))) 28⟩, ⟨g2, .cells (av 8 (w64 (ad h (rd h rs 80) 8))) 28⟩, ⟨g3, .cells (av 80 (w64 (sp2 rs 64))) 26⟩, ⟨g4, .cells (av 80 (w64 KF)) 26⟩, ⟨g5, .cells (av 8 (w64 (rd h rs 80))) 28⟩] u18 := M
          refine pl_nil ?_
          refine au_then ?_
          refine wp_ret ?_
          refine bodyPost_ret (v := .agg (av 8 (w64 (mixV h rs)))) (Eq.trans (b := .ok (.agg (av 8 (w64 (ad h (rd h rs 80) 8)))) _) (results_cell_row Tryd.results17 _ _ g2 28 (av 8 (w64 (ad h (rd h rs 80) 8))) (0, 0) _ (by kernel_rfl) (M.get 1 rfl) Tryd.underlying28 rfl (by rw [av_size]; exact inz28)) (by rw [ad_av]; rfl)) (by kernel_rfl) ⟨rfl, below_grown M.old⟩


end Go.Proofs.YtghobmgdadpplaaDoor
