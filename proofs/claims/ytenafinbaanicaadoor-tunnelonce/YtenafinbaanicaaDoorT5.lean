/- A tunnel, and slots, that are not there; two speak. -/
import Derived.Test.YtenafinbaanicaaDoorT4
namespace Go.Proofs.YtenafinbaanicaaDoor
open Go.RowKit
set_option maxRecDepth 100000

theorem results_c3 {P : Program} {fn : Func} {p q r : Tmp} {tp tq tr : TypeId} (h : fn.results = #[.cell p tp, .cell q tq, .cell r tr]) (tmps : Array Value) (w : World) (g1 : Nat) (v : Value) (g2 : Nat) (u : Value) (g3 : Nat) (x : Value) (hp : tmps.getD p undef = .pointer (some ⟨g1, 0, none⟩)) (hq : tmps.getD q undef = .pointer (some ⟨g2, 0, none⟩)) (hr : tmps.getD r undef = .pointer (some ⟨g3, 0, none⟩))
    (a1 : ∀ w, (isAgg tp).run P w = .ok false w) (a2 : ∀ w, (isAgg tq).run P w = .ok false w) (a3 : ∀ w, (isAgg tr).run P w = .ok false w) (c1 : w.cell? ⟨g1, 0, none⟩ = some v) (c2 : w.cell? ⟨g2, 0, none⟩ = some u) (c3 : w.cell? ⟨g3, 0, none⟩ = some x) : (results fn tmps).run P w = .ok (.tuple #[v, u, x]) w := by
  have hp' : tmps[p]?.getD undef = .pointer (some ⟨g1, 0, none⟩) := by simpa using hp
  have hq' : tmps[q]?.getD undef = .pointer (some ⟨g2, 0, none⟩) := by simpa using hq
  have hr' : tmps[r]?.getD undef = .pointer (some ⟨g3, 0, none⟩) := by simpa using hr
  simp [results, h, hp', hq', hr', asAddr, loadVar, a1, a2, a3, c1, c2, c3]
set_option maxRecDepth 100000 in
set_option maxHeartbeats 4000000 in
set_option linter.unusedSimpArgs false in
theorem n_Wipe  (w : World) (hL : Laid w)  :
    Calls Tryd.prog 10 #[.pointer none] w fun r w' => r = .returned (.tuple #[]) ∧ Below w.heap.size w w' := by
  go_enter Tryd.func10, Tryd.ntmps10
  have M := Mem.start hL
  refine wp_seq ?_
  refine rg_lit ?_
  refine pl_val (want_no rfl) (some 2) rfl (.pointer none) (fun _ => by kernel_rfl) ?_
  refine pl_call M (want_no rfl) (some 3) rfl 23 #[.pointer none] (.bool false) (fun _ => by kernel_rfl) (fun w M => n_there w M.laid) ?_
  intro u1 M
  refine pl_nil ?_
  refine au_then ?_
  refine wp_cond_false (by kernel_rfl) ?_
  refine wp_skip ?_
  exact bodyPost_end (v := .tuple #[]) (results_none Tryd.results10 _ _) (by kernel_rfl) ⟨rfl, below_grown M.old⟩

set_option maxRecDepth 100000 in
set_option maxHeartbeats 4000000 in
set_option linter.unusedSimpArgs false in
theorem n_Seal {n : Nat} {s : ByteArray} (w : World) (hL : Laid w)  :
    Calls Tryd.prog 8 #[.pointer none, .int .u64 (n : Int), .string s] w fun r w' => r = .returned (.tuple #[.int .u64 0, .string ⟨#[]⟩, .int .i64 1]) ∧ Below w.heap.size w w' := by
  go_enter Tryd.func8, Tryd.ntmps8
  have M := Mem.start hL
  refine wp_seq ?_
  refine rg_lit ?_
  refine pl_val (want_no rfl) (some 6) rfl (.int .u64 0) (fun _ => by kernel_rfl) ?_
  refine pl_val (want_no rfl) (some 7) rfl (.string ⟨#[]⟩) (fun _ => by kernel_rfl) ?_
  refine pl_val (want_no rfl) (some 8) rfl (.int .i64 0) (fun _ => by kernel_rfl) ?_
  refine pl_nil ?_
  refine au_then ?_
  refine wp_seq ?_
  refine wp_seq ?_
  refine rg_lit ?_
  refine pl_val (want_no rfl) (some 10) rfl (.pointer none) (fun _ => by kernel_rfl) ?_
  refine pl_call M (want_no rfl) (some 11) rfl 23 #[.pointer none] (.bool false) (fun _ => by kernel_rfl) (fun w M => n_there w M.laid) ?_
  intro u1 M
  refine pl_val (want_no rfl) (some 12) rfl (.bool true) (fun _ => by kernel_rfl) ?_
  refine pl_nil ?_
  refine au_then ?_
  refine wp_cond_true (by kernel_rfl) ?_
  refine wp_seq ?_
  refine rg_lit ?_
  refine pl_val (want_no rfl) (some 6) rfl (.int .u64 0) (fun _ => by kernel_rfl) ?_
  refine pl_val (want_no rfl) (some 7) rfl (.string ⟨#[]⟩) (fun _ => by kernel_rfl) ?_
  refine pl_val (want_no rfl) (some 8) rfl (.int .i64 1) (fun _ => by kernel_rfl) ?_
  refine pl_nil ?_
  refine au_then ?_
  refine wp_ret ?_
  refine au_then_ret ?_
  exact bodyPost_ret (v := .tuple #[.int .u64 0, .string ⟨#[]⟩, .int .i64 1]) (results_t3 Tryd.results8 _ _ _ _ _ (by kernel_rfl) (by kernel_rfl) (by kernel_rfl)) (by kernel_rfl) ⟨rfl, below_grown M.old⟩

set_option maxRecDepth 100000 in
set_option maxHeartbeats 4000000 in
set_option linter.unusedSimpArgs false in
theorem n_Open {n i : Nat} {s : ByteArray} (w : World) (hL : Laid w)  :
    Calls Tryd.prog 9 #[.pointer none, .int .u64 (n : Int), .int .u64 (i : Int), .string s] w fun r w' => r = .returned (.tuple #[.string ⟨#[]⟩, .int .i64 1]) ∧ Below w.heap.size w w' := by
  go_enter Tryd.func9, Tryd.ntmps9
  have M := Mem.start hL
  refine wp_seq ?_
  refine rg_lit ?_
  refine pl_val (want_no rfl) (some 8) rfl (.string ⟨#[]⟩) (fun _ => by kernel_rfl) ?_
  refine pl_val (want_no rfl) (some 9) rfl (.int .i64 0) (fun _ => by kernel_rfl) ?_
  refine pl_nil ?_
  refine au_then ?_
  refine wp_seq ?_
  refine wp_seq ?_
  refine rg_lit ?_
  refine pl_val (want_no rfl) (some 11) rfl (.pointer none) (fun _ => by kernel_rfl) ?_
  refine pl_call M (want_no rfl) (some 12) rfl 23 #[.pointer none] (.bool false) (fun _ => by kernel_rfl) (fun w M => n_there w M.laid) ?_
  intro u1 M
  refine pl_val (want_no rfl) (some 13) rfl (.bool true) (fun _ => by kernel_rfl) ?_
  refine pl_nil ?_
  refine au_then ?_
  refine wp_cond_true (by kernel_rfl) ?_
  refine wp_seq ?_
  refine rg_lit ?_
  refine pl_val (want_no rfl) (some 8) rfl (.string ⟨#[]⟩) (fun _ => by kernel_rfl) ?_
  refine pl_val (want_no rfl) (some 9) rfl (.int .i64 1) (fun _ => by kernel_rfl) ?_
  refine pl_nil ?_
  refine au_then ?_
  refine wp_ret ?_
  refine au_then_ret ?_
  exact bodyPost_ret (v := .tuple #[.string ⟨#[]⟩, .int .i64 1]) (results_tmp2 Tryd.results9 _ _ _ _ (by kernel_rfl) (by kernel_rfl)) (by kernel_rfl) ⟨rfl, below_grown M.old⟩

set_option maxRecDepth 100000 in
set_option maxHeartbeats 4000000 in
set_option linter.unusedSimpArgs false in
theorem n_Over {n : Nat} (w : World) (hL : Laid w)  :
    Calls Tryd.prog 13 #[.pointer none, .int .u64 (n : Int)] w fun r w' => r = .returned (.bool true) ∧ Below w.heap.size w w' := by
  go_enter Tryd.func13, Tryd.ntmps13
  have M := Mem.start hL
  refine wp_seq ?_
  refine rg_lit ?_
  refine pl_val (want_no rfl) (some 4) rfl (.bool false) (fun _ => by kernel_rfl) ?_
  refine pl_nil ?_
  refine au_then ?_
  refine wp_seq ?_
  refine rg_lit ?_
  refine pl_val (want_no rfl) (some 5) rfl (.pointer none) (fun _ => by kernel_rfl) ?_
  refine pl_call M (want_no rfl) (some 6) rfl 23 #[.pointer none] (.bool false) (fun _ => by kernel_rfl) (fun w M => n_there w M.laid) ?_
  intro u1 M
  refine pl_val (want_no rfl) (some 7) rfl (.bool true) (fun _ => by kernel_rfl) ?_
  refine pl_val (want_no rfl) (some 8) rfl (.bool true) (fun _ => by kernel_rfl) ?_
  refine pl_skip (want_off 3 false rfl 8 rfl (by kernel_rfl)) (some 9) rfl ?_
  refine pl_skip (want_off 3 false rfl 8 rfl (by kernel_rfl)) (some 10) rfl ?_
  refine pl_skip (want_off 3 false rfl 8 rfl (by kernel_rfl)) (some 11) rfl ?_
  refine pl_skip (want_off 3 false rfl 8 rfl (by kernel_rfl)) (some 12) rfl ?_
  refine pl_skip (want_off 3 false rfl 8 rfl (by kernel_rfl)) (some 13) rfl ?_
  refine pl_skip (want_off 3 false rfl 8 rfl (by kernel_rfl)) (some 14) rfl ?_
  refine pl_val (want_no rfl) (some 15) rfl (.bool true) (fun _ => by kernel_rfl) ?_
  refine pl_val (want_no rfl) (some 4) rfl (.bool true) (fun _ => by kernel_rfl) ?_
  refine pl_nil ?_
  refine au_then ?_
  refine wp_ret ?_
  exact bodyPost_ret (v := .bool true) (results_tmp1 Tryd.results13 _ _ _ (by kernel_rfl)) (by kernel_rfl) ⟨rfl, below_grown M.old⟩

set_option maxRecDepth 100000 in
set_option maxHeartbeats 4000000 in
set_option linter.unusedSimpArgs false in
theorem n_Wants {n : Nat} (w : World) (hL : Laid w)  :
    Calls Tryd.prog 14 #[.pointer none, .int .u64 (n : Int)] w fun r w' => r = .returned (.bool false) ∧ Below w.heap.size w w' := by
  go_enter Tryd.func14, Tryd.ntmps14
  have M := Mem.start hL
  refine wp_seq ?_
  refine rg_lit ?_
  refine pl_val (want_no rfl) (some 4) rfl (.bool false) (fun _ => by kernel_rfl) ?_
  refine pl_nil ?_
  refine au_then ?_
  refine wp_seq ?_
  refine rg_lit ?_
  refine pl_val (want_no rfl) (some 5) rfl (.pointer none) (fun _ => by kernel_rfl) ?_
  refine pl_call M (want_no rfl) (some 6) rfl 23 #[.pointer none] (.bool false) (fun _ => by kernel_rfl) (fun w M => n_there w M.laid) ?_
  intro u1 M
  refine pl_val (want_no rfl) (some 7) rfl (.bool false) (fun _ => by kernel_rfl) ?_
  refine pl_skip (want_off 2 true rfl 7 rfl (by kernel_rfl)) (some 8) rfl ?_
  refine pl_skip (want_off 2 true rfl 7 rfl (by kernel_rfl)) (some 9) rfl ?_
  refine pl_skip (want_off 2 true rfl 7 rfl (by kernel_rfl)) (some 10) rfl ?_
  refine pl_skip (want_off 2 true rfl 7 rfl (by kernel_rfl)) (some 11) rfl ?_
  refine pl_skip (want_off 2 true rfl 7 rfl (by kernel_rfl)) (some 12) rfl ?_
  refine pl_skip (want_off 2 true rfl 7 rfl (by kernel_rfl)) (some 13) rfl ?_
  refine pl_val (want_no rfl) (some 14) rfl (.bool false) (fun _ => by kernel_rfl) ?_
  refine pl_val (want_no rfl) (some 4) rfl (.bool false) (fun _ => by kernel_rfl) ?_
  refine pl_nil ?_
  refine au_then ?_
  refine wp_ret ?_
  exact bodyPost_ret (v := .bool false) (results_tmp1 Tryd.results14 _ _ _ (by kernel_rfl)) (by kernel_rfl) ⟨rfl, below_grown M.old⟩

set_option maxRecDepth 100000 in
set_option maxHeartbeats 4000000 in
set_option linter.unusedSimpArgs false in
theorem n_Sure  (w : World) (hL : Laid w)  :
    Calls Tryd.prog 15 #[.pointer none] w fun r w' => r = .returned (.bool false) ∧ Below w.heap.size w w' := by
  go_enter Tryd.func15, Tryd.ntmps15
  have M := Mem.start hL
  refine wp_seq ?_
  refine rg_lit ?_
  refine pl_val (want_no rfl) (some 2) rfl (.bool false) (fun _ => by kernel_rfl) ?_
  refine pl_nil ?_
  refine au_then ?_
  refine wp_seq ?_
  refine rg_lit ?_
  refine pl_val (want_no rfl) (some 3) rfl (.pointer none) (fun _ => by kernel_rfl) ?_
  refine pl_call M (want_no rfl) (some 4) rfl 23 #[.pointer none] (.bool false) (fun _ => by kernel_rfl) (fun w M => n_there w M.laid) ?_
  intro u1 M
  refine pl_val (want_no rfl) (some 5) rfl (.bool false) (fun _ => by kernel_rfl) ?_
  refine pl_skip (want_off 2 true rfl 5 rfl (by kernel_rfl)) (some 6) rfl ?_
  refine pl_skip (want_off 2 true rfl 5 rfl (by kernel_rfl)) (some 7) rfl ?_
  refine pl_skip (want_off 2 true rfl 5 rfl (by kernel_rfl)) (some 8) rfl ?_
  refine pl_skip (want_off 2 true rfl 5 rfl (by kernel_rfl)) (some 9) rfl ?_
  refine pl_skip (want_off 2 true rfl 5 rfl (by kernel_rfl)) (some 10) rfl ?_
  refine pl_skip (want_off 2 true rfl 5 rfl (by kernel_rfl)) (some 11) rfl ?_
  refine pl_skip (want_off 2 true rfl 5 rfl (by kernel_rfl)) (some 12) rfl ?_
  refine pl_val (want_no rfl) (some 13) rfl (.bool false) (fun _ => by kernel_rfl) ?_
  refine pl_val (want_no rfl) (some 2) rfl (.bool false) (fun _ => by kernel_rfl) ?_
  refine pl_nil ?_
  refine au_then ?_
  refine wp_ret ?_
  exact bodyPost_ret (v := .bool false) (results_tmp1 Tryd.results15 _ _ _ (by kernel_rfl)) (by kernel_rfl) ⟨rfl, below_grown M.old⟩

set_option maxRecDepth 100000 in
set_option maxHeartbeats 4000000 in
set_option linter.unusedSimpArgs false in
theorem n_Sent  (w : World) (hL : Laid w)  :
    Calls Tryd.prog 16 #[.pointer none] w fun r w' => r = .returned (.int .u64 0) ∧ Below w.heap.size w w' := by
  go_enter Tryd.func16, Tryd.ntmps16
  have M := Mem.start hL
  refine wp_seq ?_
  refine rg_lit ?_
  refine pl_val (want_no rfl) (some 2) rfl (.int .u64 0) (fun _ => by kernel_rfl) ?_
  refine pl_nil ?_
  refine au_then ?_
  refine wp_seq ?_
  refine wp_seq ?_
  refine rg_lit ?_
  refine pl_val (want_no rfl) (some 3) rfl (.pointer none) (fun _ => by kernel_rfl) ?_
  refine pl_call M (want_no rfl) (some 4) rfl 23 #[.pointer none] (.bool false) (fun _ => by kernel_rfl) (fun w M => n_there w M.laid) ?_
  intro u1 M
  refine pl_val (want_no rfl) (some 5) rfl (.bool true) (fun _ => by kernel_rfl) ?_
  refine pl_nil ?_
  refine au_then ?_
  refine wp_cond_true (by kernel_rfl) ?_
  refine wp_seq ?_
  refine rg_lit ?_
  refine pl_val (want_no rfl) (some 2) rfl (.int .u64 0) (fun _ => by kernel_rfl) ?_
  refine pl_nil ?_
  refine au_then ?_
  refine wp_ret ?_
  refine au_then_ret ?_
  exact bodyPost_ret (v := .int .u64 0) (results_tmp1 Tryd.results16 _ _ _ (by kernel_rfl)) (by kernel_rfl) ⟨rfl, below_grown M.old⟩

set_option maxRecDepth 100000 in
set_option maxHeartbeats 4000000 in
set_option linter.unusedSimpArgs false in
theorem n_sthere  (w : World) (hL : Laid w)  :
    Calls Tryd.prog 29 #[.pointer none] w fun r w' => r = .returned (.bool false) ∧ Below w.heap.size w w' := by
  go_enter Tryd.func29, Tryd.ntmps29
  have M := Mem.start hL
  refine wp_seq ?_
  refine rg_lit ?_
  refine pl_val (want_no rfl) (some 2) rfl (.bool false) (fun _ => by kernel_rfl) ?_
  refine pl_nil ?_
  refine au_then ?_
  refine wp_seq ?_
  refine rg_lit ?_
  refine pl_val (want_no rfl) (some 3) rfl (.pointer none) (fun _ => by kernel_rfl) ?_
  refine pl_val (want_no rfl) (some 4) rfl (.bool false) (fun _ => by kernel_rfl) ?_
  refine pl_val (want_no rfl) (some 5) rfl (.bool false) (fun _ => by kernel_rfl) ?_
  refine pl_skip (want_off 2 true rfl 5 rfl (by kernel_rfl)) (some 6) rfl ?_
  refine pl_skip (want_off 2 true rfl 5 rfl (by kernel_rfl)) (some 7) rfl ?_
  refine pl_skip (want_off 2 true rfl 5 rfl (by kernel_rfl)) (some 8) rfl ?_
  refine pl_skip (want_off 2 true rfl 5 rfl (by kernel_rfl)) (some 9) rfl ?_
  refine pl_val (want_no rfl) (some 10) rfl (.bool false) (fun _ => by kernel_rfl) ?_
  refine pl_val (want_no rfl) (some 2) rfl (.bool false) (fun _ => by kernel_rfl) ?_
  refine pl_nil ?_
  refine au_then ?_
  refine wp_ret ?_
  exact bodyPost_ret (v := .bool false) (results_tmp1 Tryd.results29 _ _ _ (by kernel_rfl)) (by kernel_rfl) ⟨rfl, below_grown M.old⟩

set_option maxRecDepth 100000 in
set_option maxHeartbeats 4000000 in
set_option linter.unusedSimpArgs false in
theorem n_Get  (w : World) (hL : Laid w)  :
    Calls Tryd.prog 11 #[.pointer none, .int .u32 1] w fun r w' => r = .returned (.tuple #[.pointer none, .int .i64 1]) ∧ Below w.heap.size w w' := by
  go_enter Tryd.func11, Tryd.ntmps11
  have M := Mem.start hL
  refine wp_seq ?_
  refine rg_lit ?_
  refine pl_val (want_no rfl) (some 4) rfl (.pointer none) (fun _ => by kernel_rfl) ?_
  refine pl_val (want_no rfl) (some 5) rfl (.int .i64 0) (fun _ => by kernel_rfl) ?_
  refine pl_nil ?_
  refine au_then ?_
  refine wp_seq ?_
  refine wp_seq ?_
  refine rg_lit ?_
  refine pl_val (want_no rfl) (some 7) rfl (.pointer none) (fun _ => by kernel_rfl) ?_
  refine pl_call M (want_no rfl) (some 8) rfl 29 #[.pointer none] (.bool false) (fun _ => by kernel_rfl) (fun w M => n_sthere w M.laid) ?_
  intro u1 M
  refine pl_val (want_no rfl) (some 9) rfl (.bool true) (fun _ => by kernel_rfl) ?_
  refine pl_nil ?_
  refine au_then ?_
  refine wp_cond_true (by kernel_rfl) ?_
  refine wp_seq ?_
  refine rg_lit ?_
  refine pl_val (want_no rfl) (some 4) rfl (.pointer none) (fun _ => by kernel_rfl) ?_
  refine pl_val (want_no rfl) (some 5) rfl (.int .i64 1) (fun _ => by kernel_rfl) ?_
  refine pl_nil ?_
  refine au_then ?_
  refine wp_ret ?_
  refine au_then_ret ?_
  exact bodyPost_ret (v := .tuple #[.pointer none, .int .i64 1]) (results_tmp2 Tryd.results11 _ _ _ _ (by kernel_rfl) (by kernel_rfl)) (by kernel_rfl) ⟨rfl, below_grown M.old⟩

set_option maxRecDepth 100000 in
set_option maxHeartbeats 4000000 in
set_option linter.unusedSimpArgs false in
theorem n_Best {n : Nat} (w : World) (hL : Laid w)  :
    Calls Tryd.prog 12 #[.pointer none, .int .u64 (n : Int)] w fun r w' => r = .returned (.tuple #[.int .u32 0, .pointer none, .int .i64 1]) ∧ Below w.heap.size w w' := by
  go_enter Tryd.func12, Tryd.ntmps12
  have M := Mem.start hL
  refine wp_seq ?_
  refine rg_lit ?_
  refine pl_new M (want_no rfl) (some 3) rfl (.cells (av 1 (ls [.int .u64 (n : Int)])) 22) (fun _ => by kernel_rfl) ?_
  intro g1 u1 M
  replace M : Mem ⟨w, []⟩ [⟨g1, .cells (av 1 (ls [.int .u64 (n : Int)])) 22⟩] u1 := M
  refine pl_new M (want_no rfl) (some 4) rfl (.cells (av 1 (ls [.int .u32 0])) 46) (fun _ => by kernel_rfl) ?_
  intro g2 u2 M
  replace M : Mem ⟨w, []⟩ [⟨g1, .cells (av 1 (ls [.int .u64 (n : Int)])) 22⟩, ⟨g2, .cells (av 1 (ls [.int .u32 0])) 46⟩] u2 := M
  refine pl_new M (want_no rfl) (some 5) rfl (.cells (av 1 (ls [.pointer none])) 28) (fun _ => by kernel_rfl) ?_
  intro g3 u3 M
  replace M : Mem ⟨w, []⟩ [⟨g1, .cells (av 1 (ls [.int .u64 (n : Int)])) 22⟩, ⟨g2, .cells (av 1 (ls [.int .u32 0])) 46⟩, ⟨g3, .cells (av 1 (ls [.pointer none])) 28⟩] u3 := M
  refine pl_new M (want_no rfl) (some 6) rfl (.cells (av 1 (ls [.int .i64 0])) 29) (fun _ => by kernel_rfl) ?_
  intro g4 u4 M
  replace M : Mem ⟨w, []⟩ [⟨g1, .cells (av 1 (ls [.int .u64 (n : Int)])) 22⟩, ⟨g2, .cells (av 1 (ls [.int .u32 0])) 46⟩, ⟨g3, .cells (av 1 (ls [.pointer none])) 28⟩, ⟨g4, .cells (av 1 (ls [.int .i64 0])) 29⟩] u4 := M
  refine pl_nil ?_
  refine au_then ?_
  refine wp_seq ?_
  refine wp_seq ?_
  refine rg_lit ?_
  refine pl_val (want_no rfl) (some 9) rfl (.pointer none) (fun _ => by kernel_rfl) ?_
  refine pl_call M (want_no rfl) (some 10) rfl 29 #[.pointer none] (.bool false) (fun _ => by kernel_rfl) (fun w M => n_sthere w M.laid) ?_
  intro u5 M
  refine pl_val (want_no rfl) (some 11) rfl (.bool true) (fun _ => by kernel_rfl) ?_
  refine pl_nil ?_
  refine au_then ?_
  refine wp_cond_true (by kernel_rfl) ?_
  refine wp_seq ?_
  refine rg_lit ?_
  refine pl_put1 M (want_no rfl) rfl 46 _ _ rfl 1 g2 0 (by kernel_rfl) 1 46 (ls [.int .u32 0]) rfl (.int .u32 0) (ls [.int .u32 0]) (by kernel_rfl) inz46 (by decide) rfl rfl (put_ls _ 0 _ _ rfl) ?_
  intro u6 M
  replace M : Mem ⟨w, []⟩ [⟨g1, .cells (av 1 (ls [.int .u64 (n : Int)])) 22⟩, ⟨g2, .cells (av 1 (ls [.int .u32 0])) 46⟩, ⟨g3, .cells (av 1 (ls [.pointer none])) 28⟩, ⟨g4, .cells (av 1 (ls [.int .i64 0])) 29⟩] u6 := M
  refine pl_put1 M (want_no rfl) rfl 28 _ _ rfl 2 g3 0 (by kernel_rfl) 1 28 (ls [.pointer none]) rfl (.pointer none) (ls [.pointer none]) (by kernel_rfl) inz28 (by decide) rfl rfl (put_ls _ 0 _ _ rfl) ?_
  intro u7 M
  replace M : Mem ⟨w, []⟩ [⟨g1, .cells (av 1 (ls [.int .u64 (n : Int)])) 22⟩, ⟨g2, .cells (av 1 (ls [.int .u32 0])) 46⟩, ⟨g3, .cells (av 1 (ls [.pointer none])) 28⟩, ⟨g4, .cells (av 1 (ls [.int .i64 0])) 29⟩] u7 := M
  refine pl_put1 M (want_no rfl) rfl 29 _ _ rfl 3 g4 0 (by kernel_rfl) 1 29 (ls [.int .i64 0]) rfl (.int .i64 1) (ls [.int .i64 1]) (by kernel_rfl) inz29 (by decide) rfl rfl (put_ls _ 0 _ _ rfl) ?_
  intro u8 M
  replace M : Mem ⟨w, []⟩ [⟨g1, .cells (av 1 (ls [.int .u64 (n : Int)])) 22⟩, ⟨g2, .cells (av 1 (ls [.int .u32 0])) 46⟩, ⟨g3, .cells (av 1 (ls [.pointer none])) 28⟩, ⟨g4, .cells (av 1 (ls [.int .i64 1])) 29⟩] u8 := M
  refine pl_nil ?_
  refine au_then ?_
  refine wp_ret ?_
  refine au_then_ret ?_
  exact bodyPost_ret (v := .tuple #[.int .u32 0, .pointer none, .int .i64 1]) (results_c3 Tryd.results12 _ _ g2 (.int .u32 0) g3 (.pointer none) g4 (.int .i64 1) (by kernel_rfl) (by kernel_rfl) (by kernel_rfl) (fun _ => by kernel_rfl) (fun _ => by kernel_rfl) (fun _ => by kernel_rfl)  (M.cell 1 rfl (by decide) rfl) (M.cell 2 rfl (by decide) rfl) (M.cell 3 rfl (by decide) rfl)) (by kernel_rfl) ⟨rfl, below_grown M.old⟩

set_option maxRecDepth 100000 in
set_option maxHeartbeats 4000000 in
set_option linter.unusedSimpArgs false in
theorem n_Tidy {n : Nat} (w : World) (hL : Laid w)  :
    Calls Tryd.prog 18 #[.pointer none, .int .u64 (n : Int)] w fun r w' => r = .returned (.slice none 0 0) ∧ Below w.heap.size w w' := by
  go_enter Tryd.func18, Tryd.ntmps18
  have M := Mem.start hL
  refine wp_seq ?_
  refine rg_lit ?_
  refine pl_new M (want_no rfl) (some 3) rfl (.cells (av 1 (ls [.int .u64 (n : Int)])) 22) (fun _ => by kernel_rfl) ?_
  intro g1 u1 M
  replace M : Mem ⟨w, []⟩ [⟨g1, .cells (av 1 (ls [.int .u64 (n : Int)])) 22⟩] u1 := M
  refine pl_val (want_no rfl) (some 4) rfl (.slice none 0 0) (fun _ => by kernel_rfl) ?_
  refine pl_nil ?_
  refine au_then ?_
  refine wp_seq ?_
  refine wp_seq ?_
  refine rg_lit ?_
  refine pl_val (want_no rfl) (some 5) rfl (.pointer none) (fun _ => by kernel_rfl) ?_
  refine pl_call M (want_no rfl) (some 6) rfl 29 #[.pointer none] (.bool false) (fun _ => by kernel_rfl) (fun w M => n_sthere w M.laid) ?_
  intro u2 M
  refine pl_val (want_no rfl) (some 7) rfl (.bool true) (fun _ => by kernel_rfl) ?_
  refine pl_nil ?_
  refine au_then ?_
  refine wp_cond_true (by kernel_rfl) ?_
  refine wp_seq ?_
  refine rg_lit ?_
  refine pl_val (want_no rfl) (some 4) rfl (.slice none 0 0) (fun _ => by kernel_rfl) ?_
  refine pl_nil ?_
  refine au_then ?_
  refine wp_ret ?_
  refine au_then_ret ?_
  exact bodyPost_ret (v := .slice none 0 0) (results_tmp1 Tryd.results18 _ _ _ (by kernel_rfl)) (by kernel_rfl) ⟨rfl, below_grown M.old⟩

set_option maxRecDepth 100000 in
set_option maxHeartbeats 4000000 in
set_option linter.unusedSimpArgs false in
theorem n_IDs  (w : World) (hL : Laid w)  :
    Calls Tryd.prog 19 #[.pointer none] w fun r w' => r = .returned (.slice none 0 0) ∧ Below w.heap.size w w' := by
  go_enter Tryd.func19, Tryd.ntmps19
  have M := Mem.start hL
  refine wp_seq ?_
  refine rg_lit ?_
  refine pl_val (want_no rfl) (some 2) rfl (.slice none 0 0) (fun _ => by kernel_rfl) ?_
  refine pl_nil ?_
  refine au_then ?_
  refine wp_seq ?_
  refine wp_seq ?_
  refine rg_lit ?_
  refine pl_val (want_no rfl) (some 6) rfl (.pointer none) (fun _ => by kernel_rfl) ?_
  refine pl_call M (want_no rfl) (some 7) rfl 29 #[.pointer none] (.bool false) (fun _ => by kernel_rfl) (fun w M => n_sthere w M.laid) ?_
  intro u1 M
  refine pl_val (want_no rfl) (some 8) rfl (.bool true) (fun _ => by kernel_rfl) ?_
  refine pl_nil ?_
  refine au_then ?_
  refine wp_cond_true (by kernel_rfl) ?_
  refine wp_seq ?_
  refine rg_lit ?_
  refine pl_val (want_no rfl) (some 2) rfl (.slice none 0 0) (fun _ => by kernel_rfl) ?_
  refine pl_nil ?_
  refine au_then ?_
  refine wp_ret ?_
  refine au_then_ret ?_
  exact bodyPost_ret (v := .slice none 0 0) (results_tmp1 Tryd.results19 _ _ _ (by kernel_rfl)) (by kernel_rfl) ⟨rfl, below_grown M.old⟩

set_option maxRecDepth 100000 in
set_option maxHeartbeats 4000000 in
set_option linter.unusedSimpArgs false in
theorem n_Put  (w : World) (hL : Laid w)  :
    Calls Tryd.prog 17 #[.pointer none, .int .u32 1, .pointer none] w fun r w' => r = .returned (.int .i64 1) ∧ Below w.heap.size w w' := by
  go_enter Tryd.func17, Tryd.ntmps17
  have M := Mem.start hL
  refine wp_seq ?_
  refine rg_lit ?_
  refine pl_val (want_no rfl) (some 6) rfl (.int .i64 0) (fun _ => by kernel_rfl) ?_
  refine pl_nil ?_
  refine au_then ?_
  refine wp_seq ?_
  refine wp_block ?_
  refine wp_seq ?_
  refine rg_lit ?_
  refine pl_val (want_no rfl) (some 8) rfl (.pointer none) (fun _ => by kernel_rfl) ?_
  refine pl_call M (want_no rfl) (some 9) rfl 29 #[.pointer none] (.bool false) (fun _ => by kernel_rfl) (fun w M => n_sthere w M.laid) ?_
  intro u1 M
  refine pl_val (want_no rfl) (some 10) rfl (.bool true) (fun _ => by kernel_rfl) ?_
  refine pl_val (want_no rfl) (some 7) rfl (.bool true) (fun _ => by kernel_rfl) ?_
  refine pl_nil ?_
  refine au_then ?_
  refine wp_cond_true (by kernel_rfl) ?_
  refine wp_seq ?_
  refine rg_lit ?_
  refine pl_val (want_no rfl) (some 6) rfl (.int .i64 1) (fun _ => by kernel_rfl) ?_
  refine pl_nil ?_
  refine au_then ?_
  refine wp_ret ?_
  refine au_block_ret ?_
  refine au_then_ret ?_
  exact bodyPost_ret (v := .int .i64 1) (results_tmp1 Tryd.results17 _ _ _ (by kernel_rfl)) (by kernel_rfl) ⟨rfl, below_grown M.old⟩

def keyA : ByteArray := (bs [0, 0, 0, 0, 0, 0, 0, 0, 0, 0, 0, 0, 0, 0, 0, 0, 0, 0, 0, 0, 0, 0, 0, 0, 0, 0, 0, 0, 0, 0, 0]) ++ ⟨#[97]⟩
def keyB : ByteArray := (bs [0, 0, 0, 0, 0, 0, 0, 0, 0, 0, 0, 0, 0, 0, 0, 0, 0, 0, 0, 0, 0, 0, 0, 0, 0, 0, 0, 0, 0, 0, 0]) ++ ⟨#[98]⟩
theorem keyA_size : keyA.size = 32 := by decide +kernel
theorem keyB_size : keyB.size = 32 := by decide +kernel
set_option maxRecDepth 100000 in
set_option maxHeartbeats 4000000 in
set_option linter.unusedSimpArgs false in
theorem c_gotA  (w : World) (hL : Laid w)  :
    Calls Tryd.prog 7 #[.bool true] w fun r w' => r = .returned (.agg (av 5 (ls [.string ⟨#[]⟩, .string ⟨#[]⟩, .string keyA, .string keyB, .string ⟨#[]⟩]))) ∧ Below w.heap.size w w' := by
  go_enter Tryd.func7, Tryd.ntmps7
  have M := Mem.start hL
  refine wp_seq ?_
  refine rg_lit ?_
  refine pl_new M (want_no rfl) (some 2) rfl (.cells (av 5 (ls [.string ⟨#[]⟩, .string ⟨#[]⟩, .string ⟨#[]⟩, .string ⟨#[]⟩, .string ⟨#[]⟩])) 33) (fun _ => by kernel_rfl) ?_
  intro g1 u1 M
  replace M : Mem ⟨w, []⟩ [⟨g1, .cells (av 5 (ls [.string ⟨#[]⟩, .string ⟨#[]⟩, .string ⟨#[]⟩, .string ⟨#[]⟩, .string ⟨#[]⟩])) 33⟩] u1 := M
  refine pl_nil ?_
  refine au_then ?_
  refine wp_seq ?_
  refine rg_lit ?_
  refine pl_mk M (want_no rfl) (some 5) rfl (fun g2 => .slice (some ⟨g2, 0, none⟩) 31 31) (.cells (av 31 (ls [.int .u8 0, .int .u8 0, .int .u8 0, .int .u8 0, .int .u8 0, .int .u8 0, .int .u8 0, .int .u8 0, .int .u8 0, .int .u8 0, .int .u8 0, .int .u8 0, .int .u8 0, .int .u8 0, .int .u8 0, .int .u8 0, .int .u8 0, .int .u8 0, .int .u8 0, .int .u8 0, .int .u8 0, .int .u8 0, .int .u8 0, .int .u8 0, .int .u8 0, .int .u8 0, .int .u8 0, .int .u8 0, .int .u8 0, .int .u8 0, .int .u8 0])) 5) (fun _ => by kernel_rfl) ?_
  intro g2 u2 M
  replace M : Mem ⟨w, []⟩ [⟨g1, .cells (av 5 (ls [.string ⟨#[]⟩, .string ⟨#[]⟩, .string ⟨#[]⟩, .string ⟨#[]⟩, .string ⟨#[]⟩])) 33⟩, ⟨g2, .cells (av 31 (ls [.int .u8 0, .int .u8 0, .int .u8 0, .int .u8 0, .int .u8 0, .int .u8 0, .int .u8 0, .int .u8 0, .int .u8 0, .int .u8 0, .int .u8 0, .int .u8 0, .int .u8 0, .int .u8 0, .int .u8 0, .int .u8 0, .int .u8 0, .int .u8 0, .int .u8 0, .int .u8 0, .int .u8 0, .int .u8 0, .int .u8 0, .int .u8 0, .int .u8 0, .int .u8 0, .int .u8 0, .int .u8 0, .int .u8 0, .int .u8 0, .int .u8 0])) 5⟩] u2 := M
  refine pl_back M (want_no rfl) (some 6) rfl _ rfl 1 g2 31 31 (by kernel_rfl) _ rfl [0, 0, 0, 0, 0, 0, 0, 0, 0, 0, 0, 0, 0, 0, 0, 0, 0, 0, 0, 0, 0, 0, 0, 0, 0, 0, 0, 0, 0, 0, 0] 31 (sb_ls [0, 0, 0, 0, 0, 0, 0, 0, 0, 0, 0, 0, 0, 0, 0, 0, 0, 0, 0, 0, 0, 0, 0, 0, 0, 0, 0, 0, 0, 0, 0] _) rfl (by decide) ?_
  refine pl_val (want_no rfl) (some 7) rfl (.string ((bs [0, 0, 0, 0, 0, 0, 0, 0, 0, 0, 0, 0, 0, 0, 0, 0, 0, 0, 0, 0, 0, 0, 0, 0, 0, 0, 0, 0, 0, 0, 0]) ++ (⟨#[97]⟩ : ByteArray))) (run_cat 9 9 _ _ rfl (bs [0, 0, 0, 0, 0, 0, 0, 0, 0, 0, 0, 0, 0, 0, 0, 0, 0, 0, 0, 0, 0, 0, 0, 0, 0, 0, 0, 0, 0, 0, 0]) ⟨#[97]⟩ (by kernel_rfl) (by kernel_rfl) (by decide +kernel)) ?_
  refine pl_val (want_no rfl) (some 3) rfl (.string ((bs [0, 0, 0, 0, 0, 0, 0, 0, 0, 0, 0, 0, 0, 0, 0, 0, 0, 0, 0, 0, 0, 0, 0, 0, 0, 0, 0, 0, 0, 0, 0]) ++ (⟨#[97]⟩ : ByteArray))) (fun _ => by kernel_rfl) ?_
  refine pl_nil ?_
  refine au_then ?_
  refine wp_seq ?_
  refine rg_lit ?_
  refine pl_mk M (want_no rfl) (some 8) rfl (fun g3 => .slice (some ⟨g3, 0, none⟩) 31 31) (.cells (av 31 (ls [.int .u8 0, .int .u8 0, .int .u8 0, .int .u8 0, .int .u8 0, .int .u8 0, .int .u8 0, .int .u8 0, .int .u8 0, .int .u8 0, .int .u8 0, .int .u8 0, .int .u8 0, .int .u8 0, .int .u8 0, .int .u8 0, .int .u8 0, .int .u8 0, .int .u8 0, .int .u8 0, .int .u8 0, .int .u8 0, .int .u8 0, .int .u8 0, .int .u8 0, .int .u8 0, .int .u8 0, .int .u8 0, .int .u8 0, .int .u8 0, .int .u8 0])) 5) (fun _ => by kernel_rfl) ?_
  intro g3 u3 M
  replace M : Mem ⟨w, []⟩ [⟨g1, .cells (av 5 (ls [.string ⟨#[]⟩, .string ⟨#[]⟩, .string ⟨#[]⟩, .string ⟨#[]⟩, .string ⟨#[]⟩])) 33⟩, ⟨g2, .cells (av 31 (ls [.int .u8 0, .int .u8 0, .int .u8 0, .int .u8 0, .int .u8 0, .int .u8 0, .int .u8 0, .int .u8 0, .int .u8 0, .int .u8 0, .int .u8 0, .int .u8 0, .int .u8 0, .int .u8 0, .int .u8 0, .int .u8 0, .int .u8 0, .int .u8 0, .int .u8 0, .int .u8 0, .int .u8 0, .int .u8 0, .int .u8 0, .int .u8 0, .int .u8 0, .int .u8 0, .int .u8 0, .int .u8 0, .int .u8 0, .int .u8 0, .int .u8 0])) 5⟩, ⟨g3, .cells (av 31 (ls [.int .u8 0, .int .u8 0, .int .u8 0, .int .u8 0, .int .u8 0, .int .u8 0, .int .u8 0, .int .u8 0, .int .u8 0, .int .u8 0, .int .u8 0, .int .u8 0, .int .u8 0, .int .u8 0, .int .u8 0, .int .u8 0, .int .u8 0, .int .u8 0, .int .u8 0, .int .u8 0, .int .u8 0, .int .u8 0, .int .u8 0, .int .u8 0, .int .u8 0, .int .u8 0, .int .u8 0, .int .u8 0, .int .u8 0, .int .u8 0, .int .u8 0])) 5⟩] u3 := M
  refine pl_back M (want_no rfl) (some 9) rfl _ rfl 2 g3 31 31 (by kernel_rfl) _ rfl [0, 0, 0, 0, 0, 0, 0, 0, 0, 0, 0, 0, 0, 0, 0, 0, 0, 0, 0, 0, 0, 0, 0, 0, 0, 0, 0, 0, 0, 0, 0] 31 (sb_ls [0, 0, 0, 0, 0, 0, 0, 0, 0, 0, 0, 0, 0, 0, 0, 0, 0, 0, 0, 0, 0, 0, 0, 0, 0, 0, 0, 0, 0, 0, 0] _) rfl (by decide) ?_
  refine pl_val (want_no rfl) (some 10) rfl (.string ((bs [0, 0, 0, 0, 0, 0, 0, 0, 0, 0, 0, 0, 0, 0, 0, 0, 0, 0, 0, 0, 0, 0, 0, 0, 0, 0, 0, 0, 0, 0, 0]) ++ (⟨#[98]⟩ : ByteArray))) (run_cat 9 9 _ _ rfl (bs [0, 0, 0, 0, 0, 0, 0, 0, 0, 0, 0, 0, 0, 0, 0, 0, 0, 0, 0, 0, 0, 0, 0, 0, 0, 0, 0, 0, 0, 0, 0]) ⟨#[98]⟩ (by kernel_rfl) (by kernel_rfl) (by decide +kernel)) ?_
  refine pl_val (want_no rfl) (some 4) rfl (.string ((bs [0, 0, 0, 0, 0, 0, 0, 0, 0, 0, 0, 0, 0, 0, 0, 0, 0, 0, 0, 0, 0, 0, 0, 0, 0, 0, 0, 0, 0, 0, 0]) ++ (⟨#[98]⟩ : ByteArray))) (fun _ => by kernel_rfl) ?_
  refine pl_nil ?_
  refine au_then ?_
  refine wp_seq ?_
  refine wp_seq ?_
  refine rg_lit ?_
  refine pl_val (want_no rfl) (some 11) rfl (.bool true) (fun _ => by kernel_rfl) ?_
  refine pl_nil ?_
  refine au_then ?_
  refine wp_cond_true (by kernel_rfl) ?_
  refine wp_seq ?_
  refine rg_lit ?_
  refine pl_val (want_no rfl) (some 12) rfl (.string ((bs [0, 0, 0, 0, 0, 0, 0, 0, 0, 0, 0, 0, 0, 0, 0, 0, 0, 0, 0, 0, 0, 0, 0, 0, 0, 0, 0, 0, 0, 0, 0]) ++ (⟨#[97]⟩ : ByteArray))) (fun _ => by kernel_rfl) ?_
  refine pl_val (want_no rfl) (some 13) rfl (.string ((bs [0, 0, 0, 0, 0, 0, 0, 0, 0, 0, 0, 0, 0, 0, 0, 0, 0, 0, 0, 0, 0, 0, 0, 0, 0, 0, 0, 0, 0, 0, 0]) ++ (⟨#[98]⟩ : ByteArray))) (fun _ => by kernel_rfl) ?_
  refine pl_val (want_no rfl) (some 14) rfl (.agg (av 5 (ls [.string ⟨#[]⟩, .string ⟨#[]⟩, .string ((bs [0, 0, 0, 0, 0, 0, 0, 0, 0, 0, 0, 0, 0, 0, 0, 0, 0, 0, 0, 0, 0, 0, 0, 0, 0, 0, 0, 0, 0, 0, 0]) ++ (⟨#[97]⟩ : ByteArray)), .string ((bs [0, 0, 0, 0, 0, 0, 0, 0, 0, 0, 0, 0, 0, 0, 0, 0, 0, 0, 0, 0, 0, 0, 0, 0, 0, 0, 0, 0, 0, 0, 0]) ++ (⟨#[98]⟩ : ByteArray)), .string ⟨#[]⟩]))) (fun _ => by kernel_rfl) ?_
  refine pl_put M (want_no rfl) rfl 33 _ _ rfl 0 g1 0 (by kernel_rfl) 5 33 (ls [.string ⟨#[]⟩, .string ⟨#[]⟩, .string ⟨#[]⟩, .string ⟨#[]⟩, .string ⟨#[]⟩]) rfl 5 (ls [.string ⟨#[]⟩, .string ⟨#[]⟩, .string ((bs [0, 0, 0, 0, 0, 0, 0, 0, 0, 0, 0, 0, 0, 0, 0, 0, 0, 0, 0, 0, 0, 0, 0, 0, 0, 0, 0, 0, 0, 0, 0]) ++ (⟨#[97]⟩ : ByteArray)), .string ((bs [0, 0, 0, 0, 0, 0, 0, 0, 0, 0, 0, 0, 0, 0, 0, 0, 0, 0, 0, 0, 0, 0, 0, 0, 0, 0, 0, 0, 0, 0, 0]) ++ (⟨#[98]⟩ : ByteArray)), .string ⟨#[]⟩]) (ls [.string ⟨#[]⟩, .string ⟨#[]⟩, .string ((bs [0, 0, 0, 0, 0, 0, 0, 0, 0, 0, 0, 0, 0, 0, 0, 0, 0, 0, 0, 0, 0, 0, 0, 0, 0, 0, 0, 0, 0, 0, 0]) ++ (⟨#[97]⟩ : ByteArray)), .string ((bs [0, 0, 0, 0, 0, 0, 0, 0, 0, 0, 0, 0, 0, 0, 0, 0, 0, 0, 0, 0, 0, 0, 0, 0, 0, 0, 0, 0, 0, 0, 0]) ++ (⟨#[98]⟩ : ByteArray)), .string ⟨#[]⟩]) (by kernel_rfl) inz33 (by decide) (one_ls _ rfl) (fun j hj => by rw [if_pos (by omega), Nat.sub_zero]) ?_
  intro u4 M
  replace M : Mem ⟨w, []⟩ [⟨g1, .cells (av 5 (ls [.string ⟨#[]⟩, .string ⟨#[]⟩, .string ((bs [0, 0, 0, 0, 0, 0, 0, 0, 0, 0, 0, 0, 0, 0, 0, 0, 0, 0, 0, 0, 0, 0, 0, 0, 0, 0, 0, 0, 0, 0, 0]) ++ (⟨#[97]⟩ : ByteArray)), .string ((bs [0, 0, 0, 0, 0, 0, 0, 0, 0, 0, 0, 0, 0, 0, 0, 0, 0, 0, 0, 0, 0, 0, 0, 0, 0, 0, 0, 0, 0, 0, 0]) ++ (⟨#[98]⟩ : ByteArray)), .string ⟨#[]⟩])) 33⟩, ⟨g2, .cells (av 31 (ls [.int .u8 0, .int .u8 0, .int .u8 0, .int .u8 0, .int .u8 0, .int .u8 0, .int .u8 0, .int .u8 0, .int .u8 0, .int .u8 0, .int .u8 0, .int .u8 0, .int .u8 0, .int .u8 0, .int .u8 0, .int .u8 0, .int .u8 0, .int .u8 0, .int .u8 0, .int .u8 0, .int .u8 0, .int .u8 0, .int .u8 0, .int .u8 0, .int .u8 0, .int .u8 0, .int .u8 0, .int .u8 0, .int .u8 0, .int .u8 0, .int .u8 0])) 5⟩, ⟨g3, .cells (av 31 (ls [.int .u8 0, .int .u8 0, .int .u8 0, .int .u8 0, .int .u8 0, .int .u8 0, .int .u8 0, .int .u8 0, .int .u8 0, .int .u8 0, .int .u8 0, .int .u8 0, .int .u8 0, .int .u8 0, .int .u8 0, .int .u8 0, .int .u8 0, .int .u8 0, .int .u8 0, .int .u8 0, .int .u8 0, .int .u8 0, .int .u8 0, .int .u8 0, .int .u8 0, .int .u8 0, .int .u8 0, .int .u8 0, .int .u8 0, .int .u8 0, .int .u8 0])) 5⟩] u4 := M
  refine pl_nil ?_
  refine au_then ?_
  refine wp_ret ?_
  refine au_then_ret ?_
  have e0 : keyA = ((bs [0, 0, 0, 0, 0, 0, 0, 0, 0, 0, 0, 0, 0, 0, 0, 0, 0, 0, 0, 0, 0, 0, 0, 0, 0, 0, 0, 0, 0, 0, 0]) ++ (⟨#[97]⟩ : ByteArray)) := rfl
  have e1 : keyB = ((bs [0, 0, 0, 0, 0, 0, 0, 0, 0, 0, 0, 0, 0, 0, 0, 0, 0, 0, 0, 0, 0, 0, 0, 0, 0, 0, 0, 0, 0, 0, 0]) ++ (⟨#[98]⟩ : ByteArray)) := rfl
  exact bodyPost_ret (v := .agg (av 5 (ls [.string ⟨#[]⟩, .string ⟨#[]⟩, .string ((bs [0, 0, 0, 0, 0, 0, 0, 0, 0, 0, 0, 0, 0, 0, 0, 0, 0, 0, 0, 0, 0, 0, 0, 0, 0, 0, 0, 0, 0, 0, 0]) ++ (⟨#[97]⟩ : ByteArray)), .string ((bs [0, 0, 0, 0, 0, 0, 0, 0, 0, 0, 0, 0, 0, 0, 0, 0, 0, 0, 0, 0, 0, 0, 0, 0, 0, 0, 0, 0, 0, 0, 0]) ++ (⟨#[98]⟩ : ByteArray)), .string ⟨#[]⟩]))) (results_cell_row Tryd.results7 _ _ g1 33 (av 5 (ls [.string ⟨#[]⟩, .string ⟨#[]⟩, .string ((bs [0, 0, 0, 0, 0, 0, 0, 0, 0, 0, 0, 0, 0, 0, 0, 0, 0, 0, 0, 0, 0, 0, 0, 0, 0, 0, 0, 0, 0, 0, 0]) ++ (⟨#[97]⟩ : ByteArray)), .string ((bs [0, 0, 0, 0, 0, 0, 0, 0, 0, 0, 0, 0, 0, 0, 0, 0, 0, 0, 0, 0, 0, 0, 0, 0, 0, 0, 0, 0, 0, 0, 0]) ++ (⟨#[98]⟩ : ByteArray)), .string ⟨#[]⟩])) (0, 0) _ (by kernel_rfl) (M.get 0 rfl) Tryd.underlying33 rfl (by rw [av_size]; exact inz33)) (by kernel_rfl) ⟨by rw [e0, e1], below_grown M.old⟩

set_option maxRecDepth 100000 in
set_option maxHeartbeats 4000000 in
set_option linter.unusedSimpArgs false in
theorem c_gotB  (w : World) (hL : Laid w)  :
    Calls Tryd.prog 7 #[.bool false] w fun r w' => r = .returned (.agg (av 5 (ls [.string ⟨#[]⟩, .string ⟨#[]⟩, .string keyB, .string keyA, .string ⟨#[]⟩]))) ∧ Below w.heap.size w w' := by
  go_enter Tryd.func7, Tryd.ntmps7
  have M := Mem.start hL
  refine wp_seq ?_
  refine rg_lit ?_
  refine pl_new M (want_no rfl) (some 2) rfl (.cells (av 5 (ls [.string ⟨#[]⟩, .string ⟨#[]⟩, .string ⟨#[]⟩, .string ⟨#[]⟩, .string ⟨#[]⟩])) 33) (fun _ => by kernel_rfl) ?_
  intro g1 u1 M
  replace M : Mem ⟨w, []⟩ [⟨g1, .cells (av 5 (ls [.string ⟨#[]⟩, .string ⟨#[]⟩, .string ⟨#[]⟩, .string ⟨#[]⟩, .string ⟨#[]⟩])) 33⟩] u1 := M
  refine pl_nil ?_
  refine au_then ?_
  refine wp_seq ?_
  refine rg_lit ?_
  refine pl_mk M (want_no rfl) (some 5) rfl (fun g2 => .slice (some ⟨g2, 0, none⟩) 31 31) (.cells (av 31 (ls [.int .u8 0, .int .u8 0, .int .u8 0, .int .u8 0, .int .u8 0, .int .u8 0, .int .u8 0, .int .u8 0, .int .u8 0, .int .u8 0, .int .u8 0, .int .u8 0, .int .u8 0, .int .u8 0, .int .u8 0, .int .u8 0, .int .u8 0, .int .u8 0, .int .u8 0, .int .u8 0, .int .u8 0, .int .u8 0, .int .u8 0, .int .u8 0, .int .u8 0, .int .u8 0, .int .u8 0, .int .u8 0, .int .u8 0, .int .u8 0, .int .u8 0])) 5) (fun _ => by kernel_rfl) ?_
  intro g2 u2 M
  replace M : Mem ⟨w, []⟩ [⟨g1, .cells (av 5 (ls [.string ⟨#[]⟩, .string ⟨#[]⟩, .string ⟨#[]⟩, .string ⟨#[]⟩, .string ⟨#[]⟩])) 33⟩, ⟨g2, .cells (av 31 (ls [.int .u8 0, .int .u8 0, .int .u8 0, .int .u8 0, .int .u8 0, .int .u8 0, .int .u8 0, .int .u8 0, .int .u8 0, .int .u8 0, .int .u8 0, .int .u8 0, .int .u8 0, .int .u8 0, .int .u8 0, .int .u8 0, .int .u8 0, .int .u8 0, .int .u8 0, .int .u8 0, .int .u8 0, .int .u8 0, .int .u8 0, .int .u8 0, .int .u8 0, .int .u8 0, .int .u8 0, .int .u8 0, .int .u8 0, .int .u8 0, .int .u8 0])) 5⟩] u2 := M
  refine pl_back M (want_no rfl) (some 6) rfl _ rfl 1 g2 31 31 (by kernel_rfl) _ rfl [0, 0, 0, 0, 0, 0, 0, 0, 0, 0, 0, 0, 0, 0, 0, 0, 0, 0, 0, 0, 0, 0, 0, 0, 0, 0, 0, 0, 0, 0, 0] 31 (sb_ls [0, 0, 0, 0, 0, 0, 0, 0, 0, 0, 0, 0, 0, 0, 0, 0, 0, 0, 0, 0, 0, 0, 0, 0, 0, 0, 0, 0, 0, 0, 0] _) rfl (by decide) ?_
  refine pl_val (want_no rfl) (some 7) rfl (.string ((bs [0, 0, 0, 0, 0, 0, 0, 0, 0, 0, 0, 0, 0, 0, 0, 0, 0, 0, 0, 0, 0, 0, 0, 0, 0, 0, 0, 0, 0, 0, 0]) ++ (⟨#[97]⟩ : ByteArray))) (run_cat 9 9 _ _ rfl (bs [0, 0, 0, 0, 0, 0, 0, 0, 0, 0, 0, 0, 0, 0, 0, 0, 0, 0, 0, 0, 0, 0, 0, 0, 0, 0, 0, 0, 0, 0, 0]) ⟨#[97]⟩ (by kernel_rfl) (by kernel_rfl) (by decide +kernel)) ?_
  refine pl_val (want_no rfl) (some 3) rfl (.string ((bs [0, 0, 0, 0, 0, 0, 0, 0, 0, 0, 0, 0, 0, 0, 0, 0, 0, 0, 0, 0, 0, 0, 0, 0, 0, 0, 0, 0, 0, 0, 0]) ++ (⟨#[97]⟩ : ByteArray))) (fun _ => by kernel_rfl) ?_
  refine pl_nil ?_
  refine au_then ?_
  refine wp_seq ?_
  refine rg_lit ?_
  refine pl_mk M (want_no rfl) (some 8) rfl (fun g3 => .slice (some ⟨g3, 0, none⟩) 31 31) (.cells (av 31 (ls [.int .u8 0, .int .u8 0, .int .u8 0, .int .u8 0, .int .u8 0, .int .u8 0, .int .u8 0, .int .u8 0, .int .u8 0, .int .u8 0, .int .u8 0, .int .u8 0, .int .u8 0, .int .u8 0, .int .u8 0, .int .u8 0, .int .u8 0, .int .u8 0, .int .u8 0, .int .u8 0, .int .u8 0, .int .u8 0, .int .u8 0, .int .u8 0, .int .u8 0, .int .u8 0, .int .u8 0, .int .u8 0, .int .u8 0, .int .u8 0, .int .u8 0])) 5) (fun _ => by kernel_rfl) ?_
  intro g3 u3 M
  replace M : Mem ⟨w, []⟩ [⟨g1, .cells (av 5 (ls [.string ⟨#[]⟩, .string ⟨#[]⟩, .string ⟨#[]⟩, .string ⟨#[]⟩, .string ⟨#[]⟩])) 33⟩, ⟨g2, .cells (av 31 (ls [.int .u8 0, .int .u8 0, .int .u8 0, .int .u8 0, .int .u8 0, .int .u8 0, .int .u8 0, .int .u8 0, .int .u8 0, .int .u8 0, .int .u8 0, .int .u8 0, .int .u8 0, .int .u8 0, .int .u8 0, .int .u8 0, .int .u8 0, .int .u8 0, .int .u8 0, .int .u8 0, .int .u8 0, .int .u8 0, .int .u8 0, .int .u8 0, .int .u8 0, .int .u8 0, .int .u8 0, .int .u8 0, .int .u8 0, .int .u8 0, .int .u8 0])) 5⟩, ⟨g3, .cells (av 31 (ls [.int .u8 0, .int .u8 0, .int .u8 0, .int .u8 0, .int .u8 0, .int .u8 0, .int .u8 0, .int .u8 0, .int .u8 0, .int .u8 0, .int .u8 0, .int .u8 0, .int .u8 0, .int .u8 0, .int .u8 0, .int .u8 0, .int .u8 0, .int .u8 0, .int .u8 0, .int .u8 0, .int .u8 0, .int .u8 0, .int .u8 0, .int .u8 0, .int .u8 0, .int .u8 0, .int .u8 0, .int .u8 0, .int .u8 0, .int .u8 0, .int .u8 0])) 5⟩] u3 := M
  refine pl_back M (want_no rfl) (some 9) rfl _ rfl 2 g3 31 31 (by kernel_rfl) _ rfl [0, 0, 0, 0, 0, 0, 0, 0, 0, 0, 0, 0, 0, 0, 0, 0, 0, 0, 0, 0, 0, 0, 0, 0, 0, 0, 0, 0, 0, 0, 0] 31 (sb_ls [0, 0, 0, 0, 0, 0, 0, 0, 0, 0, 0, 0, 0, 0, 0, 0, 0, 0, 0, 0, 0, 0, 0, 0, 0, 0, 0, 0, 0, 0, 0] _) rfl (by decide) ?_
  refine pl_val (want_no rfl) (some 10) rfl (.string ((bs [0, 0, 0, 0, 0, 0, 0, 0, 0, 0, 0, 0, 0, 0, 0, 0, 0, 0, 0, 0, 0, 0, 0, 0, 0, 0, 0, 0, 0, 0, 0]) ++ (⟨#[98]⟩ : ByteArray))) (run_cat 9 9 _ _ rfl (bs [0, 0, 0, 0, 0, 0, 0, 0, 0, 0, 0, 0, 0, 0, 0, 0, 0, 0, 0, 0, 0, 0, 0, 0, 0, 0, 0, 0, 0, 0, 0]) ⟨#[98]⟩ (by kernel_rfl) (by kernel_rfl) (by decide +kernel)) ?_
  refine pl_val (want_no rfl) (some 4) rfl (.string ((bs [0, 0, 0, 0, 0, 0, 0, 0, 0, 0, 0, 0, 0, 0, 0, 0, 0, 0, 0, 0, 0, 0, 0, 0, 0, 0, 0, 0, 0, 0, 0]) ++ (⟨#[98]⟩ : ByteArray))) (fun _ => by kernel_rfl) ?_
  refine pl_nil ?_
  refine au_then ?_
  refine wp_seq ?_
  refine wp_seq ?_
  refine rg_lit ?_
  refine pl_val (want_no rfl) (some 11) rfl (.bool false) (fun _ => by kernel_rfl) ?_
  refine pl_nil ?_
  refine au_then ?_
  refine wp_cond_false (by kernel_rfl) ?_
  refine wp_skip ?_
  refine au_then ?_
  refine wp_seq ?_
  refine rg_lit ?_
  refine pl_val (want_no rfl) (some 15) rfl (.string ((bs [0, 0, 0, 0, 0, 0, 0, 0, 0, 0, 0, 0, 0, 0, 0, 0, 0, 0, 0, 0, 0, 0, 0, 0, 0, 0, 0, 0, 0, 0, 0]) ++ (⟨#[98]⟩ : ByteArray))) (fun _ => by kernel_rfl) ?_
  refine pl_val (want_no rfl) (some 16) rfl (.string ((bs [0, 0, 0, 0, 0, 0, 0, 0, 0, 0, 0, 0, 0, 0, 0, 0, 0, 0, 0, 0, 0, 0, 0, 0, 0, 0, 0, 0, 0, 0, 0]) ++ (⟨#[97]⟩ : ByteArray))) (fun _ => by kernel_rfl) ?_
  refine pl_val (want_no rfl) (some 17) rfl (.agg (av 5 (ls [.string ⟨#[]⟩, .string ⟨#[]⟩, .string ((bs [0, 0, 0, 0, 0, 0, 0, 0, 0, 0, 0, 0, 0, 0, 0, 0, 0, 0, 0, 0, 0, 0, 0, 0, 0, 0, 0, 0, 0, 0, 0]) ++ (⟨#[98]⟩ : ByteArray)), .string ((bs [0, 0, 0, 0, 0, 0, 0, 0, 0, 0, 0, 0, 0, 0, 0, 0, 0, 0, 0, 0, 0, 0, 0, 0, 0, 0, 0, 0, 0, 0, 0]) ++ (⟨#[97]⟩ : ByteArray)), .string ⟨#[]⟩]))) (fun _ => by kernel_rfl) ?_
  refine pl_put M (want_no rfl) rfl 33 _ _ rfl 0 g1 0 (by kernel_rfl) 5 33 (ls [.string ⟨#[]⟩, .string ⟨#[]⟩, .string ⟨#[]⟩, .string ⟨#[]⟩, .string ⟨#[]⟩]) rfl 5 (ls [.string ⟨#[]⟩, .string ⟨#[]⟩, .string ((bs [0, 0, 0, 0, 0, 0, 0, 0, 0, 0, 0, 0, 0, 0, 0, 0, 0, 0, 0, 0, 0, 0, 0, 0, 0, 0, 0, 0, 0, 0, 0]) ++ (⟨#[98]⟩ : ByteArray)), .string ((bs [0, 0, 0, 0, 0, 0, 0, 0, 0, 0, 0, 0, 0, 0, 0, 0, 0, 0, 0, 0, 0, 0, 0, 0, 0, 0, 0, 0, 0, 0, 0]) ++ (⟨#[97]⟩ : ByteArray)), .string ⟨#[]⟩]) (ls [.string ⟨#[]⟩, .string ⟨#[]⟩, .string ((bs [0, 0, 0, 0, 0, 0, 0, 0, 0, 0, 0, 0, 0, 0, 0, 0, 0, 0, 0, 0, 0, 0, 0, 0, 0, 0, 0, 0, 0, 0, 0]) ++ (⟨#[98]⟩ : ByteArray)), .string ((bs [0, 0, 0, 0, 0, 0, 0, 0, 0, 0, 0, 0, 0, 0, 0, 0, 0, 0, 0, 0, 0, 0, 0, 0, 0, 0, 0, 0, 0, 0, 0]) ++ (⟨#[97]⟩ : ByteArray)), .string ⟨#[]⟩]) (by kernel_rfl) inz33 (by decide) (one_ls _ rfl) (fun j hj => by rw [if_pos (by omega), Nat.sub_zero]) ?_
  intro u4 M
  replace M : Mem ⟨w, []⟩ [⟨g1, .cells (av 5 (ls [.string ⟨#[]⟩, .string ⟨#[]⟩, .string ((bs [0, 0, 0, 0, 0, 0, 0, 0, 0, 0, 0, 0, 0, 0, 0, 0, 0, 0, 0, 0, 0, 0, 0, 0, 0, 0, 0, 0, 0, 0, 0]) ++ (⟨#[98]⟩ : ByteArray)), .string ((bs [0, 0, 0, 0, 0, 0, 0, 0, 0, 0, 0, 0, 0, 0, 0, 0, 0, 0, 0, 0, 0, 0, 0, 0, 0, 0, 0, 0, 0, 0, 0]) ++ (⟨#[97]⟩ : ByteArray)), .string ⟨#[]⟩])) 33⟩, ⟨g2, .cells (av 31 (ls [.int .u8 0, .int .u8 0, .int .u8 0, .int .u8 0, .int .u8 0, .int .u8 0, .int .u8 0, .int .u8 0, .int .u8 0, .int .u8 0, .int .u8 0, .int .u8 0, .int .u8 0, .int .u8 0, .int .u8 0, .int .u8 0, .int .u8 0, .int .u8 0, .int .u8 0, .int .u8 0, .int .u8 0, .int .u8 0, .int .u8 0, .int .u8 0, .int .u8 0, .int .u8 0, .int .u8 0, .int .u8 0, .int .u8 0, .int .u8 0, .int .u8 0])) 5⟩, ⟨g3, .cells (av 31 (ls [.int .u8 0, .int .u8 0, .int .u8 0, .int .u8 0, .int .u8 0, .int .u8 0, .int .u8 0, .int .u8 0, .int .u8 0, .int .u8 0, .int .u8 0, .int .u8 0, .int .u8 0, .int .u8 0, .int .u8 0, .int .u8 0, .int .u8 0, .int .u8 0, .int .u8 0, .int .u8 0, .int .u8 0, .int .u8 0, .int .u8 0, .int .u8 0, .int .u8 0, .int .u8 0, .int .u8 0, .int .u8 0, .int .u8 0, .int .u8 0, .int .u8 0])) 5⟩] u4 := M
  refine pl_nil ?_
  refine au_then ?_
  refine wp_ret ?_
  have e0 : keyB = ((bs [0, 0, 0, 0, 0, 0, 0, 0, 0, 0, 0, 0, 0, 0, 0, 0, 0, 0, 0, 0, 0, 0, 0, 0, 0, 0, 0, 0, 0, 0, 0]) ++ (⟨#[98]⟩ : ByteArray)) := rfl
  have e1 : keyA = ((bs [0, 0, 0, 0, 0, 0, 0, 0, 0, 0, 0, 0, 0, 0, 0, 0, 0, 0, 0, 0, 0, 0, 0, 0, 0, 0, 0, 0, 0, 0, 0]) ++ (⟨#[97]⟩ : ByteArray)) := rfl
  exact bodyPost_ret (v := .agg (av 5 (ls [.string ⟨#[]⟩, .string ⟨#[]⟩, .string ((bs [0, 0, 0, 0, 0, 0, 0, 0, 0, 0, 0, 0, 0, 0, 0, 0, 0, 0, 0, 0, 0, 0, 0, 0, 0, 0, 0, 0, 0, 0, 0]) ++ (⟨#[98]⟩ : ByteArray)), .string ((bs [0, 0, 0, 0, 0, 0, 0, 0, 0, 0, 0, 0, 0, 0, 0, 0, 0, 0, 0, 0, 0, 0, 0, 0, 0, 0, 0, 0, 0, 0, 0]) ++ (⟨#[97]⟩ : ByteArray)), .string ⟨#[]⟩]))) (results_cell_row Tryd.results7 _ _ g1 33 (av 5 (ls [.string ⟨#[]⟩, .string ⟨#[]⟩, .string ((bs [0, 0, 0, 0, 0, 0, 0, 0, 0, 0, 0, 0, 0, 0, 0, 0, 0, 0, 0, 0, 0, 0, 0, 0, 0, 0, 0, 0, 0, 0, 0]) ++ (⟨#[98]⟩ : ByteArray)), .string ((bs [0, 0, 0, 0, 0, 0, 0, 0, 0, 0, 0, 0, 0, 0, 0, 0, 0, 0, 0, 0, 0, 0, 0, 0, 0, 0, 0, 0, 0, 0, 0]) ++ (⟨#[97]⟩ : ByteArray)), .string ⟨#[]⟩])) (0, 0) _ (by kernel_rfl) (M.get 0 rfl) Tryd.underlying33 rfl (by rw [av_size]; exact inz33)) (by kernel_rfl) ⟨by rw [e0, e1], below_grown M.old⟩

set_option maxRecDepth 100000 in
set_option maxHeartbeats 4000000 in
set_option linter.unusedSimpArgs false in
theorem c_alive  (w : World) (hL : Laid w)  :
    Calls Tryd.prog 5 #[] w fun r w' => r = .returned (.bool true) ∧ Below w.heap.size w w' := by
  go_enter Tryd.func5, Tryd.ntmps5
  have M := Mem.start hL
  refine wp_seq ?_
  refine rg_lit ?_
  refine pl_val (want_no rfl) (some 0) rfl (.bool false) (fun _ => by kernel_rfl) ?_
  refine pl_nil ?_
  refine au_then ?_
  refine wp_seq ?_
  refine rg_lit ?_
  refine pl_val (want_no rfl) (some 19) rfl (.agg (av 5 (ls [.int .u64 2, .int .u64 3, .int .u64 10, .int .u64 20, .int .i64 8]))) (fun _ => by kernel_rfl) ?_
  refine pl_new M (want_no rfl) (some 1) rfl (.cells (av 5 (ls [.int .u64 0, .int .u64 0, .int .u64 0, .int .u64 0, .int .i64 0])) 24) (fun _ => by kernel_rfl) ?_
  intro g1 u1 M
  replace M : Mem ⟨w, []⟩ [⟨g1, .cells (av 5 (ls [.int .u64 0, .int .u64 0, .int .u64 0, .int .u64 0, .int .i64 0])) 24⟩] u1 := M
  refine pl_put M (want_no rfl) rfl 24 _ _ rfl 0 g1 0 (by kernel_rfl) 5 24 (ls [.int .u64 0, .int .u64 0, .int .u64 0, .int .u64 0, .int .i64 0]) rfl 5 (ls [.int .u64 2, .int .u64 3, .int .u64 10, .int .u64 20, .int .i64 8]) (ls [.int .u64 2, .int .u64 3, .int .u64 10, .int .u64 20, .int .i64 8]) (by kernel_rfl) inz24 (by decide) (one_ls _ rfl) (fun j hj => by rw [if_pos (by omega), Nat.sub_zero]) ?_
  intro u2 M
  replace M : Mem ⟨w, []⟩ [⟨g1, .cells (av 5 (ls [.int .u64 2, .int .u64 3, .int .u64 10, .int .u64 20, .int .i64 8])) 24⟩] u2 := M
  refine pl_nil ?_
  refine au_then ?_
  refine wp_seq ?_
  refine rg_held M [⟨g1, .cells (av 5 (ls [.int .u64 2, .int .u64 3, .int .u64 10, .int .u64 20, .int .i64 8])) 24⟩] 7 rfl (by kernel_rfl) (by kernel_rfl) (fun _ _ d _ _ h => by cases d <;> exact h) ?_
  intro u3 M
  replace M : Mem ⟨w, []⟩ [⟨g1, .cells (av 5 (ls [.int .u64 2, .int .u64 3, .int .u64 10, .int .u64 20, .int .i64 8])) 24⟩] u3 := M
  refine hl_load M 1 rfl (by decide) (by kernel_rfl) (by kernel_rfl) (want_no rfl) (some 22) rfl 24 _ rfl 0 g1 0 (by kernel_rfl) 5 24 (ls [.int .u64 2, .int .u64 3, .int .u64 10, .int .u64 20, .int .i64 8]) rfl 5 (ls [.int .u64 2, .int .u64 3, .int .u64 10, .int .u64 20, .int .i64 8]) (fun j _ => by rw [Nat.zero_add]) (by decide) _ Tryd.underlying24 rfl inz24 ?_
  refine hl_one 0 (by decide) (by kernel_rfl) rfl ?_
  refine pl_call M (want_no rfl) (some 21) rfl 7 #[.bool true] (.agg (av 5 (ls [.string ⟨#[]⟩, .string ⟨#[]⟩, .string keyA, .string keyB, .string ⟨#[]⟩]))) (fun _ => by kernel_rfl) (fun w M => c_gotA w M.laid) ?_
  intro u4 M
  refine pl_nil ?_
  refine au_then ?_
  refine ⟨M, ?_⟩
  refine hl_one 2 (by decide) (by kernel_rfl) rfl ?_
  refine pl_callM M (want_no rfl) (some 23) rfl 6 #[.agg (av 5 (ls [.string ⟨#[]⟩, .string ⟨#[]⟩, .string keyA, .string keyB, .string ⟨#[]⟩])), .bool true, .int .u64 5, .agg (av 5 (ls [.int .u64 2, .int .u64 3, .int .u64 10, .int .u64 20, .int .i64 8]))] [⟨g1, .cells (av 5 (ls [.int .u64 2, .int .u64 3, .int .u64 10, .int .u64 20, .int .i64 8])) 24⟩] [] [] (by simp only [List.append_assoc, List.cons_append, List.nil_append, List.append_nil]) (fun x : Nat × List Blk => .tuple #[.pointer (some ⟨x.1, 0, none⟩), .int .i64 0]) (fun x : Nat × List Blk => x.2) (fun x : Nat × List Blk => IsT x.1 ⟨2, 3, 10, 20, 8, 0, 5, keyA, keyB, true, true, []⟩ x.2) (fun _ => by kernel_rfl) (fun w hL hT => a_New keyA_size keyB_size (by decide) (by decide) (by decide) w hL) ?_
  rintro ⟨pa, Tpa⟩ u5 Hpa M
  replace M : Mem ⟨w, []⟩ (⟨g1, .cells (av 5 (ls [.int .u64 2, .int .u64 3, .int .u64 10, .int .u64 20, .int .i64 8])) 24⟩ :: Tpa) u5 := by simpa only [List.append_assoc, List.cons_append, List.nil_append, List.append_nil] using M
  refine pl_nil ?_
  refine au_then ?_
  refine ⟨(M.drop (.cons_cons _ (List.nil_sublist _))), ?_⟩
  refine hl_val (M.drop (.cons_cons _ (List.nil_sublist _))) 3 rfl (by decide) (by kernel_rfl) (by kernel_rfl) (want_no rfl) (some 20) rfl (.tuple #[.pointer (some ⟨pa, 0, none⟩), .int .i64 0]) (fun _ _ => by kernel_rfl) ?_
  refine hl_val (M.drop (.cons_cons _ (List.nil_sublist _))) 4 rfl (by decide) (by kernel_rfl) (by kernel_rfl) (want_no rfl) (some 24) rfl (.pointer (some ⟨pa, 0, none⟩)) (fun _ _ => by kernel_rfl) ?_
  refine hl_val (M.drop (.cons_cons _ (List.nil_sublist _))) 5 rfl (by decide) (by kernel_rfl) (by kernel_rfl) (want_no rfl) (some 25) rfl (.int .i64 0) (fun _ _ => by kernel_rfl) ?_
  refine hl_val (M.drop (.cons_cons _ (List.nil_sublist _))) 6 rfl (by decide) (by kernel_rfl) (by kernel_rfl) (want_no rfl) (some 2) rfl (.pointer (some ⟨pa, 0, none⟩)) (fun _ _ => by kernel_rfl) ?_
  refine hl_end (by kernel_rfl) (by kernel_rfl) rfl ?_
  refine pl_val (want_no rfl) (some 3) rfl (.int .i64 0) (fun _ => by kernel_rfl) ?_
  refine pl_nil ?_
  refine au_then ?_
  refine au_then ?_
  refine wp_seq ?_
  refine rg_held M [⟨g1, .cells (av 5 (ls [.int .u64 2, .int .u64 3, .int .u64 10, .int .u64 20, .int .i64 8])) 24⟩] 7 rfl (by kernel_rfl) (by kernel_rfl) (fun _ _ d _ _ h => by cases d <;> exact h) ?_
  intro u6 M
  replace M : Mem ⟨w, []⟩ (⟨g1, .cells (av 5 (ls [.int .u64 2, .int .u64 3, .int .u64 10, .int .u64 20, .int .i64 8])) 24⟩ :: Tpa) u6 := M
  refine hl_load (M.drop (.cons_cons _ (List.nil_sublist _))) 1 rfl (by decide) (by kernel_rfl) (by kernel_rfl) (want_no rfl) (some 28) rfl 24 _ rfl 0 g1 0 (by kernel_rfl) 5 24 (ls [.int .u64 2, .int .u64 3, .int .u64 10, .int .u64 20, .int .i64 8]) rfl 5 (ls [.int .u64 2, .int .u64 3, .int .u64 10, .int .u64 20, .int .i64 8]) (fun j _ => by rw [Nat.zero_add]) (by decide) _ Tryd.underlying24 rfl inz24 ?_
  refine hl_one 0 (by decide) (by kernel_rfl) rfl ?_
  refine pl_call M (want_no rfl) (some 27) rfl 7 #[.bool false] (.agg (av 5 (ls [.string ⟨#[]⟩, .string ⟨#[]⟩, .string keyB, .string keyA, .string ⟨#[]⟩]))) (fun _ => by kernel_rfl) (fun w M => c_gotB w M.laid) ?_
  intro u7 M
  refine pl_nil ?_
  refine au_then ?_
  refine ⟨(M.drop (.cons_cons _ (List.nil_sublist _))), ?_⟩
  refine hl_one 2 (by decide) (by kernel_rfl) rfl ?_
  refine pl_callM M (want_no rfl) (some 29) rfl 6 #[.agg (av 5 (ls [.string ⟨#[]⟩, .string ⟨#[]⟩, .string keyB, .string keyA, .string ⟨#[]⟩])), .bool false, .int .u64 5, .agg (av 5 (ls [.int .u64 2, .int .u64 3, .int .u64 10, .int .u64 20, .int .i64 8]))] [⟨g1, .cells (av 5 (ls [.int .u64 2, .int .u64 3, .int .u64 10, .int .u64 20, .int .i64 8])) 24⟩] [] (Tpa) (by simp only [List.append_assoc, List.cons_append, List.nil_append, List.append_nil]) (fun x : Nat × List Blk => .tuple #[.pointer (some ⟨x.1, 0, none⟩), .int .i64 0]) (fun x : Nat × List Blk => x.2) (fun x : Nat × List Blk => IsT x.1 ⟨2, 3, 10, 20, 8, 0, 5, keyB, keyA, false, false, []⟩ x.2) (fun _ => by kernel_rfl) (fun w hL hT => a_New keyB_size keyA_size (by decide) (by decide) (by decide) w hL) ?_
  rintro ⟨pb, Tpb⟩ u8 Hpb M
  replace M : Mem ⟨w, []⟩ (⟨g1, .cells (av 5 (ls [.int .u64 2, .int .u64 3, .int .u64 10, .int .u64 20, .int .i64 8])) 24⟩ :: (Tpb ++ Tpa)) u8 := by simpa only [List.append_assoc, List.cons_append, List.nil_append, List.append_nil] using M
  refine pl_nil ?_
  refine au_then ?_
  refine ⟨(M.drop (.cons_cons _ (List.nil_sublist _))), ?_⟩
  refine hl_val (M.drop (.cons_cons _ (List.nil_sublist _))) 3 rfl (by decide) (by kernel_rfl) (by kernel_rfl) (want_no rfl) (some 26) rfl (.tuple #[.pointer (some ⟨pb, 0, none⟩), .int .i64 0]) (fun _ _ => by kernel_rfl) ?_
  refine hl_val (M.drop (.cons_cons _ (List.nil_sublist _))) 4 rfl (by decide) (by kernel_rfl) (by kernel_rfl) (want_no rfl) (some 30) rfl (.pointer (some ⟨pb, 0, none⟩)) (fun _ _ => by kernel_rfl) ?_
  refine hl_val (M.drop (.cons_cons _ (List.nil_sublist _))) 5 rfl (by decide) (by kernel_rfl) (by kernel_rfl) (want_no rfl) (some 31) rfl (.int .i64 0) (fun _ _ => by kernel_rfl) ?_
  refine hl_val (M.drop (.cons_cons _ (List.nil_sublist _))) 6 rfl (by decide) (by kernel_rfl) (by kernel_rfl) (want_no rfl) (some 4) rfl (.pointer (some ⟨pb, 0, none⟩)) (fun _ _ => by kernel_rfl) ?_
  refine hl_end (by kernel_rfl) (by kernel_rfl) rfl ?_
  refine pl_val (want_no rfl) (some 5) rfl (.int .i64 0) (fun _ => by kernel_rfl) ?_
  refine pl_nil ?_
  refine au_then ?_
  refine au_then ?_
  refine wp_seq ?_
  refine wp_seq ?_
  refine rg_lit ?_
  refine pl_val (want_no rfl) (some 32) rfl (.int .i64 0) (fun _ => by kernel_rfl) ?_
  refine pl_val (want_no rfl) (some 33) rfl (.bool false) (fun _ => by kernel_rfl) ?_
  refine pl_val (want_no rfl) (some 34) rfl (.bool false) (fun _ => by kernel_rfl) ?_
  refine pl_val (want_on 2 false rfl 34 rfl (by kernel_rfl)) (some 35) rfl (.int .i64 0) (fun _ => by kernel_rfl) ?_
  refine pl_val (want_on 2 false rfl 34 rfl (by kernel_rfl)) (some 36) rfl (.bool false) (fun _ => by kernel_rfl) ?_
  refine pl_val (want_no rfl) (some 37) rfl (.bool false) (fun _ => by kernel_rfl) ?_
  refine pl_val (want_no rfl) (some 38) rfl (.bool false) (fun _ => by kernel_rfl) ?_
  refine pl_val (want_on 6 false rfl 38 rfl (by kernel_rfl)) (some 39) rfl (.pointer (some ⟨pa, 0, none⟩)) (fun _ => by kernel_rfl) ?_
  refine pl_val (want_on 6 false rfl 38 rfl (by kernel_rfl)) (some 40) rfl (.bool false) (fun _ => by kernel_rfl) ?_
  refine pl_val (want_no rfl) (some 41) rfl (.bool false) (fun _ => by kernel_rfl) ?_
  refine pl_val (want_no rfl) (some 42) rfl (.bool false) (fun _ => by kernel_rfl) ?_
  refine pl_val (want_on 10 false rfl 42 rfl (by kernel_rfl)) (some 43) rfl (.pointer (some ⟨pb, 0, none⟩)) (fun _ => by kernel_rfl) ?_
  refine pl_val (want_on 10 false rfl 42 rfl (by kernel_rfl)) (some 44) rfl (.bool false) (fun _ => by kernel_rfl) ?_
  refine pl_val (want_no rfl) (some 45) rfl (.bool false) (fun _ => by kernel_rfl) ?_
  refine pl_nil ?_
  refine au_then ?_
  refine wp_cond_false (by kernel_rfl) ?_
  refine wp_skip ?_
  refine au_then ?_
  refine wp_seq ?_
  refine rg_lit ?_
  refine pl_val (want_no rfl) (some 47) rfl (.pointer (some ⟨pb, 0, none⟩)) (fun _ => by kernel_rfl) ?_
  refine pl_callM M (want_no rfl) (some 48) rfl 8 #[.pointer (some ⟨pb, 0, none⟩), .int .u64 5, .string ⟨#[120]⟩] [⟨g1, .cells (av 5 (ls [.int .u64 2, .int .u64 3, .int .u64 10, .int .u64 20, .int .i64 8])) 24⟩] (Tpb) (Tpa) (by simp only [List.append_assoc, List.cons_append, List.nil_append, List.append_nil]) (fun T0 => .tuple #[.int .u64 0, .string ⟨#[]⟩, .int .i64 3]) (fun T0 => T0) (fun T0 => IsT pb ⟨2, 3, 10, 20, 8, 0, 5, keyB, keyA, false, false, []⟩ T0) (fun _ => by kernel_rfl) (fun w hL hT => s_no Hpb ⟨by decide, by decide, by decide, by decide⟩ (by decide) keyB_size (by decide) (by decide) rfl w hL hT) ?_
  rintro Y1 u9 J1 M
  replace M : Mem ⟨w, []⟩ (⟨g1, .cells (av 5 (ls [.int .u64 2, .int .u64 3, .int .u64 10, .int .u64 20, .int .i64 8])) 24⟩ :: (Y1 ++ Tpa)) u9 := by simpa only [List.append_assoc, List.cons_append, List.nil_append, List.append_nil] using M
  refine pl_val (want_no rfl) (some 46) rfl (.tuple #[.int .u64 0, .string ⟨#[]⟩, .int .i64 3]) (fun _ => by kernel_rfl) ?_
  refine pl_val (want_no rfl) (some 49) rfl (.int .u64 0) (fun _ => by kernel_rfl) ?_
  refine pl_val (want_no rfl) (some 50) rfl (.string ⟨#[]⟩) (fun _ => by kernel_rfl) ?_
  refine pl_val (want_no rfl) (some 51) rfl (.int .i64 3) (fun _ => by kernel_rfl) ?_
  refine pl_val (want_no rfl) (some 6) rfl (.int .u64 0) (fun _ => by kernel_rfl) ?_
  refine pl_val (want_no rfl) (some 7) rfl (.string ⟨#[]⟩) (fun _ => by kernel_rfl) ?_
  refine pl_val (want_no rfl) (some 8) rfl (.int .i64 3) (fun _ => by kernel_rfl) ?_
  refine pl_nil ?_
  refine au_then ?_
  refine wp_seq ?_
  refine rg_lit ?_
  refine pl_val (want_no rfl) (some 52) rfl (.pointer (some ⟨pa, 0, none⟩)) (fun _ => by kernel_rfl) ?_
  refine pl_callM M (want_no rfl) (some 53) rfl 8 #[.pointer (some ⟨pa, 0, none⟩), .int .u64 5, .string ⟨#[111, 110, 101]⟩] (⟨g1, .cells (av 5 (ls [.int .u64 2, .int .u64 3, .int .u64 10, .int .u64 20, .int .i64 8])) 24⟩ :: Y1) (Tpa) [] (by simp only [List.append_assoc, List.cons_append, List.nil_append, List.append_nil]) (fun T0 => .tuple #[.int .u64 0, .string (sealS keyA (nS 0) ⟨#[]⟩ ⟨#[111, 110, 101]⟩), .int .i64 0]) (fun T0 => T0) (fun T0 => IsT pa ⟨2, 3, 10, 20, 8, 1, 5, keyA, keyB, true, true, []⟩ T0) (fun _ => by kernel_rfl) (fun w hL hT => s_ok Hpa ⟨by decide, by decide, by decide, by decide⟩ (by decide) keyA_size (by decide) (by decide) rfl (by decide) w hL hT) ?_
  rintro Y2 u10 J2 M
  replace M : Mem ⟨w, []⟩ (⟨g1, .cells (av 5 (ls [.int .u64 2, .int .u64 3, .int .u64 10, .int .u64 20, .int .i64 8])) 24⟩ :: (Y1 ++ Y2)) u10 := by simpa only [List.append_assoc, List.cons_append, List.nil_append, List.append_nil] using M
  refine pl_nil ?_
  refine au_then ?_
  refine wp_seq ?_
  refine rg_lit ?_
  refine pl_val (want_no rfl) (some 55) rfl (.pointer (some ⟨pa, 0, none⟩)) (fun _ => by kernel_rfl) ?_
  refine pl_callM M (want_no rfl) (some 56) rfl 8 #[.pointer (some ⟨pa, 0, none⟩), .int .u64 5, .string ⟨#[116, 119, 111]⟩] (⟨g1, .cells (av 5 (ls [.int .u64 2, .int .u64 3, .int .u64 10, .int .u64 20, .int .i64 8])) 24⟩ :: Y1) (Y2) [] (by simp only [List.append_assoc, List.cons_append, List.nil_append, List.append_nil]) (fun T0 => .tuple #[.int .u64 1, .string (sealS keyA (nS 1) ⟨#[]⟩ ⟨#[116, 119, 111]⟩), .int .i64 0]) (fun T0 => T0) (fun T0 => IsT pa ⟨2, 3, 10, 20, 8, 2, 5, keyA, keyB, true, true, []⟩ T0) (fun _ => by kernel_rfl) (fun w hL hT => s_ok J2 ⟨by decide, by decide, by decide, by decide⟩ (by decide) keyA_size (by decide) (by decide) rfl (by decide) w hL hT) ?_
  rintro Y3 u11 J3 M
  replace M : Mem ⟨w, []⟩ (⟨g1, .cells (av 5 (ls [.int .u64 2, .int .u64 3, .int .u64 10, .int .u64 20, .int .i64 8])) 24⟩ :: (Y1 ++ Y3)) u11 := by simpa only [List.append_assoc, List.cons_append, List.nil_append, List.append_nil] using M
  refine pl_val (want_no rfl) (some 54) rfl (.tuple #[.int .u64 1, .string (sealS keyA (nS 1) ⟨#[]⟩ ⟨#[116, 119, 111]⟩), .int .i64 0]) (fun _ => by kernel_rfl) ?_
  refine pl_val (want_no rfl) (some 57) rfl (.int .u64 1) (fun _ => by kernel_rfl) ?_
  refine pl_val (want_no rfl) (some 58) rfl (.string (sealS keyA (nS 1) ⟨#[]⟩ ⟨#[116, 119, 111]⟩)) (fun _ => by kernel_rfl) ?_
  refine pl_val (want_no rfl) (some 59) rfl (.int .i64 0) (fun _ => by kernel_rfl) ?_
  refine pl_val (want_no rfl) (some 9) rfl (.int .u64 1) (fun _ => by kernel_rfl) ?_
  refine pl_val (want_no rfl) (some 10) rfl (.string (sealS keyA (nS 1) ⟨#[]⟩ ⟨#[116, 119, 111]⟩)) (fun _ => by kernel_rfl) ?_
  refine pl_val (want_no rfl) (some 11) rfl (.int .i64 0) (fun _ => by kernel_rfl) ?_
  refine pl_nil ?_
  refine au_then ?_
  refine wp_seq ?_
  refine rg_lit ?_
  refine pl_val (want_no rfl) (some 61) rfl (.pointer (some ⟨pb, 0, none⟩)) (fun _ => by kernel_rfl) ?_
  refine pl_val (want_no rfl) (some 62) rfl (.int .u64 1) (fun _ => by kernel_rfl) ?_
  refine pl_val (want_no rfl) (some 63) rfl (.string (sealS keyA (nS 1) ⟨#[]⟩ ⟨#[116, 119, 111]⟩)) (fun _ => by kernel_rfl) ?_
  refine pl_callM M (want_no rfl) (some 64) rfl 9 #[.pointer (some ⟨pb, 0, none⟩), .int .u64 5, .int .u64 1, .string (sealS keyA (nS 1) ⟨#[]⟩ ⟨#[116, 119, 111]⟩)] [⟨g1, .cells (av 5 (ls [.int .u64 2, .int .u64 3, .int .u64 10, .int .u64 20, .int .i64 8])) 24⟩] (Y1) (Y3) (by simp only [List.append_assoc, List.cons_append, List.nil_append, List.append_nil]) (fun T0 => .tuple #[.string ⟨#[116, 119, 111]⟩, .int .i64 0]) (fun T0 => T0) (fun T0 => IsT pb ⟨2, 3, 10, 20, 8, 0, 5, keyB, keyA, false, true, [1]⟩ T0) (fun _ => by kernel_rfl) (fun w hL hT => o_ok (s := ⟨#[116, 119, 111]⟩) J1 ⟨by decide, by decide, by decide, by decide⟩ (by decide) (by decide) keyB_size keyA_size (by decide) (by decide) (by decide) (by decide) w hL hT) ?_
  rintro Y4 u12 J4 M
  replace M : Mem ⟨w, []⟩ (⟨g1, .cells (av 5 (ls [.int .u64 2, .int .u64 3, .int .u64 10, .int .u64 20, .int .i64 8])) 24⟩ :: (Y4 ++ Y3)) u12 := by simpa only [List.append_assoc, List.cons_append, List.nil_append, List.append_nil] using M
  refine pl_val (want_no rfl) (some 60) rfl (.tuple #[.string ⟨#[116, 119, 111]⟩, .int .i64 0]) (fun _ => by kernel_rfl) ?_
  refine pl_val (want_no rfl) (some 65) rfl (.string ⟨#[116, 119, 111]⟩) (fun _ => by kernel_rfl) ?_
  refine pl_val (want_no rfl) (some 66) rfl (.int .i64 0) (fun _ => by kernel_rfl) ?_
  refine pl_val (want_no rfl) (some 12) rfl (.string ⟨#[116, 119, 111]⟩) (fun _ => by kernel_rfl) ?_
  refine pl_val (want_no rfl) (some 13) rfl (.int .i64 0) (fun _ => by kernel_rfl) ?_
  refine pl_nil ?_
  refine au_then ?_
  refine wp_seq ?_
  refine rg_lit ?_
  refine pl_val (want_no rfl) (some 68) rfl (.pointer (some ⟨pb, 0, none⟩)) (fun _ => by kernel_rfl) ?_
  refine pl_val (want_no rfl) (some 69) rfl (.int .u64 1) (fun _ => by kernel_rfl) ?_
  refine pl_val (want_no rfl) (some 70) rfl (.string (sealS keyA (nS 1) ⟨#[]⟩ ⟨#[116, 119, 111]⟩)) (fun _ => by kernel_rfl) ?_
  refine pl_callM M (want_no rfl) (some 71) rfl 9 #[.pointer (some ⟨pb, 0, none⟩), .int .u64 5, .int .u64 1, .string (sealS keyA (nS 1) ⟨#[]⟩ ⟨#[116, 119, 111]⟩)] [⟨g1, .cells (av 5 (ls [.int .u64 2, .int .u64 3, .int .u64 10, .int .u64 20, .int .i64 8])) 24⟩] (Y4) (Y3) (by simp only [List.append_assoc, List.cons_append, List.nil_append, List.append_nil]) (fun T0 => .tuple #[.string ⟨#[]⟩, .int .i64 9]) (fun T0 => T0) (fun T0 => IsT pb ⟨2, 3, 10, 20, 8, 0, 5, keyB, keyA, false, true, [1]⟩ T0) (fun _ => by kernel_rfl) (fun w hL hT => o_no J4 ⟨by decide, by decide, by decide, by decide⟩ (by decide) (by decide) keyB_size (by decide) (by decide) (by decide) w hL hT) ?_
  rintro Y5 u13 J5 M
  replace M : Mem ⟨w, []⟩ (⟨g1, .cells (av 5 (ls [.int .u64 2, .int .u64 3, .int .u64 10, .int .u64 20, .int .i64 8])) 24⟩ :: (Y5 ++ Y3)) u13 := by simpa only [List.append_assoc, List.cons_append, List.nil_append, List.append_nil] using M
  refine pl_val (want_no rfl) (some 67) rfl (.tuple #[.string ⟨#[]⟩, .int .i64 9]) (fun _ => by kernel_rfl) ?_
  refine pl_val (want_no rfl) (some 72) rfl (.string ⟨#[]⟩) (fun _ => by kernel_rfl) ?_
  refine pl_val (want_no rfl) (some 73) rfl (.int .i64 9) (fun _ => by kernel_rfl) ?_
  refine pl_val (want_no rfl) (some 14) rfl (.string ⟨#[]⟩) (fun _ => by kernel_rfl) ?_
  refine pl_val (want_no rfl) (some 15) rfl (.int .i64 9) (fun _ => by kernel_rfl) ?_
  refine pl_nil ?_
  refine au_then ?_
  refine wp_seq ?_
  refine rg_lit ?_
  refine pl_val (want_no rfl) (some 75) rfl (.pointer (some ⟨pb, 0, none⟩)) (fun _ => by kernel_rfl) ?_
  refine pl_callM M (want_no rfl) (some 76) rfl 8 #[.pointer (some ⟨pb, 0, none⟩), .int .u64 5, .string ⟨#[120]⟩] [⟨g1, .cells (av 5 (ls [.int .u64 2, .int .u64 3, .int .u64 10, .int .u64 20, .int .i64 8])) 24⟩] (Y5) (Y3) (by simp only [List.append_assoc, List.cons_append, List.nil_append, List.append_nil]) (fun T0 => .tuple #[.int .u64 0, .string (sealS keyB (nS 0) ⟨#[]⟩ ⟨#[120]⟩), .int .i64 0]) (fun T0 => T0) (fun T0 => IsT pb ⟨2, 3, 10, 20, 8, 1, 5, keyB, keyA, false, true, [1]⟩ T0) (fun _ => by kernel_rfl) (fun w hL hT => s_ok J5 ⟨by decide, by decide, by decide, by decide⟩ (by decide) keyB_size (by decide) (by decide) rfl (by decide) w hL hT) ?_
  rintro Y6 u14 J6 M
  replace M : Mem ⟨w, []⟩ (⟨g1, .cells (av 5 (ls [.int .u64 2, .int .u64 3, .int .u64 10, .int .u64 20, .int .i64 8])) 24⟩ :: (Y6 ++ Y3)) u14 := by simpa only [List.append_assoc, List.cons_append, List.nil_append, List.append_nil] using M
  refine pl_val (want_no rfl) (some 74) rfl (.tuple #[.int .u64 0, .string (sealS keyB (nS 0) ⟨#[]⟩ ⟨#[120]⟩), .int .i64 0]) (fun _ => by kernel_rfl) ?_
  refine pl_val (want_no rfl) (some 77) rfl (.int .u64 0) (fun _ => by kernel_rfl) ?_
  refine pl_val (want_no rfl) (some 78) rfl (.string (sealS keyB (nS 0) ⟨#[]⟩ ⟨#[120]⟩)) (fun _ => by kernel_rfl) ?_
  refine pl_val (want_no rfl) (some 79) rfl (.int .i64 0) (fun _ => by kernel_rfl) ?_
  refine pl_val (want_no rfl) (some 16) rfl (.int .u64 0) (fun _ => by kernel_rfl) ?_
  refine pl_val (want_no rfl) (some 17) rfl (.string (sealS keyB (nS 0) ⟨#[]⟩ ⟨#[120]⟩)) (fun _ => by kernel_rfl) ?_
  refine pl_val (want_no rfl) (some 18) rfl (.int .i64 0) (fun _ => by kernel_rfl) ?_
  refine pl_nil ?_
  refine au_then ?_
  refine wp_seq ?_
  refine rg_lit ?_
  refine pl_val (want_no rfl) (some 80) rfl (.int .i64 3) (fun _ => by kernel_rfl) ?_
  refine pl_val (want_no rfl) (some 81) rfl (.bool true) (fun _ => by kernel_rfl) ?_
  refine pl_val (want_no rfl) (some 82) rfl (.bool true) (fun _ => by kernel_rfl) ?_
  refine pl_val (want_on 2 true rfl 82 rfl (by kernel_rfl)) (some 83) rfl (.int .u64 1) (fun _ => by kernel_rfl) ?_
  refine pl_val (want_on 2 true rfl 82 rfl (by kernel_rfl)) (some 84) rfl (.bool true) (fun _ => by kernel_rfl) ?_
  refine pl_val (want_no rfl) (some 85) rfl (.bool true) (fun _ => by kernel_rfl) ?_
  refine pl_val (want_no rfl) (some 86) rfl (.bool true) (fun _ => by kernel_rfl) ?_
  refine pl_val (want_on 6 true rfl 86 rfl (by kernel_rfl)) (some 87) rfl (.int .i64 0) (fun _ => by kernel_rfl) ?_
  refine pl_val (want_on 6 true rfl 86 rfl (by kernel_rfl)) (some 88) rfl (.bool true) (fun _ => by kernel_rfl) ?_
  refine pl_val (want_no rfl) (some 89) rfl (.bool true) (fun _ => by kernel_rfl) ?_
  refine pl_val (want_no rfl) (some 90) rfl (.bool true) (fun _ => by kernel_rfl) ?_
  refine pl_val (want_on 10 true rfl 90 rfl (by kernel_rfl)) (some 91) rfl (.string ⟨#[116, 119, 111]⟩) (fun _ => by kernel_rfl) ?_
  refine pl_val (want_on 10 true rfl 90 rfl (by kernel_rfl)) (some 92) rfl (.bool true) (fun _ => by kernel_rfl) ?_
  refine pl_val (want_no rfl) (some 93) rfl (.bool true) (fun _ => by kernel_rfl) ?_
  refine pl_val (want_no rfl) (some 94) rfl (.bool true) (fun _ => by kernel_rfl) ?_
  refine pl_val (want_on 14 true rfl 94 rfl (by kernel_rfl)) (some 95) rfl (.int .i64 0) (fun _ => by kernel_rfl) ?_
  refine pl_val (want_on 14 true rfl 94 rfl (by kernel_rfl)) (some 96) rfl (.bool true) (fun _ => by kernel_rfl) ?_
  refine pl_val (want_no rfl) (some 97) rfl (.bool true) (fun _ => by kernel_rfl) ?_
  refine pl_val (want_no rfl) (some 98) rfl (.bool true) (fun _ => by kernel_rfl) ?_
  refine pl_val (want_on 18 true rfl 98 rfl (by kernel_rfl)) (some 99) rfl (.int .i64 9) (fun _ => by kernel_rfl) ?_
  refine pl_val (want_on 18 true rfl 98 rfl (by kernel_rfl)) (some 100) rfl (.bool true) (fun _ => by kernel_rfl) ?_
  refine pl_val (want_no rfl) (some 101) rfl (.bool true) (fun _ => by kernel_rfl) ?_
  refine pl_val (want_no rfl) (some 102) rfl (.bool true) (fun _ => by kernel_rfl) ?_
  refine pl_val (want_on 22 true rfl 102 rfl (by kernel_rfl)) (some 103) rfl (.int .i64 0) (fun _ => by kernel_rfl) ?_
  refine pl_val (want_on 22 true rfl 102 rfl (by kernel_rfl)) (some 104) rfl (.bool true) (fun _ => by kernel_rfl) ?_
  refine pl_val (want_no rfl) (some 105) rfl (.bool true) (fun _ => by kernel_rfl) ?_
  refine pl_val (want_no rfl) (some 106) rfl (.bool true) (fun _ => by kernel_rfl) ?_
  refine pl_val (want_on 26 true rfl 106 rfl (by kernel_rfl)) (some 107) rfl (.pointer (some ⟨pa, 0, none⟩)) (fun _ => by kernel_rfl) ?_
  refine pl_call M (want_on 26 true rfl 106 rfl (by kernel_rfl)) (some 108) rfl 14 #[.pointer (some ⟨pa, 0, none⟩), .int .u64 5] (.bool true) (fun _ => by kernel_rfl) (fun w M => call_val (a_Wants J3 (by decide) w M.laid (M.thereM (pre := (⟨g1, .cells (av 5 (ls [.int .u64 2, .int .u64 3, .int .u64 10, .int .u64 20, .int .i64 8])) 24⟩ :: Y6)) (T := Y3) (suf := []) (by simp only [List.append_assoc, List.cons_append, List.nil_append, List.append_nil]))) (congrArg Value.bool (by unfold TS.wn wnB; rw [show ovB keyA 20 5 5 = false from ov_no (x := ⟨2, 3, 10, 20, 8, 2, 5, keyA, keyB, true, true, []⟩) keyA_size (by decide)]; rfl))) ?_
  intro u15 M
  refine pl_val (want_no rfl) (some 109) rfl (.bool true) (fun _ => by kernel_rfl) ?_
  refine pl_val (want_no rfl) (some 110) rfl (.bool true) (fun _ => by kernel_rfl) ?_
  refine pl_val (want_on 30 true rfl 110 rfl (by kernel_rfl)) (some 111) rfl (.pointer (some ⟨pb, 0, none⟩)) (fun _ => by kernel_rfl) ?_
  refine pl_call M (want_on 30 true rfl 110 rfl (by kernel_rfl)) (some 112) rfl 14 #[.pointer (some ⟨pb, 0, none⟩), .int .u64 5] (.bool false) (fun _ => by kernel_rfl) (fun w M => call_val (a_Wants J6 (by decide) w M.laid (M.thereM (pre := [⟨g1, .cells (av 5 (ls [.int .u64 2, .int .u64 3, .int .u64 10, .int .u64 20, .int .i64 8])) 24⟩]) (T := Y6) (suf := Y3) (by simp only [List.append_assoc, List.cons_append, List.nil_append, List.append_nil]))) (rfl)) ?_
  intro u16 M
  refine pl_val (want_on 30 true rfl 110 rfl (by kernel_rfl)) (some 113) rfl (.bool true) (fun _ => by kernel_rfl) ?_
  refine pl_val (want_no rfl) (some 114) rfl (.bool true) (fun _ => by kernel_rfl) ?_
  refine pl_val (want_no rfl) (some 115) rfl (.bool true) (fun _ => by kernel_rfl) ?_
  refine pl_val (want_on 35 true rfl 115 rfl (by kernel_rfl)) (some 116) rfl (.pointer (some ⟨pa, 0, none⟩)) (fun _ => by kernel_rfl) ?_
  refine pl_call M (want_on 35 true rfl 115 rfl (by kernel_rfl)) (some 117) rfl 13 #[.pointer (some ⟨pa, 0, none⟩), .int .u64 24] (.bool false) (fun _ => by kernel_rfl) (fun w M => call_val (a_Over J3 (by decide) w M.laid (M.thereM (pre := (⟨g1, .cells (av 5 (ls [.int .u64 2, .int .u64 3, .int .u64 10, .int .u64 20, .int .i64 8])) 24⟩ :: Y6)) (T := Y3) (suf := []) (by simp only [List.append_assoc, List.cons_append, List.nil_append, List.append_nil]))) (congrArg Value.bool (ov_no keyA_size (by decide)))) ?_
  intro u17 M
  refine pl_val (want_on 35 true rfl 115 rfl (by kernel_rfl)) (some 118) rfl (.bool true) (fun _ => by kernel_rfl) ?_
  refine pl_val (want_no rfl) (some 119) rfl (.bool true) (fun _ => by kernel_rfl) ?_
  refine pl_val (want_no rfl) (some 120) rfl (.bool true) (fun _ => by kernel_rfl) ?_
  refine pl_val (want_on 40 true rfl 120 rfl (by kernel_rfl)) (some 121) rfl (.pointer (some ⟨pa, 0, none⟩)) (fun _ => by kernel_rfl) ?_
  refine pl_call M (want_on 40 true rfl 120 rfl (by kernel_rfl)) (some 122) rfl 13 #[.pointer (some ⟨pa, 0, none⟩), .int .u64 25] (.bool true) (fun _ => by kernel_rfl) (fun w M => call_val (a_Over J3 (by decide) w M.laid (M.thereM (pre := (⟨g1, .cells (av 5 (ls [.int .u64 2, .int .u64 3, .int .u64 10, .int .u64 20, .int .i64 8])) 24⟩ :: Y6)) (T := Y3) (suf := []) (by simp only [List.append_assoc, List.cons_append, List.nil_append, List.append_nil]))) (congrArg Value.bool (ov_yes (by decide)))) ?_
  intro u18 M
  refine pl_val (want_no rfl) (some 123) rfl (.bool true) (fun _ => by kernel_rfl) ?_
  refine pl_val (want_no rfl) (some 124) rfl (.bool true) (fun _ => by kernel_rfl) ?_
  refine pl_val (want_on 44 true rfl 124 rfl (by kernel_rfl)) (some 125) rfl (.pointer (some ⟨pa, 0, none⟩)) (fun _ => by kernel_rfl) ?_
  refine pl_call M (want_on 44 true rfl 124 rfl (by kernel_rfl)) (some 126) rfl 16 #[.pointer (some ⟨pa, 0, none⟩)] (.int .u64 2) (fun _ => by kernel_rfl) (fun w M => call_val (a_Sent J3  w M.laid (M.thereM (pre := (⟨g1, .cells (av 5 (ls [.int .u64 2, .int .u64 3, .int .u64 10, .int .u64 20, .int .i64 8])) 24⟩ :: Y6)) (T := Y3) (suf := []) (by simp only [List.append_assoc, List.cons_append, List.nil_append, List.append_nil]))) (rfl)) ?_
  intro u19 M
  refine pl_val (want_on 44 true rfl 124 rfl (by kernel_rfl)) (some 127) rfl (.bool true) (fun _ => by kernel_rfl) ?_
  refine pl_val (want_no rfl) (some 128) rfl (.bool true) (fun _ => by kernel_rfl) ?_
  refine pl_val (want_no rfl) (some 129) rfl (.bool true) (fun _ => by kernel_rfl) ?_
  refine pl_val (want_on 49 true rfl 129 rfl (by kernel_rfl)) (some 130) rfl (.pointer (some ⟨pa, 0, none⟩)) (fun _ => by kernel_rfl) ?_
  refine pl_call M (want_on 49 true rfl 129 rfl (by kernel_rfl)) (some 131) rfl 15 #[.pointer (some ⟨pa, 0, none⟩)] (.bool true) (fun _ => by kernel_rfl) (fun w M => call_val (a_Sure J3  w M.laid (M.thereM (pre := (⟨g1, .cells (av 5 (ls [.int .u64 2, .int .u64 3, .int .u64 10, .int .u64 20, .int .i64 8])) 24⟩ :: Y6)) (T := Y3) (suf := []) (by simp only [List.append_assoc, List.cons_append, List.nil_append, List.append_nil]))) (rfl)) ?_
  intro u20 M
  refine pl_val (want_no rfl) (some 132) rfl (.bool true) (fun _ => by kernel_rfl) ?_
  refine pl_val (want_no rfl) (some 133) rfl (.bool true) (fun _ => by kernel_rfl) ?_
  refine pl_val (want_on 53 true rfl 133 rfl (by kernel_rfl)) (some 134) rfl (.pointer (some ⟨pb, 0, none⟩)) (fun _ => by kernel_rfl) ?_
  refine pl_call M (want_on 53 true rfl 133 rfl (by kernel_rfl)) (some 135) rfl 15 #[.pointer (some ⟨pb, 0, none⟩)] (.bool true) (fun _ => by kernel_rfl) (fun w M => call_val (a_Sure J6  w M.laid (M.thereM (pre := [⟨g1, .cells (av 5 (ls [.int .u64 2, .int .u64 3, .int .u64 10, .int .u64 20, .int .i64 8])) 24⟩]) (T := Y6) (suf := Y3) (by simp only [List.append_assoc, List.cons_append, List.nil_append, List.append_nil]))) (rfl)) ?_
  intro u21 M
  refine pl_val (want_no rfl) (some 136) rfl (.bool true) (fun _ => by kernel_rfl) ?_
  refine pl_val (want_no rfl) (some 0) rfl (.bool true) (fun _ => by kernel_rfl) ?_
  refine pl_nil ?_
  refine au_then ?_
  refine wp_ret ?_
  exact bodyPost_ret (v := .bool true) (results_tmp1 Tryd.results5 _ _ _ (by kernel_rfl)) (by kernel_rfl) ⟨rfl, below_grown M.old⟩

set_option maxRecDepth 100000 in
set_option maxHeartbeats 4000000 in
set_option linter.unusedSimpArgs false in
theorem c_nil (n : Nat) (s : ByteArray) (w : World) (hL : Laid w)  :
    Calls Tryd.prog 4 #[.int .u64 (n : Int), .string s] w fun r w' => r = .returned (.bool true) ∧ Below w.heap.size w w' := by
  go_enter Tryd.func4, Tryd.ntmps4
  have M := Mem.start hL
  refine wp_seq ?_
  refine rg_lit ?_
  refine pl_val (want_no rfl) (some 4) rfl (.bool false) (fun _ => by kernel_rfl) ?_
  refine pl_nil ?_
  refine au_then ?_
  refine wp_seq ?_
  refine wp_seq ?_
  refine rg_lit ?_
  refine pl_val (want_no rfl) (some 17) rfl (.string s) (fun _ => by kernel_rfl) ?_
  refine pl_val (want_no rfl) (some 18) rfl (.int .i64 (s.size : Int)) (fun _ => by kernel_rfl) ?_
  by_cases c0 : 4096 < (s.size : Int)
  · skip
    refine pl_val (want_no rfl) (some 19) rfl (.bool true) (fun w => Eq.trans (b := .ok (.value (.bool (decide (4096 < (s.size : Int))))) w) (by kernel_rfl) (by rw [decide_eq_true (c0)])) ?_
    refine pl_nil ?_
    refine au_then ?_
    refine wp_cond_true (by kernel_rfl) ?_
    refine wp_seq ?_
    refine rg_lit ?_
    refine pl_call M (want_no rfl) (some 20) rfl 5 #[] (.bool true) (fun _ => by kernel_rfl) (fun w M => c_alive w M.laid) ?_
    intro u1 M
    refine pl_val (want_no rfl) (some 4) rfl (.bool true) (fun _ => by kernel_rfl) ?_
    refine pl_nil ?_
    refine au_then ?_
    refine wp_ret ?_
    refine au_then_ret ?_
    exact bodyPost_ret (v := .bool true) (results_tmp1 Tryd.results4 _ _ _ (by kernel_rfl)) (by kernel_rfl) ⟨rfl, below_grown M.old⟩
  · skip
    refine pl_val (want_no rfl) (some 19) rfl (.bool false) (fun w => Eq.trans (b := .ok (.value (.bool (decide (4096 < (s.size : Int))))) w) (by kernel_rfl) (by rw [decide_eq_false (c0)])) ?_
    refine pl_nil ?_
    refine au_then ?_
    refine wp_cond_false (by kernel_rfl) ?_
    refine wp_skip ?_
    refine au_then ?_
    refine wp_seq ?_
    refine rg_lit ?_
    refine pl_val (want_no rfl) (some 5) rfl (.pointer none) (fun _ => by kernel_rfl) ?_
    refine pl_nil ?_
    refine au_then ?_
    refine wp_seq ?_
    refine rg_lit ?_
    refine pl_val (want_no rfl) (some 6) rfl (.pointer none) (fun _ => by kernel_rfl) ?_
    refine pl_nil ?_
    refine au_then ?_
    refine wp_seq ?_
    refine rg_lit ?_
    refine pl_val (want_no rfl) (some 21) rfl (.pointer none) (fun _ => by kernel_rfl) ?_
    refine pl_call M (want_no rfl) (some 22) rfl 10 #[.pointer none] (.tuple #[]) (fun _ => by kernel_rfl) (fun w M => n_Wipe w M.laid) ?_
    intro u1 M
    refine pl_nil ?_
    refine au_then ?_
    refine wp_seq ?_
    refine rg_lit ?_
    refine pl_val (want_no rfl) (some 24) rfl (.pointer none) (fun _ => by kernel_rfl) ?_
    refine pl_val (want_no rfl) (some 25) rfl (.int .u64 (n : Int)) (fun _ => by kernel_rfl) ?_
    refine pl_val (want_no rfl) (some 26) rfl (.string s) (fun _ => by kernel_rfl) ?_
    refine pl_call M (want_no rfl) (some 27) rfl 8 #[.pointer none, .int .u64 (n : Int), .string s] (.tuple #[.int .u64 0, .string ⟨#[]⟩, .int .i64 1]) (fun _ => by kernel_rfl) (fun w M => n_Seal w M.laid) ?_
    intro u2 M
    refine pl_val (want_no rfl) (some 23) rfl (.tuple #[.int .u64 0, .string ⟨#[]⟩, .int .i64 1]) (fun _ => by kernel_rfl) ?_
    refine pl_val (want_no rfl) (some 28) rfl (.int .u64 0) (fun _ => by kernel_rfl) ?_
    refine pl_val (want_no rfl) (some 29) rfl (.string ⟨#[]⟩) (fun _ => by kernel_rfl) ?_
    refine pl_val (want_no rfl) (some 30) rfl (.int .i64 1) (fun _ => by kernel_rfl) ?_
    refine pl_val (want_no rfl) (some 7) rfl (.int .u64 0) (fun _ => by kernel_rfl) ?_
    refine pl_val (want_no rfl) (some 8) rfl (.string ⟨#[]⟩) (fun _ => by kernel_rfl) ?_
    refine pl_val (want_no rfl) (some 9) rfl (.int .i64 1) (fun _ => by kernel_rfl) ?_
    refine pl_nil ?_
    refine au_then ?_
    refine wp_seq ?_
    refine rg_lit ?_
    refine pl_val (want_no rfl) (some 32) rfl (.pointer none) (fun _ => by kernel_rfl) ?_
    refine pl_val (want_no rfl) (some 33) rfl (.int .u64 (n : Int)) (fun _ => by kernel_rfl) ?_
    refine pl_val (want_no rfl) (some 34) rfl (.int .u64 (n : Int)) (fun _ => by kernel_rfl) ?_
    refine pl_val (want_no rfl) (some 35) rfl (.string s) (fun _ => by kernel_rfl) ?_
    refine pl_call M (want_no rfl) (some 36) rfl 9 #[.pointer none, .int .u64 (n : Int), .int .u64 (n : Int), .string s] (.tuple #[.string ⟨#[]⟩, .int .i64 1]) (fun _ => by kernel_rfl) (fun w M => n_Open w M.laid) ?_
    intro u3 M
    refine pl_val (want_no rfl) (some 31) rfl (.tuple #[.string ⟨#[]⟩, .int .i64 1]) (fun _ => by kernel_rfl) ?_
    refine pl_val (want_no rfl) (some 37) rfl (.string ⟨#[]⟩) (fun _ => by kernel_rfl) ?_
    refine pl_val (want_no rfl) (some 38) rfl (.int .i64 1) (fun _ => by kernel_rfl) ?_
    refine pl_val (want_no rfl) (some 10) rfl (.string ⟨#[]⟩) (fun _ => by kernel_rfl) ?_
    refine pl_val (want_no rfl) (some 11) rfl (.int .i64 1) (fun _ => by kernel_rfl) ?_
    refine pl_nil ?_
    refine au_then ?_
    refine wp_seq ?_
    refine rg_lit ?_
    refine pl_val (want_no rfl) (some 40) rfl (.pointer none) (fun _ => by kernel_rfl) ?_
    refine pl_call M (want_no rfl) (some 41) rfl 11 #[.pointer none, .int .u32 1] (.tuple #[.pointer none, .int .i64 1]) (fun _ => by kernel_rfl) (fun w M => n_Get w M.laid) ?_
    intro u4 M
    refine pl_val (want_no rfl) (some 39) rfl (.tuple #[.pointer none, .int .i64 1]) (fun _ => by kernel_rfl) ?_
    refine pl_val (want_no rfl) (some 42) rfl (.pointer none) (fun _ => by kernel_rfl) ?_
    refine pl_val (want_no rfl) (some 43) rfl (.int .i64 1) (fun _ => by kernel_rfl) ?_
    refine pl_val (want_no rfl) (some 12) rfl (.pointer none) (fun _ => by kernel_rfl) ?_
    refine pl_val (want_no rfl) (some 13) rfl (.int .i64 1) (fun _ => by kernel_rfl) ?_
    refine pl_nil ?_
    refine au_then ?_
    refine wp_seq ?_
    refine rg_lit ?_
    refine pl_val (want_no rfl) (some 45) rfl (.pointer none) (fun _ => by kernel_rfl) ?_
    refine pl_val (want_no rfl) (some 46) rfl (.int .u64 (n : Int)) (fun _ => by kernel_rfl) ?_
    refine pl_call M (want_no rfl) (some 47) rfl 12 #[.pointer none, .int .u64 (n : Int)] (.tuple #[.int .u32 0, .pointer none, .int .i64 1]) (fun _ => by kernel_rfl) (fun w M => n_Best w M.laid) ?_
    intro u5 M
    refine pl_val (want_no rfl) (some 44) rfl (.tuple #[.int .u32 0, .pointer none, .int .i64 1]) (fun _ => by kernel_rfl) ?_
    refine pl_val (want_no rfl) (some 48) rfl (.int .u32 0) (fun _ => by kernel_rfl) ?_
    refine pl_val (want_no rfl) (some 49) rfl (.pointer none) (fun _ => by kernel_rfl) ?_
    refine pl_val (want_no rfl) (some 50) rfl (.int .i64 1) (fun _ => by kernel_rfl) ?_
    refine pl_val (want_no rfl) (some 14) rfl (.int .u32 0) (fun _ => by kernel_rfl) ?_
    refine pl_val (want_no rfl) (some 15) rfl (.pointer none) (fun _ => by kernel_rfl) ?_
    refine pl_val (want_no rfl) (some 16) rfl (.int .i64 1) (fun _ => by kernel_rfl) ?_
    refine pl_nil ?_
    refine au_then ?_
    refine wp_seq ?_
    refine rg_lit ?_
    refine pl_val (want_no rfl) (some 51) rfl (.int .u64 0) (fun _ => by kernel_rfl) ?_
    refine pl_val (want_no rfl) (some 52) rfl (.bool true) (fun _ => by kernel_rfl) ?_
    refine pl_val (want_no rfl) (some 53) rfl (.bool true) (fun _ => by kernel_rfl) ?_
    refine pl_val (want_on 2 true rfl 53 rfl (by kernel_rfl)) (some 54) rfl (.string ⟨#[]⟩) (fun _ => by kernel_rfl) ?_
    refine pl_val (want_on 2 true rfl 53 rfl (by kernel_rfl)) (some 55) rfl (.bool true) (fun _ => by kernel_rfl) ?_
    refine pl_val (want_no rfl) (some 56) rfl (.bool true) (fun _ => by kernel_rfl) ?_
    refine pl_val (want_no rfl) (some 57) rfl (.bool true) (fun _ => by kernel_rfl) ?_
    refine pl_val (want_on 6 true rfl 57 rfl (by kernel_rfl)) (some 58) rfl (.int .i64 1) (fun _ => by kernel_rfl) ?_
    refine pl_val (want_on 6 true rfl 57 rfl (by kernel_rfl)) (some 59) rfl (.bool true) (fun _ => by kernel_rfl) ?_
    refine pl_val (want_no rfl) (some 60) rfl (.bool true) (fun _ => by kernel_rfl) ?_
    refine pl_val (want_no rfl) (some 61) rfl (.bool true) (fun _ => by kernel_rfl) ?_
    refine pl_val (want_on 10 true rfl 61 rfl (by kernel_rfl)) (some 62) rfl (.string ⟨#[]⟩) (fun _ => by kernel_rfl) ?_
    refine pl_val (want_on 10 true rfl 61 rfl (by kernel_rfl)) (some 63) rfl (.bool true) (fun _ => by kernel_rfl) ?_
    refine pl_val (want_no rfl) (some 64) rfl (.bool true) (fun _ => by kernel_rfl) ?_
    refine pl_val (want_no rfl) (some 65) rfl (.bool true) (fun _ => by kernel_rfl) ?_
    refine pl_val (want_on 14 true rfl 65 rfl (by kernel_rfl)) (some 66) rfl (.int .i64 1) (fun _ => by kernel_rfl) ?_
    refine pl_val (want_on 14 true rfl 65 rfl (by kernel_rfl)) (some 67) rfl (.bool true) (fun _ => by kernel_rfl) ?_
    refine pl_val (want_no rfl) (some 68) rfl (.bool true) (fun _ => by kernel_rfl) ?_
    refine pl_val (want_no rfl) (some 69) rfl (.bool true) (fun _ => by kernel_rfl) ?_
    refine pl_val (want_on 18 true rfl 69 rfl (by kernel_rfl)) (some 70) rfl (.pointer none) (fun _ => by kernel_rfl) ?_
    refine pl_val (want_on 18 true rfl 69 rfl (by kernel_rfl)) (some 71) rfl (.int .u64 (n : Int)) (fun _ => by kernel_rfl) ?_
    refine pl_call M (want_on 18 true rfl 69 rfl (by kernel_rfl)) (some 72) rfl 13 #[.pointer none, .int .u64 (n : Int)] (.bool true) (fun _ => by kernel_rfl) (fun w M => n_Over w M.laid) ?_
    intro u6 M
    refine pl_val (want_no rfl) (some 73) rfl (.bool true) (fun _ => by kernel_rfl) ?_
    refine pl_val (want_no rfl) (some 74) rfl (.bool true) (fun _ => by kernel_rfl) ?_
    refine pl_val (want_on 23 true rfl 74 rfl (by kernel_rfl)) (some 75) rfl (.pointer none) (fun _ => by kernel_rfl) ?_
    refine pl_val (want_on 23 true rfl 74 rfl (by kernel_rfl)) (some 76) rfl (.int .u64 (n : Int)) (fun _ => by kernel_rfl) ?_
    refine pl_call M (want_on 23 true rfl 74 rfl (by kernel_rfl)) (some 77) rfl 14 #[.pointer none, .int .u64 (n : Int)] (.bool false) (fun _ => by kernel_rfl) (fun w M => n_Wants w M.laid) ?_
    intro u7 M
    refine pl_val (want_on 23 true rfl 74 rfl (by kernel_rfl)) (some 78) rfl (.bool true) (fun _ => by kernel_rfl) ?_
    refine pl_val (want_no rfl) (some 79) rfl (.bool true) (fun _ => by kernel_rfl) ?_
    refine pl_val (want_no rfl) (some 80) rfl (.bool true) (fun _ => by kernel_rfl) ?_
    refine pl_val (want_on 29 true rfl 80 rfl (by kernel_rfl)) (some 81) rfl (.pointer none) (fun _ => by kernel_rfl) ?_
    refine pl_call M (want_on 29 true rfl 80 rfl (by kernel_rfl)) (some 82) rfl 15 #[.pointer none] (.bool false) (fun _ => by kernel_rfl) (fun w M => n_Sure w M.laid) ?_
    intro u8 M
    refine pl_val (want_on 29 true rfl 80 rfl (by kernel_rfl)) (some 83) rfl (.bool true) (fun _ => by kernel_rfl) ?_
    refine pl_val (want_no rfl) (some 84) rfl (.bool true) (fun _ => by kernel_rfl) ?_
    refine pl_val (want_no rfl) (some 85) rfl (.bool true) (fun _ => by kernel_rfl) ?_
    refine pl_val (want_on 34 true rfl 85 rfl (by kernel_rfl)) (some 86) rfl (.pointer none) (fun _ => by kernel_rfl) ?_
    refine pl_call M (want_on 34 true rfl 85 rfl (by kernel_rfl)) (some 87) rfl 16 #[.pointer none] (.int .u64 0) (fun _ => by kernel_rfl) (fun w M => n_Sent w M.laid) ?_
    intro u9 M
    refine pl_val (want_on 34 true rfl 85 rfl (by kernel_rfl)) (some 88) rfl (.bool true) (fun _ => by kernel_rfl) ?_
    refine pl_val (want_no rfl) (some 89) rfl (.bool true) (fun _ => by kernel_rfl) ?_
    refine pl_val (want_no rfl) (some 90) rfl (.bool true) (fun _ => by kernel_rfl) ?_
    refine pl_val (want_on 39 true rfl 90 rfl (by kernel_rfl)) (some 91) rfl (.pointer none) (fun _ => by kernel_rfl) ?_
    refine pl_val (want_on 39 true rfl 90 rfl (by kernel_rfl)) (some 92) rfl (.bool true) (fun _ => by kernel_rfl) ?_
    refine pl_val (want_no rfl) (some 93) rfl (.bool true) (fun _ => by kernel_rfl) ?_
    refine pl_val (want_no rfl) (some 94) rfl (.bool true) (fun _ => by kernel_rfl) ?_
    refine pl_val (want_on 43 true rfl 94 rfl (by kernel_rfl)) (some 95) rfl (.int .i64 1) (fun _ => by kernel_rfl) ?_
    refine pl_val (want_on 43 true rfl 94 rfl (by kernel_rfl)) (some 96) rfl (.bool true) (fun _ => by kernel_rfl) ?_
    refine pl_val (want_no rfl) (some 97) rfl (.bool true) (fun _ => by kernel_rfl) ?_
    refine pl_val (want_no rfl) (some 98) rfl (.bool true) (fun _ => by kernel_rfl) ?_
    refine pl_val (want_on 47 true rfl 98 rfl (by kernel_rfl)) (some 99) rfl (.int .u32 0) (fun _ => by kernel_rfl) ?_
    refine pl_val (want_on 47 true rfl 98 rfl (by kernel_rfl)) (some 100) rfl (.bool true) (fun _ => by kernel_rfl) ?_
    refine pl_val (want_no rfl) (some 101) rfl (.bool true) (fun _ => by kernel_rfl) ?_
    refine pl_val (want_no rfl) (some 102) rfl (.bool true) (fun _ => by kernel_rfl) ?_
    refine pl_val (want_on 51 true rfl 102 rfl (by kernel_rfl)) (some 103) rfl (.pointer none) (fun _ => by kernel_rfl) ?_
    refine pl_val (want_on 51 true rfl 102 rfl (by kernel_rfl)) (some 104) rfl (.bool true) (fun _ => by kernel_rfl) ?_
    refine pl_val (want_no rfl) (some 105) rfl (.bool true) (fun _ => by kernel_rfl) ?_
    refine pl_val (want_no rfl) (some 106) rfl (.bool true) (fun _ => by kernel_rfl) ?_
    refine pl_val (want_on 55 true rfl 106 rfl (by kernel_rfl)) (some 107) rfl (.int .i64 1) (fun _ => by kernel_rfl) ?_
    refine pl_val (want_on 55 true rfl 106 rfl (by kernel_rfl)) (some 108) rfl (.bool true) (fun _ => by kernel_rfl) ?_
    refine pl_val (want_no rfl) (some 109) rfl (.bool true) (fun _ => by kernel_rfl) ?_
    refine pl_val (want_no rfl) (some 110) rfl (.bool true) (fun _ => by kernel_rfl) ?_
    refine pl_val (want_on 59 true rfl 110 rfl (by kernel_rfl)) (some 111) rfl (.pointer none) (fun _ => by kernel_rfl) ?_
    refine pl_val (want_on 59 true rfl 110 rfl (by kernel_rfl)) (some 112) rfl (.pointer none) (fun _ => by kernel_rfl) ?_
    refine pl_call M (want_on 59 true rfl 110 rfl (by kernel_rfl)) (some 113) rfl 17 #[.pointer none, .int .u32 1, .pointer none] (.int .i64 1) (fun _ => by kernel_rfl) (fun w M => n_Put w M.laid) ?_
    intro u10 M
    refine pl_val (want_on 59 true rfl 110 rfl (by kernel_rfl)) (some 114) rfl (.bool true) (fun _ => by kernel_rfl) ?_
    refine pl_val (want_no rfl) (some 115) rfl (.bool true) (fun _ => by kernel_rfl) ?_
    refine pl_val (want_no rfl) (some 116) rfl (.bool true) (fun _ => by kernel_rfl) ?_
    refine pl_val (want_on 65 true rfl 116 rfl (by kernel_rfl)) (some 117) rfl (.pointer none) (fun _ => by kernel_rfl) ?_
    refine pl_val (want_on 65 true rfl 116 rfl (by kernel_rfl)) (some 118) rfl (.int .u64 (n : Int)) (fun _ => by kernel_rfl) ?_
    refine pl_call M (want_on 65 true rfl 116 rfl (by kernel_rfl)) (some 119) rfl 18 #[.pointer none, .int .u64 (n : Int)] (.slice none 0 0) (fun _ => by kernel_rfl) (fun w M => n_Tidy w M.laid) ?_
    intro u11 M
    refine pl_val (want_on 65 true rfl 116 rfl (by kernel_rfl)) (some 120) rfl (.int .i64 0) (fun _ => by kernel_rfl) ?_
    refine pl_val (want_on 65 true rfl 116 rfl (by kernel_rfl)) (some 121) rfl (.pointer none) (fun _ => by kernel_rfl) ?_
    refine pl_call M (want_on 65 true rfl 116 rfl (by kernel_rfl)) (some 122) rfl 19 #[.pointer none] (.slice none 0 0) (fun _ => by kernel_rfl) (fun w M => n_IDs w M.laid) ?_
    intro u12 M
    refine pl_val (want_on 65 true rfl 116 rfl (by kernel_rfl)) (some 123) rfl (.int .i64 0) (fun _ => by kernel_rfl) ?_
    refine pl_val (want_on 65 true rfl 116 rfl (by kernel_rfl)) (some 124) rfl (.int .i64 0) (fun _ => by kernel_rfl) ?_
    refine pl_val (want_on 65 true rfl 116 rfl (by kernel_rfl)) (some 125) rfl (.bool true) (fun _ => by kernel_rfl) ?_
    refine pl_val (want_no rfl) (some 126) rfl (.bool true) (fun _ => by kernel_rfl) ?_
    refine pl_val (want_no rfl) (some 127) rfl (.bool true) (fun _ => by kernel_rfl) ?_
    refine pl_call M (want_on 76 true rfl 127 rfl (by kernel_rfl)) (some 128) rfl 5 #[] (.bool true) (fun _ => by kernel_rfl) (fun w M => c_alive w M.laid) ?_
    intro u13 M
    refine pl_val (want_no rfl) (some 129) rfl (.bool true) (fun _ => by kernel_rfl) ?_
    refine pl_val (want_no rfl) (some 4) rfl (.bool true) (fun _ => by kernel_rfl) ?_
    refine pl_nil ?_
    refine au_then ?_
    refine wp_ret ?_
    exact bodyPost_ret (v := .bool true) (results_tmp1 Tryd.results4 _ _ _ (by kernel_rfl)) (by kernel_rfl) ⟨rfl, below_grown M.old⟩


end Go.Proofs.YtenafinbaanicaaDoor
