/- The walk of BlakeSums. -/
import Derived.Test.YtnglfpekdedgfaaDoorB9
namespace Go.Proofs.YtnglfpekdedgfaaDoor
open Go.RowKit

set_option maxRecDepth 100000 in
set_option maxHeartbeats 4000000 in
theorem bsA (sz : Int) (key s : ByteArray) (hk : 4096 < key.size) (w : World) (hL : Laid w)  :
    Calls Tryd.prog 3 #[.int .i64 sz, .string key, .string s] w fun r w' => r = .returned (.bool true) ∧ Below w.heap.size w w' := by
  go_enter Tryd.func3, Tryd.ntmps3
  have M := Mem.start hL
  refine wp_seq ?_
  refine rg_lit ?_
  refine pl_val (want_no rfl) (some 6) rfl (.bool false) (fun _ => by kernel_rfl) ?_
  refine pl_nil ?_
  refine au_then ?_
  refine wp_seq ?_
  refine wp_seq ?_
  refine rg_lit ?_
  refine pl_val (want_no rfl) (some 11) rfl (.string key) (fun _ => by kernel_rfl) ?_
  refine pl_val (want_no rfl) (some 12) rfl (.int .i64 (key.size : Int)) (fun _ => by kernel_rfl) ?_
  refine pl_val (want_no rfl) (some 13) rfl (.bool true) (fun w => Eq.trans (b := .ok (.value (.bool (decide ((4096 : Int) < (key.size : Int))))) w) (by kernel_rfl) (by rw [decide_eq_true (by omega)])) ?_
  refine pl_val (want_no rfl) (some 14) rfl (.bool true) (fun _ => by kernel_rfl) ?_
  refine pl_skip (want_off 3 false rfl 14 rfl (by kernel_rfl)) (some 15) rfl ?_
  refine pl_skip (want_off 3 false rfl 14 rfl (by kernel_rfl)) (some 16) rfl ?_
  refine pl_skip (want_off 3 false rfl 14 rfl (by kernel_rfl)) (some 17) rfl ?_
  refine pl_val (want_no rfl) (some 18) rfl (.bool true) (fun _ => by kernel_rfl) ?_
  refine pl_nil ?_
  refine au_then ?_
  refine wp_cond_true (by kernel_rfl) ?_
  refine wp_seq ?_
  refine rg_lit ?_
  refine pl_call M (want_no rfl) (some 19) rfl 7 #[] (.bool true) (fun _ => by kernel_rfl) (fun w M => c_alive w M.laid) ?_
  intro u1 M
  refine pl_val (want_no rfl) (some 6) rfl (.bool true) (fun _ => by kernel_rfl) ?_
  refine pl_nil ?_
  refine au_then ?_
  refine wp_ret ?_
  refine au_then_ret ?_
  exact bodyPost_ret (v := .bool true) (results_tmp1 Tryd.results3 _ _ _ (by kernel_rfl)) (by kernel_rfl) ⟨rfl, below_grown M.old⟩

set_option maxRecDepth 100000 in
set_option maxHeartbeats 4000000 in
theorem bsB (sz : Int) (key s : ByteArray) (hk : ¬ 4096 < key.size) (hs : 4096 < s.size) (w : World) (hL : Laid w)  :
    Calls Tryd.prog 3 #[.int .i64 sz, .string key, .string s] w fun r w' => r = .returned (.bool true) ∧ Below w.heap.size w w' := by
  go_enter Tryd.func3, Tryd.ntmps3
  have M := Mem.start hL
  refine wp_seq ?_
  refine rg_lit ?_
  refine pl_val (want_no rfl) (some 6) rfl (.bool false) (fun _ => by kernel_rfl) ?_
  refine pl_nil ?_
  refine au_then ?_
  refine wp_seq ?_
  refine wp_seq ?_
  refine rg_lit ?_
  refine pl_val (want_no rfl) (some 11) rfl (.string key) (fun _ => by kernel_rfl) ?_
  refine pl_val (want_no rfl) (some 12) rfl (.int .i64 (key.size : Int)) (fun _ => by kernel_rfl) ?_
  refine pl_val (want_no rfl) (some 13) rfl (.bool false) (fun w => Eq.trans (b := .ok (.value (.bool (decide ((4096 : Int) < (key.size : Int))))) w) (by kernel_rfl) (by rw [decide_eq_false (by omega)])) ?_
  refine pl_val (want_no rfl) (some 14) rfl (.bool false) (fun _ => by kernel_rfl) ?_
  refine pl_val (want_on 3 false rfl 14 rfl (by kernel_rfl)) (some 15) rfl (.string s) (fun _ => by kernel_rfl) ?_
  refine pl_val (want_on 3 false rfl 14 rfl (by kernel_rfl)) (some 16) rfl (.int .i64 (s.size : Int)) (fun _ => by kernel_rfl) ?_
  refine pl_val (want_on 3 false rfl 14 rfl (by kernel_rfl)) (some 17) rfl (.bool true) (fun w => Eq.trans (b := .ok (.value (.bool (decide ((4096 : Int) < (s.size : Int))))) w) (by kernel_rfl) (by rw [decide_eq_true (by omega)])) ?_
  refine pl_val (want_no rfl) (some 18) rfl (.bool true) (fun _ => by kernel_rfl) ?_
  refine pl_nil ?_
  refine au_then ?_
  refine wp_cond_true (by kernel_rfl) ?_
  refine wp_seq ?_
  refine rg_lit ?_
  refine pl_call M (want_no rfl) (some 19) rfl 7 #[] (.bool true) (fun _ => by kernel_rfl) (fun w M => c_alive w M.laid) ?_
  intro u1 M
  refine pl_val (want_no rfl) (some 6) rfl (.bool true) (fun _ => by kernel_rfl) ?_
  refine pl_nil ?_
  refine au_then ?_
  refine wp_ret ?_
  refine au_then_ret ?_
  exact bodyPost_ret (v := .bool true) (results_tmp1 Tryd.results3 _ _ _ (by kernel_rfl)) (by kernel_rfl) ⟨rfl, below_grown M.old⟩

set_option maxRecDepth 100000 in
set_option maxHeartbeats 4000000 in
theorem bsC (sz : Int) (key s : ByteArray) (hk : ¬ 4096 < key.size) (hs : ¬ 4096 < s.size) (hm : ¬ may sz key) (w : World) (hL : Laid w)  :
    Calls Tryd.prog 3 #[.int .i64 sz, .string key, .string s] w fun r w' => r = .returned (.bool true) ∧ Below w.heap.size w w' := by
  go_enter Tryd.func3, Tryd.ntmps3
  have M := Mem.start hL
  refine wp_seq ?_
  refine rg_lit ?_
  refine pl_val (want_no rfl) (some 6) rfl (.bool false) (fun _ => by kernel_rfl) ?_
  refine pl_nil ?_
  refine au_then ?_
  refine wp_seq ?_
  refine wp_seq ?_
  refine rg_lit ?_
  refine pl_val (want_no rfl) (some 11) rfl (.string key) (fun _ => by kernel_rfl) ?_
  refine pl_val (want_no rfl) (some 12) rfl (.int .i64 (key.size : Int)) (fun _ => by kernel_rfl) ?_
  refine pl_val (want_no rfl) (some 13) rfl (.bool false) (fun w => Eq.trans (b := .ok (.value (.bool (decide ((4096 : Int) < (key.size : Int))))) w) (by kernel_rfl) (by rw [decide_eq_false (by omega)])) ?_
  refine pl_val (want_no rfl) (some 14) rfl (.bool false) (fun _ => by kernel_rfl) ?_
  refine pl_val (want_on 3 false rfl 14 rfl (by kernel_rfl)) (some 15) rfl (.string s) (fun _ => by kernel_rfl) ?_
  refine pl_val (want_on 3 false rfl 14 rfl (by kernel_rfl)) (some 16) rfl (.int .i64 (s.size : Int)) (fun _ => by kernel_rfl) ?_
  refine pl_val (want_on 3 false rfl 14 rfl (by kernel_rfl)) (some 17) rfl (.bool false) (fun w => Eq.trans (b := .ok (.value (.bool (decide ((4096 : Int) < (s.size : Int))))) w) (by kernel_rfl) (by rw [decide_eq_false (by omega)])) ?_
  refine pl_val (want_no rfl) (some 18) rfl (.bool false) (fun _ => by kernel_rfl) ?_
  refine pl_nil ?_
  refine au_then ?_
  refine wp_cond_false (by kernel_rfl) ?_
  refine wp_skip ?_
  refine au_then ?_
  refine wp_seq ?_
  refine rg_lit ?_
  refine pl_val (want_no rfl) (some 21) rfl (.int .i64 sz) (fun _ => by kernel_rfl) ?_
  refine pl_val (want_no rfl) (some 22) rfl (.string key) (fun _ => by kernel_rfl) ?_
  refine pl_val (want_no rfl) (some 23) rfl (.string s) (fun _ => by kernel_rfl) ?_
  refine pl_call M (want_no rfl) (some 24) rfl 8 #[.int .i64 sz, .string key, .string s] (.tuple #[.string ⟨#[]⟩, .int .i64 2]) (fun _ => by kernel_rfl) (fun w M => c_blsume sz key s hm w M.laid) ?_
  intro u1 M
  refine pl_val (want_no rfl) (some 20) rfl (.tuple #[.string ⟨#[]⟩, .int .i64 2]) (fun _ => by kernel_rfl) ?_
  refine pl_val (want_no rfl) (some 25) rfl (.string ⟨#[]⟩) (fun _ => by kernel_rfl) ?_
  refine pl_val (want_no rfl) (some 26) rfl (.int .i64 2) (fun _ => by kernel_rfl) ?_
  refine pl_val (want_no rfl) (some 7) rfl (.string ⟨#[]⟩) (fun _ => by kernel_rfl) ?_
  refine pl_val (want_no rfl) (some 8) rfl (.int .i64 2) (fun _ => by kernel_rfl) ?_
  refine pl_nil ?_
  refine au_then ?_
  refine wp_seq ?_
  refine rg_lit ?_
  refine pl_val (want_no rfl) (some 28) rfl (.int .i64 sz) (fun _ => by kernel_rfl) ?_
  refine pl_val (want_no rfl) (some 29) rfl (.string key) (fun _ => by kernel_rfl) ?_
  refine pl_call M (want_no rfl) (some 30) rfl 9 #[.int .i64 sz, .string key] (.tuple #[.pointer none, .int .i64 2]) (fun _ => by kernel_rfl) (fun w M => c_newe sz key hm w M.laid) ?_
  intro u2 M
  refine pl_val (want_no rfl) (some 27) rfl (.tuple #[.pointer none, .int .i64 2]) (fun _ => by kernel_rfl) ?_
  refine pl_val (want_no rfl) (some 31) rfl (.pointer none) (fun _ => by kernel_rfl) ?_
  refine pl_val (want_no rfl) (some 32) rfl (.int .i64 2) (fun _ => by kernel_rfl) ?_
  refine pl_val (want_no rfl) (some 9) rfl (.pointer none) (fun _ => by kernel_rfl) ?_
  refine pl_val (want_no rfl) (some 10) rfl (.int .i64 2) (fun _ => by kernel_rfl) ?_
  refine pl_nil ?_
  refine au_then ?_
  refine wp_seq ?_
  refine wp_seq ?_
  refine rg_lit ?_
  refine pl_val (want_no rfl) (some 33) rfl (.int .i64 sz) (fun _ => by kernel_rfl) ?_
  refine pl_val (want_no rfl) (some 34) rfl (.string key) (fun _ => by kernel_rfl) ?_
  refine pl_call M (want_no rfl) (some 35) rfl 10 #[.int .i64 sz, .string key] (.bool false) (fun _ => by kernel_rfl) (fun w M => d_mayn sz key hm w M.laid) ?_
  intro u3 M
  refine pl_val (want_no rfl) (some 36) rfl (.bool true) (fun _ => by kernel_rfl) ?_
  refine pl_nil ?_
  refine au_then ?_
  refine wp_cond_true (by kernel_rfl) ?_
  refine wp_seq ?_
  refine rg_lit ?_
  refine pl_val (want_no rfl) (some 37) rfl (.string ⟨#[]⟩) (fun _ => by kernel_rfl) ?_
  refine pl_val (want_no rfl) (some 38) rfl (.bool true) (fun w => Eq.trans (b := .ok (.value (.bool ((⟨#[]⟩ : ByteArray).toList == (⟨#[]⟩ : ByteArray).toList))) w) (by kernel_rfl) (by rw [beq_self_eq_true])) ?_
  refine pl_val (want_no rfl) (some 39) rfl (.bool true) (fun _ => by kernel_rfl) ?_
  refine pl_val (want_on 2 true rfl 39 rfl (by kernel_rfl)) (some 40) rfl (.int .i64 2) (fun _ => by kernel_rfl) ?_
  refine pl_val (want_on 2 true rfl 39 rfl (by kernel_rfl)) (some 41) rfl (.bool true) (fun _ => by kernel_rfl) ?_
  refine pl_val (want_no rfl) (some 42) rfl (.bool true) (fun _ => by kernel_rfl) ?_
  refine pl_val (want_no rfl) (some 43) rfl (.bool true) (fun _ => by kernel_rfl) ?_
  refine pl_val (want_on 6 true rfl 43 rfl (by kernel_rfl)) (some 44) rfl (.pointer none) (fun _ => by kernel_rfl) ?_
  refine pl_val (want_on 6 true rfl 43 rfl (by kernel_rfl)) (some 45) rfl (.bool true) (fun _ => by kernel_rfl) ?_
  refine pl_val (want_no rfl) (some 46) rfl (.bool true) (fun _ => by kernel_rfl) ?_
  refine pl_val (want_no rfl) (some 47) rfl (.bool true) (fun _ => by kernel_rfl) ?_
  refine pl_val (want_on 10 true rfl 47 rfl (by kernel_rfl)) (some 48) rfl (.int .i64 2) (fun _ => by kernel_rfl) ?_
  refine pl_val (want_on 10 true rfl 47 rfl (by kernel_rfl)) (some 49) rfl (.bool true) (fun _ => by kernel_rfl) ?_
  refine pl_val (want_no rfl) (some 50) rfl (.bool true) (fun _ => by kernel_rfl) ?_
  refine pl_val (want_no rfl) (some 51) rfl (.bool true) (fun _ => by kernel_rfl) ?_
  refine pl_call M (want_on 14 true rfl 51 rfl (by kernel_rfl)) (some 52) rfl 7 #[] (.bool true) (fun _ => by kernel_rfl) (fun w M => c_alive w M.laid) ?_
  intro u4 M
  refine pl_val (want_no rfl) (some 53) rfl (.bool true) (fun _ => by kernel_rfl) ?_
  refine pl_val (want_no rfl) (some 6) rfl (.bool true) (fun _ => by kernel_rfl) ?_
  refine pl_nil ?_
  refine au_then ?_
  refine wp_ret ?_
  refine au_then_ret ?_
  exact bodyPost_ret (v := .bool true) (results_tmp1 Tryd.results3 _ _ _ (by kernel_rfl)) (by kernel_rfl) ⟨rfl, below_grown M.old⟩

set_option maxRecDepth 100000 in
set_option maxHeartbeats 4000000 in
theorem bsD (z : Nat) (h1 : 1 ≤ z) (h2 : z ≤ 32) (key s : ByteArray) (h3 : key.size ≤ 32) (hs : ¬ 4096 < s.size) (w : World) (hL : Laid w)  :
    Calls Tryd.prog 3 #[.int .i64 (z : Int), .string key, .string s] w fun r w' => r = .returned (.bool true) ∧ Below w.heap.size w w' := by
  go_enter Tryd.func3, Tryd.ntmps3
  have M := Mem.start hL
  refine wp_seq ?_
  refine rg_lit ?_
  refine pl_val (want_no rfl) (some 6) rfl (.bool false) (fun _ => by kernel_rfl) ?_
  refine pl_nil ?_
  refine au_then ?_
  refine wp_seq ?_
  refine wp_seq ?_
  refine rg_lit ?_
  refine pl_val (want_no rfl) (some 11) rfl (.string key) (fun _ => by kernel_rfl) ?_
  refine pl_val (want_no rfl) (some 12) rfl (.int .i64 (key.size : Int)) (fun _ => by kernel_rfl) ?_
  refine pl_val (want_no rfl) (some 13) rfl (.bool false) (fun w => Eq.trans (b := .ok (.value (.bool (decide ((4096 : Int) < (key.size : Int))))) w) (by kernel_rfl) (by rw [decide_eq_false (by omega)])) ?_
  refine pl_val (want_no rfl) (some 14) rfl (.bool false) (fun _ => by kernel_rfl) ?_
  refine pl_val (want_on 3 false rfl 14 rfl (by kernel_rfl)) (some 15) rfl (.string s) (fun _ => by kernel_rfl) ?_
  refine pl_val (want_on 3 false rfl 14 rfl (by kernel_rfl)) (some 16) rfl (.int .i64 (s.size : Int)) (fun _ => by kernel_rfl) ?_
  refine pl_val (want_on 3 false rfl 14 rfl (by kernel_rfl)) (some 17) rfl (.bool false) (fun w => Eq.trans (b := .ok (.value (.bool (decide ((4096 : Int) < (s.size : Int))))) w) (by kernel_rfl) (by rw [decide_eq_false (by omega)])) ?_
  refine pl_val (want_no rfl) (some 18) rfl (.bool false) (fun _ => by kernel_rfl) ?_
  refine pl_nil ?_
  refine au_then ?_
  refine wp_cond_false (by kernel_rfl) ?_
  refine wp_skip ?_
  refine au_then ?_
  refine wp_seq ?_
  refine rg_lit ?_
  refine pl_val (want_no rfl) (some 21) rfl (.int .i64 (z : Int)) (fun _ => by kernel_rfl) ?_
  refine pl_val (want_no rfl) (some 22) rfl (.string key) (fun _ => by kernel_rfl) ?_
  refine pl_val (want_no rfl) (some 23) rfl (.string s) (fun _ => by kernel_rfl) ?_
  refine pl_call M (want_no rfl) (some 24) rfl 8 #[.int .i64 (z : Int), .string key, .string s] (.tuple #[.string (blV z key s), .int .i64 0]) (fun _ => by kernel_rfl) (fun w M => c_blsum z key s h1 h2 h3 w M.laid) ?_
  intro u1 M
  refine pl_val (want_no rfl) (some 20) rfl (.tuple #[.string (blV z key s), .int .i64 0]) (fun _ => by kernel_rfl) ?_
  refine pl_val (want_no rfl) (some 25) rfl (.string (blV z key s)) (fun _ => by kernel_rfl) ?_
  refine pl_val (want_no rfl) (some 26) rfl (.int .i64 0) (fun _ => by kernel_rfl) ?_
  refine pl_val (want_no rfl) (some 7) rfl (.string (blV z key s)) (fun _ => by kernel_rfl) ?_
  refine pl_val (want_no rfl) (some 8) rfl (.int .i64 0) (fun _ => by kernel_rfl) ?_
  refine pl_nil ?_
  refine au_then ?_
  refine wp_seq ?_
  refine rg_lit ?_
  refine pl_val (want_no rfl) (some 28) rfl (.int .i64 (z : Int)) (fun _ => by kernel_rfl) ?_
  refine pl_val (want_no rfl) (some 29) rfl (.string key) (fun _ => by kernel_rfl) ?_
  refine pl_calln2 M (want_no rfl) (some 30) rfl 9 #[.int .i64 (z : Int), .string key] (fun g1 => .tuple #[.pointer (some ⟨g1, 0, none⟩), .int .i64 0]) (fun g2 => .cells (av 11 (hF (z : Int) (nw z key).ws g2 (nw z key).wl.length (nw z key).ct)) 49) (fun Y => SB Y 64 (vs8 (nw z key).wl)) (fun _ => by kernel_rfl) (fun w M => c_new z key h1 h2 h3 w M.laid) ?_
  intro g1 g2 Y1 u2 hY1 M
  replace M : Mem ⟨w, []⟩ [⟨g1, .cells (av 11 (hF (z : Int) (nw z key).ws g2 (nw z key).wl.length (nw z key).ct)) 49⟩, ⟨g2, Y1⟩] u2 := M
  refine pl_val (want_no rfl) (some 27) rfl (.tuple #[.pointer (some ⟨g1, 0, none⟩), .int .i64 0]) (fun _ => by kernel_rfl) ?_
  refine pl_val (want_no rfl) (some 31) rfl (.pointer (some ⟨g1, 0, none⟩)) (fun _ => by kernel_rfl) ?_
  refine pl_val (want_no rfl) (some 32) rfl (.int .i64 0) (fun _ => by kernel_rfl) ?_
  refine pl_val (want_no rfl) (some 9) rfl (.pointer (some ⟨g1, 0, none⟩)) (fun _ => by kernel_rfl) ?_
  refine pl_val (want_no rfl) (some 10) rfl (.int .i64 0) (fun _ => by kernel_rfl) ?_
  refine pl_nil ?_
  refine au_then ?_
  refine wp_seq ?_
  refine wp_seq ?_
  refine rg_lit ?_
  refine pl_val (want_no rfl) (some 33) rfl (.int .i64 (z : Int)) (fun _ => by kernel_rfl) ?_
  refine pl_val (want_no rfl) (some 34) rfl (.string key) (fun _ => by kernel_rfl) ?_
  refine pl_call M (want_no rfl) (some 35) rfl 10 #[.int .i64 (z : Int), .string key] (.bool true) (fun _ => by kernel_rfl) (fun w M => d_mayD (z : Int) key (by omega) (by omega) h3 w M.laid) ?_
  intro u3 M
  refine pl_val (want_no rfl) (some 36) rfl (.bool false) (fun _ => by kernel_rfl) ?_
  refine pl_nil ?_
  refine au_then ?_
  refine wp_cond_false (by kernel_rfl) ?_
  refine wp_skip ?_
  refine au_then ?_
  refine wp_seq ?_
  refine rg_lit ?_
  refine pl_val (want_no rfl) (some 54) rfl (.int .i64 0) (fun _ => by kernel_rfl) ?_
  refine pl_val (want_no rfl) (some 55) rfl (.bool true) (fun _ => by kernel_rfl) ?_
  refine pl_val (want_no rfl) (some 56) rfl (.bool true) (fun _ => by kernel_rfl) ?_
  refine pl_val (want_on 2 true rfl 56 rfl (by kernel_rfl)) (some 57) rfl (.int .i64 0) (fun _ => by kernel_rfl) ?_
  refine pl_val (want_on 2 true rfl 56 rfl (by kernel_rfl)) (some 58) rfl (.bool true) (fun _ => by kernel_rfl) ?_
  refine pl_val (want_no rfl) (some 59) rfl (.bool true) (fun _ => by kernel_rfl) ?_
  refine pl_val (want_no rfl) (some 60) rfl (.bool true) (fun _ => by kernel_rfl) ?_
  refine pl_val (want_on 6 true rfl 60 rfl (by kernel_rfl)) (some 61) rfl (.string (blV z key s)) (fun _ => by kernel_rfl) ?_
  refine pl_val (want_on 6 true rfl 60 rfl (by kernel_rfl)) (some 62) rfl (.int .i64 (z : Int)) (fun _ => by kernel_rfl) ?_
  refine pl_val (want_on 6 true rfl 60 rfl (by kernel_rfl)) (some 63) rfl (.string key) (fun _ => by kernel_rfl) ?_
  refine pl_val (want_on 6 true rfl 60 rfl (by kernel_rfl)) (some 64) rfl (.string s) (fun _ => by kernel_rfl) ?_
  refine pl_call M (want_on 6 true rfl 60 rfl (by kernel_rfl)) (some 65) rfl 11 #[.int .i64 (z : Int), .string key, .string s] (.string (docS z key s)) (fun _ => by kernel_rfl) (fun w M => d_sum z h1 h2 key s (by omega) h3 w M.laid) ?_
  intro u4 M
  refine pl_val (want_on 6 true rfl 60 rfl (by kernel_rfl)) (some 66) rfl (.bool true) (fun w => Eq.trans (b := .ok (.value (.bool ((blV z key s).toList == (docS z key s).toList))) w) (by kernel_rfl) (by rw [doc_eq z h2 key s (by omega) h3, beq_self_eq_true])) ?_
  refine pl_val (want_no rfl) (some 67) rfl (.bool true) (fun _ => by kernel_rfl) ?_
  refine pl_val (want_no rfl) (some 68) rfl (.bool true) (fun _ => by kernel_rfl) ?_
  refine pl_val (want_on 14 true rfl 68 rfl (by kernel_rfl)) (some 69) rfl (.string s) (fun _ => by kernel_rfl) ?_
  refine pl_call M (want_on 14 true rfl 68 rfl (by kernel_rfl)) (some 70) rfl 12 #[.string s] (.string (blV 32 strE s)) (fun _ => by kernel_rfl) (fun w M => c_of s w M.laid) ?_
  intro u5 M
  refine pl_val (want_on 14 true rfl 68 rfl (by kernel_rfl)) (some 71) rfl (.string s) (fun _ => by kernel_rfl) ?_
  refine pl_call M (want_on 14 true rfl 68 rfl (by kernel_rfl)) (some 72) rfl 13 #[.string s] (.string (docS 32 strE s)) (fun _ => by kernel_rfl) (fun w M => d_of s (by omega) w M.laid) ?_
  intro u6 M
  refine pl_val (want_on 14 true rfl 68 rfl (by kernel_rfl)) (some 73) rfl (.bool true) (fun w => Eq.trans (b := .ok (.value (.bool ((blV 32 strE s).toList == (docS 32 strE s).toList))) w) (by kernel_rfl) (by rw [doc_eq 32 (by decide) strE s (by omega) (by decide), beq_self_eq_true])) ?_
  refine pl_val (want_no rfl) (some 74) rfl (.bool true) (fun _ => by kernel_rfl) ?_
  refine pl_val (want_no rfl) (some 75) rfl (.bool true) (fun _ => by kernel_rfl) ?_
  refine pl_call M (want_on 21 true rfl 75 rfl (by kernel_rfl)) (some 76) rfl 7 #[] (.bool true) (fun _ => by kernel_rfl) (fun w M => c_alive w M.laid) ?_
  intro u7 M
  refine pl_val (want_no rfl) (some 77) rfl (.bool true) (fun _ => by kernel_rfl) ?_
  refine pl_val (want_no rfl) (some 6) rfl (.bool true) (fun _ => by kernel_rfl) ?_
  refine pl_nil ?_
  refine au_then ?_
  refine wp_ret ?_
  exact bodyPost_ret (v := .bool true) (results_tmp1 Tryd.results3 _ _ _ (by kernel_rfl)) (by kernel_rfl) ⟨rfl, below_grown M.old⟩

theorem c_blakesums (sz : Int) (key s : ByteArray) (w : World) (hL : Laid w) : Calls Tryd.prog 3 #[.int .i64 sz, .string key, .string s] w fun r w' => r = .returned (.bool true) ∧ Below w.heap.size w w' := by
  by_cases h1 : 4096 < key.size
  · exact bsA sz key s h1 w hL
  · by_cases h2 : 4096 < s.size
    · exact bsB sz key s h1 h2 w hL
    · by_cases hm : may sz key
      · obtain ⟨m1, m2, m3⟩ := hm
        obtain ⟨z, rfl⟩ : ∃ z : Nat, sz = (z : Int) := ⟨sz.toNat, by omega⟩
        exact bsD z (by omega) (by omega) key s m3 h2 w hL
      · exact bsC sz key s h1 h2 hm w hL

end Go.Proofs.YtnglfpekdedgfaaDoor
