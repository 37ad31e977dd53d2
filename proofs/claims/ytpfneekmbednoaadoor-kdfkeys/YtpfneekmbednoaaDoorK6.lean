/- The walk of KdfKeys. -/
import Derived.Test.YtpfneekmbednoaaDoorK5
namespace Go.Proofs.YtpfneekmbednoaaDoor
open Go.RowKit

section
variable {P : Program} {ops : Array Oper} {rest : List Oper} {o : Oper} {a : Act} {w : World} {c : Ctx} {L : List Blk} {Q : Exit → Act → World → Prop}
/-- A call that makes a block, of which something is known. -/
theorem pl_callg (M : Mem c L w) (hw : Region.wanted o (yielded ops a.tmps) = true) (d : Option Tmp) (hd : o.dst = d) (f : FuncId) (args : Array Value) (v : Nat → Nat → Value) (R : Nat → Obj → Prop) (hrun : ∀ w, (execOp a.eval o).run P w = .ok (.enter f args) w)
    (hc : ∀ w, Mem c L w → Calls P f args w fun e w' => ∃ g cap Y, e = .returned (v g cap) ∧ w.heap.size ≤ g ∧ w'.heap[g]? = some Y ∧ R cap Y ∧ Below w.heap.size w w') (h : ∀ g cap Y w', R cap Y → Mem c (L ++ [⟨g, Y⟩]) w' → PL P ops Q rest (a.put d (v g cap)) w') : PL P ops Q (o :: rest) a w :=
  pl_callq hw d hd f args hrun ((hc w M).mono fun _ w' ⟨g, cap, Y, he, h1, h2, h3, hb⟩ => ⟨v g cap, he, h g cap Y w' h3 (M.new g Y hb h2 h1)⟩)
end

set_option maxRecDepth 100000 in
set_option maxHeartbeats 4000000 in
theorem kkA (key s : ByteArray) (hk : key.size ≤ 140737488351232) (hs : s.size ≤ 140737488351232) (n : Int) (h : ¬ key.size + s.size ≤ 2048) (w : World) (hL : Laid w)  :
    Calls Tryd.prog 4 #[.string key, .string s, .int .i64 n] w fun r w' => r = .returned (.bool true) ∧ Below w.heap.size w w' := by
  go_enter Tryd.func4, Tryd.ntmps4
  have M := Mem.start hL
  refine wp_seq ?_
  refine rg_lit ?_
  refine pl_val (want_no rfl) (some 6) rfl (.bool false) (fun _ => by kernel_rfl) ?_
  refine pl_nil ?_
  refine au_then ?_
  refine wp_seq ?_
  refine wp_seq ?_
  refine rg_lit ?_
  refine pl_val (want_no rfl) (some 16) rfl (.string key) (fun _ => by kernel_rfl) ?_
  refine pl_val (want_no rfl) (some 17) rfl (.string s) (fun _ => by kernel_rfl) ?_
  refine pl_mk M (want_no rfl) (some 18) rfl (fun g1 => .slice (some ⟨g1, 0, none⟩) 2 2) (.cells (av 2 (ws (p2 key s))) 9) (fun _ => by kernel_rfl) ?_
  intro g1 u1 M
  replace M : Mem ⟨w, []⟩ [⟨g1, .cells (av 2 (ws (p2 key s))) 9⟩] u1 := M
  refine pl_call M (want_no rfl) (some 19) rfl 6 #[.slice (some ⟨g1, 0, none⟩) 2 2] (.bool false) (fun _ => by kernel_rfl) (fun w M => c_small0 key s hk hs g1 h w M.laid (fun i hi => M.cell 0 rfl hi rfl)) ?_
  intro u2 M
  refine pl_val (want_no rfl) (some 20) rfl (.bool true) (fun _ => by kernel_rfl) ?_
  refine pl_val (want_no rfl) (some 21) rfl (.bool true) (fun _ => by kernel_rfl) ?_
  refine pl_skip (want_off 5 false rfl 21 rfl (by kernel_rfl)) (some 22) rfl ?_
  refine pl_skip (want_off 5 false rfl 21 rfl (by kernel_rfl)) (some 23) rfl ?_
  refine pl_skip (want_off 5 false rfl 21 rfl (by kernel_rfl)) (some 24) rfl ?_
  refine pl_skip (want_und 8 true rfl 24 rfl (by kernel_rfl)) (some 25) rfl ?_
  refine pl_skip (want_und 8 true rfl 24 rfl (by kernel_rfl)) (some 26) rfl ?_
  refine pl_skip (want_off 5 false rfl 21 rfl (by kernel_rfl)) (some 27) rfl ?_
  refine pl_val (want_no rfl) (some 28) rfl (.bool true) (fun _ => by kernel_rfl) ?_
  refine pl_nil ?_
  refine au_then ?_
  refine wp_cond_true (by kernel_rfl) ?_
  refine wp_seq ?_
  refine rg_lit ?_
  refine pl_call M (want_no rfl) (some 29) rfl 7 #[] (.bool true) (fun _ => by kernel_rfl) (fun w M => c_alive w M.laid) ?_
  intro u3 M
  refine pl_val (want_no rfl) (some 6) rfl (.bool true) (fun _ => by kernel_rfl) ?_
  refine pl_nil ?_
  refine au_then ?_
  refine wp_ret ?_
  refine au_then_ret ?_
  exact bodyPost_ret (v := .bool true) (results_tmp1 Tryd.results4 _ _ _ (by kernel_rfl)) (by kernel_rfl) ⟨rfl, below_grown M.old⟩

set_option maxRecDepth 100000 in
set_option maxHeartbeats 4000000 in
theorem kkB (key s : ByteArray) (hk : key.size ≤ 140737488351232) (hs : s.size ≤ 140737488351232) (n : Int) (h : key.size + s.size ≤ 2048) (h1 : 512 < n) (h2 : n ≤ 8160) (w : World) (hL : Laid w)  :
    Calls Tryd.prog 4 #[.string key, .string s, .int .i64 n] w fun r w' => r = .returned (.bool true) ∧ Below w.heap.size w w' := by
  go_enter Tryd.func4, Tryd.ntmps4
  have M := Mem.start hL
  refine wp_seq ?_
  refine rg_lit ?_
  refine pl_val (want_no rfl) (some 6) rfl (.bool false) (fun _ => by kernel_rfl) ?_
  refine pl_nil ?_
  refine au_then ?_
  refine wp_seq ?_
  refine wp_seq ?_
  refine rg_lit ?_
  refine pl_val (want_no rfl) (some 16) rfl (.string key) (fun _ => by kernel_rfl) ?_
  refine pl_val (want_no rfl) (some 17) rfl (.string s) (fun _ => by kernel_rfl) ?_
  refine pl_mk M (want_no rfl) (some 18) rfl (fun g1 => .slice (some ⟨g1, 0, none⟩) 2 2) (.cells (av 2 (ws (p2 key s))) 9) (fun _ => by kernel_rfl) ?_
  intro g1 u1 M
  replace M : Mem ⟨w, []⟩ [⟨g1, .cells (av 2 (ws (p2 key s))) 9⟩] u1 := M
  refine pl_call M (want_no rfl) (some 19) rfl 6 #[.slice (some ⟨g1, 0, none⟩) 2 2] (.bool true) (fun _ => by kernel_rfl) (fun w M => c_small1 key s hk hs g1 h w M.laid (fun i hi => M.cell 0 rfl hi rfl)) ?_
  intro u2 M
  refine pl_val (want_no rfl) (some 20) rfl (.bool false) (fun _ => by kernel_rfl) ?_
  refine pl_val (want_no rfl) (some 21) rfl (.bool false) (fun _ => by kernel_rfl) ?_
  refine pl_val (want_on 5 false rfl 21 rfl (by kernel_rfl)) (some 22) rfl (.int .i64 n) (fun _ => by kernel_rfl) ?_
  refine pl_val (want_on 5 false rfl 21 rfl (by kernel_rfl)) (some 23) rfl (.bool true) (fun w => Eq.trans (b := .ok (.value (.bool (decide ((512 : Int) < n)))) w) (by kernel_rfl) (by rw [decide_eq_true (by omega)])) ?_
  refine pl_val (want_on 5 false rfl 21 rfl (by kernel_rfl)) (some 24) rfl (.bool true) (fun _ => by kernel_rfl) ?_
  refine pl_val (want_on 8 true rfl 24 rfl (by kernel_rfl)) (some 25) rfl (.int .i64 n) (fun _ => by kernel_rfl) ?_
  refine pl_val (want_on 8 true rfl 24 rfl (by kernel_rfl)) (some 26) rfl (.bool true) (fun w => Eq.trans (b := .ok (.value (.bool (decide (n ≤ 8160)))) w) (by kernel_rfl) (by rw [decide_eq_true (by omega)])) ?_
  refine pl_val (want_on 5 false rfl 21 rfl (by kernel_rfl)) (some 27) rfl (.bool true) (fun _ => by kernel_rfl) ?_
  refine pl_val (want_no rfl) (some 28) rfl (.bool true) (fun _ => by kernel_rfl) ?_
  refine pl_nil ?_
  refine au_then ?_
  refine wp_cond_true (by kernel_rfl) ?_
  refine wp_seq ?_
  refine rg_lit ?_
  refine pl_call M (want_no rfl) (some 29) rfl 7 #[] (.bool true) (fun _ => by kernel_rfl) (fun w M => c_alive w M.laid) ?_
  intro u3 M
  refine pl_val (want_no rfl) (some 6) rfl (.bool true) (fun _ => by kernel_rfl) ?_
  refine pl_nil ?_
  refine au_then ?_
  refine wp_ret ?_
  refine au_then_ret ?_
  exact bodyPost_ret (v := .bool true) (results_tmp1 Tryd.results4 _ _ _ (by kernel_rfl)) (by kernel_rfl) ⟨rfl, below_grown M.old⟩

set_option maxRecDepth 100000 in
set_option maxHeartbeats 4000000 in
theorem kkC (key s : ByteArray) (hk : key.size ≤ 140737488351232) (hs : s.size ≤ 140737488351232) (n : Int) (h : key.size + s.size ≤ 2048) (h1 : n < 0) (w : World) (hL : Laid w)  :
    Calls Tryd.prog 4 #[.string key, .string s, .int .i64 n] w fun r w' => r = .returned (.bool true) ∧ Below w.heap.size w w' := by
  go_enter Tryd.func4, Tryd.ntmps4
  have M := Mem.start hL
  refine wp_seq ?_
  refine rg_lit ?_
  refine pl_val (want_no rfl) (some 6) rfl (.bool false) (fun _ => by kernel_rfl) ?_
  refine pl_nil ?_
  refine au_then ?_
  refine wp_seq ?_
  refine wp_seq ?_
  refine rg_lit ?_
  refine pl_val (want_no rfl) (some 16) rfl (.string key) (fun _ => by kernel_rfl) ?_
  refine pl_val (want_no rfl) (some 17) rfl (.string s) (fun _ => by kernel_rfl) ?_
  refine pl_mk M (want_no rfl) (some 18) rfl (fun g1 => .slice (some ⟨g1, 0, none⟩) 2 2) (.cells (av 2 (ws (p2 key s))) 9) (fun _ => by kernel_rfl) ?_
  intro g1 u1 M
  replace M : Mem ⟨w, []⟩ [⟨g1, .cells (av 2 (ws (p2 key s))) 9⟩] u1 := M
  refine pl_call M (want_no rfl) (some 19) rfl 6 #[.slice (some ⟨g1, 0, none⟩) 2 2] (.bool true) (fun _ => by kernel_rfl) (fun w M => c_small1 key s hk hs g1 h w M.laid (fun i hi => M.cell 0 rfl hi rfl)) ?_
  intro u2 M
  refine pl_val (want_no rfl) (some 20) rfl (.bool false) (fun _ => by kernel_rfl) ?_
  refine pl_val (want_no rfl) (some 21) rfl (.bool false) (fun _ => by kernel_rfl) ?_
  refine pl_val (want_on 5 false rfl 21 rfl (by kernel_rfl)) (some 22) rfl (.int .i64 n) (fun _ => by kernel_rfl) ?_
  refine pl_val (want_on 5 false rfl 21 rfl (by kernel_rfl)) (some 23) rfl (.bool false) (fun w => Eq.trans (b := .ok (.value (.bool (decide ((512 : Int) < n)))) w) (by kernel_rfl) (by rw [decide_eq_false (by omega)])) ?_
  refine pl_val (want_on 5 false rfl 21 rfl (by kernel_rfl)) (some 24) rfl (.bool false) (fun _ => by kernel_rfl) ?_
  refine pl_skip (want_off 8 true rfl 24 rfl (by kernel_rfl)) (some 25) rfl ?_
  refine pl_skip (want_off 8 true rfl 24 rfl (by kernel_rfl)) (some 26) rfl ?_
  refine pl_val (want_on 5 false rfl 21 rfl (by kernel_rfl)) (some 27) rfl (.bool false) (fun _ => by kernel_rfl) ?_
  refine pl_val (want_no rfl) (some 28) rfl (.bool false) (fun _ => by kernel_rfl) ?_
  refine pl_nil ?_
  refine au_then ?_
  refine wp_cond_false (by kernel_rfl) ?_
  refine wp_skip ?_
  refine au_then ?_
  refine wp_seq ?_
  refine rg_lit ?_
  refine pl_val (want_no rfl) (some 31) rfl (.string key) (fun _ => by kernel_rfl) ?_
  refine pl_val (want_no rfl) (some 32) rfl (.string s) (fun _ => by kernel_rfl) ?_
  refine pl_val (want_no rfl) (some 33) rfl (.int .i64 n) (fun _ => by kernel_rfl) ?_
  refine pl_call M (want_no rfl) (some 34) rfl 11 #[.string key, .string s, .int .i64 n] (.tuple #[.string ⟨#[]⟩, .int .i64 2]) (fun _ => by kernel_rfl) (fun w M => c_expe key s n (by omega) w M.laid) ?_
  intro u3 M
  refine pl_val (want_no rfl) (some 30) rfl (.tuple #[.string ⟨#[]⟩, .int .i64 2]) (fun _ => by kernel_rfl) ?_
  refine pl_val (want_no rfl) (some 35) rfl (.string ⟨#[]⟩) (fun _ => by kernel_rfl) ?_
  refine pl_val (want_no rfl) (some 36) rfl (.int .i64 2) (fun _ => by kernel_rfl) ?_
  refine pl_val (want_no rfl) (some 7) rfl (.string ⟨#[]⟩) (fun _ => by kernel_rfl) ?_
  refine pl_val (want_no rfl) (some 8) rfl (.int .i64 2) (fun _ => by kernel_rfl) ?_
  refine pl_nil ?_
  refine au_then ?_
  refine wp_seq ?_
  refine rg_lit ?_
  refine pl_val (want_no rfl) (some 38) rfl (.string key) (fun _ => by kernel_rfl) ?_
  refine pl_val (want_no rfl) (some 39) rfl (.string s) (fun _ => by kernel_rfl) ?_
  refine pl_val (want_no rfl) (some 40) rfl (.int .i64 n) (fun _ => by kernel_rfl) ?_
  refine pl_call M (want_no rfl) (some 41) rfl 12 #[.string key, .string s, .int .i64 n] (.tuple #[.string ⟨#[]⟩, .int .i64 2]) (fun _ => by kernel_rfl) (fun w M => d_expe key s n (by omega) w M.laid) ?_
  intro u4 M
  refine pl_val (want_no rfl) (some 37) rfl (.tuple #[.string ⟨#[]⟩, .int .i64 2]) (fun _ => by kernel_rfl) ?_
  refine pl_val (want_no rfl) (some 42) rfl (.string ⟨#[]⟩) (fun _ => by kernel_rfl) ?_
  refine pl_val (want_no rfl) (some 43) rfl (.int .i64 2) (fun _ => by kernel_rfl) ?_
  refine pl_val (want_no rfl) (some 9) rfl (.string ⟨#[]⟩) (fun _ => by kernel_rfl) ?_
  refine pl_val (want_no rfl) (some 10) rfl (.int .i64 2) (fun _ => by kernel_rfl) ?_
  refine pl_nil ?_
  refine au_then ?_
  refine wp_seq ?_
  refine rg_lit ?_
  refine pl_val (want_no rfl) (some 45) rfl (.string key) (fun _ => by kernel_rfl) ?_
  refine pl_val (want_no rfl) (some 46) rfl (.string s) (fun _ => by kernel_rfl) ?_
  refine pl_val (want_no rfl) (some 47) rfl (.int .i64 n) (fun _ => by kernel_rfl) ?_
  refine pl_call M (want_no rfl) (some 48) rfl 13 #[.string key, .string s, .int .i64 n] (.tuple #[.slice none 0 0, .int .i64 2]) (fun _ => by kernel_rfl) (fun w M => c_che key s n (by omega) w M.laid) ?_
  intro u5 M
  refine pl_val (want_no rfl) (some 44) rfl (.tuple #[.slice none 0 0, .int .i64 2]) (fun _ => by kernel_rfl) ?_
  refine pl_val (want_no rfl) (some 49) rfl (.slice none 0 0) (fun _ => by kernel_rfl) ?_
  refine pl_val (want_no rfl) (some 50) rfl (.int .i64 2) (fun _ => by kernel_rfl) ?_
  refine pl_val (want_no rfl) (some 11) rfl (.slice none 0 0) (fun _ => by kernel_rfl) ?_
  refine pl_val (want_no rfl) (some 12) rfl (.int .i64 2) (fun _ => by kernel_rfl) ?_
  refine pl_nil ?_
  refine au_then ?_
  refine wp_seq ?_
  refine rg_lit ?_
  refine pl_val (want_no rfl) (some 52) rfl (.string key) (fun _ => by kernel_rfl) ?_
  refine pl_val (want_no rfl) (some 53) rfl (.string s) (fun _ => by kernel_rfl) ?_
  refine pl_val (want_no rfl) (some 54) rfl (.int .i64 n) (fun _ => by kernel_rfl) ?_
  refine pl_call M (want_no rfl) (some 55) rfl 14 #[.string key, .string s, .int .i64 n] (.tuple #[.slice none 0 0, .int .i64 2]) (fun _ => by kernel_rfl) (fun w M => d_che key s n (by omega) w M.laid) ?_
  intro u6 M
  refine pl_val (want_no rfl) (some 51) rfl (.tuple #[.slice none 0 0, .int .i64 2]) (fun _ => by kernel_rfl) ?_
  refine pl_val (want_no rfl) (some 56) rfl (.slice none 0 0) (fun _ => by kernel_rfl) ?_
  refine pl_val (want_no rfl) (some 57) rfl (.int .i64 2) (fun _ => by kernel_rfl) ?_
  refine pl_val (want_no rfl) (some 13) rfl (.slice none 0 0) (fun _ => by kernel_rfl) ?_
  refine pl_val (want_no rfl) (some 14) rfl (.int .i64 2) (fun _ => by kernel_rfl) ?_
  refine pl_nil ?_
  refine au_then ?_
  refine wp_seq ?_
  refine wp_seq ?_
  refine rg_lit ?_
  refine pl_val (want_no rfl) (some 58) rfl (.string ⟨#[]⟩) (fun _ => by kernel_rfl) ?_
  refine pl_val (want_no rfl) (some 59) rfl (.string ⟨#[]⟩) (fun _ => by kernel_rfl) ?_
  refine pl_val (want_no rfl) (some 60) rfl (.bool false) (fun w => Eq.trans (b := .ok (.value (.bool (!((⟨#[]⟩ : ByteArray).toList == (⟨#[]⟩ : ByteArray).toList)))) w) (by kernel_rfl) (by rw [beq_self_eq_true]; rfl)) ?_
  refine pl_val (want_no rfl) (some 61) rfl (.bool false) (fun _ => by kernel_rfl) ?_
  refine pl_val (want_on 3 false rfl 61 rfl (by kernel_rfl)) (some 62) rfl (.int .i64 2) (fun _ => by kernel_rfl) ?_
  refine pl_val (want_on 3 false rfl 61 rfl (by kernel_rfl)) (some 63) rfl (.int .i64 2) (fun _ => by kernel_rfl) ?_
  refine pl_val (want_on 3 false rfl 61 rfl (by kernel_rfl)) (some 64) rfl (.bool false) (fun _ => by kernel_rfl) ?_
  refine pl_val (want_no rfl) (some 65) rfl (.bool false) (fun _ => by kernel_rfl) ?_
  refine pl_val (want_no rfl) (some 66) rfl (.bool false) (fun _ => by kernel_rfl) ?_
  refine pl_val (want_on 8 false rfl 66 rfl (by kernel_rfl)) (some 67) rfl (.int .i64 2) (fun _ => by kernel_rfl) ?_
  refine pl_val (want_on 8 false rfl 66 rfl (by kernel_rfl)) (some 68) rfl (.int .i64 2) (fun _ => by kernel_rfl) ?_
  refine pl_val (want_on 8 false rfl 66 rfl (by kernel_rfl)) (some 69) rfl (.bool false) (fun _ => by kernel_rfl) ?_
  refine pl_val (want_no rfl) (some 70) rfl (.bool false) (fun _ => by kernel_rfl) ?_
  refine pl_val (want_no rfl) (some 71) rfl (.bool false) (fun _ => by kernel_rfl) ?_
  refine pl_val (want_on 13 false rfl 71 rfl (by kernel_rfl)) (some 72) rfl (.slice none 0 0) (fun _ => by kernel_rfl) ?_
  refine pl_val (want_on 13 false rfl 71 rfl (by kernel_rfl)) (some 73) rfl (.int .i64 0) (fun _ => by kernel_rfl) ?_
  refine pl_val (want_on 13 false rfl 71 rfl (by kernel_rfl)) (some 74) rfl (.slice none 0 0) (fun _ => by kernel_rfl) ?_
  refine pl_val (want_on 13 false rfl 71 rfl (by kernel_rfl)) (some 75) rfl (.int .i64 0) (fun _ => by kernel_rfl) ?_
  refine pl_val (want_on 13 false rfl 71 rfl (by kernel_rfl)) (some 76) rfl (.bool false) (fun _ => by kernel_rfl) ?_
  refine pl_val (want_no rfl) (some 77) rfl (.bool false) (fun _ => by kernel_rfl) ?_
  refine pl_nil ?_
  refine au_then ?_
  refine wp_cond_false (by kernel_rfl) ?_
  refine wp_skip ?_
  refine au_then ?_
  refine wp_seq ?_
  refine wp_seq ?_
  refine rg_lit ?_
  refine pl_val (want_no rfl) (some 15) rfl (.int .i64 0) (fun _ => by kernel_rfl) ?_
  refine pl_nil ?_
  refine au_then ?_
  refine wp_block ?_
  refine au_loop (fun _ a u => a = ⟨#[.string key, .string s, .int .i64 n, undef, undef, undef, .bool false, .string ⟨#[]⟩, .int .i64 2, .string ⟨#[]⟩, .int .i64 2, .slice none 0 0, .int .i64 2, .slice none 0 0, .int .i64 2, .int .i64 0, .string key, .string s, .slice (some ⟨g1, 0, none⟩) 2 2, .bool true, .bool false, .bool false, .int .i64 n, .bool false, .bool false, undef, undef, .bool false, .bool false, undef, .tuple #[.string ⟨#[]⟩, .int .i64 2], .string key, .string s, .int .i64 n, .tuple #[.string ⟨#[]⟩, .int .i64 2], .string ⟨#[]⟩, .int .i64 2, .tuple #[.string ⟨#[]⟩, .int .i64 2], .string key, .string s, .int .i64 n, .tuple #[.string ⟨#[]⟩, .int .i64 2], .string ⟨#[]⟩, .int .i64 2, .tuple #[.slice none 0 0, .int .i64 2], .string key, .string s, .int .i64 n, .tuple #[.slice none 0 0, .int .i64 2], .slice none 0 0, .int .i64 2, .tuple #[.slice none 0 0, .int .i64 2], .string key, .string s, .int .i64 n, .tuple #[.slice none 0 0, .int .i64 2], .slice none 0 0, .int .i64 2, .string ⟨#[]⟩, .string ⟨#[]⟩, .bool false, .bool false, .int .i64 2, .int .i64 2, .bool false, .bool false, .bool false, .int .i64 2, .int .i64 2, .bool false, .bool false, .bool false, .slice none 0 0, .int .i64 0, .slice none 0 0, .int .i64 0, .bool false, .bool false, undef, undef, undef, undef, undef, undef, undef, undef, undef, undef, undef, undef, undef, undef, undef, undef], []⟩ ∧ Mem ⟨w, []⟩ [⟨g1, .cells (av 2 (ws (p2 key s))) 9⟩] u) 0 ⟨by kernel_rfl, M⟩ (fun _ _ _ hj _ => absurd hj (Nat.not_lt_zero _)) ?_
  intro a u0 hI
  obtain ⟨rfl, M⟩ := hI
  refine wp_seq ?_
  refine wp_seq ?_
  refine rg_lit ?_
  refine pl_val (want_no rfl) (some 78) rfl (.int .i64 0) (fun _ => by kernel_rfl) ?_
  refine pl_val (want_no rfl) (some 79) rfl (.slice none 0 0) (fun _ => by kernel_rfl) ?_
  refine pl_val (want_no rfl) (some 80) rfl (.int .i64 0) (fun _ => by kernel_rfl) ?_
  refine pl_val (want_no rfl) (some 81) rfl (.bool false) (fun _ => by kernel_rfl) ?_
  refine pl_nil ?_
  refine au_then ?_
  refine wp_cond_false (by kernel_rfl) ?_
  refine wp_exit ?_
  refine au_then_exit ?_
  refine au_then_exit ?_
  refine au_block_exit ?_
  refine au_then ?_
  refine wp_seq ?_
  refine rg_lit ?_
  refine pl_call M (want_no rfl) (some 93) rfl 7 #[] (.bool true) (fun _ => by kernel_rfl) (fun w M => c_alive w M.laid) ?_
  intro u7 M
  refine pl_val (want_no rfl) (some 6) rfl (.bool true) (fun _ => by kernel_rfl) ?_
  refine pl_nil ?_
  refine au_then ?_
  refine wp_ret ?_
  exact bodyPost_ret (v := .bool true) (results_tmp1 Tryd.results4 _ _ _ (by kernel_rfl)) (by kernel_rfl) ⟨rfl, below_grown M.old⟩

set_option maxRecDepth 100000 in
set_option maxHeartbeats 4000000 in
theorem kkD (key s : ByteArray) (hk : key.size ≤ 140737488351232) (hs : s.size ≤ 140737488351232) (n : Int) (h : key.size + s.size ≤ 2048) (h1 : 8160 < n) (w : World) (hL : Laid w)  :
    Calls Tryd.prog 4 #[.string key, .string s, .int .i64 n] w fun r w' => r = .returned (.bool true) ∧ Below w.heap.size w w' := by
  go_enter Tryd.func4, Tryd.ntmps4
  have M := Mem.start hL
  refine wp_seq ?_
  refine rg_lit ?_
  refine pl_val (want_no rfl) (some 6) rfl (.bool false) (fun _ => by kernel_rfl) ?_
  refine pl_nil ?_
  refine au_then ?_
  refine wp_seq ?_
  refine wp_seq ?_
  refine rg_lit ?_
  refine pl_val (want_no rfl) (some 16) rfl (.string key) (fun _ => by kernel_rfl) ?_
  refine pl_val (want_no rfl) (some 17) rfl (.string s) (fun _ => by kernel_rfl) ?_
  refine pl_mk M (want_no rfl) (some 18) rfl (fun g1 => .slice (some ⟨g1, 0, none⟩) 2 2) (.cells (av 2 (ws (p2 key s))) 9) (fun _ => by kernel_rfl) ?_
  intro g1 u1 M
  replace M : Mem ⟨w, []⟩ [⟨g1, .cells (av 2 (ws (p2 key s))) 9⟩] u1 := M
  refine pl_call M (want_no rfl) (some 19) rfl 6 #[.slice (some ⟨g1, 0, none⟩) 2 2] (.bool true) (fun _ => by kernel_rfl) (fun w M => c_small1 key s hk hs g1 h w M.laid (fun i hi => M.cell 0 rfl hi rfl)) ?_
  intro u2 M
  refine pl_val (want_no rfl) (some 20) rfl (.bool false) (fun _ => by kernel_rfl) ?_
  refine pl_val (want_no rfl) (some 21) rfl (.bool false) (fun _ => by kernel_rfl) ?_
  refine pl_val (want_on 5 false rfl 21 rfl (by kernel_rfl)) (some 22) rfl (.int .i64 n) (fun _ => by kernel_rfl) ?_
  refine pl_val (want_on 5 false rfl 21 rfl (by kernel_rfl)) (some 23) rfl (.bool true) (fun w => Eq.trans (b := .ok (.value (.bool (decide ((512 : Int) < n)))) w) (by kernel_rfl) (by rw [decide_eq_true (by omega)])) ?_
  refine pl_val (want_on 5 false rfl 21 rfl (by kernel_rfl)) (some 24) rfl (.bool true) (fun _ => by kernel_rfl) ?_
  refine pl_val (want_on 8 true rfl 24 rfl (by kernel_rfl)) (some 25) rfl (.int .i64 n) (fun _ => by kernel_rfl) ?_
  refine pl_val (want_on 8 true rfl 24 rfl (by kernel_rfl)) (some 26) rfl (.bool false) (fun w => Eq.trans (b := .ok (.value (.bool (decide (n ≤ 8160)))) w) (by kernel_rfl) (by rw [decide_eq_false (by omega)])) ?_
  refine pl_val (want_on 5 false rfl 21 rfl (by kernel_rfl)) (some 27) rfl (.bool false) (fun _ => by kernel_rfl) ?_
  refine pl_val (want_no rfl) (some 28) rfl (.bool false) (fun _ => by kernel_rfl) ?_
  refine pl_nil ?_
  refine au_then ?_
  refine wp_cond_false (by kernel_rfl) ?_
  refine wp_skip ?_
  refine au_then ?_
  refine wp_seq ?_
  refine rg_lit ?_
  refine pl_val (want_no rfl) (some 31) rfl (.string key) (fun _ => by kernel_rfl) ?_
  refine pl_val (want_no rfl) (some 32) rfl (.string s) (fun _ => by kernel_rfl) ?_
  refine pl_val (want_no rfl) (some 33) rfl (.int .i64 n) (fun _ => by kernel_rfl) ?_
  refine pl_call M (want_no rfl) (some 34) rfl 11 #[.string key, .string s, .int .i64 n] (.tuple #[.string ⟨#[]⟩, .int .i64 2]) (fun _ => by kernel_rfl) (fun w M => c_expe key s n (by omega) w M.laid) ?_
  intro u3 M
  refine pl_val (want_no rfl) (some 30) rfl (.tuple #[.string ⟨#[]⟩, .int .i64 2]) (fun _ => by kernel_rfl) ?_
  refine pl_val (want_no rfl) (some 35) rfl (.string ⟨#[]⟩) (fun _ => by kernel_rfl) ?_
  refine pl_val (want_no rfl) (some 36) rfl (.int .i64 2) (fun _ => by kernel_rfl) ?_
  refine pl_val (want_no rfl) (some 7) rfl (.string ⟨#[]⟩) (fun _ => by kernel_rfl) ?_
  refine pl_val (want_no rfl) (some 8) rfl (.int .i64 2) (fun _ => by kernel_rfl) ?_
  refine pl_nil ?_
  refine au_then ?_
  refine wp_seq ?_
  refine rg_lit ?_
  refine pl_val (want_no rfl) (some 38) rfl (.string key) (fun _ => by kernel_rfl) ?_
  refine pl_val (want_no rfl) (some 39) rfl (.string s) (fun _ => by kernel_rfl) ?_
  refine pl_val (want_no rfl) (some 40) rfl (.int .i64 n) (fun _ => by kernel_rfl) ?_
  refine pl_call M (want_no rfl) (some 41) rfl 12 #[.string key, .string s, .int .i64 n] (.tuple #[.string ⟨#[]⟩, .int .i64 2]) (fun _ => by kernel_rfl) (fun w M => d_expe key s n (by omega) w M.laid) ?_
  intro u4 M
  refine pl_val (want_no rfl) (some 37) rfl (.tuple #[.string ⟨#[]⟩, .int .i64 2]) (fun _ => by kernel_rfl) ?_
  refine pl_val (want_no rfl) (some 42) rfl (.string ⟨#[]⟩) (fun _ => by kernel_rfl) ?_
  refine pl_val (want_no rfl) (some 43) rfl (.int .i64 2) (fun _ => by kernel_rfl) ?_
  refine pl_val (want_no rfl) (some 9) rfl (.string ⟨#[]⟩) (fun _ => by kernel_rfl) ?_
  refine pl_val (want_no rfl) (some 10) rfl (.int .i64 2) (fun _ => by kernel_rfl) ?_
  refine pl_nil ?_
  refine au_then ?_
  refine wp_seq ?_
  refine rg_lit ?_
  refine pl_val (want_no rfl) (some 45) rfl (.string key) (fun _ => by kernel_rfl) ?_
  refine pl_val (want_no rfl) (some 46) rfl (.string s) (fun _ => by kernel_rfl) ?_
  refine pl_val (want_no rfl) (some 47) rfl (.int .i64 n) (fun _ => by kernel_rfl) ?_
  refine pl_call M (want_no rfl) (some 48) rfl 13 #[.string key, .string s, .int .i64 n] (.tuple #[.slice none 0 0, .int .i64 2]) (fun _ => by kernel_rfl) (fun w M => c_che key s n (by omega) w M.laid) ?_
  intro u5 M
  refine pl_val (want_no rfl) (some 44) rfl (.tuple #[.slice none 0 0, .int .i64 2]) (fun _ => by kernel_rfl) ?_
  refine pl_val (want_no rfl) (some 49) rfl (.slice none 0 0) (fun _ => by kernel_rfl) ?_
  refine pl_val (want_no rfl) (some 50) rfl (.int .i64 2) (fun _ => by kernel_rfl) ?_
  refine pl_val (want_no rfl) (some 11) rfl (.slice none 0 0) (fun _ => by kernel_rfl) ?_
  refine pl_val (want_no rfl) (some 12) rfl (.int .i64 2) (fun _ => by kernel_rfl) ?_
  refine pl_nil ?_
  refine au_then ?_
  refine wp_seq ?_
  refine rg_lit ?_
  refine pl_val (want_no rfl) (some 52) rfl (.string key) (fun _ => by kernel_rfl) ?_
  refine pl_val (want_no rfl) (some 53) rfl (.string s) (fun _ => by kernel_rfl) ?_
  refine pl_val (want_no rfl) (some 54) rfl (.int .i64 n) (fun _ => by kernel_rfl) ?_
  refine pl_call M (want_no rfl) (some 55) rfl 14 #[.string key, .string s, .int .i64 n] (.tuple #[.slice none 0 0, .int .i64 2]) (fun _ => by kernel_rfl) (fun w M => d_che key s n (by omega) w M.laid) ?_
  intro u6 M
  refine pl_val (want_no rfl) (some 51) rfl (.tuple #[.slice none 0 0, .int .i64 2]) (fun _ => by kernel_rfl) ?_
  refine pl_val (want_no rfl) (some 56) rfl (.slice none 0 0) (fun _ => by kernel_rfl) ?_
  refine pl_val (want_no rfl) (some 57) rfl (.int .i64 2) (fun _ => by kernel_rfl) ?_
  refine pl_val (want_no rfl) (some 13) rfl (.slice none 0 0) (fun _ => by kernel_rfl) ?_
  refine pl_val (want_no rfl) (some 14) rfl (.int .i64 2) (fun _ => by kernel_rfl) ?_
  refine pl_nil ?_
  refine au_then ?_
  refine wp_seq ?_
  refine wp_seq ?_
  refine rg_lit ?_
  refine pl_val (want_no rfl) (some 58) rfl (.string ⟨#[]⟩) (fun _ => by kernel_rfl) ?_
  refine pl_val (want_no rfl) (some 59) rfl (.string ⟨#[]⟩) (fun _ => by kernel_rfl) ?_
  refine pl_val (want_no rfl) (some 60) rfl (.bool false) (fun w => Eq.trans (b := .ok (.value (.bool (!((⟨#[]⟩ : ByteArray).toList == (⟨#[]⟩ : ByteArray).toList)))) w) (by kernel_rfl) (by rw [beq_self_eq_true]; rfl)) ?_
  refine pl_val (want_no rfl) (some 61) rfl (.bool false) (fun _ => by kernel_rfl) ?_
  refine pl_val (want_on 3 false rfl 61 rfl (by kernel_rfl)) (some 62) rfl (.int .i64 2) (fun _ => by kernel_rfl) ?_
  refine pl_val (want_on 3 false rfl 61 rfl (by kernel_rfl)) (some 63) rfl (.int .i64 2) (fun _ => by kernel_rfl) ?_
  refine pl_val (want_on 3 false rfl 61 rfl (by kernel_rfl)) (some 64) rfl (.bool false) (fun _ => by kernel_rfl) ?_
  refine pl_val (want_no rfl) (some 65) rfl (.bool false) (fun _ => by kernel_rfl) ?_
  refine pl_val (want_no rfl) (some 66) rfl (.bool false) (fun _ => by kernel_rfl) ?_
  refine pl_val (want_on 8 false rfl 66 rfl (by kernel_rfl)) (some 67) rfl (.int .i64 2) (fun _ => by kernel_rfl) ?_
  refine pl_val (want_on 8 false rfl 66 rfl (by kernel_rfl)) (some 68) rfl (.int .i64 2) (fun _ => by kernel_rfl) ?_
  refine pl_val (want_on 8 false rfl 66 rfl (by kernel_rfl)) (some 69) rfl (.bool false) (fun _ => by kernel_rfl) ?_
  refine pl_val (want_no rfl) (some 70) rfl (.bool false) (fun _ => by kernel_rfl) ?_
  refine pl_val (want_no rfl) (some 71) rfl (.bool false) (fun _ => by kernel_rfl) ?_
  refine pl_val (want_on 13 false rfl 71 rfl (by kernel_rfl)) (some 72) rfl (.slice none 0 0) (fun _ => by kernel_rfl) ?_
  refine pl_val (want_on 13 false rfl 71 rfl (by kernel_rfl)) (some 73) rfl (.int .i64 0) (fun _ => by kernel_rfl) ?_
  refine pl_val (want_on 13 false rfl 71 rfl (by kernel_rfl)) (some 74) rfl (.slice none 0 0) (fun _ => by kernel_rfl) ?_
  refine pl_val (want_on 13 false rfl 71 rfl (by kernel_rfl)) (some 75) rfl (.int .i64 0) (fun _ => by kernel_rfl) ?_
  refine pl_val (want_on 13 false rfl 71 rfl (by kernel_rfl)) (some 76) rfl (.bool false) (fun _ => by kernel_rfl) ?_
  refine pl_val (want_no rfl) (some 77) rfl (.bool false) (fun _ => by kernel_rfl) ?_
  refine pl_nil ?_
  refine au_then ?_
  refine wp_cond_false (by kernel_rfl) ?_
  refine wp_skip ?_
  refine au_then ?_
  refine wp_seq ?_
  refine wp_seq ?_
  refine rg_lit ?_
  refine pl_val (want_no rfl) (some 15) rfl (.int .i64 0) (fun _ => by kernel_rfl) ?_
  refine pl_nil ?_
  refine au_then ?_
  refine wp_block ?_
  refine au_loop (fun _ a u => a = ⟨#[.string key, .string s, .int .i64 n, undef, undef, undef, .bool false, .string ⟨#[]⟩, .int .i64 2, .string ⟨#[]⟩, .int .i64 2, .slice none 0 0, .int .i64 2, .slice none 0 0, .int .i64 2, .int .i64 0, .string key, .string s, .slice (some ⟨g1, 0, none⟩) 2 2, .bool true, .bool false, .bool false, .int .i64 n, .bool true, .bool true, .int .i64 n, .bool false, .bool false, .bool false, undef, .tuple #[.string ⟨#[]⟩, .int .i64 2], .string key, .string s, .int .i64 n, .tuple #[.string ⟨#[]⟩, .int .i64 2], .string ⟨#[]⟩, .int .i64 2, .tuple #[.string ⟨#[]⟩, .int .i64 2], .string key, .string s, .int .i64 n, .tuple #[.string ⟨#[]⟩, .int .i64 2], .string ⟨#[]⟩, .int .i64 2, .tuple #[.slice none 0 0, .int .i64 2], .string key, .string s, .int .i64 n, .tuple #[.slice none 0 0, .int .i64 2], .slice none 0 0, .int .i64 2, .tuple #[.slice none 0 0, .int .i64 2], .string key, .string s, .int .i64 n, .tuple #[.slice none 0 0, .int .i64 2], .slice none 0 0, .int .i64 2, .string ⟨#[]⟩, .string ⟨#[]⟩, .bool false, .bool false, .int .i64 2, .int .i64 2, .bool false, .bool false, .bool false, .int .i64 2, .int .i64 2, .bool false, .bool false, .bool false, .slice none 0 0, .int .i64 0, .slice none 0 0, .int .i64 0, .bool false, .bool false, undef, undef, undef, undef, undef, undef, undef, undef, undef, undef, undef, undef, undef, undef, undef, undef], []⟩ ∧ Mem ⟨w, []⟩ [⟨g1, .cells (av 2 (ws (p2 key s))) 9⟩] u) 0 ⟨by kernel_rfl, M⟩ (fun _ _ _ hj _ => absurd hj (Nat.not_lt_zero _)) ?_
  intro a u0 hI
  obtain ⟨rfl, M⟩ := hI
  refine wp_seq ?_
  refine wp_seq ?_
  refine rg_lit ?_
  refine pl_val (want_no rfl) (some 78) rfl (.int .i64 0) (fun _ => by kernel_rfl) ?_
  refine pl_val (want_no rfl) (some 79) rfl (.slice none 0 0) (fun _ => by kernel_rfl) ?_
  refine pl_val (want_no rfl) (some 80) rfl (.int .i64 0) (fun _ => by kernel_rfl) ?_
  refine pl_val (want_no rfl) (some 81) rfl (.bool false) (fun _ => by kernel_rfl) ?_
  refine pl_nil ?_
  refine au_then ?_
  refine wp_cond_false (by kernel_rfl) ?_
  refine wp_exit ?_
  refine au_then_exit ?_
  refine au_then_exit ?_
  refine au_block_exit ?_
  refine au_then ?_
  refine wp_seq ?_
  refine rg_lit ?_
  refine pl_call M (want_no rfl) (some 93) rfl 7 #[] (.bool true) (fun _ => by kernel_rfl) (fun w M => c_alive w M.laid) ?_
  intro u7 M
  refine pl_val (want_no rfl) (some 6) rfl (.bool true) (fun _ => by kernel_rfl) ?_
  refine pl_nil ?_
  refine au_then ?_
  refine wp_ret ?_
  exact bodyPost_ret (v := .bool true) (results_tmp1 Tryd.results4 _ _ _ (by kernel_rfl)) (by kernel_rfl) ⟨rfl, below_grown M.old⟩

set_option maxRecDepth 100000 in
set_option maxHeartbeats 4000000 in
theorem kkE (key s : ByteArray) (hk : key.size ≤ 140737488351232) (hs : s.size ≤ 140737488351232) (n : Nat) (h : key.size + s.size ≤ 2048) (h1 : n ≤ 512) (h2 : ¬ (1 ≤ n ∧ n ≤ 3)) (w : World) (hL : Laid w)  :
    Calls Tryd.prog 4 #[.string key, .string s, .int .i64 (n : Int)] w fun r w' => r = .returned (.bool true) ∧ Below w.heap.size w w' := by
  go_enter Tryd.func4, Tryd.ntmps4
  have M := Mem.start hL
  refine wp_seq ?_
  refine rg_lit ?_
  refine pl_val (want_no rfl) (some 6) rfl (.bool false) (fun _ => by kernel_rfl) ?_
  refine pl_nil ?_
  refine au_then ?_
  refine wp_seq ?_
  refine wp_seq ?_
  refine rg_lit ?_
  refine pl_val (want_no rfl) (some 16) rfl (.string key) (fun _ => by kernel_rfl) ?_
  refine pl_val (want_no rfl) (some 17) rfl (.string s) (fun _ => by kernel_rfl) ?_
  refine pl_mk M (want_no rfl) (some 18) rfl (fun g1 => .slice (some ⟨g1, 0, none⟩) 2 2) (.cells (av 2 (ws (p2 key s))) 9) (fun _ => by kernel_rfl) ?_
  intro g1 u1 M
  replace M : Mem ⟨w, []⟩ [⟨g1, .cells (av 2 (ws (p2 key s))) 9⟩] u1 := M
  refine pl_call M (want_no rfl) (some 19) rfl 6 #[.slice (some ⟨g1, 0, none⟩) 2 2] (.bool true) (fun _ => by kernel_rfl) (fun w M => c_small1 key s hk hs g1 h w M.laid (fun i hi => M.cell 0 rfl hi rfl)) ?_
  intro u2 M
  refine pl_val (want_no rfl) (some 20) rfl (.bool false) (fun _ => by kernel_rfl) ?_
  refine pl_val (want_no rfl) (some 21) rfl (.bool false) (fun _ => by kernel_rfl) ?_
  refine pl_val (want_on 5 false rfl 21 rfl (by kernel_rfl)) (some 22) rfl (.int .i64 (n : Int)) (fun _ => by kernel_rfl) ?_
  refine pl_val (want_on 5 false rfl 21 rfl (by kernel_rfl)) (some 23) rfl (.bool false) (fun w => Eq.trans (b := .ok (.value (.bool (decide ((512 : Int) < (n : Int))))) w) (by kernel_rfl) (by rw [decide_eq_false (by omega)])) ?_
  refine pl_val (want_on 5 false rfl 21 rfl (by kernel_rfl)) (some 24) rfl (.bool false) (fun _ => by kernel_rfl) ?_
  refine pl_skip (want_off 8 true rfl 24 rfl (by kernel_rfl)) (some 25) rfl ?_
  refine pl_skip (want_off 8 true rfl 24 rfl (by kernel_rfl)) (some 26) rfl ?_
  refine pl_val (want_on 5 false rfl 21 rfl (by kernel_rfl)) (some 27) rfl (.bool false) (fun _ => by kernel_rfl) ?_
  refine pl_val (want_no rfl) (some 28) rfl (.bool false) (fun _ => by kernel_rfl) ?_
  refine pl_nil ?_
  refine au_then ?_
  refine wp_cond_false (by kernel_rfl) ?_
  refine wp_skip ?_
  refine au_then ?_
  refine wp_seq ?_
  refine rg_lit ?_
  refine pl_val (want_no rfl) (some 31) rfl (.string key) (fun _ => by kernel_rfl) ?_
  refine pl_val (want_no rfl) (some 32) rfl (.string s) (fun _ => by kernel_rfl) ?_
  refine pl_val (want_no rfl) (some 33) rfl (.int .i64 (n : Int)) (fun _ => by kernel_rfl) ?_
  refine pl_call M (want_no rfl) (some 34) rfl 11 #[.string key, .string s, .int .i64 (n : Int)] (.tuple #[.string (exV key s n), .int .i64 0]) (fun _ => by kernel_rfl) (fun w M => c_exp key s (by omega) n (by omega) w M.laid) ?_
  intro u3 M
  refine pl_val (want_no rfl) (some 30) rfl (.tuple #[.string (exV key s n), .int .i64 0]) (fun _ => by kernel_rfl) ?_
  refine pl_val (want_no rfl) (some 35) rfl (.string (exV key s n)) (fun _ => by kernel_rfl) ?_
  refine pl_val (want_no rfl) (some 36) rfl (.int .i64 0) (fun _ => by kernel_rfl) ?_
  refine pl_val (want_no rfl) (some 7) rfl (.string (exV key s n)) (fun _ => by kernel_rfl) ?_
  refine pl_val (want_no rfl) (some 8) rfl (.int .i64 0) (fun _ => by kernel_rfl) ?_
  refine pl_nil ?_
  refine au_then ?_
  refine wp_seq ?_
  refine rg_lit ?_
  refine pl_val (want_no rfl) (some 38) rfl (.string key) (fun _ => by kernel_rfl) ?_
  refine pl_val (want_no rfl) (some 39) rfl (.string s) (fun _ => by kernel_rfl) ?_
  refine pl_val (want_no rfl) (some 40) rfl (.int .i64 (n : Int)) (fun _ => by kernel_rfl) ?_
  refine pl_call M (want_no rfl) (some 41) rfl 12 #[.string key, .string s, .int .i64 (n : Int)] (.tuple #[.string (exV key s n), .int .i64 0]) (fun _ => by kernel_rfl) (fun w M => d_exp key s (by omega) (by omega) n (by omega) w M.laid) ?_
  intro u4 M
  refine pl_val (want_no rfl) (some 37) rfl (.tuple #[.string (exV key s n), .int .i64 0]) (fun _ => by kernel_rfl) ?_
  refine pl_val (want_no rfl) (some 42) rfl (.string (exV key s n)) (fun _ => by kernel_rfl) ?_
  refine pl_val (want_no rfl) (some 43) rfl (.int .i64 0) (fun _ => by kernel_rfl) ?_
  refine pl_val (want_no rfl) (some 9) rfl (.string (exV key s n)) (fun _ => by kernel_rfl) ?_
  refine pl_val (want_no rfl) (some 10) rfl (.int .i64 0) (fun _ => by kernel_rfl) ?_
  refine pl_nil ?_
  refine au_then ?_
  refine wp_seq ?_
  refine rg_lit ?_
  refine pl_val (want_no rfl) (some 45) rfl (.string key) (fun _ => by kernel_rfl) ?_
  refine pl_val (want_no rfl) (some 46) rfl (.string s) (fun _ => by kernel_rfl) ?_
  refine pl_val (want_no rfl) (some 47) rfl (.int .i64 (n : Int)) (fun _ => by kernel_rfl) ?_
  refine pl_call M (want_no rfl) (some 48) rfl 13 #[.string key, .string s, .int .i64 (n : Int)] (.tuple #[.slice none 0 0, .int .i64 2]) (fun _ => by kernel_rfl) (fun w M => c_che key s (n : Int) (by omega) w M.laid) ?_
  intro u5 M
  refine pl_val (want_no rfl) (some 44) rfl (.tuple #[.slice none 0 0, .int .i64 2]) (fun _ => by kernel_rfl) ?_
  refine pl_val (want_no rfl) (some 49) rfl (.slice none 0 0) (fun _ => by kernel_rfl) ?_
  refine pl_val (want_no rfl) (some 50) rfl (.int .i64 2) (fun _ => by kernel_rfl) ?_
  refine pl_val (want_no rfl) (some 11) rfl (.slice none 0 0) (fun _ => by kernel_rfl) ?_
  refine pl_val (want_no rfl) (some 12) rfl (.int .i64 2) (fun _ => by kernel_rfl) ?_
  refine pl_nil ?_
  refine au_then ?_
  refine wp_seq ?_
  refine rg_lit ?_
  refine pl_val (want_no rfl) (some 52) rfl (.string key) (fun _ => by kernel_rfl) ?_
  refine pl_val (want_no rfl) (some 53) rfl (.string s) (fun _ => by kernel_rfl) ?_
  refine pl_val (want_no rfl) (some 54) rfl (.int .i64 (n : Int)) (fun _ => by kernel_rfl) ?_
  refine pl_call M (want_no rfl) (some 55) rfl 14 #[.string key, .string s, .int .i64 (n : Int)] (.tuple #[.slice none 0 0, .int .i64 2]) (fun _ => by kernel_rfl) (fun w M => d_che key s (n : Int) (by omega) w M.laid) ?_
  intro u6 M
  refine pl_val (want_no rfl) (some 51) rfl (.tuple #[.slice none 0 0, .int .i64 2]) (fun _ => by kernel_rfl) ?_
  refine pl_val (want_no rfl) (some 56) rfl (.slice none 0 0) (fun _ => by kernel_rfl) ?_
  refine pl_val (want_no rfl) (some 57) rfl (.int .i64 2) (fun _ => by kernel_rfl) ?_
  refine pl_val (want_no rfl) (some 13) rfl (.slice none 0 0) (fun _ => by kernel_rfl) ?_
  refine pl_val (want_no rfl) (some 14) rfl (.int .i64 2) (fun _ => by kernel_rfl) ?_
  refine pl_nil ?_
  refine au_then ?_
  refine wp_seq ?_
  refine wp_seq ?_
  refine rg_lit ?_
  refine pl_val (want_no rfl) (some 58) rfl (.string (exV key s n)) (fun _ => by kernel_rfl) ?_
  refine pl_val (want_no rfl) (some 59) rfl (.string (exV key s n)) (fun _ => by kernel_rfl) ?_
  refine pl_val (want_no rfl) (some 60) rfl (.bool false) (fun w => Eq.trans (b := .ok (.value (.bool (!((exV key s n).toList == (exV key s n).toList)))) w) (by kernel_rfl) (by rw [beq_self_eq_true]; rfl)) ?_
  refine pl_val (want_no rfl) (some 61) rfl (.bool false) (fun _ => by kernel_rfl) ?_
  refine pl_val (want_on 3 false rfl 61 rfl (by kernel_rfl)) (some 62) rfl (.int .i64 0) (fun _ => by kernel_rfl) ?_
  refine pl_val (want_on 3 false rfl 61 rfl (by kernel_rfl)) (some 63) rfl (.int .i64 0) (fun _ => by kernel_rfl) ?_
  refine pl_val (want_on 3 false rfl 61 rfl (by kernel_rfl)) (some 64) rfl (.bool false) (fun _ => by kernel_rfl) ?_
  refine pl_val (want_no rfl) (some 65) rfl (.bool false) (fun _ => by kernel_rfl) ?_
  refine pl_val (want_no rfl) (some 66) rfl (.bool false) (fun _ => by kernel_rfl) ?_
  refine pl_val (want_on 8 false rfl 66 rfl (by kernel_rfl)) (some 67) rfl (.int .i64 2) (fun _ => by kernel_rfl) ?_
  refine pl_val (want_on 8 false rfl 66 rfl (by kernel_rfl)) (some 68) rfl (.int .i64 2) (fun _ => by kernel_rfl) ?_
  refine pl_val (want_on 8 false rfl 66 rfl (by kernel_rfl)) (some 69) rfl (.bool false) (fun _ => by kernel_rfl) ?_
  refine pl_val (want_no rfl) (some 70) rfl (.bool false) (fun _ => by kernel_rfl) ?_
  refine pl_val (want_no rfl) (some 71) rfl (.bool false) (fun _ => by kernel_rfl) ?_
  refine pl_val (want_on 13 false rfl 71 rfl (by kernel_rfl)) (some 72) rfl (.slice none 0 0) (fun _ => by kernel_rfl) ?_
  refine pl_val (want_on 13 false rfl 71 rfl (by kernel_rfl)) (some 73) rfl (.int .i64 0) (fun _ => by kernel_rfl) ?_
  refine pl_val (want_on 13 false rfl 71 rfl (by kernel_rfl)) (some 74) rfl (.slice none 0 0) (fun _ => by kernel_rfl) ?_
  refine pl_val (want_on 13 false rfl 71 rfl (by kernel_rfl)) (some 75) rfl (.int .i64 0) (fun _ => by kernel_rfl) ?_
  refine pl_val (want_on 13 false rfl 71 rfl (by kernel_rfl)) (some 76) rfl (.bool false) (fun _ => by kernel_rfl) ?_
  refine pl_val (want_no rfl) (some 77) rfl (.bool false) (fun _ => by kernel_rfl) ?_
  refine pl_nil ?_
  refine au_then ?_
  refine wp_cond_false (by kernel_rfl) ?_
  refine wp_skip ?_
  refine au_then ?_
  refine wp_seq ?_
  refine wp_seq ?_
  refine rg_lit ?_
  refine pl_val (want_no rfl) (some 15) rfl (.int .i64 0) (fun _ => by kernel_rfl) ?_
  refine pl_nil ?_
  refine au_then ?_
  refine wp_block ?_
  refine au_loop (fun _ a u => a = ⟨#[.string key, .string s, .int .i64 (n : Int), undef, undef, undef, .bool false, .string (exV key s n), .int .i64 0, .string (exV key s n), .int .i64 0, .slice none 0 0, .int .i64 2, .slice none 0 0, .int .i64 2, .int .i64 0, .string key, .string s, .slice (some ⟨g1, 0, none⟩) 2 2, .bool true, .bool false, .bool false, .int .i64 (n : Int), .bool false, .bool false, undef, undef, .bool false, .bool false, undef, .tuple #[.string (exV key s n), .int .i64 0], .string key, .string s, .int .i64 (n : Int), .tuple #[.string (exV key s n), .int .i64 0], .string (exV key s n), .int .i64 0, .tuple #[.string (exV key s n), .int .i64 0], .string key, .string s, .int .i64 (n : Int), .tuple #[.string (exV key s n), .int .i64 0], .string (exV key s n), .int .i64 0, .tuple #[.slice none 0 0, .int .i64 2], .string key, .string s, .int .i64 (n : Int), .tuple #[.slice none 0 0, .int .i64 2], .slice none 0 0, .int .i64 2, .tuple #[.slice none 0 0, .int .i64 2], .string key, .string s, .int .i64 (n : Int), .tuple #[.slice none 0 0, .int .i64 2], .slice none 0 0, .int .i64 2, .string (exV key s n), .string (exV key s n), .bool false, .bool false, .int .i64 0, .int .i64 0, .bool false, .bool false, .bool false, .int .i64 2, .int .i64 2, .bool false, .bool false, .bool false, .slice none 0 0, .int .i64 0, .slice none 0 0, .int .i64 0, .bool false, .bool false, undef, undef, undef, undef, undef, undef, undef, undef, undef, undef, undef, undef, undef, undef, undef, undef], []⟩ ∧ Mem ⟨w, []⟩ [⟨g1, .cells (av 2 (ws (p2 key s))) 9⟩] u) 0 ⟨by kernel_rfl, M⟩ (fun _ _ _ hj _ => absurd hj (Nat.not_lt_zero _)) ?_
  intro a u0 hI
  obtain ⟨rfl, M⟩ := hI
  refine wp_seq ?_
  refine wp_seq ?_
  refine rg_lit ?_
  refine pl_val (want_no rfl) (some 78) rfl (.int .i64 0) (fun _ => by kernel_rfl) ?_
  refine pl_val (want_no rfl) (some 79) rfl (.slice none 0 0) (fun _ => by kernel_rfl) ?_
  refine pl_val (want_no rfl) (some 80) rfl (.int .i64 0) (fun _ => by kernel_rfl) ?_
  refine pl_val (want_no rfl) (some 81) rfl (.bool false) (fun _ => by kernel_rfl) ?_
  refine pl_nil ?_
  refine au_then ?_
  refine wp_cond_false (by kernel_rfl) ?_
  refine wp_exit ?_
  refine au_then_exit ?_
  refine au_then_exit ?_
  refine au_block_exit ?_
  refine au_then ?_
  refine wp_seq ?_
  refine rg_lit ?_
  refine pl_call M (want_no rfl) (some 93) rfl 7 #[] (.bool true) (fun _ => by kernel_rfl) (fun w M => c_alive w M.laid) ?_
  intro u7 M
  refine pl_val (want_no rfl) (some 6) rfl (.bool true) (fun _ => by kernel_rfl) ?_
  refine pl_nil ?_
  refine au_then ?_
  refine wp_ret ?_
  exact bodyPost_ret (v := .bool true) (results_tmp1 Tryd.results4 _ _ _ (by kernel_rfl)) (by kernel_rfl) ⟨rfl, below_grown M.old⟩

set_option maxRecDepth 100000 in
set_option maxHeartbeats 4000000 in
theorem kkF (key s : ByteArray) (hk : key.size ≤ 140737488351232) (hs : s.size ≤ 140737488351232) (n : Nat) (h : key.size + s.size ≤ 2048) (h1 : 1 ≤ n) (h2 : n ≤ 3) (w : World) (hL : Laid w)  :
    Calls Tryd.prog 4 #[.string key, .string s, .int .i64 (n : Int)] w fun r w' => r = .returned (.bool true) ∧ Below w.heap.size w w' := by
  go_enter Tryd.func4, Tryd.ntmps4
  have M := Mem.start hL
  refine wp_seq ?_
  refine rg_lit ?_
  refine pl_val (want_no rfl) (some 6) rfl (.bool false) (fun _ => by kernel_rfl) ?_
  refine pl_nil ?_
  refine au_then ?_
  refine wp_seq ?_
  refine wp_seq ?_
  refine rg_lit ?_
  refine pl_val (want_no rfl) (some 16) rfl (.string key) (fun _ => by kernel_rfl) ?_
  refine pl_val (want_no rfl) (some 17) rfl (.string s) (fun _ => by kernel_rfl) ?_
  refine pl_mk M (want_no rfl) (some 18) rfl (fun g1 => .slice (some ⟨g1, 0, none⟩) 2 2) (.cells (av 2 (ws (p2 key s))) 9) (fun _ => by kernel_rfl) ?_
  intro g1 u1 M
  replace M : Mem ⟨w, []⟩ [⟨g1, .cells (av 2 (ws (p2 key s))) 9⟩] u1 := M
  refine pl_call M (want_no rfl) (some 19) rfl 6 #[.slice (some ⟨g1, 0, none⟩) 2 2] (.bool true) (fun _ => by kernel_rfl) (fun w M => c_small1 key s hk hs g1 h w M.laid (fun i hi => M.cell 0 rfl hi rfl)) ?_
  intro u2 M
  refine pl_val (want_no rfl) (some 20) rfl (.bool false) (fun _ => by kernel_rfl) ?_
  refine pl_val (want_no rfl) (some 21) rfl (.bool false) (fun _ => by kernel_rfl) ?_
  refine pl_val (want_on 5 false rfl 21 rfl (by kernel_rfl)) (some 22) rfl (.int .i64 (n : Int)) (fun _ => by kernel_rfl) ?_
  refine pl_val (want_on 5 false rfl 21 rfl (by kernel_rfl)) (some 23) rfl (.bool false) (fun w => Eq.trans (b := .ok (.value (.bool (decide ((512 : Int) < (n : Int))))) w) (by kernel_rfl) (by rw [decide_eq_false (by omega)])) ?_
  refine pl_val (want_on 5 false rfl 21 rfl (by kernel_rfl)) (some 24) rfl (.bool false) (fun _ => by kernel_rfl) ?_
  refine pl_skip (want_off 8 true rfl 24 rfl (by kernel_rfl)) (some 25) rfl ?_
  refine pl_skip (want_off 8 true rfl 24 rfl (by kernel_rfl)) (some 26) rfl ?_
  refine pl_val (want_on 5 false rfl 21 rfl (by kernel_rfl)) (some 27) rfl (.bool false) (fun _ => by kernel_rfl) ?_
  refine pl_val (want_no rfl) (some 28) rfl (.bool false) (fun _ => by kernel_rfl) ?_
  refine pl_nil ?_
  refine au_then ?_
  refine wp_cond_false (by kernel_rfl) ?_
  refine wp_skip ?_
  refine au_then ?_
  refine wp_seq ?_
  refine rg_lit ?_
  refine pl_val (want_no rfl) (some 31) rfl (.string key) (fun _ => by kernel_rfl) ?_
  refine pl_val (want_no rfl) (some 32) rfl (.string s) (fun _ => by kernel_rfl) ?_
  refine pl_val (want_no rfl) (some 33) rfl (.int .i64 (n : Int)) (fun _ => by kernel_rfl) ?_
  refine pl_call M (want_no rfl) (some 34) rfl 11 #[.string key, .string s, .int .i64 (n : Int)] (.tuple #[.string (exV key s n), .int .i64 0]) (fun _ => by kernel_rfl) (fun w M => c_exp key s (by omega) n (by omega) w M.laid) ?_
  intro u3 M
  refine pl_val (want_no rfl) (some 30) rfl (.tuple #[.string (exV key s n), .int .i64 0]) (fun _ => by kernel_rfl) ?_
  refine pl_val (want_no rfl) (some 35) rfl (.string (exV key s n)) (fun _ => by kernel_rfl) ?_
  refine pl_val (want_no rfl) (some 36) rfl (.int .i64 0) (fun _ => by kernel_rfl) ?_
  refine pl_val (want_no rfl) (some 7) rfl (.string (exV key s n)) (fun _ => by kernel_rfl) ?_
  refine pl_val (want_no rfl) (some 8) rfl (.int .i64 0) (fun _ => by kernel_rfl) ?_
  refine pl_nil ?_
  refine au_then ?_
  refine wp_seq ?_
  refine rg_lit ?_
  refine pl_val (want_no rfl) (some 38) rfl (.string key) (fun _ => by kernel_rfl) ?_
  refine pl_val (want_no rfl) (some 39) rfl (.string s) (fun _ => by kernel_rfl) ?_
  refine pl_val (want_no rfl) (some 40) rfl (.int .i64 (n : Int)) (fun _ => by kernel_rfl) ?_
  refine pl_call M (want_no rfl) (some 41) rfl 12 #[.string key, .string s, .int .i64 (n : Int)] (.tuple #[.string (exV key s n), .int .i64 0]) (fun _ => by kernel_rfl) (fun w M => d_exp key s (by omega) (by omega) n (by omega) w M.laid) ?_
  intro u4 M
  refine pl_val (want_no rfl) (some 37) rfl (.tuple #[.string (exV key s n), .int .i64 0]) (fun _ => by kernel_rfl) ?_
  refine pl_val (want_no rfl) (some 42) rfl (.string (exV key s n)) (fun _ => by kernel_rfl) ?_
  refine pl_val (want_no rfl) (some 43) rfl (.int .i64 0) (fun _ => by kernel_rfl) ?_
  refine pl_val (want_no rfl) (some 9) rfl (.string (exV key s n)) (fun _ => by kernel_rfl) ?_
  refine pl_val (want_no rfl) (some 10) rfl (.int .i64 0) (fun _ => by kernel_rfl) ?_
  refine pl_nil ?_
  refine au_then ?_
  refine wp_seq ?_
  refine rg_lit ?_
  refine pl_val (want_no rfl) (some 45) rfl (.string key) (fun _ => by kernel_rfl) ?_
  refine pl_val (want_no rfl) (some 46) rfl (.string s) (fun _ => by kernel_rfl) ?_
  refine pl_val (want_no rfl) (some 47) rfl (.int .i64 (n : Int)) (fun _ => by kernel_rfl) ?_
  refine pl_calln M (want_no rfl) (some 48) rfl 13 #[.string key, .string s, .int .i64 (n : Int)] (fun g2 => .tuple #[.slice (some ⟨g2, 0, none⟩) n n, .int .i64 0]) (.cells (av n (ws (txt key s))) 9) (fun _ => by kernel_rfl) (fun w M => c_ch key s (by omega) n h1 h2 w M.laid) ?_
  intro g2 u5 M
  replace M : Mem ⟨w, []⟩ [⟨g1, .cells (av 2 (ws (p2 key s))) 9⟩, ⟨g2, .cells (av n (ws (txt key s))) 9⟩] u5 := M
  refine pl_val (want_no rfl) (some 44) rfl (.tuple #[.slice (some ⟨g2, 0, none⟩) n n, .int .i64 0]) (fun _ => by kernel_rfl) ?_
  refine pl_val (want_no rfl) (some 49) rfl (.slice (some ⟨g2, 0, none⟩) n n) (fun _ => by kernel_rfl) ?_
  refine pl_val (want_no rfl) (some 50) rfl (.int .i64 0) (fun _ => by kernel_rfl) ?_
  refine pl_val (want_no rfl) (some 11) rfl (.slice (some ⟨g2, 0, none⟩) n n) (fun _ => by kernel_rfl) ?_
  refine pl_val (want_no rfl) (some 12) rfl (.int .i64 0) (fun _ => by kernel_rfl) ?_
  refine pl_nil ?_
  refine au_then ?_
  refine wp_seq ?_
  refine rg_lit ?_
  refine pl_val (want_no rfl) (some 52) rfl (.string key) (fun _ => by kernel_rfl) ?_
  refine pl_val (want_no rfl) (some 53) rfl (.string s) (fun _ => by kernel_rfl) ?_
  refine pl_val (want_no rfl) (some 54) rfl (.int .i64 (n : Int)) (fun _ => by kernel_rfl) ?_
  refine pl_callg M (want_no rfl) (some 55) rfl 14 #[.string key, .string s, .int .i64 (n : Int)] (fun g cap => .tuple #[.slice (some ⟨g, 0, none⟩) n cap, .int .i64 0]) (fun cap Y => SB Y cap (vtx (txt key s) n)) (fun _ => by kernel_rfl) (fun w M => d_ch key s (by omega) (by omega) n h1 h2 w M.laid) ?_
  intro gq capq Zq u6 hZq M
  replace M : Mem ⟨w, []⟩ [⟨g1, .cells (av 2 (ws (p2 key s))) 9⟩, ⟨g2, .cells (av n (ws (txt key s))) 9⟩, ⟨gq, Zq⟩] u6 := M
  refine pl_val (want_no rfl) (some 51) rfl (.tuple #[.slice (some ⟨gq, 0, none⟩) n capq, .int .i64 0]) (fun _ => by kernel_rfl) ?_
  refine pl_val (want_no rfl) (some 56) rfl (.slice (some ⟨gq, 0, none⟩) n capq) (fun _ => by kernel_rfl) ?_
  refine pl_val (want_no rfl) (some 57) rfl (.int .i64 0) (fun _ => by kernel_rfl) ?_
  refine pl_val (want_no rfl) (some 13) rfl (.slice (some ⟨gq, 0, none⟩) n capq) (fun _ => by kernel_rfl) ?_
  refine pl_val (want_no rfl) (some 14) rfl (.int .i64 0) (fun _ => by kernel_rfl) ?_
  refine pl_nil ?_
  refine au_then ?_
  refine wp_seq ?_
  refine wp_seq ?_
  refine rg_lit ?_
  refine pl_val (want_no rfl) (some 58) rfl (.string (exV key s n)) (fun _ => by kernel_rfl) ?_
  refine pl_val (want_no rfl) (some 59) rfl (.string (exV key s n)) (fun _ => by kernel_rfl) ?_
  refine pl_val (want_no rfl) (some 60) rfl (.bool false) (fun w => Eq.trans (b := .ok (.value (.bool (!((exV key s n).toList == (exV key s n).toList)))) w) (by kernel_rfl) (by rw [beq_self_eq_true]; rfl)) ?_
  refine pl_val (want_no rfl) (some 61) rfl (.bool false) (fun _ => by kernel_rfl) ?_
  refine pl_val (want_on 3 false rfl 61 rfl (by kernel_rfl)) (some 62) rfl (.int .i64 0) (fun _ => by kernel_rfl) ?_
  refine pl_val (want_on 3 false rfl 61 rfl (by kernel_rfl)) (some 63) rfl (.int .i64 0) (fun _ => by kernel_rfl) ?_
  refine pl_val (want_on 3 false rfl 61 rfl (by kernel_rfl)) (some 64) rfl (.bool false) (fun _ => by kernel_rfl) ?_
  refine pl_val (want_no rfl) (some 65) rfl (.bool false) (fun _ => by kernel_rfl) ?_
  refine pl_val (want_no rfl) (some 66) rfl (.bool false) (fun _ => by kernel_rfl) ?_
  refine pl_val (want_on 8 false rfl 66 rfl (by kernel_rfl)) (some 67) rfl (.int .i64 0) (fun _ => by kernel_rfl) ?_
  refine pl_val (want_on 8 false rfl 66 rfl (by kernel_rfl)) (some 68) rfl (.int .i64 0) (fun _ => by kernel_rfl) ?_
  refine pl_val (want_on 8 false rfl 66 rfl (by kernel_rfl)) (some 69) rfl (.bool false) (fun _ => by kernel_rfl) ?_
  refine pl_val (want_no rfl) (some 70) rfl (.bool false) (fun _ => by kernel_rfl) ?_
  refine pl_val (want_no rfl) (some 71) rfl (.bool false) (fun _ => by kernel_rfl) ?_
  refine pl_val (want_on 13 false rfl 71 rfl (by kernel_rfl)) (some 72) rfl (.slice (some ⟨g2, 0, none⟩) n n) (fun _ => by kernel_rfl) ?_
  refine pl_val (want_on 13 false rfl 71 rfl (by kernel_rfl)) (some 73) rfl (.int .i64 (n : Int)) (fun _ => by kernel_rfl) ?_
  refine pl_val (want_on 13 false rfl 71 rfl (by kernel_rfl)) (some 74) rfl (.slice (some ⟨gq, 0, none⟩) n capq) (fun _ => by kernel_rfl) ?_
  refine pl_val (want_on 13 false rfl 71 rfl (by kernel_rfl)) (some 75) rfl (.int .i64 (n : Int)) (fun _ => by kernel_rfl) ?_
  refine pl_val (want_on 13 false rfl 71 rfl (by kernel_rfl)) (some 76) rfl (.bool false) (fun w => Eq.trans (b := .ok (.value (.bool (!(decide ((n : Int) = (n : Int)))))) w) (by kernel_rfl) (by rw [decide_eq_true (rfl)]; rfl)) ?_
  refine pl_val (want_no rfl) (some 77) rfl (.bool false) (fun _ => by kernel_rfl) ?_
  refine pl_nil ?_
  refine au_then ?_
  refine wp_cond_false (by kernel_rfl) ?_
  refine wp_skip ?_
  refine au_then ?_
  refine wp_seq ?_
  refine wp_seq ?_
  refine rg_lit ?_
  refine pl_val (want_no rfl) (some 15) rfl (.int .i64 0) (fun _ => by kernel_rfl) ?_
  refine pl_nil ?_
  refine au_then ?_
  refine wp_block ?_
  refine au_loop (fun j a w' => ∃ v1 : Nat → Value, a = ⟨#[.string key, .string s, .int .i64 (n : Int), undef, undef, undef, v1 6, .string (exV key s n), .int .i64 0, .string (exV key s n), .int .i64 0, .slice (some ⟨g2, 0, none⟩) n n, .int .i64 0, .slice (some ⟨gq, 0, none⟩) n capq, .int .i64 0, .int .i64 (j : Int), .string key, .string s, .slice (some ⟨g1, 0, none⟩) 2 2, .bool true, .bool false, .bool false, .int .i64 (n : Int), .bool false, .bool false, undef, undef, .bool false, .bool false, undef, .tuple #[.string (exV key s n), .int .i64 0], .string key, .string s, .int .i64 (n : Int), .tuple #[.string (exV key s n), .int .i64 0], .string (exV key s n), .int .i64 0, .tuple #[.string (exV key s n), .int .i64 0], .string key, .string s, .int .i64 (n : Int), .tuple #[.string (exV key s n), .int .i64 0], .string (exV key s n), .int .i64 0, .tuple #[.slice (some ⟨g2, 0, none⟩) n n, .int .i64 0], .string key, .string s, .int .i64 (n : Int), .tuple #[.slice (some ⟨g2, 0, none⟩) n n, .int .i64 0], .slice (some ⟨g2, 0, none⟩) n n, .int .i64 0, .tuple #[.slice (some ⟨gq, 0, none⟩) n capq, .int .i64 0], .string key, .string s, .int .i64 (n : Int), .tuple #[.slice (some ⟨gq, 0, none⟩) n capq, .int .i64 0], .slice (some ⟨gq, 0, none⟩) n capq, .int .i64 0, .string (exV key s n), .string (exV key s n), .bool false, .bool false, .int .i64 0, .int .i64 0, .bool false, .bool false, .bool false, .int .i64 0, .int .i64 0, .bool false, .bool false, .bool false, .slice (some ⟨g2, 0, none⟩) n n, .int .i64 (n : Int), .slice (some ⟨gq, 0, none⟩) n capq, .int .i64 (n : Int), .bool false, .bool false, v1 78, v1 79, v1 80, v1 81, v1 82, v1 83, v1 84, v1 85, v1 86, v1 87, v1 88, v1 89, v1 90, v1 91, v1 92, undef], []⟩ ∧ Mem ⟨w, []⟩ [⟨g1, .cells (av 2 (ws (p2 key s))) 9⟩, ⟨g2, .cells (av n (ws (txt key s))) 9⟩, ⟨gq, Zq⟩] w') n ⟨fun k_ => ([.bool false, undef, undef, undef, undef, undef, undef, undef, undef, undef, undef, undef, undef, undef, undef, undef, undef, undef, undef, undef, undef, undef, undef, undef, undef, undef, undef, undef, undef, undef, undef, undef, undef, undef, undef, undef, undef, undef, undef, undef, undef, undef, undef, undef, undef, undef, undef, undef, undef, undef, undef, undef, undef, undef, undef, undef, undef, undef, undef, undef, undef, undef, undef, undef, undef, undef, undef, undef, undef, undef, undef, undef, undef, undef, undef, undef, undef, undef, undef, undef, undef, undef, undef, undef, undef, undef, undef] : List Value).getD (k_ - 6) undef, by kernel_rfl, M⟩ ?_ ?_
  · intro j a u0 hj hI
    obtain ⟨v1, rfl, M⟩ := hI
    refine wp_seq ?_
    refine wp_seq ?_
    refine rg_lit ?_
    refine pl_val (want_no rfl) (some 78) rfl (.int .i64 (j : Int)) (fun _ => by kernel_rfl) ?_
    refine pl_val (want_no rfl) (some 79) rfl (.slice (some ⟨g2, 0, none⟩) n n) (fun _ => by kernel_rfl) ?_
    refine pl_val (want_no rfl) (some 80) rfl (.int .i64 (n : Int)) (fun _ => by kernel_rfl) ?_
    refine pl_val (want_no rfl) (some 81) rfl (.bool true) (fun w => Eq.trans (b := .ok (.value (.bool (decide ((j : Int) < (n : Int))))) w) (by kernel_rfl) (by rw [decide_eq_true (by omega)])) ?_
    refine pl_nil ?_
    refine au_then ?_
    refine wp_cond_true (by kernel_rfl) ?_
    refine wp_skip ?_
    refine au_then ?_
    refine wp_seq ?_
    refine wp_block ?_
    refine wp_seq ?_
    refine rg_tail M 8 (by kernel_rfl) (by kernel_rfl) ?_
    simp only [List.take_succ_cons, List.take_zero]
    refine k_val (want_no rfl) (some 84) rfl (.slice (some ⟨g2, 0, none⟩) n n) (fun _ => by kernel_rfl) ?_
    refine k_val (want_no rfl) (some 85) rfl (.int .i64 (j : Int)) (fun _ => by kernel_rfl) ?_
    refine k_val (want_no rfl) (some 86) rfl (.pointer (some ⟨g2, j, none⟩)) (run_ix0 31 9 Tryd.underlying31 inz9 _ _ rfl g2 n n (by kernel_rfl) .i64 j (by kernel_rfl) (by omega)) ?_
    refine k_cell M (want_no rfl) (some 87) rfl 9 _ rfl g2 j (by kernel_rfl) (.string ((txt key s) j)) (fun _ => by kernel_rfl) (fun w M => M.cell 1 rfl (by omega) rfl) ?_
    refine k_val (want_no rfl) (some 88) rfl (.slice (some ⟨gq, 0, none⟩) n capq) (fun _ => by kernel_rfl) ?_
    refine k_val (want_no rfl) (some 89) rfl (.int .i64 (j : Int)) (fun _ => by kernel_rfl) ?_
    refine k_val (want_no rfl) (some 90) rfl (.pointer (some ⟨gq, j, none⟩)) (run_ix0 31 9 Tryd.underlying31 inz9 _ _ rfl gq n capq (by kernel_rfl) .i64 j (by kernel_rfl) (by omega)) ?_
    refine k_cell M (want_no rfl) (some 91) rfl 9 _ rfl gq j (by kernel_rfl) (.string ((txt key s) j)) (fun _ => by kernel_rfl) (fun w M => hZq.cell (M.get 2 rfl) (vtx_get _ _ _ (by omega))) ?_
    refine kl_nil ?_
    intro u7 M
    replace M : Mem ⟨w, []⟩ [⟨g1, .cells (av 2 (ws (p2 key s))) 9⟩, ⟨g2, .cells (av n (ws (txt key s))) 9⟩, ⟨gq, Zq⟩] u7 := M
    refine pl_val (want_no rfl) (some 92) rfl (.bool false) (fun w => Eq.trans (b := .ok (.value (.bool (!(((txt key s) j).toList == ((txt key s) j).toList)))) w) (by kernel_rfl) (by rw [beq_self_eq_true]; rfl)) ?_
    refine pl_nil ?_
    refine au_then ?_
    refine wp_cond_false (by kernel_rfl) ?_
    refine wp_skip ?_
    refine au_block ?_
    refine au_then ?_
    refine rg_lit ?_
    refine pl_val (want_no rfl) (some 82) rfl (.int .i64 (j : Int)) (fun _ => by kernel_rfl) ?_
    refine pl_val (want_no rfl) (some 83) rfl (.int .i64 ((j + 1 : Nat) : Int)) (fun w => Eq.trans (b := .ok (.value (.int .i64 (IntKind.wrap .i64 ((j : Int) + 1)))) w) (by kernel_rfl) (by rw [wrap64 (by omega) (by omega)]; congr 3)) ?_
    refine pl_val (want_no rfl) (some 15) rfl (.int .i64 ((j + 1 : Nat) : Int)) (fun _ => by kernel_rfl) ?_
    refine pl_nil ?_
    refine au_then ?_
    exact ⟨fun k_ => ([v1 6, undef, undef, undef, undef, undef, undef, undef, undef, undef, undef, undef, undef, undef, undef, undef, undef, undef, undef, undef, undef, undef, undef, undef, undef, undef, undef, undef, undef, undef, undef, undef, undef, undef, undef, undef, undef, undef, undef, undef, undef, undef, undef, undef, undef, undef, undef, undef, undef, undef, undef, undef, undef, undef, undef, undef, undef, undef, undef, undef, undef, undef, undef, undef, undef, undef, undef, undef, undef, undef, undef, undef, .int .i64 (j : Int), .slice (some ⟨g2, 0, none⟩) n n, .int .i64 (n : Int), .bool true, .int .i64 (j : Int), .int .i64 ((j + 1 : Nat) : Int), .slice (some ⟨g2, 0, none⟩) n n, .int .i64 (j : Int), .pointer (some ⟨g2, j, none⟩), .string ((txt key s) j), .slice (some ⟨gq, 0, none⟩) n capq, .int .i64 (j : Int), .pointer (some ⟨gq, j, none⟩), .string ((txt key s) j), .bool false] : List Value).getD (k_ - 6) undef, by kernel_rfl, M⟩
  · intro a u0 hI
    obtain ⟨v1, rfl, M⟩ := hI
    refine wp_seq ?_
    refine wp_seq ?_
    refine rg_lit ?_
    refine pl_val (want_no rfl) (some 78) rfl (.int .i64 (n : Int)) (fun _ => by kernel_rfl) ?_
    refine pl_val (want_no rfl) (some 79) rfl (.slice (some ⟨g2, 0, none⟩) n n) (fun _ => by kernel_rfl) ?_
    refine pl_val (want_no rfl) (some 80) rfl (.int .i64 (n : Int)) (fun _ => by kernel_rfl) ?_
    refine pl_val (want_no rfl) (some 81) rfl (.bool false) (fun w => Eq.trans (b := .ok (.value (.bool (decide ((n : Int) < (n : Int))))) w) (by kernel_rfl) (by rw [decide_eq_false (by omega)])) ?_
    refine pl_nil ?_
    refine au_then ?_
    refine wp_cond_false (by kernel_rfl) ?_
    refine wp_exit ?_
    refine au_then_exit ?_
    refine au_then_exit ?_
    refine au_block_exit ?_
    refine au_then ?_
    refine wp_seq ?_
    refine rg_lit ?_
    refine pl_call M (want_no rfl) (some 93) rfl 7 #[] (.bool true) (fun _ => by kernel_rfl) (fun w M => c_alive w M.laid) ?_
    intro u8 M
    refine pl_val (want_no rfl) (some 6) rfl (.bool true) (fun _ => by kernel_rfl) ?_
    refine pl_nil ?_
    refine au_then ?_
    refine wp_ret ?_
    exact bodyPost_ret (v := .bool true) (results_tmp1 Tryd.results4 _ _ _ (by kernel_rfl)) (by kernel_rfl) ⟨rfl, below_grown M.old⟩

theorem c_kdfkeys (key s : ByteArray) (hk : key.size ≤ 140737488351232) (hs : s.size ≤ 140737488351232) (n : Int) (w : World) (hL : Laid w) : Calls Tryd.prog 4 #[.string key, .string s, .int .i64 n] w fun r w' => r = .returned (.bool true) ∧ Below w.heap.size w w' := by
  by_cases h : key.size + s.size ≤ 2048
  · by_cases h1 : n < 0
    · exact kkC key s hk hs n h h1 w hL
    · by_cases h2 : 8160 < n
      · exact kkD key s hk hs n h h2 w hL
      · by_cases h3 : 512 < n
        · exact kkB key s hk hs n h h3 (by omega) w hL
        · obtain ⟨m, rfl⟩ : ∃ m : Nat, n = (m : Int) := ⟨n.toNat, by omega⟩
          by_cases h4 : 1 ≤ m ∧ m ≤ 3
          · exact kkF key s hk hs m h h4.1 h4.2 w hL
          · exact kkE key s hk hs m h (by omega) h4 w hL
  · exact kkA key s hk hs n h w hL

end Go.Proofs.YtpfneekmbednoaaDoor
