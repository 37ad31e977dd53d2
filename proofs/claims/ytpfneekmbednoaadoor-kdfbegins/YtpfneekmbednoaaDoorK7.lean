/- The walk of KdfBegins. -/
import Derived.Test.YtpfneekmbednoaaDoorK5
namespace Go.Proofs.YtpfneekmbednoaaDoor
open Go.RowKit

/-- The nine lowest bits. -/
def an (x : Int) : Int := IntKind.wrap .i64 (BitVec.ofInt 64 x &&& BitVec.ofInt 64 511).toNat
theorem an_ex (x : Int) : ∃ k : Nat, k ≤ 511 ∧ an x = (k : Int) := by
  refine ⟨(BitVec.ofInt 64 x &&& BitVec.ofInt 64 511).toNat, ?_, ?_⟩
  · rw [BitVec.toNat_and]
    exact Nat.le_trans Nat.and_le_right (by decide)
  · have h : (BitVec.ofInt 64 x &&& BitVec.ofInt 64 511).toNat ≤ 511 := by
      rw [BitVec.toNat_and]
      exact Nat.le_trans Nat.and_le_right (by decide)
    unfold an
    rw [wrap64 (by omega) (by omega)]

set_option maxRecDepth 100000 in
set_option maxHeartbeats 4000000 in
theorem kbA (x y : Int) (key s : ByteArray) (hk : key.size ≤ 140737488351232) (hs : s.size ≤ 140737488351232) (n m : Nat) (hx : an x = (n : Int)) (hy : an y = (m : Int)) (h : ¬ key.size + s.size ≤ 2048) (w : World) (hL : Laid w)  :
    Calls Tryd.prog 5 #[.string key, .string s, .int .i64 x, .int .i64 y] w fun r w' => r = .returned (.bool true) ∧ Below w.heap.size w w' := by
  go_enter Tryd.func5, Tryd.ntmps5
  have M := Mem.start hL
  refine wp_seq ?_
  refine rg_lit ?_
  refine pl_val (want_no rfl) (some 8) rfl (.bool false) (fun _ => by kernel_rfl) ?_
  refine pl_nil ?_
  refine au_then ?_
  refine wp_seq ?_
  refine rg_lit ?_
  refine pl_val (want_no rfl) (some 19) rfl (.int .i64 x) (fun _ => by kernel_rfl) ?_
  refine pl_val (want_no rfl) (some 20) rfl (.int .i64 (n : Int)) (fun w => Eq.trans (b := .ok (.value (.int .i64 (an x))) w) (by kernel_rfl) (by rw [hx])) ?_
  refine pl_val (want_no rfl) (some 2) rfl (.int .i64 (n : Int)) (fun _ => by kernel_rfl) ?_
  refine pl_nil ?_
  refine au_then ?_
  refine wp_seq ?_
  refine rg_lit ?_
  refine pl_val (want_no rfl) (some 21) rfl (.int .i64 y) (fun _ => by kernel_rfl) ?_
  refine pl_val (want_no rfl) (some 22) rfl (.int .i64 (m : Int)) (fun w => Eq.trans (b := .ok (.value (.int .i64 (an y))) w) (by kernel_rfl) (by rw [hy])) ?_
  refine pl_val (want_no rfl) (some 3) rfl (.int .i64 (m : Int)) (fun _ => by kernel_rfl) ?_
  refine pl_nil ?_
  refine au_then ?_
  refine wp_seq ?_
  refine wp_seq ?_
  refine rg_lit ?_
  refine pl_val (want_no rfl) (some 23) rfl (.string key) (fun _ => by kernel_rfl) ?_
  refine pl_val (want_no rfl) (some 24) rfl (.string s) (fun _ => by kernel_rfl) ?_
  refine pl_mk M (want_no rfl) (some 25) rfl (fun g1 => .slice (some ⟨g1, 0, none⟩) 2 2) (.cells (av 2 (ws (p2 key s))) 9) (fun _ => by kernel_rfl) ?_
  intro g1 u1 M
  replace M : Mem ⟨w, []⟩ [⟨g1, .cells (av 2 (ws (p2 key s))) 9⟩] u1 := M
  refine pl_call M (want_no rfl) (some 26) rfl 6 #[.slice (some ⟨g1, 0, none⟩) 2 2] (.bool false) (fun _ => by kernel_rfl) (fun w M => c_small0 key s hk hs g1 h w M.laid (fun i hi => M.cell 0 rfl hi rfl)) ?_
  intro u2 M
  refine pl_val (want_no rfl) (some 27) rfl (.bool true) (fun _ => by kernel_rfl) ?_
  refine pl_nil ?_
  refine au_then ?_
  refine wp_cond_true (by kernel_rfl) ?_
  refine wp_seq ?_
  refine rg_lit ?_
  refine pl_call M (want_no rfl) (some 28) rfl 7 #[] (.bool true) (fun _ => by kernel_rfl) (fun w M => c_alive w M.laid) ?_
  intro u3 M
  refine pl_val (want_no rfl) (some 8) rfl (.bool true) (fun _ => by kernel_rfl) ?_
  refine pl_nil ?_
  refine au_then ?_
  refine wp_ret ?_
  refine au_then_ret ?_
  exact bodyPost_ret (v := .bool true) (results_tmp1 Tryd.results5 _ _ _ (by kernel_rfl)) (by kernel_rfl) ⟨rfl, below_grown M.old⟩

set_option maxRecDepth 100000 in
set_option maxHeartbeats 4000000 in
theorem kbB (x y : Int) (key s : ByteArray) (hk : key.size ≤ 140737488351232) (hs : s.size ≤ 140737488351232) (n m : Nat) (hx : an x = (n : Int)) (hy : an y = (m : Int)) (hn : n ≤ 511) (hm : m ≤ 511) (h : key.size + s.size ≤ 2048) (w : World) (hL : Laid w)  :
    Calls Tryd.prog 5 #[.string key, .string s, .int .i64 x, .int .i64 y] w fun r w' => r = .returned (.bool true) ∧ Below w.heap.size w w' := by
  go_enter Tryd.func5, Tryd.ntmps5
  have M := Mem.start hL
  refine wp_seq ?_
  refine rg_lit ?_
  refine pl_val (want_no rfl) (some 8) rfl (.bool false) (fun _ => by kernel_rfl) ?_
  refine pl_nil ?_
  refine au_then ?_
  refine wp_seq ?_
  refine rg_lit ?_
  refine pl_val (want_no rfl) (some 19) rfl (.int .i64 x) (fun _ => by kernel_rfl) ?_
  refine pl_val (want_no rfl) (some 20) rfl (.int .i64 (n : Int)) (fun w => Eq.trans (b := .ok (.value (.int .i64 (an x))) w) (by kernel_rfl) (by rw [hx])) ?_
  refine pl_val (want_no rfl) (some 2) rfl (.int .i64 (n : Int)) (fun _ => by kernel_rfl) ?_
  refine pl_nil ?_
  refine au_then ?_
  refine wp_seq ?_
  refine rg_lit ?_
  refine pl_val (want_no rfl) (some 21) rfl (.int .i64 y) (fun _ => by kernel_rfl) ?_
  refine pl_val (want_no rfl) (some 22) rfl (.int .i64 (m : Int)) (fun w => Eq.trans (b := .ok (.value (.int .i64 (an y))) w) (by kernel_rfl) (by rw [hy])) ?_
  refine pl_val (want_no rfl) (some 3) rfl (.int .i64 (m : Int)) (fun _ => by kernel_rfl) ?_
  refine pl_nil ?_
  refine au_then ?_
  refine wp_seq ?_
  refine wp_seq ?_
  refine rg_lit ?_
  refine pl_val (want_no rfl) (some 23) rfl (.string key) (fun _ => by kernel_rfl) ?_
  refine pl_val (want_no rfl) (some 24) rfl (.string s) (fun _ => by kernel_rfl) ?_
  refine pl_mk M (want_no rfl) (some 25) rfl (fun g1 => .slice (some ⟨g1, 0, none⟩) 2 2) (.cells (av 2 (ws (p2 key s))) 9) (fun _ => by kernel_rfl) ?_
  intro g1 u1 M
  replace M : Mem ⟨w, []⟩ [⟨g1, .cells (av 2 (ws (p2 key s))) 9⟩] u1 := M
  refine pl_call M (want_no rfl) (some 26) rfl 6 #[.slice (some ⟨g1, 0, none⟩) 2 2] (.bool true) (fun _ => by kernel_rfl) (fun w M => c_small1 key s hk hs g1 h w M.laid (fun i hi => M.cell 0 rfl hi rfl)) ?_
  intro u2 M
  refine pl_val (want_no rfl) (some 27) rfl (.bool false) (fun _ => by kernel_rfl) ?_
  refine pl_nil ?_
  refine au_then ?_
  refine wp_cond_false (by kernel_rfl) ?_
  refine wp_skip ?_
  refine au_then ?_
  refine wp_seq ?_
  refine rg_lit ?_
  refine pl_val (want_no rfl) (some 30) rfl (.string key) (fun _ => by kernel_rfl) ?_
  refine pl_val (want_no rfl) (some 31) rfl (.string s) (fun _ => by kernel_rfl) ?_
  refine pl_val (want_no rfl) (some 32) rfl (.int .i64 (n : Int)) (fun _ => by kernel_rfl) ?_
  refine pl_call M (want_no rfl) (some 33) rfl 11 #[.string key, .string s, .int .i64 (n : Int)] (.tuple #[.string (exV key s n), .int .i64 0]) (fun _ => by kernel_rfl) (fun w M => c_exp key s (by omega) n (by omega) w M.laid) ?_
  intro u3 M
  refine pl_val (want_no rfl) (some 29) rfl (.tuple #[.string (exV key s n), .int .i64 0]) (fun _ => by kernel_rfl) ?_
  refine pl_val (want_no rfl) (some 34) rfl (.string (exV key s n)) (fun _ => by kernel_rfl) ?_
  refine pl_val (want_no rfl) (some 35) rfl (.int .i64 0) (fun _ => by kernel_rfl) ?_
  refine pl_val (want_no rfl) (some 9) rfl (.string (exV key s n)) (fun _ => by kernel_rfl) ?_
  refine pl_val (want_no rfl) (some 10) rfl (.int .i64 0) (fun _ => by kernel_rfl) ?_
  refine pl_nil ?_
  refine au_then ?_
  refine wp_seq ?_
  refine rg_lit ?_
  refine pl_val (want_no rfl) (some 37) rfl (.string key) (fun _ => by kernel_rfl) ?_
  refine pl_val (want_no rfl) (some 38) rfl (.string s) (fun _ => by kernel_rfl) ?_
  refine pl_val (want_no rfl) (some 39) rfl (.int .i64 (n : Int)) (fun _ => by kernel_rfl) ?_
  refine pl_val (want_no rfl) (some 40) rfl (.int .i64 (m : Int)) (fun _ => by kernel_rfl) ?_
  refine pl_val (want_no rfl) (some 41) rfl (.int .i64 ((n + m : Nat) : Int)) (fun w => Eq.trans (b := .ok (.value (.int .i64 (IntKind.wrap .i64 ((n : Int) + (m : Int))))) w) (by kernel_rfl) (by rw [wrap64 (by omega) (by omega)]; congr 3 <;> omega)) ?_
  refine pl_call M (want_no rfl) (some 42) rfl 11 #[.string key, .string s, .int .i64 ((n + m : Nat) : Int)] (.tuple #[.string (exV key s (n + m)), .int .i64 0]) (fun _ => by kernel_rfl) (fun w M => c_exp key s (by omega) (n + m) (by omega) w M.laid) ?_
  intro u4 M
  refine pl_val (want_no rfl) (some 36) rfl (.tuple #[.string (exV key s (n + m)), .int .i64 0]) (fun _ => by kernel_rfl) ?_
  refine pl_val (want_no rfl) (some 43) rfl (.string (exV key s (n + m))) (fun _ => by kernel_rfl) ?_
  refine pl_val (want_no rfl) (some 44) rfl (.int .i64 0) (fun _ => by kernel_rfl) ?_
  refine pl_val (want_no rfl) (some 11) rfl (.string (exV key s (n + m))) (fun _ => by kernel_rfl) ?_
  refine pl_val (want_no rfl) (some 12) rfl (.int .i64 0) (fun _ => by kernel_rfl) ?_
  refine pl_nil ?_
  refine au_then ?_
  refine wp_seq ?_
  refine wp_seq ?_
  refine rg_lit ?_
  refine pl_val (want_no rfl) (some 45) rfl (.int .i64 0) (fun _ => by kernel_rfl) ?_
  refine pl_val (want_no rfl) (some 46) rfl (.bool false) (fun _ => by kernel_rfl) ?_
  refine pl_val (want_no rfl) (some 47) rfl (.bool false) (fun _ => by kernel_rfl) ?_
  refine pl_val (want_on 2 false rfl 47 rfl (by kernel_rfl)) (some 48) rfl (.int .i64 0) (fun _ => by kernel_rfl) ?_
  refine pl_val (want_on 2 false rfl 47 rfl (by kernel_rfl)) (some 49) rfl (.bool false) (fun _ => by kernel_rfl) ?_
  refine pl_val (want_no rfl) (some 50) rfl (.bool false) (fun _ => by kernel_rfl) ?_
  refine pl_val (want_no rfl) (some 51) rfl (.bool false) (fun _ => by kernel_rfl) ?_
  refine pl_val (want_on 6 false rfl 51 rfl (by kernel_rfl)) (some 52) rfl (.string (exV key s n)) (fun _ => by kernel_rfl) ?_
  refine pl_val (want_on 6 false rfl 51 rfl (by kernel_rfl)) (some 53) rfl (.int .i64 ((exV key s n).size : Int)) (fun _ => by kernel_rfl) ?_
  refine pl_val (want_on 6 false rfl 51 rfl (by kernel_rfl)) (some 54) rfl (.int .i64 (n : Int)) (fun _ => by kernel_rfl) ?_
  refine pl_val (want_on 6 false rfl 51 rfl (by kernel_rfl)) (some 55) rfl (.bool false) (fun w => Eq.trans (b := .ok (.value (.bool (!(decide (((exV key s n).size : Int) = (n : Int)))))) w) (by kernel_rfl) (by rw [decide_eq_true (by rw [exV_size])]; rfl)) ?_
  refine pl_val (want_no rfl) (some 56) rfl (.bool false) (fun _ => by kernel_rfl) ?_
  refine pl_val (want_no rfl) (some 57) rfl (.bool false) (fun _ => by kernel_rfl) ?_
  refine pl_val (want_on 12 false rfl 57 rfl (by kernel_rfl)) (some 58) rfl (.string (exV key s (n + m))) (fun _ => by kernel_rfl) ?_
  refine pl_val (want_on 12 false rfl 57 rfl (by kernel_rfl)) (some 59) rfl (.int .i64 ((exV key s (n + m)).size : Int)) (fun _ => by kernel_rfl) ?_
  refine pl_val (want_on 12 false rfl 57 rfl (by kernel_rfl)) (some 60) rfl (.int .i64 (n : Int)) (fun _ => by kernel_rfl) ?_
  refine pl_val (want_on 12 false rfl 57 rfl (by kernel_rfl)) (some 61) rfl (.int .i64 (m : Int)) (fun _ => by kernel_rfl) ?_
  refine pl_val (want_on 12 false rfl 57 rfl (by kernel_rfl)) (some 62) rfl (.int .i64 ((n + m : Nat) : Int)) (fun w => Eq.trans (b := .ok (.value (.int .i64 (IntKind.wrap .i64 ((n : Int) + (m : Int))))) w) (by kernel_rfl) (by rw [wrap64 (by omega) (by omega)]; congr 3 <;> omega)) ?_
  refine pl_val (want_on 12 false rfl 57 rfl (by kernel_rfl)) (some 63) rfl (.bool false) (fun w => Eq.trans (b := .ok (.value (.bool (!(decide (((exV key s (n + m)).size : Int) = ((n + m : Nat) : Int)))))) w) (by kernel_rfl) (by rw [decide_eq_true (by rw [exV_size])]; rfl)) ?_
  refine pl_val (want_no rfl) (some 64) rfl (.bool false) (fun _ => by kernel_rfl) ?_
  refine pl_val (want_no rfl) (some 65) rfl (.bool false) (fun _ => by kernel_rfl) ?_
  refine pl_val (want_on 20 false rfl 65 rfl (by kernel_rfl)) (some 66) rfl (.string (exV key s (n + m))) (fun _ => by kernel_rfl) ?_
  refine pl_val (want_on 20 false rfl 65 rfl (by kernel_rfl)) (some 67) rfl (.int .i64 (n : Int)) (fun _ => by kernel_rfl) ?_
  refine pl_val (want_on 20 false rfl 65 rfl (by kernel_rfl)) (some 68) rfl (.string (exV key s n)) (run_strh 9 Tryd.underlying9 _ _ rfl (exV key s (n + m)) (by kernel_rfl) .i64 n (by kernel_rfl) (by rw [exV_size]; omega) _ (ex_pre key s n m)) ?_
  refine pl_val (want_on 20 false rfl 65 rfl (by kernel_rfl)) (some 69) rfl (.string (exV key s n)) (fun _ => by kernel_rfl) ?_
  refine pl_val (want_on 20 false rfl 65 rfl (by kernel_rfl)) (some 70) rfl (.bool false) (fun w => Eq.trans (b := .ok (.value (.bool (!((exV key s n).toList == (exV key s n).toList)))) w) (by kernel_rfl) (by rw [beq_self_eq_true]; rfl)) ?_
  refine pl_val (want_no rfl) (some 71) rfl (.bool false) (fun _ => by kernel_rfl) ?_
  refine pl_nil ?_
  refine au_then ?_
  refine wp_cond_false (by kernel_rfl) ?_
  refine wp_skip ?_
  refine au_then ?_
  refine wp_seq ?_
  refine rg_lit ?_
  refine pl_val (want_no rfl) (some 73) rfl (.string key) (fun _ => by kernel_rfl) ?_
  refine pl_val (want_no rfl) (some 74) rfl (.string s) (fun _ => by kernel_rfl) ?_
  refine pl_calln M (want_no rfl) (some 75) rfl 13 #[.string key, .string s, .int .i64 3] (fun g2 => .tuple #[.slice (some ⟨g2, 0, none⟩) 3 3, .int .i64 0]) (.cells (av 3 (ws (txt key s))) 9) (fun _ => by kernel_rfl) (fun w M => c_ch key s (by omega) 3 (by decide) (by decide) w M.laid) ?_
  intro g2 u5 M
  replace M : Mem ⟨w, []⟩ [⟨g1, .cells (av 2 (ws (p2 key s))) 9⟩, ⟨g2, .cells (av 3 (ws (txt key s))) 9⟩] u5 := M
  refine pl_val (want_no rfl) (some 72) rfl (.tuple #[.slice (some ⟨g2, 0, none⟩) 3 3, .int .i64 0]) (fun _ => by kernel_rfl) ?_
  refine pl_val (want_no rfl) (some 76) rfl (.slice (some ⟨g2, 0, none⟩) 3 3) (fun _ => by kernel_rfl) ?_
  refine pl_val (want_no rfl) (some 77) rfl (.int .i64 0) (fun _ => by kernel_rfl) ?_
  refine pl_val (want_no rfl) (some 13) rfl (.slice (some ⟨g2, 0, none⟩) 3 3) (fun _ => by kernel_rfl) ?_
  refine pl_val (want_no rfl) (some 14) rfl (.int .i64 0) (fun _ => by kernel_rfl) ?_
  refine pl_nil ?_
  refine au_then ?_
  refine wp_seq ?_
  refine wp_seq ?_
  refine rg_lit ?_
  refine pl_val (want_no rfl) (some 78) rfl (.int .i64 0) (fun _ => by kernel_rfl) ?_
  refine pl_val (want_no rfl) (some 79) rfl (.bool false) (fun _ => by kernel_rfl) ?_
  refine pl_val (want_no rfl) (some 80) rfl (.bool false) (fun _ => by kernel_rfl) ?_
  refine pl_val (want_on 2 false rfl 80 rfl (by kernel_rfl)) (some 81) rfl (.slice (some ⟨g2, 0, none⟩) 3 3) (fun _ => by kernel_rfl) ?_
  refine pl_val (want_on 2 false rfl 80 rfl (by kernel_rfl)) (some 82) rfl (.int .i64 3) (fun _ => by kernel_rfl) ?_
  refine pl_val (want_on 2 false rfl 80 rfl (by kernel_rfl)) (some 83) rfl (.bool false) (fun _ => by kernel_rfl) ?_
  refine pl_val (want_no rfl) (some 84) rfl (.bool false) (fun _ => by kernel_rfl) ?_
  refine pl_nil ?_
  refine au_then ?_
  refine wp_cond_false (by kernel_rfl) ?_
  refine wp_skip ?_
  refine au_then ?_
  refine wp_seq ?_
  refine wp_seq ?_
  refine rg_lit ?_
  refine pl_val (want_no rfl) (some 15) rfl (.int .i64 1) (fun _ => by kernel_rfl) ?_
  refine pl_nil ?_
  refine au_then ?_
  refine wp_block ?_
  refine au_loop (fun j a w' => ∃ v1 : Nat → Value, a = ⟨#[.string key, .string s, .int .i64 (n : Int), .int .i64 (m : Int), undef, undef, undef, undef, v1 8, .string (exV key s n), .int .i64 0, .string (exV key s (n + m)), .int .i64 0, .slice (some ⟨g2, 0, none⟩) 3 3, .int .i64 0, .int .i64 ((j + 1 : Nat) : Int), v1 16, v1 17, v1 18, .int .i64 x, .int .i64 (n : Int), .int .i64 y, .int .i64 (m : Int), .string key, .string s, .slice (some ⟨g1, 0, none⟩) 2 2, .bool true, .bool false, undef, .tuple #[.string (exV key s n), .int .i64 0], .string key, .string s, .int .i64 (n : Int), .tuple #[.string (exV key s n), .int .i64 0], .string (exV key s n), .int .i64 0, .tuple #[.string (exV key s (n + m)), .int .i64 0], .string key, .string s, .int .i64 (n : Int), .int .i64 (m : Int), .int .i64 ((n + m : Nat) : Int), .tuple #[.string (exV key s (n + m)), .int .i64 0], .string (exV key s (n + m)), .int .i64 0, .int .i64 0, .bool false, .bool false, .int .i64 0, .bool false, .bool false, .bool false, .string (exV key s n), .int .i64 ((exV key s n).size : Int), .int .i64 (n : Int), .bool false, .bool false, .bool false, .string (exV key s (n + m)), .int .i64 ((exV key s (n + m)).size : Int), .int .i64 (n : Int), .int .i64 (m : Int), .int .i64 ((n + m : Nat) : Int), .bool false, .bool false, .bool false, .string (exV key s (n + m)), .int .i64 (n : Int), .string (exV key s n), .string (exV key s n), .bool false, .bool false, .tuple #[.slice (some ⟨g2, 0, none⟩) 3 3, .int .i64 0], .string key, .string s, .tuple #[.slice (some ⟨g2, 0, none⟩) 3 3, .int .i64 0], .slice (some ⟨g2, 0, none⟩) 3 3, .int .i64 0, .int .i64 0, .bool false, .bool false, .slice (some ⟨g2, 0, none⟩) 3 3, .int .i64 3, .bool false, .bool false, v1 85, v1 86, v1 87, v1 88, v1 89, v1 90, v1 91, v1 92, v1 93, v1 94, v1 95, v1 96, v1 97, v1 98, v1 99, v1 100, v1 101, v1 102, v1 103, v1 104, v1 105, v1 106, v1 107, v1 108, v1 109, v1 110, v1 111, v1 112, v1 113, v1 114, v1 115, v1 116, v1 117, undef], []⟩ ∧ Mem ⟨w, []⟩ [⟨g1, .cells (av 2 (ws (p2 key s))) 9⟩, ⟨g2, .cells (av 3 (ws (txt key s))) 9⟩] w') 2 ⟨fun k_ => ([.bool false, undef, undef, undef, undef, undef, undef, undef, undef, undef, undef, undef, undef, undef, undef, undef, undef, undef, undef, undef, undef, undef, undef, undef, undef, undef, undef, undef, undef, undef, undef, undef, undef, undef, undef, undef, undef, undef, undef, undef, undef, undef, undef, undef, undef, undef, undef, undef, undef, undef, undef, undef, undef, undef, undef, undef, undef, undef, undef, undef, undef, undef, undef, undef, undef, undef, undef, undef, undef, undef, undef, undef, undef, undef, undef, undef, undef, undef, undef, undef, undef, undef, undef, undef, undef, undef, undef, undef, undef, undef, undef, undef, undef, undef, undef, undef, undef, undef, undef, undef, undef, undef, undef, undef, undef, undef, undef, undef, undef, undef] : List Value).getD (k_ - 8) undef, by kernel_rfl, M⟩ ?_ ?_
  · intro j a u0 hj hI
    obtain ⟨v1, rfl, M⟩ := hI
    refine wp_seq ?_
    refine wp_seq ?_
    refine rg_lit ?_
    refine pl_val (want_no rfl) (some 85) rfl (.int .i64 ((j + 1 : Nat) : Int)) (fun _ => by kernel_rfl) ?_
    refine pl_val (want_no rfl) (some 86) rfl (.bool true) (fun w => Eq.trans (b := .ok (.value (.bool (decide (((j + 1 : Nat) : Int) < 3)))) w) (by kernel_rfl) (by rw [decide_eq_true (by omega)])) ?_
    refine pl_nil ?_
    refine au_then ?_
    refine wp_cond_true (by kernel_rfl) ?_
    refine wp_skip ?_
    refine au_then ?_
    refine wp_seq ?_
    refine wp_block ?_
    refine wp_seq ?_
    refine rg_lit ?_
    refine pl_val (want_no rfl) (some 90) rfl (.string key) (fun _ => by kernel_rfl) ?_
    refine pl_val (want_no rfl) (some 91) rfl (.string s) (fun _ => by kernel_rfl) ?_
    refine pl_val (want_no rfl) (some 92) rfl (.int .i64 ((j + 1 : Nat) : Int)) (fun _ => by kernel_rfl) ?_
    refine pl_calln M (want_no rfl) (some 93) rfl 13 #[.string key, .string s, .int .i64 ((j + 1 : Nat) : Int)] (fun g3 => .tuple #[.slice (some ⟨g3, 0, none⟩) (j + 1) (j + 1), .int .i64 0]) (.cells (av (j + 1) (ws (txt key s))) 9) (fun _ => by kernel_rfl) (fun w M => c_ch key s (by omega) (j + 1) (by omega) (by omega) w M.laid) ?_
    intro g3 u6 M
    replace M : Mem ⟨w, []⟩ [⟨g1, .cells (av 2 (ws (p2 key s))) 9⟩, ⟨g2, .cells (av 3 (ws (txt key s))) 9⟩, ⟨g3, .cells (av (j + 1) (ws (txt key s))) 9⟩] u6 := M
    refine pl_val (want_no rfl) (some 89) rfl (.tuple #[.slice (some ⟨g3, 0, none⟩) (j + 1) (j + 1), .int .i64 0]) (fun _ => by kernel_rfl) ?_
    refine pl_val (want_no rfl) (some 94) rfl (.slice (some ⟨g3, 0, none⟩) (j + 1) (j + 1)) (fun _ => by kernel_rfl) ?_
    refine pl_val (want_no rfl) (some 95) rfl (.int .i64 0) (fun _ => by kernel_rfl) ?_
    refine pl_val (want_no rfl) (some 16) rfl (.slice (some ⟨g3, 0, none⟩) (j + 1) (j + 1)) (fun _ => by kernel_rfl) ?_
    refine pl_val (want_no rfl) (some 17) rfl (.int .i64 0) (fun _ => by kernel_rfl) ?_
    refine pl_nil ?_
    refine au_then ?_
    refine wp_seq ?_
    refine wp_seq ?_
    refine rg_lit ?_
    refine pl_val (want_no rfl) (some 96) rfl (.int .i64 0) (fun _ => by kernel_rfl) ?_
    refine pl_val (want_no rfl) (some 97) rfl (.bool false) (fun _ => by kernel_rfl) ?_
    refine pl_val (want_no rfl) (some 98) rfl (.bool false) (fun _ => by kernel_rfl) ?_
    refine pl_val (want_on 2 false rfl 98 rfl (by kernel_rfl)) (some 99) rfl (.slice (some ⟨g3, 0, none⟩) (j + 1) (j + 1)) (fun _ => by kernel_rfl) ?_
    refine pl_val (want_on 2 false rfl 98 rfl (by kernel_rfl)) (some 100) rfl (.int .i64 (((j + 1) : Nat) : Int)) (fun _ => by kernel_rfl) ?_
    refine pl_val (want_on 2 false rfl 98 rfl (by kernel_rfl)) (some 101) rfl (.int .i64 ((j + 1 : Nat) : Int)) (fun _ => by kernel_rfl) ?_
    refine pl_val (want_on 2 false rfl 98 rfl (by kernel_rfl)) (some 102) rfl (.bool false) (fun w => Eq.trans (b := .ok (.value (.bool (!(decide (((j + 1 : Nat) : Int) = ((j + 1 : Nat) : Int)))))) w) (by kernel_rfl) (by rw [decide_eq_true (rfl)]; rfl)) ?_
    refine pl_val (want_no rfl) (some 103) rfl (.bool false) (fun _ => by kernel_rfl) ?_
    refine pl_nil ?_
    refine au_then ?_
    refine wp_cond_false (by kernel_rfl) ?_
    refine wp_skip ?_
    refine au_then ?_
    refine wp_seq ?_
    refine rg_lit ?_
    refine pl_val (want_no rfl) (some 18) rfl (.int .i64 0) (fun _ => by kernel_rfl) ?_
    refine pl_nil ?_
    refine au_then ?_
    refine wp_block ?_
    refine au_loop (fun i a w' => ∃ v2 : Nat → Value, a = ⟨#[.string key, .string s, .int .i64 (n : Int), .int .i64 (m : Int), undef, undef, undef, undef, v2 8, .string (exV key s n), .int .i64 0, .string (exV key s (n + m)), .int .i64 0, .slice (some ⟨g2, 0, none⟩) 3 3, .int .i64 0, .int .i64 ((j + 1 : Nat) : Int), .slice (some ⟨g3, 0, none⟩) (j + 1) (j + 1), .int .i64 0, .int .i64 (i : Int), .int .i64 x, .int .i64 (n : Int), .int .i64 y, .int .i64 (m : Int), .string key, .string s, .slice (some ⟨g1, 0, none⟩) 2 2, .bool true, .bool false, undef, .tuple #[.string (exV key s n), .int .i64 0], .string key, .string s, .int .i64 (n : Int), .tuple #[.string (exV key s n), .int .i64 0], .string (exV key s n), .int .i64 0, .tuple #[.string (exV key s (n + m)), .int .i64 0], .string key, .string s, .int .i64 (n : Int), .int .i64 (m : Int), .int .i64 ((n + m : Nat) : Int), .tuple #[.string (exV key s (n + m)), .int .i64 0], .string (exV key s (n + m)), .int .i64 0, .int .i64 0, .bool false, .bool false, .int .i64 0, .bool false, .bool false, .bool false, .string (exV key s n), .int .i64 ((exV key s n).size : Int), .int .i64 (n : Int), .bool false, .bool false, .bool false, .string (exV key s (n + m)), .int .i64 ((exV key s (n + m)).size : Int), .int .i64 (n : Int), .int .i64 (m : Int), .int .i64 ((n + m : Nat) : Int), .bool false, .bool false, .bool false, .string (exV key s (n + m)), .int .i64 (n : Int), .string (exV key s n), .string (exV key s n), .bool false, .bool false, .tuple #[.slice (some ⟨g2, 0, none⟩) 3 3, .int .i64 0], .string key, .string s, .tuple #[.slice (some ⟨g2, 0, none⟩) 3 3, .int .i64 0], .slice (some ⟨g2, 0, none⟩) 3 3, .int .i64 0, .int .i64 0, .bool false, .bool false, .slice (some ⟨g2, 0, none⟩) 3 3, .int .i64 3, .bool false, .bool false, .int .i64 ((j + 1 : Nat) : Int), .bool true, v1 87, v1 88, .tuple #[.slice (some ⟨g3, 0, none⟩) (j + 1) (j + 1), .int .i64 0], .string key, .string s, .int .i64 ((j + 1 : Nat) : Int), .tuple #[.slice (some ⟨g3, 0, none⟩) (j + 1) (j + 1), .int .i64 0], .slice (some ⟨g3, 0, none⟩) (j + 1) (j + 1), .int .i64 0, .int .i64 0, .bool false, .bool false, .slice (some ⟨g3, 0, none⟩) (j + 1) (j + 1), .int .i64 (((j + 1) : Nat) : Int), .int .i64 ((j + 1 : Nat) : Int), .bool false, .bool false, v2 104, v2 105, v2 106, v2 107, v2 108, v2 109, v2 110, v2 111, v2 112, v2 113, v2 114, v2 115, v2 116, v2 117, undef], []⟩ ∧ Mem ⟨w, []⟩ [⟨g1, .cells (av 2 (ws (p2 key s))) 9⟩, ⟨g2, .cells (av 3 (ws (txt key s))) 9⟩, ⟨g3, .cells (av (j + 1) (ws (txt key s))) 9⟩] w') (j + 1) ⟨fun k_ => ([v1 8, undef, undef, undef, undef, undef, undef, undef, undef, undef, undef, undef, undef, undef, undef, undef, undef, undef, undef, undef, undef, undef, undef, undef, undef, undef, undef, undef, undef, undef, undef, undef, undef, undef, undef, undef, undef, undef, undef, undef, undef, undef, undef, undef, undef, undef, undef, undef, undef, undef, undef, undef, undef, undef, undef, undef, undef, undef, undef, undef, undef, undef, undef, undef, undef, undef, undef, undef, undef, undef, undef, undef, undef, undef, undef, undef, undef, undef, undef, undef, undef, undef, undef, undef, undef, undef, undef, undef, undef, undef, undef, undef, undef, undef, undef, undef, v1 104, v1 105, v1 106, v1 107, v1 108, v1 109, v1 110, v1 111, v1 112, v1 113, v1 114, v1 115, v1 116, v1 117] : List Value).getD (k_ - 8) undef, by kernel_rfl, M⟩ ?_ ?_
    · intro i a u0 hj hI
      obtain ⟨v2, rfl, M⟩ := hI
      refine wp_seq ?_
      refine wp_seq ?_
      refine rg_lit ?_
      refine pl_val (want_no rfl) (some 104) rfl (.int .i64 (i : Int)) (fun _ => by kernel_rfl) ?_
      refine pl_val (want_no rfl) (some 105) rfl (.int .i64 ((j + 1 : Nat) : Int)) (fun _ => by kernel_rfl) ?_
      refine pl_val (want_no rfl) (some 106) rfl (.bool true) (fun w => Eq.trans (b := .ok (.value (.bool (decide ((i : Int) < ((j + 1 : Nat) : Int))))) w) (by kernel_rfl) (by rw [decide_eq_true (by omega)])) ?_
      refine pl_nil ?_
      refine au_then ?_
      refine wp_cond_true (by kernel_rfl) ?_
      refine wp_skip ?_
      refine au_then ?_
      refine wp_seq ?_
      refine wp_block ?_
      refine wp_seq ?_
      refine rg_tail M 8 (by kernel_rfl) (by kernel_rfl) ?_
      simp only [List.take_succ_cons, List.take_zero]
      refine k_val (want_no rfl) (some 109) rfl (.slice (some ⟨g3, 0, none⟩) (j + 1) (j + 1)) (fun _ => by kernel_rfl) ?_
      refine k_val (want_no rfl) (some 110) rfl (.int .i64 (i : Int)) (fun _ => by kernel_rfl) ?_
      refine k_val (want_no rfl) (some 111) rfl (.pointer (some ⟨g3, i, none⟩)) (run_ix0 31 9 Tryd.underlying31 inz9 _ _ rfl g3 (j + 1) (j + 1) (by kernel_rfl) .i64 i (by kernel_rfl) (by omega)) ?_
      refine k_cell M (want_no rfl) (some 112) rfl 9 _ rfl g3 i (by kernel_rfl) (.string ((txt key s) i)) (fun _ => by kernel_rfl) (fun w M => M.cell 2 rfl (by omega) rfl) ?_
      refine k_val (want_no rfl) (some 113) rfl (.slice (some ⟨g2, 0, none⟩) 3 3) (fun _ => by kernel_rfl) ?_
      refine k_val (want_no rfl) (some 114) rfl (.int .i64 (i : Int)) (fun _ => by kernel_rfl) ?_
      refine k_val (want_no rfl) (some 115) rfl (.pointer (some ⟨g2, i, none⟩)) (run_ix0 31 9 Tryd.underlying31 inz9 _ _ rfl g2 3 3 (by kernel_rfl) .i64 i (by kernel_rfl) (by omega)) ?_
      refine k_cell M (want_no rfl) (some 116) rfl 9 _ rfl g2 i (by kernel_rfl) (.string ((txt key s) i)) (fun _ => by kernel_rfl) (fun w M => M.cell 1 rfl (by omega) rfl) ?_
      refine kl_nil ?_
      intro u7 M
      replace M : Mem ⟨w, []⟩ [⟨g1, .cells (av 2 (ws (p2 key s))) 9⟩, ⟨g2, .cells (av 3 (ws (txt key s))) 9⟩, ⟨g3, .cells (av (j + 1) (ws (txt key s))) 9⟩] u7 := M
      refine pl_val (want_no rfl) (some 117) rfl (.bool false) (fun w => Eq.trans (b := .ok (.value (.bool (!(((txt key s) i).toList == ((txt key s) i).toList)))) w) (by kernel_rfl) (by rw [beq_self_eq_true]; rfl)) ?_
      refine pl_nil ?_
      refine au_then ?_
      refine wp_cond_false (by kernel_rfl) ?_
      refine wp_skip ?_
      refine au_block ?_
      refine au_then ?_
      refine rg_lit ?_
      refine pl_val (want_no rfl) (some 107) rfl (.int .i64 (i : Int)) (fun _ => by kernel_rfl) ?_
      refine pl_val (want_no rfl) (some 108) rfl (.int .i64 ((i + 1 : Nat) : Int)) (fun w => Eq.trans (b := .ok (.value (.int .i64 (IntKind.wrap .i64 ((i : Int) + 1)))) w) (by kernel_rfl) (by rw [wrap64 (by omega) (by omega)]; congr 3)) ?_
      refine pl_val (want_no rfl) (some 18) rfl (.int .i64 ((i + 1 : Nat) : Int)) (fun _ => by kernel_rfl) ?_
      refine pl_nil ?_
      refine au_then ?_
      exact ⟨fun k_ => ([v2 8, undef, undef, undef, undef, undef, undef, undef, undef, undef, undef, undef, undef, undef, undef, undef, undef, undef, undef, undef, undef, undef, undef, undef, undef, undef, undef, undef, undef, undef, undef, undef, undef, undef, undef, undef, undef, undef, undef, undef, undef, undef, undef, undef, undef, undef, undef, undef, undef, undef, undef, undef, undef, undef, undef, undef, undef, undef, undef, undef, undef, undef, undef, undef, undef, undef, undef, undef, undef, undef, undef, undef, undef, undef, undef, undef, undef, undef, undef, undef, undef, undef, undef, undef, undef, undef, undef, undef, undef, undef, undef, undef, undef, undef, undef, undef, .int .i64 (i : Int), .int .i64 ((j + 1 : Nat) : Int), .bool true, .int .i64 (i : Int), .int .i64 ((i + 1 : Nat) : Int), .slice (some ⟨g3, 0, none⟩) (j + 1) (j + 1), .int .i64 (i : Int), .pointer (some ⟨g3, i, none⟩), .string ((txt key s) i), .slice (some ⟨g2, 0, none⟩) 3 3, .int .i64 (i : Int), .pointer (some ⟨g2, i, none⟩), .string ((txt key s) i), .bool false] : List Value).getD (k_ - 8) undef, by kernel_rfl, M⟩
    · intro a u0 hI
      obtain ⟨v2, rfl, M⟩ := hI
      refine wp_seq ?_
      refine wp_seq ?_
      refine rg_lit ?_
      refine pl_val (want_no rfl) (some 104) rfl (.int .i64 ((j + 1) : Nat)) (fun _ => by kernel_rfl) ?_
      refine pl_val (want_no rfl) (some 105) rfl (.int .i64 ((j + 1 : Nat) : Int)) (fun _ => by kernel_rfl) ?_
      refine pl_val (want_no rfl) (some 106) rfl (.bool false) (fun w => Eq.trans (b := .ok (.value (.bool (decide (((j + 1 : Nat) : Int) < ((j + 1 : Nat) : Int))))) w) (by kernel_rfl) (by rw [decide_eq_false (by omega)])) ?_
      refine pl_nil ?_
      refine au_then ?_
      refine wp_cond_false (by kernel_rfl) ?_
      refine wp_exit ?_
      refine au_then_exit ?_
      refine au_then_exit ?_
      refine au_block_exit ?_
      refine au_block ?_
      refine au_then ?_
      refine rg_lit ?_
      refine pl_val (want_no rfl) (some 87) rfl (.int .i64 ((j + 1 : Nat) : Int)) (fun _ => by kernel_rfl) ?_
      refine pl_val (want_no rfl) (some 88) rfl (.int .i64 ((j + 1 + 1 : Nat) : Int)) (fun w => Eq.trans (b := .ok (.value (.int .i64 (IntKind.wrap .i64 (((j + 1 : Nat) : Int) + 1)))) w) (by kernel_rfl) (by rw [wrap64 (by omega) (by omega)]; congr 3 <;> omega)) ?_
      refine pl_val (want_no rfl) (some 15) rfl (.int .i64 ((j + 1 + 1 : Nat) : Int)) (fun _ => by kernel_rfl) ?_
      refine pl_nil ?_
      refine au_then ?_
      exact ⟨fun k_ => ([v2 8, undef, undef, undef, undef, undef, undef, undef, .slice (some ⟨g3, 0, none⟩) (j + 1) (j + 1), .int .i64 0, .int .i64 ((j + 1) : Nat), undef, undef, undef, undef, undef, undef, undef, undef, undef, undef, undef, undef, undef, undef, undef, undef, undef, undef, undef, undef, undef, undef, undef, undef, undef, undef, undef, undef, undef, undef, undef, undef, undef, undef, undef, undef, undef, undef, undef, undef, undef, undef, undef, undef, undef, undef, undef, undef, undef, undef, undef, undef, undef, undef, undef, undef, undef, undef, undef, undef, undef, undef, undef, undef, undef, undef, .int .i64 ((j + 1 : Nat) : Int), .bool true, .int .i64 ((j + 1 : Nat) : Int), .int .i64 ((j + 1 + 1 : Nat) : Int), .tuple #[.slice (some ⟨g3, 0, none⟩) (j + 1) (j + 1), .int .i64 0], .string key, .string s, .int .i64 ((j + 1 : Nat) : Int), .tuple #[.slice (some ⟨g3, 0, none⟩) (j + 1) (j + 1), .int .i64 0], .slice (some ⟨g3, 0, none⟩) (j + 1) (j + 1), .int .i64 0, .int .i64 0, .bool false, .bool false, .slice (some ⟨g3, 0, none⟩) (j + 1) (j + 1), .int .i64 (((j + 1) : Nat) : Int), .int .i64 ((j + 1 : Nat) : Int), .bool false, .bool false, .int .i64 ((j + 1) : Nat), .int .i64 ((j + 1 : Nat) : Int), .bool false, v2 107, v2 108, v2 109, v2 110, v2 111, v2 112, v2 113, v2 114, v2 115, v2 116, v2 117] : List Value).getD (k_ - 8) undef, by kernel_rfl, M.drop (.cons_cons _ (.cons_cons _ (.cons _ (.slnil))))⟩
  · intro a u0 hI
    obtain ⟨v1, rfl, M⟩ := hI
    refine wp_seq ?_
    refine wp_seq ?_
    refine rg_lit ?_
    refine pl_val (want_no rfl) (some 85) rfl (.int .i64 ((2 + 1 : Nat) : Int)) (fun _ => by kernel_rfl) ?_
    refine pl_val (want_no rfl) (some 86) rfl (.bool false) (fun w => Eq.trans (b := .ok (.value (.bool (decide (((2 + 1 : Nat) : Int) < 3)))) w) (by kernel_rfl) (by rw [decide_eq_false (by omega)])) ?_
    refine pl_nil ?_
    refine au_then ?_
    refine wp_cond_false (by kernel_rfl) ?_
    refine wp_exit ?_
    refine au_then_exit ?_
    refine au_then_exit ?_
    refine au_block_exit ?_
    refine au_then ?_
    refine wp_seq ?_
    refine rg_lit ?_
    refine pl_call M (want_no rfl) (some 118) rfl 7 #[] (.bool true) (fun _ => by kernel_rfl) (fun w M => c_alive w M.laid) ?_
    intro u8 M
    refine pl_val (want_no rfl) (some 8) rfl (.bool true) (fun _ => by kernel_rfl) ?_
    refine pl_nil ?_
    refine au_then ?_
    refine wp_ret ?_
    exact bodyPost_ret (v := .bool true) (results_tmp1 Tryd.results5 _ _ _ (by kernel_rfl)) (by kernel_rfl) ⟨rfl, below_grown M.old⟩

theorem c_kdfbegins (key s : ByteArray) (hk : key.size ≤ 140737488351232) (hs : s.size ≤ 140737488351232) (x y : Int) (w : World) (hL : Laid w) : Calls Tryd.prog 5 #[.string key, .string s, .int .i64 x, .int .i64 y] w fun r w' => r = .returned (.bool true) ∧ Below w.heap.size w w' := by
  obtain ⟨n, hn, hx⟩ := an_ex x
  obtain ⟨m, hm, hy⟩ := an_ex y
  by_cases h : key.size + s.size ≤ 2048
  · exact kbB x y key s hk hs n m hx hy hn hm h w hL
  · exact kbA x y key s hk hs n m hx hy h w hL

end Go.Proofs.YtpfneekmbednoaaDoor
