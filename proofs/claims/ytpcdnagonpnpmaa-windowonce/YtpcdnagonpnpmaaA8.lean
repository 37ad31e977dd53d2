/- Each number is marked once at most: WindowOnce. -/
import Derived.Test.YtpcdnagonpnpmaaA7
namespace Go.Proofs.Ytpcdnagonpnpmaa
open Go.RowKit

theorem my_iff (s : Nat) (q : List Nat) (n : Nat) (h0 : 0 < q.length) : my s q n = 0 ↔ ¬ n ∈ q ∧ ¬ (n < mx q ∧ s ≤ mx q - n) := by
  have hq : q ≠ [] := fun e => by subst e; simp at h0
  unfold my
  by_cases c1 : n < mx q ∧ s ≤ mx q - n
  · rw [if_pos ⟨hq, c1.1, c1.2⟩]
    exact ⟨fun h => (by cases h), fun h => absurd c1 h.2⟩
  · rw [if_neg (fun x => c1 x.2)]
    by_cases c2 : n ∈ q
    · rw [if_pos c2]
      exact ⟨fun h => (by cases h), fun h => absurd c2 h.1⟩
    · rw [if_neg c2]
      exact ⟨fun _ => ⟨c2, c1⟩, fun _ => rfl⟩
theorem take_in {q : List Nat} {n i : Nat} (hi : i < q.length) : n ∈ q.take (i + 1) ↔ n ∈ q.take i ∨ q.getD i 0 = n := by
  have e : q.take (i + 1) = q.take i ++ [q.getD i 0] := by
    rw [List.take_add_one]
    simp [hi]
  rw [e, List.mem_append, List.mem_singleton]
  exact ⟨fun h => h.imp id Eq.symm, fun h => h.imp id Eq.symm⟩
theorem mx_one (n : Nat) : max (0 : Int) ((n : Nat) : Int) = ((mx [n] : Nat) : Int) := by
  simp [mx]
theorem mx_more (q : List Nat) (n : Nat) : max ((mx q : Nat) : Int) ((n : Nat) : Int) = ((mx (q ++ [n]) : Nat) : Int) := by
  rw [mx_app]
  omega
set_option maxRecDepth 100000 in
set_option maxHeartbeats 4000000 in
set_option linter.unusedSimpArgs false in
theorem c_onceB (z : Int) (hz : z < 1 ∨ 4096 < z) (l0 : Option Addr) (len lc : Nat) (w : World) (hL : Laid w)  :
    Calls Try.prog 4 #[.int .i64 z, .slice l0 len lc] w fun r w' => r = .returned (.bool true) ∧ Below w.heap.size w w' := by
  go_enter Try.func4, Try.ntmps4
  have M := Mem.start hL
  refine wp_seq ?_
  refine rg_lit ?_
  refine pl_val (want_no rfl) (some 4) rfl (.bool false) (fun _ => by kernel_rfl) ?_
  refine pl_nil ?_
  refine au_then ?_
  refine wp_seq ?_
  refine rg_lit ?_
  refine pl_val (want_no rfl) (some 16) rfl (.int .i64 z) (fun _ => by kernel_rfl) ?_
  refine pl_call M (want_no rfl) (some 17) rfl 7 #[.int .i64 z] (.tuple #[.pointer none, .int .i64 2]) (fun _ => by kernel_rfl) (fun w M => c_NewE z hz w M.laid) ?_
  intro u1 M
  refine pl_val (want_no rfl) (some 15) rfl (.tuple #[.pointer none, .int .i64 2]) (fun _ => by kernel_rfl) ?_
  refine pl_val (want_no rfl) (some 18) rfl (.pointer none) (fun _ => by kernel_rfl) ?_
  refine pl_val (want_no rfl) (some 19) rfl (.int .i64 2) (fun _ => by kernel_rfl) ?_
  refine pl_val (want_no rfl) (some 5) rfl (.pointer none) (fun _ => by kernel_rfl) ?_
  refine pl_val (want_no rfl) (some 6) rfl (.int .i64 2) (fun _ => by kernel_rfl) ?_
  refine pl_nil ?_
  refine au_then ?_
  refine wp_seq ?_
  refine wp_seq ?_
  refine rg_lit ?_
  refine pl_val (want_no rfl) (some 20) rfl (.int .i64 2) (fun _ => by kernel_rfl) ?_
  refine pl_val (want_no rfl) (some 21) rfl (.bool true) (fun _ => by kernel_rfl) ?_
  refine pl_val (want_no rfl) (some 22) rfl (.bool true) (fun _ => by kernel_rfl) ?_
  refine pl_skip (want_off 2 false rfl 22 rfl (by kernel_rfl)) (some 23) rfl ?_
  refine pl_skip (want_off 2 false rfl 22 rfl (by kernel_rfl)) (some 24) rfl ?_
  refine pl_skip (want_off 2 false rfl 22 rfl (by kernel_rfl)) (some 25) rfl ?_
  refine pl_val (want_no rfl) (some 26) rfl (.bool true) (fun _ => by kernel_rfl) ?_
  refine pl_nil ?_
  refine au_then ?_
  refine wp_cond_true (by kernel_rfl) ?_
  refine wp_seq ?_
  refine rg_lit ?_
  refine pl_call M (want_no rfl) (some 27) rfl 6 #[] (.bool true) (fun _ => by kernel_rfl) (fun w M => c_alive w M.laid) ?_
  intro u2 M
  refine pl_val (want_no rfl) (some 4) rfl (.bool true) (fun _ => by kernel_rfl) ?_
  refine pl_nil ?_
  refine au_then ?_
  refine wp_ret ?_
  refine au_then_ret ?_
  exact bodyPost_ret (v := .bool true) (results_tmp1 Try.results4 _ _ _ (by kernel_rfl)) (by kernel_rfl) ⟨rfl, below_grown M.old⟩

set_option maxRecDepth 100000 in
set_option maxHeartbeats 4000000 in
set_option linter.unusedSimpArgs false in
theorem c_once (s : Nat) (hs : 1 ≤ s) (hs4 : s ≤ 4096) (l0 : Option Addr) (b o len lc : Nat) (X : Nat → Nat) (hl0 : 0 < len → l0 = some ⟨b, o, none⟩) (hX0 : ∀ j, j < len → X j < 18446744073709551616) (w : World) (hL : Laid w) (hX : ∀ j, j < len → w.cell? ⟨b, o + j * 1, none⟩ = some (.int .u64 ((X j : Nat) : Int))) :
    Calls Try.prog 4 #[.int .i64 (s : Int), .slice l0 len lc] w fun r w' => r = .returned (.bool true) ∧ Below w.heap.size w w' := by
  go_enter Try.func4, Try.ntmps4
  have M := Mem.start hL
  refine wp_seq ?_
  refine rg_lit ?_
  refine pl_val (want_no rfl) (some 4) rfl (.bool false) (fun _ => by kernel_rfl) ?_
  refine pl_nil ?_
  refine au_then ?_
  refine wp_seq ?_
  refine rg_lit ?_
  refine pl_val (want_no rfl) (some 16) rfl (.int .i64 (s : Int)) (fun _ => by kernel_rfl) ?_
  refine pl_callX (L := []) (T := []) (by simpa only [List.append_nil] using M) (want_no rfl) (some 17) rfl 7 #[.int .i64 (s : Int)] (fun x : Nat × Nat => .tuple #[.pointer (some ⟨x.1, 0, none⟩), .int .i64 0]) (fun x => [⟨x.1, .cells (av 3 (ls [.int .u64 (s : Int), .int .u64 0, .slice (some ⟨x.2, 0, none⟩) (nW s) (nW s)])) 44⟩, ⟨x.2, .cells (av (nW s) (w64 (fun _ => 0))) 23⟩]) (fun _ => True) (fun _ => by kernel_rfl) (fun w M => a_New s hs hs4 w M.laid) ?_
  rintro ⟨gw0, kw0⟩ u1 - M
  replace M : Mem ⟨w, []⟩ [⟨gw0, .cells (av 3 (ls [.int .u64 (s : Int), .int .u64 0, .slice (some ⟨kw0, 0, none⟩) (nW s) (nW s)])) 44⟩, ⟨kw0, .cells (av (nW s) (w64 (fun _ => 0))) 23⟩] u1 := M
  refine pl_val (want_no rfl) (some 15) rfl (.tuple #[.pointer (some ⟨gw0, 0, none⟩), .int .i64 0]) (fun _ => by kernel_rfl) ?_
  refine pl_val (want_no rfl) (some 18) rfl (.pointer (some ⟨gw0, 0, none⟩)) (fun _ => by kernel_rfl) ?_
  refine pl_val (want_no rfl) (some 19) rfl (.int .i64 0) (fun _ => by kernel_rfl) ?_
  refine pl_val (want_no rfl) (some 5) rfl (.pointer (some ⟨gw0, 0, none⟩)) (fun _ => by kernel_rfl) ?_
  refine pl_val (want_no rfl) (some 6) rfl (.int .i64 0) (fun _ => by kernel_rfl) ?_
  refine pl_nil ?_
  refine au_then ?_
  refine wp_seq ?_
  refine wp_seq ?_
  refine rg_lit ?_
  refine pl_val (want_no rfl) (some 20) rfl (.int .i64 0) (fun _ => by kernel_rfl) ?_
  refine pl_val (want_no rfl) (some 21) rfl (.bool false) (fun _ => by kernel_rfl) ?_
  refine pl_val (want_no rfl) (some 22) rfl (.bool false) (fun _ => by kernel_rfl) ?_
  refine pl_val (want_on 2 false rfl 22 rfl (by kernel_rfl)) (some 23) rfl (.slice l0 len lc) (fun _ => by kernel_rfl) ?_
  refine pl_val (want_on 2 false rfl 22 rfl (by kernel_rfl)) (some 24) rfl (.int .i64 (len : Int)) (fun _ => by kernel_rfl) ?_
  by_cases c0 : 300 < (len : Int)
  · skip
    refine pl_val (want_on 2 false rfl 22 rfl (by kernel_rfl)) (some 25) rfl (.bool true) (fun w => Eq.trans (b := .ok (.value (.bool (decide (300 < (len : Int))))) w) (by kernel_rfl) (by rw [decide_eq_true (c0)])) ?_
    refine pl_val (want_no rfl) (some 26) rfl (.bool true) (fun _ => by kernel_rfl) ?_
    refine pl_nil ?_
    refine au_then ?_
    refine wp_cond_true (by kernel_rfl) ?_
    refine wp_seq ?_
    refine rg_lit ?_
    refine pl_call M (want_no rfl) (some 27) rfl 6 #[] (.bool true) (fun _ => by kernel_rfl) (fun w M => c_alive w M.laid) ?_
    intro u2 M
    refine pl_val (want_no rfl) (some 4) rfl (.bool true) (fun _ => by kernel_rfl) ?_
    refine pl_nil ?_
    refine au_then ?_
    refine wp_ret ?_
    refine au_then_ret ?_
    exact bodyPost_ret (v := .bool true) (results_tmp1 Try.results4 _ _ _ (by kernel_rfl)) (by kernel_rfl) ⟨rfl, below_grown M.old⟩
  · skip
    refine pl_val (want_on 2 false rfl 22 rfl (by kernel_rfl)) (some 25) rfl (.bool false) (fun w => Eq.trans (b := .ok (.value (.bool (decide (300 < (len : Int))))) w) (by kernel_rfl) (by rw [decide_eq_false (c0)])) ?_
    refine pl_val (want_no rfl) (some 26) rfl (.bool false) (fun _ => by kernel_rfl) ?_
    refine pl_nil ?_
    refine au_then ?_
    refine wp_cond_false (by kernel_rfl) ?_
    refine wp_skip ?_
    refine au_then ?_
    refine wp_seq ?_
    refine rg_lit ?_
    refine pl_val (want_no rfl) (some 7) rfl (.int .u64 0) (fun _ => by kernel_rfl) ?_
    refine pl_nil ?_
    refine au_then ?_
    refine wp_seq ?_
    refine rg_lit ?_
    refine pl_val (want_no rfl) (some 8) rfl (.bool false) (fun _ => by kernel_rfl) ?_
    refine pl_nil ?_
    refine au_then ?_
    refine wp_seq ?_
    refine rg_lit ?_
    refine pl_val (want_no rfl) (some 9) rfl (.slice none 0 0) (fun _ => by kernel_rfl) ?_
    refine pl_nil ?_
    refine au_then ?_
    refine wp_seq ?_
    refine wp_seq ?_
    refine rg_lit ?_
    refine pl_val (want_no rfl) (some 10) rfl (.int .i64 0) (fun _ => by kernel_rfl) ?_
    refine pl_nil ?_
    refine au_then ?_
    refine wp_block ?_
    refine au_loop (fun j a w' => ∃ (v1 : Nat → Value) (h7 : Nat) (m7 : Nat → Int) (q9 : List Nat), h7 < 18446744073709551616 ∧ Inv s h7 m7 q9 ∧ (∀ x ∈ q9, x < 18446744073709551616) ∧ q9.length ≤ j ∧ ((q9 = [] ∧ a = ⟨#[.int .i64 (s : Int), .slice l0 len lc, undef, undef, v1 4, .pointer (some ⟨gw0, 0, none⟩), .int .i64 0, .int .u64 0, .bool false, .slice none 0 0, .int .i64 (j : Int), v1 11, v1 12, v1 13, v1 14, .tuple #[.pointer (some ⟨gw0, 0, none⟩), .int .i64 0], .int .i64 (s : Int), .tuple #[.pointer (some ⟨gw0, 0, none⟩), .int .i64 0], .pointer (some ⟨gw0, 0, none⟩), .int .i64 0, .int .i64 0, .bool false, .bool false, .slice l0 len lc, .int .i64 (len : Int), .bool false, .bool false, undef, v1 28, v1 29, v1 30, v1 31, v1 32, v1 33, v1 34, v1 35, v1 36, v1 37, v1 38, v1 39, v1 40, v1 41, v1 42, v1 43, v1 44, v1 45, v1 46, v1 47, v1 48, v1 49, v1 50, v1 51, v1 52, v1 53, v1 54, v1 55, v1 56, v1 57, v1 58, v1 59, v1 60, v1 61, v1 62, v1 63, v1 64, v1 65, v1 66, v1 67, v1 68, v1 69, v1 70, v1 71, v1 72, v1 73, v1 74, v1 75, v1 76, v1 77, v1 78, v1 79, v1 80, v1 81, v1 82, v1 83, v1 84, v1 85, v1 86, v1 87, v1 88, v1 89, v1 90, v1 91, v1 92, v1 93, v1 94, v1 95, v1 96, v1 97, v1 98, undef], []⟩ ∧ Mem ⟨w, []⟩ [⟨gw0, .cells (av 3 (ls [.int .u64 (s : Int), .int .u64 (h7 : Int), .slice (some ⟨kw0, 0, none⟩) (nW s) (nW s)])) 44⟩, ⟨kw0, .cells (av (nW s) (w64 m7)) 23⟩] w') ∨ ∃ k9 cap9 Z9, a = ⟨#[.int .i64 (s : Int), .slice l0 len lc, undef, undef, v1 4, .pointer (some ⟨gw0, 0, none⟩), .int .i64 0, .int .u64 ((mx q9 : Nat) : Int), .bool true, .slice (some ⟨k9, 0, none⟩) q9.length cap9, .int .i64 (j : Int), v1 11, v1 12, v1 13, v1 14, .tuple #[.pointer (some ⟨gw0, 0, none⟩), .int .i64 0], .int .i64 (s : Int), .tuple #[.pointer (some ⟨gw0, 0, none⟩), .int .i64 0], .pointer (some ⟨gw0, 0, none⟩), .int .i64 0, .int .i64 0, .bool false, .bool false, .slice l0 len lc, .int .i64 (len : Int), .bool false, .bool false, undef, v1 28, v1 29, v1 30, v1 31, v1 32, v1 33, v1 34, v1 35, v1 36, v1 37, v1 38, v1 39, v1 40, v1 41, v1 42, v1 43, v1 44, v1 45, v1 46, v1 47, v1 48, v1 49, v1 50, v1 51, v1 52, v1 53, v1 54, v1 55, v1 56, v1 57, v1 58, v1 59, v1 60, v1 61, v1 62, v1 63, v1 64, v1 65, v1 66, v1 67, v1 68, v1 69, v1 70, v1 71, v1 72, v1 73, v1 74, v1 75, v1 76, v1 77, v1 78, v1 79, v1 80, v1 81, v1 82, v1 83, v1 84, v1 85, v1 86, v1 87, v1 88, v1 89, v1 90, v1 91, v1 92, v1 93, v1 94, v1 95, v1 96, v1 97, v1 98, undef], []⟩ ∧ SB Z9 cap9 (vsU q9) ∧ 0 < q9.length ∧ Mem ⟨w, []⟩ [⟨gw0, .cells (av 3 (ls [.int .u64 (s : Int), .int .u64 (h7 : Int), .slice (some ⟨kw0, 0, none⟩) (nW s) (nW s)])) 44⟩, ⟨kw0, .cells (av (nW s) (w64 m7)) 23⟩, ⟨k9, Z9⟩] w')) len ⟨fun k_ => ([.bool false, undef, undef, undef, undef, undef, undef, undef, undef, undef, undef, undef, undef, undef, undef, undef, undef, undef, undef, undef, undef, undef, undef, undef, undef, undef, undef, undef, undef, undef, undef, undef, undef, undef, undef, undef, undef, undef, undef, undef, undef, undef, undef, undef, undef, undef, undef, undef, undef, undef, undef, undef, undef, undef, undef, undef, undef, undef, undef, undef, undef, undef, undef, undef, undef, undef, undef, undef, undef, undef, undef, undef, undef, undef, undef, undef, undef, undef, undef, undef, undef, undef, undef, undef, undef, undef, undef, undef, undef, undef, undef, undef, undef, undef, undef] : List Value).getD (k_ - 4) undef, 0, fun _ => 0, [], by decide, inv_new s, by simp, by simp, .inl ⟨rfl, by kernel_rfl, M⟩⟩ ?_ ?_
    · intro j a u0 hj hI
      obtain ⟨v1, h7, m7, q9, hh7, I7, hqM, hqj, hD⟩ := hI
      rcases hD with ⟨rfl, rfl, M⟩ | ⟨k9, cap9, Z9, rfl, hZ9, hq0, M⟩
      · skip
        refine wp_seq ?_
        refine wp_seq ?_
        refine rg_lit ?_
        refine pl_val (want_no rfl) (some 28) rfl (.int .i64 (j : Int)) (fun _ => by kernel_rfl) ?_
        refine pl_val (want_no rfl) (some 29) rfl (.slice l0 len lc) (fun _ => by kernel_rfl) ?_
        refine pl_val (want_no rfl) (some 30) rfl (.int .i64 (len : Int)) (fun _ => by kernel_rfl) ?_
        refine pl_val (want_no rfl) (some 31) rfl (.bool true) (fun w => Eq.trans (b := .ok (.value (.bool (decide ((j : Int) < (len : Int))))) w) (by kernel_rfl) (by rw [decide_eq_true (by omega)])) ?_
        refine pl_nil ?_
        refine au_then ?_
        refine wp_cond_true (by kernel_rfl) ?_
        refine wp_skip ?_
        refine au_then ?_
        refine wp_seq ?_
        refine wp_block ?_
        refine wp_seq ?_
        refine rg_lit ?_
        refine pl_val (want_no rfl) (some 11) rfl (.bool false) (fun _ => by kernel_rfl) ?_
        refine pl_nil ?_
        refine au_then ?_
        refine wp_seq ?_
        refine wp_seq ?_
        refine rg_lit ?_
        refine pl_val (want_no rfl) (some 12) rfl (.int .i64 0) (fun _ => by kernel_rfl) ?_
        refine pl_nil ?_
        refine au_then ?_
        refine wp_block ?_
        refine wp_loop_rounds 1 ?_
        refine rounds_go ?_
        refine wp_seq ?_
        refine wp_seq ?_
        refine rg_lit ?_
        refine pl_val (want_no rfl) (some 34) rfl (.int .i64 0) (fun _ => by kernel_rfl) ?_
        refine pl_val (want_no rfl) (some 35) rfl (.slice none 0 0) (fun _ => by kernel_rfl) ?_
        refine pl_val (want_no rfl) (some 36) rfl (.int .i64 0) (fun _ => by kernel_rfl) ?_
        refine pl_val (want_no rfl) (some 37) rfl (.bool false) (fun _ => by kernel_rfl) ?_
        refine pl_nil ?_
        refine au_then ?_
        refine wp_cond_false (by kernel_rfl) ?_
        refine wp_exit ?_
        refine au_then_exit ?_
        refine au_then_exit ?_
        refine au_block_exit ?_
        refine au_then ?_
        refine wp_seq ?_
        refine rg_lit ?_
        refine pl_val (want_no rfl) (some 52) rfl (.bool false) (fun _ => by kernel_rfl) ?_
        refine pl_val (want_no rfl) (some 53) rfl (.bool false) (fun _ => by kernel_rfl) ?_
        refine pl_skip (want_off 1 true rfl 53 rfl (by kernel_rfl)) (some 54) rfl ?_
        refine pl_skip (want_off 1 true rfl 53 rfl (by kernel_rfl)) (some 55) rfl ?_
        refine pl_skip (want_off 1 true rfl 53 rfl (by kernel_rfl)) (some 56) rfl ?_
        refine pl_skip (want_off 1 true rfl 53 rfl (by kernel_rfl)) (some 57) rfl ?_
        refine pl_skip (want_off 1 true rfl 53 rfl (by kernel_rfl)) (some 58) rfl ?_
        refine pl_skip (want_off 1 true rfl 53 rfl (by kernel_rfl)) (some 59) rfl ?_
        refine pl_val (want_no rfl) (some 60) rfl (.bool false) (fun _ => by kernel_rfl) ?_
        refine pl_val (want_no rfl) (some 61) rfl (.bool false) (fun _ => by kernel_rfl) ?_
        refine pl_skip (want_off 9 true rfl 61 rfl (by kernel_rfl)) (some 62) rfl ?_
        refine pl_skip (want_off 9 true rfl 61 rfl (by kernel_rfl)) (some 63) rfl ?_
        refine pl_skip (want_off 9 true rfl 61 rfl (by kernel_rfl)) (some 64) rfl ?_
        refine pl_skip (want_off 9 true rfl 61 rfl (by kernel_rfl)) (some 65) rfl ?_
        refine pl_skip (want_off 9 true rfl 61 rfl (by kernel_rfl)) (some 66) rfl ?_
        refine pl_skip (want_off 9 true rfl 61 rfl (by kernel_rfl)) (some 67) rfl ?_
        refine pl_skip (want_off 9 true rfl 61 rfl (by kernel_rfl)) (some 68) rfl ?_
        refine pl_skip (want_off 9 true rfl 61 rfl (by kernel_rfl)) (some 69) rfl ?_
        refine pl_skip (want_off 9 true rfl 61 rfl (by kernel_rfl)) (some 70) rfl ?_
        refine pl_val (want_no rfl) (some 71) rfl (.bool false) (fun _ => by kernel_rfl) ?_
        refine pl_val (want_no rfl) (some 13) rfl (.bool false) (fun _ => by kernel_rfl) ?_
        refine pl_nil ?_
        refine au_then ?_
        refine wp_seq ?_
        refine rg_lit ?_
        refine pl_val (want_no rfl) (some 72) rfl (.pointer (some ⟨gw0, 0, none⟩)) (fun _ => by kernel_rfl) ?_
        refine pl_val (want_no rfl) (some 73) rfl (.slice l0 len lc) (fun _ => by kernel_rfl) ?_
        refine pl_val (want_no rfl) (some 74) rfl (.int .i64 (j : Int)) (fun _ => by kernel_rfl) ?_
        refine pl_val (want_no rfl) (some 75) rfl (.pointer (some ⟨b, (o + j * 1), none⟩)) (run_ixK 22 23 1 Try.underlying22 inz23 _ _ rfl l0 b o len lc (by kernel_rfl) (hl0 (by omega)) .i64 j (by kernel_rfl) (by omega)) ?_
        refine pl_cell M (want_no rfl) (some 76) rfl 23 _ rfl b (o + j * 1) (by kernel_rfl) (.int .u64 ((X j : Nat) : Int)) (fun _ => by kernel_rfl) (fun w M => M.oldc (hX j (by omega)) (by simp)) ?_
        refine pl_call2X M (want_no rfl) (some 77) rfl 9 #[.pointer (some ⟨gw0, 0, none⟩), .int .u64 ((X j : Nat) : Int)] (.int .i64 0) 0 1 gw0 kw0 _ _ (fun x : Nat × (Nat → Int) => .cells (av 3 (ls [.int .u64 (s : Int), .int .u64 (x.1 : Int), .slice (some ⟨kw0, 0, none⟩) (nW s) (nW s)])) 44) (fun x => .cells (av (nW s) (w64 x.2)) 23) (fun x => Inv s x.1 x.2 [X j] ∧ x.1 < 18446744073709551616) rfl rfl (fun _ => by kernel_rfl) (fun w M => a_Mark gw0 kw0 s h7 (nW s) m7 (X j) [] 0 [X j] hs (Nat.le_refl _) hh7 (hX0 j (by omega)) I7 (my_nil _ _) (mk_nil _ _) w M.laid (M.get 0 rfl) (M.get 1 rfl) (nodup_at M.nodup (i := 0) (j := 1) rfl rfl (by decide))) ?_
        rintro ⟨h1, m1⟩ u2 ⟨I1, hh1⟩ M
        replace M : Mem ⟨w, []⟩ [⟨gw0, .cells (av 3 (ls [.int .u64 (s : Int), .int .u64 (h1 : Int), .slice (some ⟨kw0, 0, none⟩) (nW s) (nW s)])) 44⟩, ⟨kw0, .cells (av (nW s) (w64 m1)) 23⟩] u2 := M
        refine pl_val (want_no rfl) (some 78) rfl (.bool true) (fun _ => by kernel_rfl) ?_
        refine pl_val (want_no rfl) (some 14) rfl (.bool true) (fun _ => by kernel_rfl) ?_
        refine pl_nil ?_
        refine au_then ?_
        refine wp_seq ?_
        refine wp_seq ?_
        refine rg_lit ?_
        refine pl_val (want_no rfl) (some 79) rfl (.bool true) (fun _ => by kernel_rfl) ?_
        refine pl_val (want_no rfl) (some 80) rfl (.bool false) (fun _ => by kernel_rfl) ?_
        refine pl_val (want_no rfl) (some 81) rfl (.bool false) (fun _ => by kernel_rfl) ?_
        refine pl_val (want_on 2 false rfl 81 rfl (by kernel_rfl)) (some 82) rfl (.bool false) (fun _ => by kernel_rfl) ?_
        refine pl_val (want_no rfl) (some 83) rfl (.bool false) (fun _ => by kernel_rfl) ?_
        refine pl_val (want_no rfl) (some 84) rfl (.bool false) (fun _ => by kernel_rfl) ?_
        refine pl_nil ?_
        refine au_then ?_
        refine wp_cond_false (by kernel_rfl) ?_
        refine wp_skip ?_
        refine au_then ?_
        refine wp_seq ?_
        refine rg_lit ?_
        refine pl_val (want_no rfl) (some 85) rfl (.bool true) (fun _ => by kernel_rfl) ?_
        refine pl_nil ?_
        refine au_then ?_
        refine wp_cond_true (by kernel_rfl) ?_
        refine wp_seq ?_
        refine rg_lit ?_
        refine pl_val (want_no rfl) (some 86) rfl (.slice none 0 0) (fun _ => by kernel_rfl) ?_
        refine pl_val (want_no rfl) (some 87) rfl (.slice l0 len lc) (fun _ => by kernel_rfl) ?_
        refine pl_val (want_no rfl) (some 88) rfl (.int .i64 (j : Int)) (fun _ => by kernel_rfl) ?_
        refine pl_val (want_no rfl) (some 89) rfl (.pointer (some ⟨b, (o + j * 1), none⟩)) (run_ixK 22 23 1 Try.underlying22 inz23 _ _ rfl l0 b o len lc (by kernel_rfl) (hl0 (by omega)) .i64 j (by kernel_rfl) (by omega)) ?_
        refine pl_cell M (want_no rfl) (some 90) rfl 23 _ rfl b (o + j * 1) (by kernel_rfl) (.int .u64 ((X j : Nat) : Int)) (fun _ => by kernel_rfl) (fun w M => M.oldc (hX j (by omega)) (by simp)) ?_
        refine pl_mk M (want_no rfl) (some 91) rfl (fun g1 => .slice (some ⟨g1, 0, none⟩) 1 1) (.cells (av 1 (ls [.int .u64 ((X j : Nat) : Int)])) 23) (fun _ => by kernel_rfl) ?_
        intro g1 u3 M
        replace M : Mem ⟨w, []⟩ [⟨gw0, .cells (av 3 (ls [.int .u64 (s : Int), .int .u64 (h1 : Int), .slice (some ⟨kw0, 0, none⟩) (nW s) (nW s)])) 44⟩, ⟨kw0, .cells (av (nW s) (w64 m1)) 23⟩, ⟨g1, .cells (av 1 (ls [.int .u64 ((X j : Nat) : Int)])) 23⟩] u3 := M
        refine pl_app0I M (want_no rfl) (some 92) rfl 22 22 23 (.int .u64 0) Try.underlying22 info23 rfl 2 g1 23 (.int .u64 ((X j : Nat) : Int)) rfl (fun _ => by kernel_rfl) ?_
        intro k8 cap8 Z8 u4 hZ8 M
        replace M : Mem ⟨w, []⟩ [⟨gw0, .cells (av 3 (ls [.int .u64 (s : Int), .int .u64 (h1 : Int), .slice (some ⟨kw0, 0, none⟩) (nW s) (nW s)])) 44⟩, ⟨kw0, .cells (av (nW s) (w64 m1)) 23⟩, ⟨g1, .cells (av 1 (ls [.int .u64 ((X j : Nat) : Int)])) 23⟩, ⟨k8, Z8⟩] u4 := M
        refine pl_val (want_no rfl) (some 9) rfl (.slice (some ⟨k8, 0, none⟩) 1 cap8) (fun _ => by kernel_rfl) ?_
        refine pl_nil ?_
        refine au_then ?_
        refine wp_seq ?_
        refine rg_lit ?_
        refine pl_val (want_no rfl) (some 93) rfl (.int .u64 0) (fun _ => by kernel_rfl) ?_
        refine pl_val (want_no rfl) (some 94) rfl (.slice l0 len lc) (fun _ => by kernel_rfl) ?_
        refine pl_val (want_no rfl) (some 95) rfl (.int .i64 (j : Int)) (fun _ => by kernel_rfl) ?_
        refine pl_val (want_no rfl) (some 96) rfl (.pointer (some ⟨b, (o + j * 1), none⟩)) (run_ixK 22 23 1 Try.underlying22 inz23 _ _ rfl l0 b o len lc (by kernel_rfl) (hl0 (by omega)) .i64 j (by kernel_rfl) (by omega)) ?_
        refine pl_cell M (want_no rfl) (some 97) rfl 23 _ rfl b (o + j * 1) (by kernel_rfl) (.int .u64 ((X j : Nat) : Int)) (fun _ => by kernel_rfl) (fun w M => M.oldc (hX j (by omega)) (by simp)) ?_
        refine pl_val (want_no rfl) (some 98) rfl (.int .u64 ((mx [X j] : Nat) : Int)) (fun w => Eq.trans (b := .ok (.value (.int .u64 (if ((X j : Nat) : Int) > (0 : Int) then ((X j : Nat) : Int) else (0 : Int)))) w) (by kernel_rfl) (by rw [if_max, mx_one])) ?_
        refine pl_val (want_no rfl) (some 7) rfl (.int .u64 ((mx [X j] : Nat) : Int)) (fun _ => by kernel_rfl) ?_
        refine pl_nil ?_
        refine au_then ?_
        refine rg_lit ?_
        refine pl_val (want_no rfl) (some 8) rfl (.bool true) (fun _ => by kernel_rfl) ?_
        refine pl_nil ?_
        refine au_block ?_
        refine au_then ?_
        refine rg_lit ?_
        refine pl_val (want_no rfl) (some 32) rfl (.int .i64 (j : Int)) (fun _ => by kernel_rfl) ?_
        refine pl_val (want_no rfl) (some 33) rfl (.int .i64 ((j + 1 : Nat) : Int)) (fun w => Eq.trans (b := .ok (.value (.int .i64 (IntKind.wrap .i64 ((j : Int) + 1)))) w) (by kernel_rfl) (by rw [wrap64 (by omega) (by omega)]; rfl)) ?_
        refine pl_val (want_no rfl) (some 10) rfl (.int .i64 ((j + 1 : Nat) : Int)) (fun _ => by kernel_rfl) ?_
        refine pl_nil ?_
        refine au_then ?_
        exact ⟨fun k_ => ([v1 4, undef, undef, undef, undef, undef, undef, .bool false, .int .i64 0, .bool false, .bool true, undef, undef, undef, undef, undef, undef, undef, undef, undef, undef, undef, undef, undef, .int .i64 (j : Int), .slice l0 len lc, .int .i64 (len : Int), .bool true, .int .i64 (j : Int), .int .i64 ((j + 1 : Nat) : Int), .int .i64 0, .slice none 0 0, .int .i64 0, .bool false, v1 38, v1 39, v1 40, v1 41, v1 42, v1 43, v1 44, v1 45, v1 46, v1 47, v1 48, v1 49, v1 50, v1 51, .bool false, .bool false, undef, undef, undef, undef, undef, undef, .bool false, .bool false, undef, undef, undef, undef, undef, undef, undef, undef, undef, .bool false, .pointer (some ⟨gw0, 0, none⟩), .slice l0 len lc, .int .i64 (j : Int), .pointer (some ⟨b, (o + j * 1), none⟩), .int .u64 ((X j : Nat) : Int), .int .i64 0, .bool true, .bool true, .bool false, .bool false, .bool false, .bool false, .bool false, .bool true, .slice none 0 0, .slice l0 len lc, .int .i64 (j : Int), .pointer (some ⟨b, (o + j * 1), none⟩), .int .u64 ((X j : Nat) : Int), .slice (some ⟨g1, 0, none⟩) 1 1, .slice (some ⟨k8, 0, none⟩) 1 cap8, .int .u64 0, .slice l0 len lc, .int .i64 (j : Int), .pointer (some ⟨b, (o + j * 1), none⟩), .int .u64 ((X j : Nat) : Int), .int .u64 ((mx [X j] : Nat) : Int)] : List Value).getD (k_ - 4) undef, h1, m1, [X j], hh1, I1, fun x hx => by rw [List.mem_singleton.1 hx]; exact (hX0 j (by omega)), by simp, .inr ⟨k8, cap8, Z8, by kernel_rfl, hZ8, by simp, M.drop (.cons_cons _ (.cons_cons _ (.cons _ (.cons_cons _ .slnil))))⟩⟩
      · skip
        have hql : q9.length < 1000000 := by omega
        have hmx := mx_lt (by decide) hqM
        refine wp_seq ?_
        refine wp_seq ?_
        refine rg_lit ?_
        refine pl_val (want_no rfl) (some 28) rfl (.int .i64 (j : Int)) (fun _ => by kernel_rfl) ?_
        refine pl_val (want_no rfl) (some 29) rfl (.slice l0 len lc) (fun _ => by kernel_rfl) ?_
        refine pl_val (want_no rfl) (some 30) rfl (.int .i64 (len : Int)) (fun _ => by kernel_rfl) ?_
        refine pl_val (want_no rfl) (some 31) rfl (.bool true) (fun w => Eq.trans (b := .ok (.value (.bool (decide ((j : Int) < (len : Int))))) w) (by kernel_rfl) (by rw [decide_eq_true (by omega)])) ?_
        refine pl_nil ?_
        refine au_then ?_
        refine wp_cond_true (by kernel_rfl) ?_
        refine wp_skip ?_
        refine au_then ?_
        refine wp_seq ?_
        refine wp_block ?_
        refine wp_seq ?_
        refine rg_lit ?_
        refine pl_val (want_no rfl) (some 11) rfl (.bool false) (fun _ => by kernel_rfl) ?_
        refine pl_nil ?_
        refine au_then ?_
        refine wp_seq ?_
        refine wp_seq ?_
        refine rg_lit ?_
        refine pl_val (want_no rfl) (some 12) rfl (.int .i64 0) (fun _ => by kernel_rfl) ?_
        refine pl_nil ?_
        refine au_then ?_
        refine wp_block ?_
        refine au_loop (fun i a w' => ∃ (v2 : Nat → Value) (sb : Bool), a = ⟨#[.int .i64 (s : Int), .slice l0 len lc, undef, undef, v1 4, .pointer (some ⟨gw0, 0, none⟩), .int .i64 0, .int .u64 ((mx q9 : Nat) : Int), .bool true, .slice (some ⟨k9, 0, none⟩) q9.length cap9, .int .i64 (j : Int), .bool (sb), .int .i64 (i : Int), v1 13, v1 14, .tuple #[.pointer (some ⟨gw0, 0, none⟩), .int .i64 0], .int .i64 (s : Int), .tuple #[.pointer (some ⟨gw0, 0, none⟩), .int .i64 0], .pointer (some ⟨gw0, 0, none⟩), .int .i64 0, .int .i64 0, .bool false, .bool false, .slice l0 len lc, .int .i64 (len : Int), .bool false, .bool false, undef, .int .i64 (j : Int), .slice l0 len lc, .int .i64 (len : Int), .bool true, v1 32, v1 33, v2 34, v2 35, v2 36, v2 37, v2 38, v2 39, v2 40, v2 41, v2 42, v2 43, v2 44, v2 45, v2 46, v2 47, v2 48, v2 49, v2 50, v2 51, v1 52, v1 53, v1 54, v1 55, v1 56, v1 57, v1 58, v1 59, v1 60, v1 61, v1 62, v1 63, v1 64, v1 65, v1 66, v1 67, v1 68, v1 69, v1 70, v1 71, v1 72, v1 73, v1 74, v1 75, v1 76, v1 77, v1 78, v1 79, v1 80, v1 81, v1 82, v1 83, v1 84, v1 85, v1 86, v1 87, v1 88, v1 89, v1 90, v1 91, v1 92, v1 93, v1 94, v1 95, v1 96, v1 97, v1 98, undef], []⟩ ∧ Mem ⟨w, []⟩ [⟨gw0, .cells (av 3 (ls [.int .u64 (s : Int), .int .u64 (h7 : Int), .slice (some ⟨kw0, 0, none⟩) (nW s) (nW s)])) 44⟩, ⟨kw0, .cells (av (nW s) (w64 m7)) 23⟩, ⟨k9, Z9⟩] w' ∧ (sb = true ↔ X j ∈ q9.take i)) q9.length ⟨fun k_ => ([v1 34, v1 35, v1 36, v1 37, v1 38, v1 39, v1 40, v1 41, v1 42, v1 43, v1 44, v1 45, v1 46, v1 47, v1 48, v1 49, v1 50, v1 51] : List Value).getD (k_ - 34) undef, false, by kernel_rfl, M, by simp⟩ ?_ ?_
        · intro i a u0 hi hI
          obtain ⟨v2, sb, rfl, M, hsb⟩ := hI
          rcases Bool.eq_false_or_eq_true sb with rfl | rfl
          · skip
            refine wp_seq ?_
            refine wp_seq ?_
            refine rg_lit ?_
            refine pl_val (want_no rfl) (some 34) rfl (.int .i64 (i : Int)) (fun _ => by kernel_rfl) ?_
            refine pl_val (want_no rfl) (some 35) rfl (.slice (some ⟨k9, 0, none⟩) q9.length cap9) (fun _ => by kernel_rfl) ?_
            refine pl_val (want_no rfl) (some 36) rfl (.int .i64 ((q9.length : Nat) : Int)) (fun _ => by kernel_rfl) ?_
            refine pl_val (want_no rfl) (some 37) rfl (.bool true) (fun w => Eq.trans (b := .ok (.value (.bool (decide ((i : Int) < ((q9.length : Nat) : Int))))) w) (by kernel_rfl) (by rw [decide_eq_true (by omega)])) ?_
            refine pl_nil ?_
            refine au_then ?_
            refine wp_cond_true (by kernel_rfl) ?_
            refine wp_skip ?_
            refine au_then ?_
            refine wp_seq ?_
            refine wp_block ?_
            refine rg_held M [⟨gw0, .cells (av 3 (ls [.int .u64 (s : Int), .int .u64 (h7 : Int), .slice (some ⟨kw0, 0, none⟩) (nW s) (nW s)])) 44⟩, ⟨kw0, .cells (av (nW s) (w64 m7)) 23⟩, ⟨k9, Z9⟩] 12 rfl (by kernel_rfl) (by kernel_rfl) (fun _ _ d _ _ h => by cases d <;> exact h) ?_
            intro u2 M
            replace M : Mem ⟨w, []⟩ [⟨gw0, .cells (av 3 (ls [.int .u64 (s : Int), .int .u64 (h7 : Int), .slice (some ⟨kw0, 0, none⟩) (nW s) (nW s)])) 44⟩, ⟨kw0, .cells (av (nW s) (w64 m7)) 23⟩, ⟨k9, Z9⟩] u2 := M
            refine hl_val M 0 rfl (by decide) (by kernel_rfl) (by kernel_rfl) (want_no rfl) (some 40) rfl (.bool true) (fun _ _ => by kernel_rfl) ?_
            refine hl_val M 1 rfl (by decide) (by kernel_rfl) (by kernel_rfl) (want_no rfl) (some 41) rfl (.bool true) (fun _ _ => by kernel_rfl) ?_
            refine hl_skip M 2 rfl (by decide) (by kernel_rfl) (by kernel_rfl) (want_off 1 false rfl 41 rfl (by kernel_rfl)) (some 42) rfl ?_
            refine hl_skip M 3 rfl (by decide) (by kernel_rfl) (by kernel_rfl) (want_off 1 false rfl 41 rfl (by kernel_rfl)) (some 43) rfl ?_
            refine hl_skip M 4 rfl (by decide) (by kernel_rfl) (by kernel_rfl) (want_off 1 false rfl 41 rfl (by kernel_rfl)) (some 44) rfl ?_
            refine hl_skip M 5 rfl (by decide) (by kernel_rfl) (by kernel_rfl) (want_off 1 false rfl 41 rfl (by kernel_rfl)) (some 45) rfl ?_
            refine hl_skip M 6 rfl (by decide) (by kernel_rfl) (by kernel_rfl) (want_off 1 false rfl 41 rfl (by kernel_rfl)) (some 46) rfl ?_
            refine hl_skip M 7 rfl (by decide) (by kernel_rfl) (by kernel_rfl) (want_off 1 false rfl 41 rfl (by kernel_rfl)) (some 47) rfl ?_
            refine hl_skip M 8 rfl (by decide) (by kernel_rfl) (by kernel_rfl) (want_off 1 false rfl 41 rfl (by kernel_rfl)) (some 48) rfl ?_
            refine hl_skip M 9 rfl (by decide) (by kernel_rfl) (by kernel_rfl) (want_off 1 false rfl 41 rfl (by kernel_rfl)) (some 49) rfl ?_
            refine hl_skip M 10 rfl (by decide) (by kernel_rfl) (by kernel_rfl) (want_off 1 false rfl 41 rfl (by kernel_rfl)) (some 50) rfl ?_
            refine hl_val M 11 rfl (by decide) (by kernel_rfl) (by kernel_rfl) (want_no rfl) (some 51) rfl (.bool true) (fun _ _ => by kernel_rfl) ?_
            refine hl_end (by kernel_rfl) (by kernel_rfl) rfl ?_
            refine pl_val (want_no rfl) (some 11) rfl (.bool true) (fun _ => by kernel_rfl) ?_
            refine pl_nil ?_
            refine au_then ?_
            refine au_block ?_
            refine au_then ?_
            refine rg_lit ?_
            refine pl_val (want_no rfl) (some 38) rfl (.int .i64 (i : Int)) (fun _ => by kernel_rfl) ?_
            refine pl_val (want_no rfl) (some 39) rfl (.int .i64 ((i + 1 : Nat) : Int)) (fun w => Eq.trans (b := .ok (.value (.int .i64 (IntKind.wrap .i64 ((i : Int) + 1)))) w) (by kernel_rfl) (by rw [wrap64 (by omega) (by omega)]; rfl)) ?_
            refine pl_val (want_no rfl) (some 12) rfl (.int .i64 ((i + 1 : Nat) : Int)) (fun _ => by kernel_rfl) ?_
            refine pl_nil ?_
            refine au_then ?_
            exact ⟨fun k_ => ([.int .i64 (i : Int), .slice (some ⟨k9, 0, none⟩) q9.length cap9, .int .i64 ((q9.length : Nat) : Int), .bool true, .int .i64 (i : Int), .int .i64 ((i + 1 : Nat) : Int), .bool true, .bool true, undef, undef, undef, undef, undef, undef, undef, undef, undef, .bool true] : List Value).getD (k_ - 34) undef, true, by kernel_rfl, M, by rw [take_in hi]; exact ⟨fun _ => .inl (hsb.1 rfl), fun _ => rfl⟩⟩
          · skip
            refine wp_seq ?_
            refine wp_seq ?_
            refine rg_lit ?_
            refine pl_val (want_no rfl) (some 34) rfl (.int .i64 (i : Int)) (fun _ => by kernel_rfl) ?_
            refine pl_val (want_no rfl) (some 35) rfl (.slice (some ⟨k9, 0, none⟩) q9.length cap9) (fun _ => by kernel_rfl) ?_
            refine pl_val (want_no rfl) (some 36) rfl (.int .i64 ((q9.length : Nat) : Int)) (fun _ => by kernel_rfl) ?_
            refine pl_val (want_no rfl) (some 37) rfl (.bool true) (fun w => Eq.trans (b := .ok (.value (.bool (decide ((i : Int) < ((q9.length : Nat) : Int))))) w) (by kernel_rfl) (by rw [decide_eq_true (by omega)])) ?_
            refine pl_nil ?_
            refine au_then ?_
            refine wp_cond_true (by kernel_rfl) ?_
            refine wp_skip ?_
            refine au_then ?_
            refine wp_seq ?_
            refine wp_block ?_
            refine rg_held M [⟨gw0, .cells (av 3 (ls [.int .u64 (s : Int), .int .u64 (h7 : Int), .slice (some ⟨kw0, 0, none⟩) (nW s) (nW s)])) 44⟩, ⟨kw0, .cells (av (nW s) (w64 m7)) 23⟩, ⟨k9, Z9⟩] 12 rfl (by kernel_rfl) (by kernel_rfl) (fun _ _ d _ _ h => by cases d <;> exact h) ?_
            intro u2 M
            replace M : Mem ⟨w, []⟩ [⟨gw0, .cells (av 3 (ls [.int .u64 (s : Int), .int .u64 (h7 : Int), .slice (some ⟨kw0, 0, none⟩) (nW s) (nW s)])) 44⟩, ⟨kw0, .cells (av (nW s) (w64 m7)) 23⟩, ⟨k9, Z9⟩] u2 := M
            refine hl_val M 0 rfl (by decide) (by kernel_rfl) (by kernel_rfl) (want_no rfl) (some 40) rfl (.bool false) (fun _ _ => by kernel_rfl) ?_
            refine hl_val M 1 rfl (by decide) (by kernel_rfl) (by kernel_rfl) (want_no rfl) (some 41) rfl (.bool false) (fun _ _ => by kernel_rfl) ?_
            refine hl_val M 2 rfl (by decide) (by kernel_rfl) (by kernel_rfl) (want_on 1 false rfl 41 rfl (by kernel_rfl)) (some 42) rfl (.slice (some ⟨k9, 0, none⟩) q9.length cap9) (fun _ _ => by kernel_rfl) ?_
            refine hl_val M 3 rfl (by decide) (by kernel_rfl) (by kernel_rfl) (want_on 1 false rfl 41 rfl (by kernel_rfl)) (some 43) rfl (.int .i64 (i : Int)) (fun _ _ => by kernel_rfl) ?_
            refine hl_val M 4 rfl (by decide) (by kernel_rfl) (by kernel_rfl) (want_on 1 false rfl 41 rfl (by kernel_rfl)) (some 44) rfl (.pointer (some ⟨k9, i, none⟩)) (fun w _ => (run_ix0 22 23 Try.underlying22 inz23 _ _ rfl k9 q9.length cap9 (by kernel_rfl) .i64 i (by kernel_rfl) (by omega)) w) ?_
            refine hl_cell M 5 rfl (by decide) (by kernel_rfl) (by kernel_rfl) (want_on 1 false rfl 41 rfl (by kernel_rfl)) (some 45) rfl 23 _ rfl k9 i (by kernel_rfl) (.int .u64 ((q9.getD i 0 : Nat) : Int)) (fun _ => by kernel_rfl) (fun w M => hZ9.cell (M.get 2 rfl) (vsU_at q9 i (by omega))) ?_
            refine hl_val M 6 rfl (by decide) (by kernel_rfl) (by kernel_rfl) (want_on 1 false rfl 41 rfl (by kernel_rfl)) (some 46) rfl (.slice l0 len lc) (fun _ _ => by kernel_rfl) ?_
            refine hl_val M 7 rfl (by decide) (by kernel_rfl) (by kernel_rfl) (want_on 1 false rfl 41 rfl (by kernel_rfl)) (some 47) rfl (.int .i64 (j : Int)) (fun _ _ => by kernel_rfl) ?_
            refine hl_val M 8 rfl (by decide) (by kernel_rfl) (by kernel_rfl) (want_on 1 false rfl 41 rfl (by kernel_rfl)) (some 48) rfl (.pointer (some ⟨b, (o + j * 1), none⟩)) (fun w _ => (run_ixK 22 23 1 Try.underlying22 inz23 _ _ rfl l0 b o len lc (by kernel_rfl) (hl0 (by omega)) .i64 j (by kernel_rfl) (by omega)) w) ?_
            refine hl_cell M 9 rfl (by decide) (by kernel_rfl) (by kernel_rfl) (want_on 1 false rfl 41 rfl (by kernel_rfl)) (some 49) rfl 23 _ rfl b (o + j * 1) (by kernel_rfl) (.int .u64 ((X j : Nat) : Int)) (fun _ => by kernel_rfl) (fun w M => M.oldc (hX j (by omega)) (by simp)) ?_
            by_cases c3 : ((q9.getD i 0 : Nat) : Int) = ((X j : Nat) : Int)
            · skip
              refine hl_val M 10 rfl (by decide) (by kernel_rfl) (by kernel_rfl) (want_on 1 false rfl 41 rfl (by kernel_rfl)) (some 50) rfl (.bool true) (fun w _ => (fun w => Eq.trans (b := .ok (.value (.bool (decide (((q9.getD i 0 : Nat) : Int) = ((X j : Nat) : Int))))) w) (by kernel_rfl) (by rw [decide_eq_true (c3)])) w) ?_
              refine hl_val M 11 rfl (by decide) (by kernel_rfl) (by kernel_rfl) (want_no rfl) (some 51) rfl (.bool true) (fun _ _ => by kernel_rfl) ?_
              refine hl_end (by kernel_rfl) (by kernel_rfl) rfl ?_
              refine pl_val (want_no rfl) (some 11) rfl (.bool true) (fun _ => by kernel_rfl) ?_
              refine pl_nil ?_
              refine au_then ?_
              refine au_block ?_
              refine au_then ?_
              refine rg_lit ?_
              refine pl_val (want_no rfl) (some 38) rfl (.int .i64 (i : Int)) (fun _ => by kernel_rfl) ?_
              refine pl_val (want_no rfl) (some 39) rfl (.int .i64 ((i + 1 : Nat) : Int)) (fun w => Eq.trans (b := .ok (.value (.int .i64 (IntKind.wrap .i64 ((i : Int) + 1)))) w) (by kernel_rfl) (by rw [wrap64 (by omega) (by omega)]; rfl)) ?_
              refine pl_val (want_no rfl) (some 12) rfl (.int .i64 ((i + 1 : Nat) : Int)) (fun _ => by kernel_rfl) ?_
              refine pl_nil ?_
              refine au_then ?_
              exact ⟨fun k_ => ([.int .i64 (i : Int), .slice (some ⟨k9, 0, none⟩) q9.length cap9, .int .i64 ((q9.length : Nat) : Int), .bool true, .int .i64 (i : Int), .int .i64 ((i + 1 : Nat) : Int), .bool false, .bool false, .slice (some ⟨k9, 0, none⟩) q9.length cap9, .int .i64 (i : Int), .pointer (some ⟨k9, i, none⟩), .int .u64 ((q9.getD i 0 : Nat) : Int), .slice l0 len lc, .int .i64 (j : Int), .pointer (some ⟨b, (o + j * 1), none⟩), .int .u64 ((X j : Nat) : Int), .bool true, .bool true] : List Value).getD (k_ - 34) undef, true, by kernel_rfl, M, by rw [take_in hi]; exact ⟨fun _ => .inr (by omega), fun _ => rfl⟩⟩
            · skip
              refine hl_val M 10 rfl (by decide) (by kernel_rfl) (by kernel_rfl) (want_on 1 false rfl 41 rfl (by kernel_rfl)) (some 50) rfl (.bool false) (fun w _ => (fun w => Eq.trans (b := .ok (.value (.bool (decide (((q9.getD i 0 : Nat) : Int) = ((X j : Nat) : Int))))) w) (by kernel_rfl) (by rw [decide_eq_false (c3)])) w) ?_
              refine hl_val M 11 rfl (by decide) (by kernel_rfl) (by kernel_rfl) (want_no rfl) (some 51) rfl (.bool false) (fun _ _ => by kernel_rfl) ?_
              refine hl_end (by kernel_rfl) (by kernel_rfl) rfl ?_
              refine pl_val (want_no rfl) (some 11) rfl (.bool false) (fun _ => by kernel_rfl) ?_
              refine pl_nil ?_
              refine au_then ?_
              refine au_block ?_
              refine au_then ?_
              refine rg_lit ?_
              refine pl_val (want_no rfl) (some 38) rfl (.int .i64 (i : Int)) (fun _ => by kernel_rfl) ?_
              refine pl_val (want_no rfl) (some 39) rfl (.int .i64 ((i + 1 : Nat) : Int)) (fun w => Eq.trans (b := .ok (.value (.int .i64 (IntKind.wrap .i64 ((i : Int) + 1)))) w) (by kernel_rfl) (by rw [wrap64 (by omega) (by omega)]; rfl)) ?_
              refine pl_val (want_no rfl) (some 12) rfl (.int .i64 ((i + 1 : Nat) : Int)) (fun _ => by kernel_rfl) ?_
              refine pl_nil ?_
              refine au_then ?_
              exact ⟨fun k_ => ([.int .i64 (i : Int), .slice (some ⟨k9, 0, none⟩) q9.length cap9, .int .i64 ((q9.length : Nat) : Int), .bool true, .int .i64 (i : Int), .int .i64 ((i + 1 : Nat) : Int), .bool false, .bool false, .slice (some ⟨k9, 0, none⟩) q9.length cap9, .int .i64 (i : Int), .pointer (some ⟨k9, i, none⟩), .int .u64 ((q9.getD i 0 : Nat) : Int), .slice l0 len lc, .int .i64 (j : Int), .pointer (some ⟨b, (o + j * 1), none⟩), .int .u64 ((X j : Nat) : Int), .bool false, .bool false] : List Value).getD (k_ - 34) undef, false, by kernel_rfl, M, by rw [take_in hi]; exact ⟨fun h => (by cases h), fun h => h.elim (fun h => hsb.2 h) (fun h => absurd h (by omega))⟩⟩
        · intro a u0 hI
          obtain ⟨v2, sb, rfl, M, hsb⟩ := hI
          rcases Bool.eq_false_or_eq_true sb with rfl | rfl
          · skip
            have hin : X j ∈ q9 := by rw [List.take_length] at hsb; simpa using hsb
            refine wp_seq ?_
            refine wp_seq ?_
            refine rg_lit ?_
            refine pl_val (want_no rfl) (some 34) rfl (.int .i64 ((q9.length : Nat) : Int)) (fun _ => by kernel_rfl) ?_
            refine pl_val (want_no rfl) (some 35) rfl (.slice (some ⟨k9, 0, none⟩) q9.length cap9) (fun _ => by kernel_rfl) ?_
            refine pl_val (want_no rfl) (some 36) rfl (.int .i64 ((q9.length : Nat) : Int)) (fun _ => by kernel_rfl) ?_
            refine pl_val (want_no rfl) (some 37) rfl (.bool false) (fun w => Eq.trans (b := .ok (.value (.bool (decide (((q9.length : Nat) : Int) < ((q9.length : Nat) : Int))))) w) (by kernel_rfl) (by rw [decide_eq_false (by omega)])) ?_
            refine pl_nil ?_
            refine au_then ?_
            refine wp_cond_false (by kernel_rfl) ?_
            refine wp_exit ?_
            refine au_then_exit ?_
            refine au_then_exit ?_
            refine au_block_exit ?_
            refine au_then ?_
            refine wp_seq ?_
            refine rg_lit ?_
            refine pl_val (want_no rfl) (some 52) rfl (.bool true) (fun _ => by kernel_rfl) ?_
            refine pl_val (want_no rfl) (some 53) rfl (.bool true) (fun _ => by kernel_rfl) ?_
            refine pl_val (want_on 1 true rfl 53 rfl (by kernel_rfl)) (some 54) rfl (.slice l0 len lc) (fun _ => by kernel_rfl) ?_
            refine pl_val (want_on 1 true rfl 53 rfl (by kernel_rfl)) (some 55) rfl (.int .i64 (j : Int)) (fun _ => by kernel_rfl) ?_
            refine pl_val (want_on 1 true rfl 53 rfl (by kernel_rfl)) (some 56) rfl (.pointer (some ⟨b, (o + j * 1), none⟩)) (run_ixK 22 23 1 Try.underlying22 inz23 _ _ rfl l0 b o len lc (by kernel_rfl) (hl0 (by omega)) .i64 j (by kernel_rfl) (by omega)) ?_
            refine pl_cell M (want_on 1 true rfl 53 rfl (by kernel_rfl)) (some 57) rfl 23 _ rfl b (o + j * 1) (by kernel_rfl) (.int .u64 ((X j : Nat) : Int)) (fun _ => by kernel_rfl) (fun w M => M.oldc (hX j (by omega)) (by simp)) ?_
            refine pl_val (want_on 1 true rfl 53 rfl (by kernel_rfl)) (some 58) rfl (.int .u64 ((mx q9 : Nat) : Int)) (fun _ => by kernel_rfl) ?_
            by_cases c3 : ((X j : Nat) : Int) < ((mx q9 : Nat) : Int)
            · skip
              refine pl_val (want_on 1 true rfl 53 rfl (by kernel_rfl)) (some 59) rfl (.bool true) (fun w => Eq.trans (b := .ok (.value (.bool (decide (((X j : Nat) : Int) < ((mx q9 : Nat) : Int))))) w) (by kernel_rfl) (by rw [decide_eq_true (c3)])) ?_
              refine pl_val (want_no rfl) (some 60) rfl (.bool true) (fun _ => by kernel_rfl) ?_
              refine pl_val (want_no rfl) (some 61) rfl (.bool true) (fun _ => by kernel_rfl) ?_
              refine pl_val (want_on 9 true rfl 61 rfl (by kernel_rfl)) (some 62) rfl (.int .u64 ((mx q9 : Nat) : Int)) (fun _ => by kernel_rfl) ?_
              refine pl_val (want_on 9 true rfl 61 rfl (by kernel_rfl)) (some 63) rfl (.slice l0 len lc) (fun _ => by kernel_rfl) ?_
              refine pl_val (want_on 9 true rfl 61 rfl (by kernel_rfl)) (some 64) rfl (.int .i64 (j : Int)) (fun _ => by kernel_rfl) ?_
              refine pl_val (want_on 9 true rfl 61 rfl (by kernel_rfl)) (some 65) rfl (.pointer (some ⟨b, (o + j * 1), none⟩)) (run_ixK 22 23 1 Try.underlying22 inz23 _ _ rfl l0 b o len lc (by kernel_rfl) (hl0 (by omega)) .i64 j (by kernel_rfl) (by omega)) ?_
              refine pl_cell M (want_on 9 true rfl 61 rfl (by kernel_rfl)) (some 66) rfl 23 _ rfl b (o + j * 1) (by kernel_rfl) (.int .u64 ((X j : Nat) : Int)) (fun _ => by kernel_rfl) (fun w M => M.oldc (hX j (by omega)) (by simp)) ?_
              refine pl_val (want_on 9 true rfl 61 rfl (by kernel_rfl)) (some 67) rfl (.int .u64 ((mx q9 - X j : Nat) : Int)) (fun w => Eq.trans (b := .ok (.value (.int .u64 (IntKind.wrap .u64 ((((mx q9) : Nat) : Int) - (((X j) : Nat) : Int))))) w) (by kernel_rfl) (by rw [wrapU_sub (mx q9) (X j) (by omega) (by omega)])) ?_
              refine pl_val (want_on 9 true rfl 61 rfl (by kernel_rfl)) (some 68) rfl (.int .i64 (s : Int)) (fun _ => by kernel_rfl) ?_
              refine pl_val (want_on 9 true rfl 61 rfl (by kernel_rfl)) (some 69) rfl (.int .u64 (s : Int)) (fun w => Eq.trans (b := .ok (.value (.int .u64 (cv .u64 (s : Int)))) w) (by kernel_rfl) (by rw [cv_u64, Int.emod_eq_of_lt (by omega) (by omega)])) ?_
              by_cases c4 : ((mx q9 - X j : Nat) : Int) < (s : Int)
              · skip
                refine pl_val (want_on 9 true rfl 61 rfl (by kernel_rfl)) (some 70) rfl (.bool false) (fun w => Eq.trans (b := .ok (.value (.bool (decide ((s : Int) ≤ ((mx q9 - X j : Nat) : Int))))) w) (by kernel_rfl) (by rw [decide_eq_false (by omega)])) ?_
                refine pl_val (want_no rfl) (some 71) rfl (.bool false) (fun _ => by kernel_rfl) ?_
                refine pl_val (want_no rfl) (some 13) rfl (.bool false) (fun _ => by kernel_rfl) ?_
                refine pl_nil ?_
                refine au_then ?_
                refine wp_seq ?_
                refine rg_lit ?_
                refine pl_val (want_no rfl) (some 72) rfl (.pointer (some ⟨gw0, 0, none⟩)) (fun _ => by kernel_rfl) ?_
                refine pl_val (want_no rfl) (some 73) rfl (.slice l0 len lc) (fun _ => by kernel_rfl) ?_
                refine pl_val (want_no rfl) (some 74) rfl (.int .i64 (j : Int)) (fun _ => by kernel_rfl) ?_
                refine pl_val (want_no rfl) (some 75) rfl (.pointer (some ⟨b, (o + j * 1), none⟩)) (run_ixK 22 23 1 Try.underlying22 inz23 _ _ rfl l0 b o len lc (by kernel_rfl) (hl0 (by omega)) .i64 j (by kernel_rfl) (by omega)) ?_
                refine pl_cell M (want_no rfl) (some 76) rfl 23 _ rfl b (o + j * 1) (by kernel_rfl) (.int .u64 ((X j : Nat) : Int)) (fun _ => by kernel_rfl) (fun w M => M.oldc (hX j (by omega)) (by simp)) ?_
                refine pl_call2X M (want_no rfl) (some 77) rfl 9 #[.pointer (some ⟨gw0, 0, none⟩), .int .u64 ((X j : Nat) : Int)] (.int .i64 (my s q9 (X j))) 0 1 gw0 kw0 _ _ (fun x : Nat × (Nat → Int) => .cells (av 3 (ls [.int .u64 (s : Int), .int .u64 (x.1 : Int), .slice (some ⟨kw0, 0, none⟩) (nW s) (nW s)])) 44) (fun x => .cells (av (nW s) (w64 x.2)) 23) (fun x => Inv s x.1 x.2 (mk s q9 (X j)) ∧ x.1 < 18446744073709551616) rfl rfl (fun _ => by kernel_rfl) (fun w M => a_Mark gw0 kw0 s h7 (nW s) m7 (X j) q9 (my s q9 (X j)) (mk s q9 (X j)) hs (Nat.le_refl _) hh7 (hX0 j (by omega)) I7 (rfl) (rfl) w M.laid (M.get 0 rfl) (M.get 1 rfl) (nodup_at M.nodup (i := 0) (j := 1) rfl rfl (by decide))) ?_
                rintro ⟨h1, m1⟩ u2 ⟨I1, hh1⟩ M
                replace M : Mem ⟨w, []⟩ [⟨gw0, .cells (av 3 (ls [.int .u64 (s : Int), .int .u64 (h1 : Int), .slice (some ⟨kw0, 0, none⟩) (nW s) (nW s)])) 44⟩, ⟨kw0, .cells (av (nW s) (w64 m1)) 23⟩, ⟨k9, Z9⟩] u2 := M
                by_cases c5 : (my s q9 (X j)) = 0
                · skip
                  refine pl_val (want_no rfl) (some 78) rfl (.bool true) (fun w => Eq.trans (b := .ok (.value (.bool (decide ((my s q9 (X j)) = 0)))) w) (by kernel_rfl) (by rw [decide_eq_true (c5)])) ?_
                  refine pl_val (want_no rfl) (some 14) rfl (.bool true) (fun _ => by kernel_rfl) ?_
                  refine pl_nil ?_
                  refine au_then ?_
                  refine wp_seq ?_
                  refine wp_seq ?_
                  refine rg_lit ?_
                  refine pl_val (want_no rfl) (some 79) rfl (.bool true) (fun _ => by kernel_rfl) ?_
                  refine pl_val (want_no rfl) (some 80) rfl (.bool true) (fun _ => by kernel_rfl) ?_
                  refine pl_val (want_no rfl) (some 81) rfl (.bool true) (fun _ => by kernel_rfl) ?_
                  refine pl_skip (want_off 2 false rfl 81 rfl (by kernel_rfl)) (some 82) rfl ?_
                  refine pl_val (want_no rfl) (some 83) rfl (.bool true) (fun _ => by kernel_rfl) ?_
                  refine pl_val (want_no rfl) (some 84) rfl (.bool true) (fun _ => by kernel_rfl) ?_
                  refine pl_nil ?_
                  refine au_then ?_
                  refine wp_cond_true (by kernel_rfl) ?_
                  refine wp_seq ?_
                  refine rg_lit ?_
                  refine pl_val (want_no rfl) (some 4) rfl (.bool false) (fun _ => by kernel_rfl) ?_
                  refine pl_nil ?_
                  refine au_then ?_
                  refine wp_ret ?_
                  refine au_then_ret ?_
                  refine au_block_ret ?_
                  refine au_then_ret ?_
                  refine au_then_ret ?_
                  refine au_block_ret ?_
                  refine au_then_ret ?_
                  exfalso
                  first | exact ((my_iff s q9 (X j) hq0).1 c5).1 hin | exact ((my_iff s q9 (X j) hq0).1 c5).2 (by omega) | exact c5 ((my_iff s q9 (X j) hq0).2 ⟨hin, by omega⟩)
                · skip
                  refine pl_val (want_no rfl) (some 78) rfl (.bool false) (fun w => Eq.trans (b := .ok (.value (.bool (decide ((my s q9 (X j)) = 0)))) w) (by kernel_rfl) (by rw [decide_eq_false (c5)])) ?_
                  refine pl_val (want_no rfl) (some 14) rfl (.bool false) (fun _ => by kernel_rfl) ?_
                  refine pl_nil ?_
                  refine au_then ?_
                  refine wp_seq ?_
                  refine wp_seq ?_
                  refine rg_lit ?_
                  refine pl_val (want_no rfl) (some 79) rfl (.bool false) (fun _ => by kernel_rfl) ?_
                  refine pl_val (want_no rfl) (some 80) rfl (.bool true) (fun _ => by kernel_rfl) ?_
                  refine pl_val (want_no rfl) (some 81) rfl (.bool true) (fun _ => by kernel_rfl) ?_
                  refine pl_skip (want_off 2 false rfl 81 rfl (by kernel_rfl)) (some 82) rfl ?_
                  refine pl_val (want_no rfl) (some 83) rfl (.bool true) (fun _ => by kernel_rfl) ?_
                  refine pl_val (want_no rfl) (some 84) rfl (.bool false) (fun _ => by kernel_rfl) ?_
                  refine pl_nil ?_
                  refine au_then ?_
                  refine wp_cond_false (by kernel_rfl) ?_
                  refine wp_skip ?_
                  refine au_then ?_
                  refine wp_seq ?_
                  refine rg_lit ?_
                  refine pl_val (want_no rfl) (some 85) rfl (.bool false) (fun _ => by kernel_rfl) ?_
                  refine pl_nil ?_
                  refine au_then ?_
                  refine wp_cond_false (by kernel_rfl) ?_
                  refine wp_skip ?_
                  refine au_block ?_
                  refine au_then ?_
                  refine rg_lit ?_
                  refine pl_val (want_no rfl) (some 32) rfl (.int .i64 (j : Int)) (fun _ => by kernel_rfl) ?_
                  refine pl_val (want_no rfl) (some 33) rfl (.int .i64 ((j + 1 : Nat) : Int)) (fun w => Eq.trans (b := .ok (.value (.int .i64 (IntKind.wrap .i64 ((j : Int) + 1)))) w) (by kernel_rfl) (by rw [wrap64 (by omega) (by omega)]; rfl)) ?_
                  refine pl_val (want_no rfl) (some 10) rfl (.int .i64 ((j + 1 : Nat) : Int)) (fun _ => by kernel_rfl) ?_
                  refine pl_nil ?_
                  refine au_then ?_
                  exact ⟨fun k_ => ([v1 4, undef, undef, undef, undef, undef, undef, .bool true, .int .i64 ((q9.length : Nat) : Int), .bool false, .bool false, undef, undef, undef, undef, undef, undef, undef, undef, undef, undef, undef, undef, undef, .int .i64 (j : Int), .slice l0 len lc, .int .i64 (len : Int), .bool true, .int .i64 (j : Int), .int .i64 ((j + 1 : Nat) : Int), .int .i64 ((q9.length : Nat) : Int), .slice (some ⟨k9, 0, none⟩) q9.length cap9, .int .i64 ((q9.length : Nat) : Int), .bool false, v2 38, v2 39, v2 40, v2 41, v2 42, v2 43, v2 44, v2 45, v2 46, v2 47, v2 48, v2 49, v2 50, v2 51, .bool true, .bool true, .slice l0 len lc, .int .i64 (j : Int), .pointer (some ⟨b, (o + j * 1), none⟩), .int .u64 ((X j : Nat) : Int), .int .u64 ((mx q9 : Nat) : Int), .bool true, .bool true, .bool true, .int .u64 ((mx q9 : Nat) : Int), .slice l0 len lc, .int .i64 (j : Int), .pointer (some ⟨b, (o + j * 1), none⟩), .int .u64 ((X j : Nat) : Int), .int .u64 ((mx q9 - X j : Nat) : Int), .int .i64 (s : Int), .int .u64 (s : Int), .bool false, .bool false, .pointer (some ⟨gw0, 0, none⟩), .slice l0 len lc, .int .i64 (j : Int), .pointer (some ⟨b, (o + j * 1), none⟩), .int .u64 ((X j : Nat) : Int), .int .i64 (my s q9 (X j)), .bool false, .bool false, .bool true, .bool true, undef, .bool true, .bool false, .bool false, v1 86, v1 87, v1 88, v1 89, v1 90, v1 91, v1 92, v1 93, v1 94, v1 95, v1 96, v1 97, v1 98] : List Value).getD (k_ - 4) undef, h1, m1, q9, hh1, by have h := I1; rw [mk_no c5] at h; exact h, hqM, by omega, .inr ⟨k9, cap9, Z9, by kernel_rfl, hZ9, hq0, M⟩⟩
              · skip
                refine pl_val (want_on 9 true rfl 61 rfl (by kernel_rfl)) (some 70) rfl (.bool true) (fun w => Eq.trans (b := .ok (.value (.bool (decide ((s : Int) ≤ ((mx q9 - X j : Nat) : Int))))) w) (by kernel_rfl) (by rw [decide_eq_true (by omega)])) ?_
                refine pl_val (want_no rfl) (some 71) rfl (.bool true) (fun _ => by kernel_rfl) ?_
                refine pl_val (want_no rfl) (some 13) rfl (.bool true) (fun _ => by kernel_rfl) ?_
                refine pl_nil ?_
                refine au_then ?_
                refine wp_seq ?_
                refine rg_lit ?_
                refine pl_val (want_no rfl) (some 72) rfl (.pointer (some ⟨gw0, 0, none⟩)) (fun _ => by kernel_rfl) ?_
                refine pl_val (want_no rfl) (some 73) rfl (.slice l0 len lc) (fun _ => by kernel_rfl) ?_
                refine pl_val (want_no rfl) (some 74) rfl (.int .i64 (j : Int)) (fun _ => by kernel_rfl) ?_
                refine pl_val (want_no rfl) (some 75) rfl (.pointer (some ⟨b, (o + j * 1), none⟩)) (run_ixK 22 23 1 Try.underlying22 inz23 _ _ rfl l0 b o len lc (by kernel_rfl) (hl0 (by omega)) .i64 j (by kernel_rfl) (by omega)) ?_
                refine pl_cell M (want_no rfl) (some 76) rfl 23 _ rfl b (o + j * 1) (by kernel_rfl) (.int .u64 ((X j : Nat) : Int)) (fun _ => by kernel_rfl) (fun w M => M.oldc (hX j (by omega)) (by simp)) ?_
                refine pl_call2X M (want_no rfl) (some 77) rfl 9 #[.pointer (some ⟨gw0, 0, none⟩), .int .u64 ((X j : Nat) : Int)] (.int .i64 (my s q9 (X j))) 0 1 gw0 kw0 _ _ (fun x : Nat × (Nat → Int) => .cells (av 3 (ls [.int .u64 (s : Int), .int .u64 (x.1 : Int), .slice (some ⟨kw0, 0, none⟩) (nW s) (nW s)])) 44) (fun x => .cells (av (nW s) (w64 x.2)) 23) (fun x => Inv s x.1 x.2 (mk s q9 (X j)) ∧ x.1 < 18446744073709551616) rfl rfl (fun _ => by kernel_rfl) (fun w M => a_Mark gw0 kw0 s h7 (nW s) m7 (X j) q9 (my s q9 (X j)) (mk s q9 (X j)) hs (Nat.le_refl _) hh7 (hX0 j (by omega)) I7 (rfl) (rfl) w M.laid (M.get 0 rfl) (M.get 1 rfl) (nodup_at M.nodup (i := 0) (j := 1) rfl rfl (by decide))) ?_
                rintro ⟨h1, m1⟩ u2 ⟨I1, hh1⟩ M
                replace M : Mem ⟨w, []⟩ [⟨gw0, .cells (av 3 (ls [.int .u64 (s : Int), .int .u64 (h1 : Int), .slice (some ⟨kw0, 0, none⟩) (nW s) (nW s)])) 44⟩, ⟨kw0, .cells (av (nW s) (w64 m1)) 23⟩, ⟨k9, Z9⟩] u2 := M
                by_cases c5 : (my s q9 (X j)) = 0
                · skip
                  refine pl_val (want_no rfl) (some 78) rfl (.bool true) (fun w => Eq.trans (b := .ok (.value (.bool (decide ((my s q9 (X j)) = 0)))) w) (by kernel_rfl) (by rw [decide_eq_true (c5)])) ?_
                  refine pl_val (want_no rfl) (some 14) rfl (.bool true) (fun _ => by kernel_rfl) ?_
                  refine pl_nil ?_
                  refine au_then ?_
                  refine wp_seq ?_
                  refine wp_seq ?_
                  refine rg_lit ?_
                  refine pl_val (want_no rfl) (some 79) rfl (.bool true) (fun _ => by kernel_rfl) ?_
                  refine pl_val (want_no rfl) (some 80) rfl (.bool true) (fun _ => by kernel_rfl) ?_
                  refine pl_val (want_no rfl) (some 81) rfl (.bool true) (fun _ => by kernel_rfl) ?_
                  refine pl_skip (want_off 2 false rfl 81 rfl (by kernel_rfl)) (some 82) rfl ?_
                  refine pl_val (want_no rfl) (some 83) rfl (.bool true) (fun _ => by kernel_rfl) ?_
                  refine pl_val (want_no rfl) (some 84) rfl (.bool true) (fun _ => by kernel_rfl) ?_
                  refine pl_nil ?_
                  refine au_then ?_
                  refine wp_cond_true (by kernel_rfl) ?_
                  refine wp_seq ?_
                  refine rg_lit ?_
                  refine pl_val (want_no rfl) (some 4) rfl (.bool false) (fun _ => by kernel_rfl) ?_
                  refine pl_nil ?_
                  refine au_then ?_
                  refine wp_ret ?_
                  refine au_then_ret ?_
                  refine au_block_ret ?_
                  refine au_then_ret ?_
                  refine au_then_ret ?_
                  refine au_block_ret ?_
                  refine au_then_ret ?_
                  exfalso
                  first | exact ((my_iff s q9 (X j) hq0).1 c5).1 hin | exact ((my_iff s q9 (X j) hq0).1 c5).2 (by omega) | exact c5 ((my_iff s q9 (X j) hq0).2 ⟨hin, by omega⟩)
                · skip
                  refine pl_val (want_no rfl) (some 78) rfl (.bool false) (fun w => Eq.trans (b := .ok (.value (.bool (decide ((my s q9 (X j)) = 0)))) w) (by kernel_rfl) (by rw [decide_eq_false (c5)])) ?_
                  refine pl_val (want_no rfl) (some 14) rfl (.bool false) (fun _ => by kernel_rfl) ?_
                  refine pl_nil ?_
                  refine au_then ?_
                  refine wp_seq ?_
                  refine wp_seq ?_
                  refine rg_lit ?_
                  refine pl_val (want_no rfl) (some 79) rfl (.bool false) (fun _ => by kernel_rfl) ?_
                  refine pl_val (want_no rfl) (some 80) rfl (.bool true) (fun _ => by kernel_rfl) ?_
                  refine pl_val (want_no rfl) (some 81) rfl (.bool true) (fun _ => by kernel_rfl) ?_
                  refine pl_skip (want_off 2 false rfl 81 rfl (by kernel_rfl)) (some 82) rfl ?_
                  refine pl_val (want_no rfl) (some 83) rfl (.bool true) (fun _ => by kernel_rfl) ?_
                  refine pl_val (want_no rfl) (some 84) rfl (.bool false) (fun _ => by kernel_rfl) ?_
                  refine pl_nil ?_
                  refine au_then ?_
                  refine wp_cond_false (by kernel_rfl) ?_
                  refine wp_skip ?_
                  refine au_then ?_
                  refine wp_seq ?_
                  refine rg_lit ?_
                  refine pl_val (want_no rfl) (some 85) rfl (.bool false) (fun _ => by kernel_rfl) ?_
                  refine pl_nil ?_
                  refine au_then ?_
                  refine wp_cond_false (by kernel_rfl) ?_
                  refine wp_skip ?_
                  refine au_block ?_
                  refine au_then ?_
                  refine rg_lit ?_
                  refine pl_val (want_no rfl) (some 32) rfl (.int .i64 (j : Int)) (fun _ => by kernel_rfl) ?_
                  refine pl_val (want_no rfl) (some 33) rfl (.int .i64 ((j + 1 : Nat) : Int)) (fun w => Eq.trans (b := .ok (.value (.int .i64 (IntKind.wrap .i64 ((j : Int) + 1)))) w) (by kernel_rfl) (by rw [wrap64 (by omega) (by omega)]; rfl)) ?_
                  refine pl_val (want_no rfl) (some 10) rfl (.int .i64 ((j + 1 : Nat) : Int)) (fun _ => by kernel_rfl) ?_
                  refine pl_nil ?_
                  refine au_then ?_
                  exact ⟨fun k_ => ([v1 4, undef, undef, undef, undef, undef, undef, .bool true, .int .i64 ((q9.length : Nat) : Int), .bool true, .bool false, undef, undef, undef, undef, undef, undef, undef, undef, undef, undef, undef, undef, undef, .int .i64 (j : Int), .slice l0 len lc, .int .i64 (len : Int), .bool true, .int .i64 (j : Int), .int .i64 ((j + 1 : Nat) : Int), .int .i64 ((q9.length : Nat) : Int), .slice (some ⟨k9, 0, none⟩) q9.length cap9, .int .i64 ((q9.length : Nat) : Int), .bool false, v2 38, v2 39, v2 40, v2 41, v2 42, v2 43, v2 44, v2 45, v2 46, v2 47, v2 48, v2 49, v2 50, v2 51, .bool true, .bool true, .slice l0 len lc, .int .i64 (j : Int), .pointer (some ⟨b, (o + j * 1), none⟩), .int .u64 ((X j : Nat) : Int), .int .u64 ((mx q9 : Nat) : Int), .bool true, .bool true, .bool true, .int .u64 ((mx q9 : Nat) : Int), .slice l0 len lc, .int .i64 (j : Int), .pointer (some ⟨b, (o + j * 1), none⟩), .int .u64 ((X j : Nat) : Int), .int .u64 ((mx q9 - X j : Nat) : Int), .int .i64 (s : Int), .int .u64 (s : Int), .bool true, .bool true, .pointer (some ⟨gw0, 0, none⟩), .slice l0 len lc, .int .i64 (j : Int), .pointer (some ⟨b, (o + j * 1), none⟩), .int .u64 ((X j : Nat) : Int), .int .i64 (my s q9 (X j)), .bool false, .bool false, .bool true, .bool true, undef, .bool true, .bool false, .bool false, v1 86, v1 87, v1 88, v1 89, v1 90, v1 91, v1 92, v1 93, v1 94, v1 95, v1 96, v1 97, v1 98] : List Value).getD (k_ - 4) undef, h1, m1, q9, hh1, by have h := I1; rw [mk_no c5] at h; exact h, hqM, by omega, .inr ⟨k9, cap9, Z9, by kernel_rfl, hZ9, hq0, M⟩⟩
            · skip
              refine pl_val (want_on 1 true rfl 53 rfl (by kernel_rfl)) (some 59) rfl (.bool false) (fun w => Eq.trans (b := .ok (.value (.bool (decide (((X j : Nat) : Int) < ((mx q9 : Nat) : Int))))) w) (by kernel_rfl) (by rw [decide_eq_false (c3)])) ?_
              refine pl_val (want_no rfl) (some 60) rfl (.bool false) (fun _ => by kernel_rfl) ?_
              refine pl_val (want_no rfl) (some 61) rfl (.bool false) (fun _ => by kernel_rfl) ?_
              refine pl_skip (want_off 9 true rfl 61 rfl (by kernel_rfl)) (some 62) rfl ?_
              refine pl_skip (want_off 9 true rfl 61 rfl (by kernel_rfl)) (some 63) rfl ?_
              refine pl_skip (want_off 9 true rfl 61 rfl (by kernel_rfl)) (some 64) rfl ?_
              refine pl_skip (want_off 9 true rfl 61 rfl (by kernel_rfl)) (some 65) rfl ?_
              refine pl_skip (want_off 9 true rfl 61 rfl (by kernel_rfl)) (some 66) rfl ?_
              refine pl_skip (want_off 9 true rfl 61 rfl (by kernel_rfl)) (some 67) rfl ?_
              refine pl_skip (want_off 9 true rfl 61 rfl (by kernel_rfl)) (some 68) rfl ?_
              refine pl_skip (want_off 9 true rfl 61 rfl (by kernel_rfl)) (some 69) rfl ?_
              refine pl_skip (want_off 9 true rfl 61 rfl (by kernel_rfl)) (some 70) rfl ?_
              refine pl_val (want_no rfl) (some 71) rfl (.bool false) (fun _ => by kernel_rfl) ?_
              refine pl_val (want_no rfl) (some 13) rfl (.bool false) (fun _ => by kernel_rfl) ?_
              refine pl_nil ?_
              refine au_then ?_
              refine wp_seq ?_
              refine rg_lit ?_
              refine pl_val (want_no rfl) (some 72) rfl (.pointer (some ⟨gw0, 0, none⟩)) (fun _ => by kernel_rfl) ?_
              refine pl_val (want_no rfl) (some 73) rfl (.slice l0 len lc) (fun _ => by kernel_rfl) ?_
              refine pl_val (want_no rfl) (some 74) rfl (.int .i64 (j : Int)) (fun _ => by kernel_rfl) ?_
              refine pl_val (want_no rfl) (some 75) rfl (.pointer (some ⟨b, (o + j * 1), none⟩)) (run_ixK 22 23 1 Try.underlying22 inz23 _ _ rfl l0 b o len lc (by kernel_rfl) (hl0 (by omega)) .i64 j (by kernel_rfl) (by omega)) ?_
              refine pl_cell M (want_no rfl) (some 76) rfl 23 _ rfl b (o + j * 1) (by kernel_rfl) (.int .u64 ((X j : Nat) : Int)) (fun _ => by kernel_rfl) (fun w M => M.oldc (hX j (by omega)) (by simp)) ?_
              refine pl_call2X M (want_no rfl) (some 77) rfl 9 #[.pointer (some ⟨gw0, 0, none⟩), .int .u64 ((X j : Nat) : Int)] (.int .i64 (my s q9 (X j))) 0 1 gw0 kw0 _ _ (fun x : Nat × (Nat → Int) => .cells (av 3 (ls [.int .u64 (s : Int), .int .u64 (x.1 : Int), .slice (some ⟨kw0, 0, none⟩) (nW s) (nW s)])) 44) (fun x => .cells (av (nW s) (w64 x.2)) 23) (fun x => Inv s x.1 x.2 (mk s q9 (X j)) ∧ x.1 < 18446744073709551616) rfl rfl (fun _ => by kernel_rfl) (fun w M => a_Mark gw0 kw0 s h7 (nW s) m7 (X j) q9 (my s q9 (X j)) (mk s q9 (X j)) hs (Nat.le_refl _) hh7 (hX0 j (by omega)) I7 (rfl) (rfl) w M.laid (M.get 0 rfl) (M.get 1 rfl) (nodup_at M.nodup (i := 0) (j := 1) rfl rfl (by decide))) ?_
              rintro ⟨h1, m1⟩ u2 ⟨I1, hh1⟩ M
              replace M : Mem ⟨w, []⟩ [⟨gw0, .cells (av 3 (ls [.int .u64 (s : Int), .int .u64 (h1 : Int), .slice (some ⟨kw0, 0, none⟩) (nW s) (nW s)])) 44⟩, ⟨kw0, .cells (av (nW s) (w64 m1)) 23⟩, ⟨k9, Z9⟩] u2 := M
              by_cases c4 : (my s q9 (X j)) = 0
              · skip
                refine pl_val (want_no rfl) (some 78) rfl (.bool true) (fun w => Eq.trans (b := .ok (.value (.bool (decide ((my s q9 (X j)) = 0)))) w) (by kernel_rfl) (by rw [decide_eq_true (c4)])) ?_
                refine pl_val (want_no rfl) (some 14) rfl (.bool true) (fun _ => by kernel_rfl) ?_
                refine pl_nil ?_
                refine au_then ?_
                refine wp_seq ?_
                refine wp_seq ?_
                refine rg_lit ?_
                refine pl_val (want_no rfl) (some 79) rfl (.bool true) (fun _ => by kernel_rfl) ?_
                refine pl_val (want_no rfl) (some 80) rfl (.bool true) (fun _ => by kernel_rfl) ?_
                refine pl_val (want_no rfl) (some 81) rfl (.bool true) (fun _ => by kernel_rfl) ?_
                refine pl_skip (want_off 2 false rfl 81 rfl (by kernel_rfl)) (some 82) rfl ?_
                refine pl_val (want_no rfl) (some 83) rfl (.bool true) (fun _ => by kernel_rfl) ?_
                refine pl_val (want_no rfl) (some 84) rfl (.bool true) (fun _ => by kernel_rfl) ?_
                refine pl_nil ?_
                refine au_then ?_
                refine wp_cond_true (by kernel_rfl) ?_
                refine wp_seq ?_
                refine rg_lit ?_
                refine pl_val (want_no rfl) (some 4) rfl (.bool false) (fun _ => by kernel_rfl) ?_
                refine pl_nil ?_
                refine au_then ?_
                refine wp_ret ?_
                refine au_then_ret ?_
                refine au_block_ret ?_
                refine au_then_ret ?_
                refine au_then_ret ?_
                refine au_block_ret ?_
                refine au_then_ret ?_
                exfalso
                first | exact ((my_iff s q9 (X j) hq0).1 c4).1 hin | exact ((my_iff s q9 (X j) hq0).1 c4).2 (by omega) | exact c4 ((my_iff s q9 (X j) hq0).2 ⟨hin, by omega⟩)
              · skip
                refine pl_val (want_no rfl) (some 78) rfl (.bool false) (fun w => Eq.trans (b := .ok (.value (.bool (decide ((my s q9 (X j)) = 0)))) w) (by kernel_rfl) (by rw [decide_eq_false (c4)])) ?_
                refine pl_val (want_no rfl) (some 14) rfl (.bool false) (fun _ => by kernel_rfl) ?_
                refine pl_nil ?_
                refine au_then ?_
                refine wp_seq ?_
                refine wp_seq ?_
                refine rg_lit ?_
                refine pl_val (want_no rfl) (some 79) rfl (.bool false) (fun _ => by kernel_rfl) ?_
                refine pl_val (want_no rfl) (some 80) rfl (.bool true) (fun _ => by kernel_rfl) ?_
                refine pl_val (want_no rfl) (some 81) rfl (.bool true) (fun _ => by kernel_rfl) ?_
                refine pl_skip (want_off 2 false rfl 81 rfl (by kernel_rfl)) (some 82) rfl ?_
                refine pl_val (want_no rfl) (some 83) rfl (.bool true) (fun _ => by kernel_rfl) ?_
                refine pl_val (want_no rfl) (some 84) rfl (.bool false) (fun _ => by kernel_rfl) ?_
                refine pl_nil ?_
                refine au_then ?_
                refine wp_cond_false (by kernel_rfl) ?_
                refine wp_skip ?_
                refine au_then ?_
                refine wp_seq ?_
                refine rg_lit ?_
                refine pl_val (want_no rfl) (some 85) rfl (.bool false) (fun _ => by kernel_rfl) ?_
                refine pl_nil ?_
                refine au_then ?_
                refine wp_cond_false (by kernel_rfl) ?_
                refine wp_skip ?_
                refine au_block ?_
                refine au_then ?_
                refine rg_lit ?_
                refine pl_val (want_no rfl) (some 32) rfl (.int .i64 (j : Int)) (fun _ => by kernel_rfl) ?_
                refine pl_val (want_no rfl) (some 33) rfl (.int .i64 ((j + 1 : Nat) : Int)) (fun w => Eq.trans (b := .ok (.value (.int .i64 (IntKind.wrap .i64 ((j : Int) + 1)))) w) (by kernel_rfl) (by rw [wrap64 (by omega) (by omega)]; rfl)) ?_
                refine pl_val (want_no rfl) (some 10) rfl (.int .i64 ((j + 1 : Nat) : Int)) (fun _ => by kernel_rfl) ?_
                refine pl_nil ?_
                refine au_then ?_
                exact ⟨fun k_ => ([v1 4, undef, undef, undef, undef, undef, undef, .bool true, .int .i64 ((q9.length : Nat) : Int), .bool false, .bool false, undef, undef, undef, undef, undef, undef, undef, undef, undef, undef, undef, undef, undef, .int .i64 (j : Int), .slice l0 len lc, .int .i64 (len : Int), .bool true, .int .i64 (j : Int), .int .i64 ((j + 1 : Nat) : Int), .int .i64 ((q9.length : Nat) : Int), .slice (some ⟨k9, 0, none⟩) q9.length cap9, .int .i64 ((q9.length : Nat) : Int), .bool false, v2 38, v2 39, v2 40, v2 41, v2 42, v2 43, v2 44, v2 45, v2 46, v2 47, v2 48, v2 49, v2 50, v2 51, .bool true, .bool true, .slice l0 len lc, .int .i64 (j : Int), .pointer (some ⟨b, (o + j * 1), none⟩), .int .u64 ((X j : Nat) : Int), .int .u64 ((mx q9 : Nat) : Int), .bool false, .bool false, .bool false, undef, undef, undef, undef, undef, undef, undef, undef, undef, .bool false, .pointer (some ⟨gw0, 0, none⟩), .slice l0 len lc, .int .i64 (j : Int), .pointer (some ⟨b, (o + j * 1), none⟩), .int .u64 ((X j : Nat) : Int), .int .i64 (my s q9 (X j)), .bool false, .bool false, .bool true, .bool true, undef, .bool true, .bool false, .bool false, v1 86, v1 87, v1 88, v1 89, v1 90, v1 91, v1 92, v1 93, v1 94, v1 95, v1 96, v1 97, v1 98] : List Value).getD (k_ - 4) undef, h1, m1, q9, hh1, by have h := I1; rw [mk_no c4] at h; exact h, hqM, by omega, .inr ⟨k9, cap9, Z9, by kernel_rfl, hZ9, hq0, M⟩⟩
          · skip
            have hin : ¬ X j ∈ q9 := by rw [List.take_length] at hsb; simpa using hsb
            refine wp_seq ?_
            refine wp_seq ?_
            refine rg_lit ?_
            refine pl_val (want_no rfl) (some 34) rfl (.int .i64 ((q9.length : Nat) : Int)) (fun _ => by kernel_rfl) ?_
            refine pl_val (want_no rfl) (some 35) rfl (.slice (some ⟨k9, 0, none⟩) q9.length cap9) (fun _ => by kernel_rfl) ?_
            refine pl_val (want_no rfl) (some 36) rfl (.int .i64 ((q9.length : Nat) : Int)) (fun _ => by kernel_rfl) ?_
            refine pl_val (want_no rfl) (some 37) rfl (.bool false) (fun w => Eq.trans (b := .ok (.value (.bool (decide (((q9.length : Nat) : Int) < ((q9.length : Nat) : Int))))) w) (by kernel_rfl) (by rw [decide_eq_false (by omega)])) ?_
            refine pl_nil ?_
            refine au_then ?_
            refine wp_cond_false (by kernel_rfl) ?_
            refine wp_exit ?_
            refine au_then_exit ?_
            refine au_then_exit ?_
            refine au_block_exit ?_
            refine au_then ?_
            refine wp_seq ?_
            refine rg_lit ?_
            refine pl_val (want_no rfl) (some 52) rfl (.bool true) (fun _ => by kernel_rfl) ?_
            refine pl_val (want_no rfl) (some 53) rfl (.bool true) (fun _ => by kernel_rfl) ?_
            refine pl_val (want_on 1 true rfl 53 rfl (by kernel_rfl)) (some 54) rfl (.slice l0 len lc) (fun _ => by kernel_rfl) ?_
            refine pl_val (want_on 1 true rfl 53 rfl (by kernel_rfl)) (some 55) rfl (.int .i64 (j : Int)) (fun _ => by kernel_rfl) ?_
            refine pl_val (want_on 1 true rfl 53 rfl (by kernel_rfl)) (some 56) rfl (.pointer (some ⟨b, (o + j * 1), none⟩)) (run_ixK 22 23 1 Try.underlying22 inz23 _ _ rfl l0 b o len lc (by kernel_rfl) (hl0 (by omega)) .i64 j (by kernel_rfl) (by omega)) ?_
            refine pl_cell M (want_on 1 true rfl 53 rfl (by kernel_rfl)) (some 57) rfl 23 _ rfl b (o + j * 1) (by kernel_rfl) (.int .u64 ((X j : Nat) : Int)) (fun _ => by kernel_rfl) (fun w M => M.oldc (hX j (by omega)) (by simp)) ?_
            refine pl_val (want_on 1 true rfl 53 rfl (by kernel_rfl)) (some 58) rfl (.int .u64 ((mx q9 : Nat) : Int)) (fun _ => by kernel_rfl) ?_
            by_cases c3 : ((X j : Nat) : Int) < ((mx q9 : Nat) : Int)
            · skip
              refine pl_val (want_on 1 true rfl 53 rfl (by kernel_rfl)) (some 59) rfl (.bool true) (fun w => Eq.trans (b := .ok (.value (.bool (decide (((X j : Nat) : Int) < ((mx q9 : Nat) : Int))))) w) (by kernel_rfl) (by rw [decide_eq_true (c3)])) ?_
              refine pl_val (want_no rfl) (some 60) rfl (.bool true) (fun _ => by kernel_rfl) ?_
              refine pl_val (want_no rfl) (some 61) rfl (.bool true) (fun _ => by kernel_rfl) ?_
              refine pl_val (want_on 9 true rfl 61 rfl (by kernel_rfl)) (some 62) rfl (.int .u64 ((mx q9 : Nat) : Int)) (fun _ => by kernel_rfl) ?_
              refine pl_val (want_on 9 true rfl 61 rfl (by kernel_rfl)) (some 63) rfl (.slice l0 len lc) (fun _ => by kernel_rfl) ?_
              refine pl_val (want_on 9 true rfl 61 rfl (by kernel_rfl)) (some 64) rfl (.int .i64 (j : Int)) (fun _ => by kernel_rfl) ?_
              refine pl_val (want_on 9 true rfl 61 rfl (by kernel_rfl)) (some 65) rfl (.pointer (some ⟨b, (o + j * 1), none⟩)) (run_ixK 22 23 1 Try.underlying22 inz23 _ _ rfl l0 b o len lc (by kernel_rfl) (hl0 (by omega)) .i64 j (by kernel_rfl) (by omega)) ?_
              refine pl_cell M (want_on 9 true rfl 61 rfl (by kernel_rfl)) (some 66) rfl 23 _ rfl b (o + j * 1) (by kernel_rfl) (.int .u64 ((X j : Nat) : Int)) (fun _ => by kernel_rfl) (fun w M => M.oldc (hX j (by omega)) (by simp)) ?_
              refine pl_val (want_on 9 true rfl 61 rfl (by kernel_rfl)) (some 67) rfl (.int .u64 ((mx q9 - X j : Nat) : Int)) (fun w => Eq.trans (b := .ok (.value (.int .u64 (IntKind.wrap .u64 ((((mx q9) : Nat) : Int) - (((X j) : Nat) : Int))))) w) (by kernel_rfl) (by rw [wrapU_sub (mx q9) (X j) (by omega) (by omega)])) ?_
              refine pl_val (want_on 9 true rfl 61 rfl (by kernel_rfl)) (some 68) rfl (.int .i64 (s : Int)) (fun _ => by kernel_rfl) ?_
              refine pl_val (want_on 9 true rfl 61 rfl (by kernel_rfl)) (some 69) rfl (.int .u64 (s : Int)) (fun w => Eq.trans (b := .ok (.value (.int .u64 (cv .u64 (s : Int)))) w) (by kernel_rfl) (by rw [cv_u64, Int.emod_eq_of_lt (by omega) (by omega)])) ?_
              by_cases c4 : ((mx q9 - X j : Nat) : Int) < (s : Int)
              · skip
                refine pl_val (want_on 9 true rfl 61 rfl (by kernel_rfl)) (some 70) rfl (.bool false) (fun w => Eq.trans (b := .ok (.value (.bool (decide ((s : Int) ≤ ((mx q9 - X j : Nat) : Int))))) w) (by kernel_rfl) (by rw [decide_eq_false (by omega)])) ?_
                refine pl_val (want_no rfl) (some 71) rfl (.bool false) (fun _ => by kernel_rfl) ?_
                refine pl_val (want_no rfl) (some 13) rfl (.bool false) (fun _ => by kernel_rfl) ?_
                refine pl_nil ?_
                refine au_then ?_
                refine wp_seq ?_
                refine rg_lit ?_
                refine pl_val (want_no rfl) (some 72) rfl (.pointer (some ⟨gw0, 0, none⟩)) (fun _ => by kernel_rfl) ?_
                refine pl_val (want_no rfl) (some 73) rfl (.slice l0 len lc) (fun _ => by kernel_rfl) ?_
                refine pl_val (want_no rfl) (some 74) rfl (.int .i64 (j : Int)) (fun _ => by kernel_rfl) ?_
                refine pl_val (want_no rfl) (some 75) rfl (.pointer (some ⟨b, (o + j * 1), none⟩)) (run_ixK 22 23 1 Try.underlying22 inz23 _ _ rfl l0 b o len lc (by kernel_rfl) (hl0 (by omega)) .i64 j (by kernel_rfl) (by omega)) ?_
                refine pl_cell M (want_no rfl) (some 76) rfl 23 _ rfl b (o + j * 1) (by kernel_rfl) (.int .u64 ((X j : Nat) : Int)) (fun _ => by kernel_rfl) (fun w M => M.oldc (hX j (by omega)) (by simp)) ?_
                refine pl_call2X M (want_no rfl) (some 77) rfl 9 #[.pointer (some ⟨gw0, 0, none⟩), .int .u64 ((X j : Nat) : Int)] (.int .i64 (my s q9 (X j))) 0 1 gw0 kw0 _ _ (fun x : Nat × (Nat → Int) => .cells (av 3 (ls [.int .u64 (s : Int), .int .u64 (x.1 : Int), .slice (some ⟨kw0, 0, none⟩) (nW s) (nW s)])) 44) (fun x => .cells (av (nW s) (w64 x.2)) 23) (fun x => Inv s x.1 x.2 (mk s q9 (X j)) ∧ x.1 < 18446744073709551616) rfl rfl (fun _ => by kernel_rfl) (fun w M => a_Mark gw0 kw0 s h7 (nW s) m7 (X j) q9 (my s q9 (X j)) (mk s q9 (X j)) hs (Nat.le_refl _) hh7 (hX0 j (by omega)) I7 (rfl) (rfl) w M.laid (M.get 0 rfl) (M.get 1 rfl) (nodup_at M.nodup (i := 0) (j := 1) rfl rfl (by decide))) ?_
                rintro ⟨h1, m1⟩ u2 ⟨I1, hh1⟩ M
                replace M : Mem ⟨w, []⟩ [⟨gw0, .cells (av 3 (ls [.int .u64 (s : Int), .int .u64 (h1 : Int), .slice (some ⟨kw0, 0, none⟩) (nW s) (nW s)])) 44⟩, ⟨kw0, .cells (av (nW s) (w64 m1)) 23⟩, ⟨k9, Z9⟩] u2 := M
                by_cases c5 : (my s q9 (X j)) = 0
                · skip
                  refine pl_val (want_no rfl) (some 78) rfl (.bool true) (fun w => Eq.trans (b := .ok (.value (.bool (decide ((my s q9 (X j)) = 0)))) w) (by kernel_rfl) (by rw [decide_eq_true (c5)])) ?_
                  refine pl_val (want_no rfl) (some 14) rfl (.bool true) (fun _ => by kernel_rfl) ?_
                  refine pl_nil ?_
                  refine au_then ?_
                  refine wp_seq ?_
                  refine wp_seq ?_
                  refine rg_lit ?_
                  refine pl_val (want_no rfl) (some 79) rfl (.bool true) (fun _ => by kernel_rfl) ?_
                  refine pl_val (want_no rfl) (some 80) rfl (.bool false) (fun _ => by kernel_rfl) ?_
                  refine pl_val (want_no rfl) (some 81) rfl (.bool false) (fun _ => by kernel_rfl) ?_
                  refine pl_val (want_on 2 false rfl 81 rfl (by kernel_rfl)) (some 82) rfl (.bool false) (fun _ => by kernel_rfl) ?_
                  refine pl_val (want_no rfl) (some 83) rfl (.bool false) (fun _ => by kernel_rfl) ?_
                  refine pl_val (want_no rfl) (some 84) rfl (.bool false) (fun _ => by kernel_rfl) ?_
                  refine pl_nil ?_
                  refine au_then ?_
                  refine wp_cond_false (by kernel_rfl) ?_
                  refine wp_skip ?_
                  refine au_then ?_
                  refine wp_seq ?_
                  refine rg_lit ?_
                  refine pl_val (want_no rfl) (some 85) rfl (.bool true) (fun _ => by kernel_rfl) ?_
                  refine pl_nil ?_
                  refine au_then ?_
                  refine wp_cond_true (by kernel_rfl) ?_
                  refine wp_seq ?_
                  refine rg_lit ?_
                  refine pl_val (want_no rfl) (some 86) rfl (.slice (some ⟨k9, 0, none⟩) q9.length cap9) (fun _ => by kernel_rfl) ?_
                  refine pl_val (want_no rfl) (some 87) rfl (.slice l0 len lc) (fun _ => by kernel_rfl) ?_
                  refine pl_val (want_no rfl) (some 88) rfl (.int .i64 (j : Int)) (fun _ => by kernel_rfl) ?_
                  refine pl_val (want_no rfl) (some 89) rfl (.pointer (some ⟨b, (o + j * 1), none⟩)) (run_ixK 22 23 1 Try.underlying22 inz23 _ _ rfl l0 b o len lc (by kernel_rfl) (hl0 (by omega)) .i64 j (by kernel_rfl) (by omega)) ?_
                  refine pl_cell M (want_no rfl) (some 90) rfl 23 _ rfl b (o + j * 1) (by kernel_rfl) (.int .u64 ((X j : Nat) : Int)) (fun _ => by kernel_rfl) (fun w M => M.oldc (hX j (by omega)) (by simp)) ?_
                  refine pl_mk M (want_no rfl) (some 91) rfl (fun g1 => .slice (some ⟨g1, 0, none⟩) 1 1) (.cells (av 1 (ls [.int .u64 ((X j : Nat) : Int)])) 23) (fun _ => by kernel_rfl) ?_
                  intro g1 u3 M
                  replace M : Mem ⟨w, []⟩ [⟨gw0, .cells (av 3 (ls [.int .u64 (s : Int), .int .u64 (h1 : Int), .slice (some ⟨kw0, 0, none⟩) (nW s) (nW s)])) 44⟩, ⟨kw0, .cells (av (nW s) (w64 m1)) 23⟩, ⟨k9, Z9⟩, ⟨g1, .cells (av 1 (ls [.int .u64 ((X j : Nat) : Int)])) 23⟩] u3 := M
                  refine pl_appI M (want_no rfl) (some 92) rfl 22 22 23 (.int .u64 0) Try.underlying22 info23 rfl 2 k9 (q9.length) cap9 Z9 (vsU q9) rfl hZ9 (vsU_len q9) hql 3 g1 23 (.int .u64 ((X j : Nat) : Int)) rfl rfl (fun _ => by kernel_rfl) ?_
                  intro k8 cap8 Z8 u4 hZ8 M
                  replace M : Mem ⟨w, []⟩ [⟨gw0, .cells (av 3 (ls [.int .u64 (s : Int), .int .u64 (h1 : Int), .slice (some ⟨kw0, 0, none⟩) (nW s) (nW s)])) 44⟩, ⟨kw0, .cells (av (nW s) (w64 m1)) 23⟩, ⟨g1, .cells (av 1 (ls [.int .u64 ((X j : Nat) : Int)])) 23⟩, ⟨k8, Z8⟩] u4 := M
                  refine pl_val (want_no rfl) (some 9) rfl (.slice (some ⟨k8, 0, none⟩) (q9.length + 1) cap8) (fun _ => by kernel_rfl) ?_
                  refine pl_nil ?_
                  refine au_then ?_
                  refine wp_seq ?_
                  refine rg_lit ?_
                  refine pl_val (want_no rfl) (some 93) rfl (.int .u64 ((mx q9 : Nat) : Int)) (fun _ => by kernel_rfl) ?_
                  refine pl_val (want_no rfl) (some 94) rfl (.slice l0 len lc) (fun _ => by kernel_rfl) ?_
                  refine pl_val (want_no rfl) (some 95) rfl (.int .i64 (j : Int)) (fun _ => by kernel_rfl) ?_
                  refine pl_val (want_no rfl) (some 96) rfl (.pointer (some ⟨b, (o + j * 1), none⟩)) (run_ixK 22 23 1 Try.underlying22 inz23 _ _ rfl l0 b o len lc (by kernel_rfl) (hl0 (by omega)) .i64 j (by kernel_rfl) (by omega)) ?_
                  refine pl_cell M (want_no rfl) (some 97) rfl 23 _ rfl b (o + j * 1) (by kernel_rfl) (.int .u64 ((X j : Nat) : Int)) (fun _ => by kernel_rfl) (fun w M => M.oldc (hX j (by omega)) (by simp)) ?_
                  refine pl_val (want_no rfl) (some 98) rfl (.int .u64 ((mx (q9 ++ [X j]) : Nat) : Int)) (fun w => Eq.trans (b := .ok (.value (.int .u64 (if ((X j : Nat) : Int) > ((mx q9 : Nat) : Int) then ((X j : Nat) : Int) else ((mx q9 : Nat) : Int)))) w) (by kernel_rfl) (by rw [if_max, mx_more])) ?_
                  refine pl_val (want_no rfl) (some 7) rfl (.int .u64 ((mx (q9 ++ [X j]) : Nat) : Int)) (fun _ => by kernel_rfl) ?_
                  refine pl_nil ?_
                  refine au_then ?_
                  refine rg_lit ?_
                  refine pl_val (want_no rfl) (some 8) rfl (.bool true) (fun _ => by kernel_rfl) ?_
                  refine pl_nil ?_
                  refine au_block ?_
                  refine au_then ?_
                  refine rg_lit ?_
                  refine pl_val (want_no rfl) (some 32) rfl (.int .i64 (j : Int)) (fun _ => by kernel_rfl) ?_
                  refine pl_val (want_no rfl) (some 33) rfl (.int .i64 ((j + 1 : Nat) : Int)) (fun w => Eq.trans (b := .ok (.value (.int .i64 (IntKind.wrap .i64 ((j : Int) + 1)))) w) (by kernel_rfl) (by rw [wrap64 (by omega) (by omega)]; rfl)) ?_
                  refine pl_val (want_no rfl) (some 10) rfl (.int .i64 ((j + 1 : Nat) : Int)) (fun _ => by kernel_rfl) ?_
                  refine pl_nil ?_
                  refine au_then ?_
                  exact ⟨fun k_ => ([v1 4, undef, undef, undef, undef, undef, undef, .bool false, .int .i64 ((q9.length : Nat) : Int), .bool false, .bool true, undef, undef, undef, undef, undef, undef, undef, undef, undef, undef, undef, undef, undef, .int .i64 (j : Int), .slice l0 len lc, .int .i64 (len : Int), .bool true, .int .i64 (j : Int), .int .i64 ((j + 1 : Nat) : Int), .int .i64 ((q9.length : Nat) : Int), .slice (some ⟨k9, 0, none⟩) q9.length cap9, .int .i64 ((q9.length : Nat) : Int), .bool false, v2 38, v2 39, v2 40, v2 41, v2 42, v2 43, v2 44, v2 45, v2 46, v2 47, v2 48, v2 49, v2 50, v2 51, .bool true, .bool true, .slice l0 len lc, .int .i64 (j : Int), .pointer (some ⟨b, (o + j * 1), none⟩), .int .u64 ((X j : Nat) : Int), .int .u64 ((mx q9 : Nat) : Int), .bool true, .bool true, .bool true, .int .u64 ((mx q9 : Nat) : Int), .slice l0 len lc, .int .i64 (j : Int), .pointer (some ⟨b, (o + j * 1), none⟩), .int .u64 ((X j : Nat) : Int), .int .u64 ((mx q9 - X j : Nat) : Int), .int .i64 (s : Int), .int .u64 (s : Int), .bool false, .bool false, .pointer (some ⟨gw0, 0, none⟩), .slice l0 len lc, .int .i64 (j : Int), .pointer (some ⟨b, (o + j * 1), none⟩), .int .u64 ((X j : Nat) : Int), .int .i64 (my s q9 (X j)), .bool true, .bool true, .bool false, .bool false, .bool false, .bool false, .bool false, .bool true, .slice (some ⟨k9, 0, none⟩) q9.length cap9, .slice l0 len lc, .int .i64 (j : Int), .pointer (some ⟨b, (o + j * 1), none⟩), .int .u64 ((X j : Nat) : Int), .slice (some ⟨g1, 0, none⟩) 1 1, .slice (some ⟨k8, 0, none⟩) (q9.length + 1) cap8, .int .u64 ((mx q9 : Nat) : Int), .slice l0 len lc, .int .i64 (j : Int), .pointer (some ⟨b, (o + j * 1), none⟩), .int .u64 ((X j : Nat) : Int), .int .u64 ((mx (q9 ++ [X j]) : Nat) : Int)] : List Value).getD (k_ - 4) undef, h1, m1, q9 ++ [X j], hh1, by rw [← mk_yes c5]; exact I1, by rw [← mk_yes c5]; exact mk_lt hqM (hX0 j (by omega)), by rw [List.length_append]; simp; omega, .inr ⟨k8, cap8, Z8, by rw [List.length_append]; kernel_rfl, by rw [vsU_app]; exact hZ8, by rw [List.length_append]; simp, M.drop (.cons_cons _ (.cons_cons _ (.cons _ (.cons_cons _ .slnil))))⟩⟩
                · skip
                  refine pl_val (want_no rfl) (some 78) rfl (.bool false) (fun w => Eq.trans (b := .ok (.value (.bool (decide ((my s q9 (X j)) = 0)))) w) (by kernel_rfl) (by rw [decide_eq_false (c5)])) ?_
                  refine pl_val (want_no rfl) (some 14) rfl (.bool false) (fun _ => by kernel_rfl) ?_
                  refine pl_nil ?_
                  refine au_then ?_
                  refine wp_seq ?_
                  refine wp_seq ?_
                  refine rg_lit ?_
                  refine pl_val (want_no rfl) (some 79) rfl (.bool false) (fun _ => by kernel_rfl) ?_
                  refine pl_val (want_no rfl) (some 80) rfl (.bool false) (fun _ => by kernel_rfl) ?_
                  refine pl_val (want_no rfl) (some 81) rfl (.bool false) (fun _ => by kernel_rfl) ?_
                  refine pl_val (want_on 2 false rfl 81 rfl (by kernel_rfl)) (some 82) rfl (.bool false) (fun _ => by kernel_rfl) ?_
                  refine pl_val (want_no rfl) (some 83) rfl (.bool false) (fun _ => by kernel_rfl) ?_
                  refine pl_val (want_no rfl) (some 84) rfl (.bool true) (fun _ => by kernel_rfl) ?_
                  refine pl_nil ?_
                  refine au_then ?_
                  refine wp_cond_true (by kernel_rfl) ?_
                  refine wp_seq ?_
                  refine rg_lit ?_
                  refine pl_val (want_no rfl) (some 4) rfl (.bool false) (fun _ => by kernel_rfl) ?_
                  refine pl_nil ?_
                  refine au_then ?_
                  refine wp_ret ?_
                  refine au_then_ret ?_
                  refine au_block_ret ?_
                  refine au_then_ret ?_
                  refine au_then_ret ?_
                  refine au_block_ret ?_
                  refine au_then_ret ?_
                  exfalso
                  first | exact ((my_iff s q9 (X j) hq0).1 c5).1 hin | exact ((my_iff s q9 (X j) hq0).1 c5).2 (by omega) | exact c5 ((my_iff s q9 (X j) hq0).2 ⟨hin, by omega⟩)
              · skip
                refine pl_val (want_on 9 true rfl 61 rfl (by kernel_rfl)) (some 70) rfl (.bool true) (fun w => Eq.trans (b := .ok (.value (.bool (decide ((s : Int) ≤ ((mx q9 - X j : Nat) : Int))))) w) (by kernel_rfl) (by rw [decide_eq_true (by omega)])) ?_
                refine pl_val (want_no rfl) (some 71) rfl (.bool true) (fun _ => by kernel_rfl) ?_
                refine pl_val (want_no rfl) (some 13) rfl (.bool true) (fun _ => by kernel_rfl) ?_
                refine pl_nil ?_
                refine au_then ?_
                refine wp_seq ?_
                refine rg_lit ?_
                refine pl_val (want_no rfl) (some 72) rfl (.pointer (some ⟨gw0, 0, none⟩)) (fun _ => by kernel_rfl) ?_
                refine pl_val (want_no rfl) (some 73) rfl (.slice l0 len lc) (fun _ => by kernel_rfl) ?_
                refine pl_val (want_no rfl) (some 74) rfl (.int .i64 (j : Int)) (fun _ => by kernel_rfl) ?_
                refine pl_val (want_no rfl) (some 75) rfl (.pointer (some ⟨b, (o + j * 1), none⟩)) (run_ixK 22 23 1 Try.underlying22 inz23 _ _ rfl l0 b o len lc (by kernel_rfl) (hl0 (by omega)) .i64 j (by kernel_rfl) (by omega)) ?_
                refine pl_cell M (want_no rfl) (some 76) rfl 23 _ rfl b (o + j * 1) (by kernel_rfl) (.int .u64 ((X j : Nat) : Int)) (fun _ => by kernel_rfl) (fun w M => M.oldc (hX j (by omega)) (by simp)) ?_
                refine pl_call2X M (want_no rfl) (some 77) rfl 9 #[.pointer (some ⟨gw0, 0, none⟩), .int .u64 ((X j : Nat) : Int)] (.int .i64 (my s q9 (X j))) 0 1 gw0 kw0 _ _ (fun x : Nat × (Nat → Int) => .cells (av 3 (ls [.int .u64 (s : Int), .int .u64 (x.1 : Int), .slice (some ⟨kw0, 0, none⟩) (nW s) (nW s)])) 44) (fun x => .cells (av (nW s) (w64 x.2)) 23) (fun x => Inv s x.1 x.2 (mk s q9 (X j)) ∧ x.1 < 18446744073709551616) rfl rfl (fun _ => by kernel_rfl) (fun w M => a_Mark gw0 kw0 s h7 (nW s) m7 (X j) q9 (my s q9 (X j)) (mk s q9 (X j)) hs (Nat.le_refl _) hh7 (hX0 j (by omega)) I7 (rfl) (rfl) w M.laid (M.get 0 rfl) (M.get 1 rfl) (nodup_at M.nodup (i := 0) (j := 1) rfl rfl (by decide))) ?_
                rintro ⟨h1, m1⟩ u2 ⟨I1, hh1⟩ M
                replace M : Mem ⟨w, []⟩ [⟨gw0, .cells (av 3 (ls [.int .u64 (s : Int), .int .u64 (h1 : Int), .slice (some ⟨kw0, 0, none⟩) (nW s) (nW s)])) 44⟩, ⟨kw0, .cells (av (nW s) (w64 m1)) 23⟩, ⟨k9, Z9⟩] u2 := M
                by_cases c5 : (my s q9 (X j)) = 0
                · skip
                  refine pl_val (want_no rfl) (some 78) rfl (.bool true) (fun w => Eq.trans (b := .ok (.value (.bool (decide ((my s q9 (X j)) = 0)))) w) (by kernel_rfl) (by rw [decide_eq_true (c5)])) ?_
                  refine pl_val (want_no rfl) (some 14) rfl (.bool true) (fun _ => by kernel_rfl) ?_
                  refine pl_nil ?_
                  refine au_then ?_
                  refine wp_seq ?_
                  refine wp_seq ?_
                  refine rg_lit ?_
                  refine pl_val (want_no rfl) (some 79) rfl (.bool true) (fun _ => by kernel_rfl) ?_
                  refine pl_val (want_no rfl) (some 80) rfl (.bool false) (fun _ => by kernel_rfl) ?_
                  refine pl_val (want_no rfl) (some 81) rfl (.bool false) (fun _ => by kernel_rfl) ?_
                  refine pl_val (want_on 2 false rfl 81 rfl (by kernel_rfl)) (some 82) rfl (.bool true) (fun _ => by kernel_rfl) ?_
                  refine pl_val (want_no rfl) (some 83) rfl (.bool true) (fun _ => by kernel_rfl) ?_
                  refine pl_val (want_no rfl) (some 84) rfl (.bool true) (fun _ => by kernel_rfl) ?_
                  refine pl_nil ?_
                  refine au_then ?_
                  refine wp_cond_true (by kernel_rfl) ?_
                  refine wp_seq ?_
                  refine rg_lit ?_
                  refine pl_val (want_no rfl) (some 4) rfl (.bool false) (fun _ => by kernel_rfl) ?_
                  refine pl_nil ?_
                  refine au_then ?_
                  refine wp_ret ?_
                  refine au_then_ret ?_
                  refine au_block_ret ?_
                  refine au_then_ret ?_
                  refine au_then_ret ?_
                  refine au_block_ret ?_
                  refine au_then_ret ?_
                  exfalso
                  first | exact ((my_iff s q9 (X j) hq0).1 c5).1 hin | exact ((my_iff s q9 (X j) hq0).1 c5).2 (by omega) | exact c5 ((my_iff s q9 (X j) hq0).2 ⟨hin, by omega⟩)
                · skip
                  refine pl_val (want_no rfl) (some 78) rfl (.bool false) (fun w => Eq.trans (b := .ok (.value (.bool (decide ((my s q9 (X j)) = 0)))) w) (by kernel_rfl) (by rw [decide_eq_false (c5)])) ?_
                  refine pl_val (want_no rfl) (some 14) rfl (.bool false) (fun _ => by kernel_rfl) ?_
                  refine pl_nil ?_
                  refine au_then ?_
                  refine wp_seq ?_
                  refine wp_seq ?_
                  refine rg_lit ?_
                  refine pl_val (want_no rfl) (some 79) rfl (.bool false) (fun _ => by kernel_rfl) ?_
                  refine pl_val (want_no rfl) (some 80) rfl (.bool false) (fun _ => by kernel_rfl) ?_
                  refine pl_val (want_no rfl) (some 81) rfl (.bool false) (fun _ => by kernel_rfl) ?_
                  refine pl_val (want_on 2 false rfl 81 rfl (by kernel_rfl)) (some 82) rfl (.bool true) (fun _ => by kernel_rfl) ?_
                  refine pl_val (want_no rfl) (some 83) rfl (.bool true) (fun _ => by kernel_rfl) ?_
                  refine pl_val (want_no rfl) (some 84) rfl (.bool false) (fun _ => by kernel_rfl) ?_
                  refine pl_nil ?_
                  refine au_then ?_
                  refine wp_cond_false (by kernel_rfl) ?_
                  refine wp_skip ?_
                  refine au_then ?_
                  refine wp_seq ?_
                  refine rg_lit ?_
                  refine pl_val (want_no rfl) (some 85) rfl (.bool false) (fun _ => by kernel_rfl) ?_
                  refine pl_nil ?_
                  refine au_then ?_
                  refine wp_cond_false (by kernel_rfl) ?_
                  refine wp_skip ?_
                  refine au_block ?_
                  refine au_then ?_
                  refine rg_lit ?_
                  refine pl_val (want_no rfl) (some 32) rfl (.int .i64 (j : Int)) (fun _ => by kernel_rfl) ?_
                  refine pl_val (want_no rfl) (some 33) rfl (.int .i64 ((j + 1 : Nat) : Int)) (fun w => Eq.trans (b := .ok (.value (.int .i64 (IntKind.wrap .i64 ((j : Int) + 1)))) w) (by kernel_rfl) (by rw [wrap64 (by omega) (by omega)]; rfl)) ?_
                  refine pl_val (want_no rfl) (some 10) rfl (.int .i64 ((j + 1 : Nat) : Int)) (fun _ => by kernel_rfl) ?_
                  refine pl_nil ?_
                  refine au_then ?_
                  exact ⟨fun k_ => ([v1 4, undef, undef, undef, undef, undef, undef, .bool false, .int .i64 ((q9.length : Nat) : Int), .bool true, .bool false, undef, undef, undef, undef, undef, undef, undef, undef, undef, undef, undef, undef, undef, .int .i64 (j : Int), .slice l0 len lc, .int .i64 (len : Int), .bool true, .int .i64 (j : Int), .int .i64 ((j + 1 : Nat) : Int), .int .i64 ((q9.length : Nat) : Int), .slice (some ⟨k9, 0, none⟩) q9.length cap9, .int .i64 ((q9.length : Nat) : Int), .bool false, v2 38, v2 39, v2 40, v2 41, v2 42, v2 43, v2 44, v2 45, v2 46, v2 47, v2 48, v2 49, v2 50, v2 51, .bool true, .bool true, .slice l0 len lc, .int .i64 (j : Int), .pointer (some ⟨b, (o + j * 1), none⟩), .int .u64 ((X j : Nat) : Int), .int .u64 ((mx q9 : Nat) : Int), .bool true, .bool true, .bool true, .int .u64 ((mx q9 : Nat) : Int), .slice l0 len lc, .int .i64 (j : Int), .pointer (some ⟨b, (o + j * 1), none⟩), .int .u64 ((X j : Nat) : Int), .int .u64 ((mx q9 - X j : Nat) : Int), .int .i64 (s : Int), .int .u64 (s : Int), .bool true, .bool true, .pointer (some ⟨gw0, 0, none⟩), .slice l0 len lc, .int .i64 (j : Int), .pointer (some ⟨b, (o + j * 1), none⟩), .int .u64 ((X j : Nat) : Int), .int .i64 (my s q9 (X j)), .bool false, .bool false, .bool false, .bool false, .bool true, .bool true, .bool false, .bool false, v1 86, v1 87, v1 88, v1 89, v1 90, v1 91, v1 92, v1 93, v1 94, v1 95, v1 96, v1 97, v1 98] : List Value).getD (k_ - 4) undef, h1, m1, q9, hh1, by have h := I1; rw [mk_no c5] at h; exact h, hqM, by omega, .inr ⟨k9, cap9, Z9, by kernel_rfl, hZ9, hq0, M⟩⟩
            · skip
              refine pl_val (want_on 1 true rfl 53 rfl (by kernel_rfl)) (some 59) rfl (.bool false) (fun w => Eq.trans (b := .ok (.value (.bool (decide (((X j : Nat) : Int) < ((mx q9 : Nat) : Int))))) w) (by kernel_rfl) (by rw [decide_eq_false (c3)])) ?_
              refine pl_val (want_no rfl) (some 60) rfl (.bool false) (fun _ => by kernel_rfl) ?_
              refine pl_val (want_no rfl) (some 61) rfl (.bool false) (fun _ => by kernel_rfl) ?_
              refine pl_skip (want_off 9 true rfl 61 rfl (by kernel_rfl)) (some 62) rfl ?_
              refine pl_skip (want_off 9 true rfl 61 rfl (by kernel_rfl)) (some 63) rfl ?_
              refine pl_skip (want_off 9 true rfl 61 rfl (by kernel_rfl)) (some 64) rfl ?_
              refine pl_skip (want_off 9 true rfl 61 rfl (by kernel_rfl)) (some 65) rfl ?_
              refine pl_skip (want_off 9 true rfl 61 rfl (by kernel_rfl)) (some 66) rfl ?_
              refine pl_skip (want_off 9 true rfl 61 rfl (by kernel_rfl)) (some 67) rfl ?_
              refine pl_skip (want_off 9 true rfl 61 rfl (by kernel_rfl)) (some 68) rfl ?_
              refine pl_skip (want_off 9 true rfl 61 rfl (by kernel_rfl)) (some 69) rfl ?_
              refine pl_skip (want_off 9 true rfl 61 rfl (by kernel_rfl)) (some 70) rfl ?_
              refine pl_val (want_no rfl) (some 71) rfl (.bool false) (fun _ => by kernel_rfl) ?_
              refine pl_val (want_no rfl) (some 13) rfl (.bool false) (fun _ => by kernel_rfl) ?_
              refine pl_nil ?_
              refine au_then ?_
              refine wp_seq ?_
              refine rg_lit ?_
              refine pl_val (want_no rfl) (some 72) rfl (.pointer (some ⟨gw0, 0, none⟩)) (fun _ => by kernel_rfl) ?_
              refine pl_val (want_no rfl) (some 73) rfl (.slice l0 len lc) (fun _ => by kernel_rfl) ?_
              refine pl_val (want_no rfl) (some 74) rfl (.int .i64 (j : Int)) (fun _ => by kernel_rfl) ?_
              refine pl_val (want_no rfl) (some 75) rfl (.pointer (some ⟨b, (o + j * 1), none⟩)) (run_ixK 22 23 1 Try.underlying22 inz23 _ _ rfl l0 b o len lc (by kernel_rfl) (hl0 (by omega)) .i64 j (by kernel_rfl) (by omega)) ?_
              refine pl_cell M (want_no rfl) (some 76) rfl 23 _ rfl b (o + j * 1) (by kernel_rfl) (.int .u64 ((X j : Nat) : Int)) (fun _ => by kernel_rfl) (fun w M => M.oldc (hX j (by omega)) (by simp)) ?_
              refine pl_call2X M (want_no rfl) (some 77) rfl 9 #[.pointer (some ⟨gw0, 0, none⟩), .int .u64 ((X j : Nat) : Int)] (.int .i64 (my s q9 (X j))) 0 1 gw0 kw0 _ _ (fun x : Nat × (Nat → Int) => .cells (av 3 (ls [.int .u64 (s : Int), .int .u64 (x.1 : Int), .slice (some ⟨kw0, 0, none⟩) (nW s) (nW s)])) 44) (fun x => .cells (av (nW s) (w64 x.2)) 23) (fun x => Inv s x.1 x.2 (mk s q9 (X j)) ∧ x.1 < 18446744073709551616) rfl rfl (fun _ => by kernel_rfl) (fun w M => a_Mark gw0 kw0 s h7 (nW s) m7 (X j) q9 (my s q9 (X j)) (mk s q9 (X j)) hs (Nat.le_refl _) hh7 (hX0 j (by omega)) I7 (rfl) (rfl) w M.laid (M.get 0 rfl) (M.get 1 rfl) (nodup_at M.nodup (i := 0) (j := 1) rfl rfl (by decide))) ?_
              rintro ⟨h1, m1⟩ u2 ⟨I1, hh1⟩ M
              replace M : Mem ⟨w, []⟩ [⟨gw0, .cells (av 3 (ls [.int .u64 (s : Int), .int .u64 (h1 : Int), .slice (some ⟨kw0, 0, none⟩) (nW s) (nW s)])) 44⟩, ⟨kw0, .cells (av (nW s) (w64 m1)) 23⟩, ⟨k9, Z9⟩] u2 := M
              by_cases c4 : (my s q9 (X j)) = 0
              · skip
                refine pl_val (want_no rfl) (some 78) rfl (.bool true) (fun w => Eq.trans (b := .ok (.value (.bool (decide ((my s q9 (X j)) = 0)))) w) (by kernel_rfl) (by rw [decide_eq_true (c4)])) ?_
                refine pl_val (want_no rfl) (some 14) rfl (.bool true) (fun _ => by kernel_rfl) ?_
                refine pl_nil ?_
                refine au_then ?_
                refine wp_seq ?_
                refine wp_seq ?_
                refine rg_lit ?_
                refine pl_val (want_no rfl) (some 79) rfl (.bool true) (fun _ => by kernel_rfl) ?_
                refine pl_val (want_no rfl) (some 80) rfl (.bool false) (fun _ => by kernel_rfl) ?_
                refine pl_val (want_no rfl) (some 81) rfl (.bool false) (fun _ => by kernel_rfl) ?_
                refine pl_val (want_on 2 false rfl 81 rfl (by kernel_rfl)) (some 82) rfl (.bool false) (fun _ => by kernel_rfl) ?_
                refine pl_val (want_no rfl) (some 83) rfl (.bool false) (fun _ => by kernel_rfl) ?_
                refine pl_val (want_no rfl) (some 84) rfl (.bool false) (fun _ => by kernel_rfl) ?_
                refine pl_nil ?_
                refine au_then ?_
                refine wp_cond_false (by kernel_rfl) ?_
                refine wp_skip ?_
                refine au_then ?_
                refine wp_seq ?_
                refine rg_lit ?_
                refine pl_val (want_no rfl) (some 85) rfl (.bool true) (fun _ => by kernel_rfl) ?_
                refine pl_nil ?_
                refine au_then ?_
                refine wp_cond_true (by kernel_rfl) ?_
                refine wp_seq ?_
                refine rg_lit ?_
                refine pl_val (want_no rfl) (some 86) rfl (.slice (some ⟨k9, 0, none⟩) q9.length cap9) (fun _ => by kernel_rfl) ?_
                refine pl_val (want_no rfl) (some 87) rfl (.slice l0 len lc) (fun _ => by kernel_rfl) ?_
                refine pl_val (want_no rfl) (some 88) rfl (.int .i64 (j : Int)) (fun _ => by kernel_rfl) ?_
                refine pl_val (want_no rfl) (some 89) rfl (.pointer (some ⟨b, (o + j * 1), none⟩)) (run_ixK 22 23 1 Try.underlying22 inz23 _ _ rfl l0 b o len lc (by kernel_rfl) (hl0 (by omega)) .i64 j (by kernel_rfl) (by omega)) ?_
                refine pl_cell M (want_no rfl) (some 90) rfl 23 _ rfl b (o + j * 1) (by kernel_rfl) (.int .u64 ((X j : Nat) : Int)) (fun _ => by kernel_rfl) (fun w M => M.oldc (hX j (by omega)) (by simp)) ?_
                refine pl_mk M (want_no rfl) (some 91) rfl (fun g1 => .slice (some ⟨g1, 0, none⟩) 1 1) (.cells (av 1 (ls [.int .u64 ((X j : Nat) : Int)])) 23) (fun _ => by kernel_rfl) ?_
                intro g1 u3 M
                replace M : Mem ⟨w, []⟩ [⟨gw0, .cells (av 3 (ls [.int .u64 (s : Int), .int .u64 (h1 : Int), .slice (some ⟨kw0, 0, none⟩) (nW s) (nW s)])) 44⟩, ⟨kw0, .cells (av (nW s) (w64 m1)) 23⟩, ⟨k9, Z9⟩, ⟨g1, .cells (av 1 (ls [.int .u64 ((X j : Nat) : Int)])) 23⟩] u3 := M
                refine pl_appI M (want_no rfl) (some 92) rfl 22 22 23 (.int .u64 0) Try.underlying22 info23 rfl 2 k9 (q9.length) cap9 Z9 (vsU q9) rfl hZ9 (vsU_len q9) hql 3 g1 23 (.int .u64 ((X j : Nat) : Int)) rfl rfl (fun _ => by kernel_rfl) ?_
                intro k8 cap8 Z8 u4 hZ8 M
                replace M : Mem ⟨w, []⟩ [⟨gw0, .cells (av 3 (ls [.int .u64 (s : Int), .int .u64 (h1 : Int), .slice (some ⟨kw0, 0, none⟩) (nW s) (nW s)])) 44⟩, ⟨kw0, .cells (av (nW s) (w64 m1)) 23⟩, ⟨g1, .cells (av 1 (ls [.int .u64 ((X j : Nat) : Int)])) 23⟩, ⟨k8, Z8⟩] u4 := M
                refine pl_val (want_no rfl) (some 9) rfl (.slice (some ⟨k8, 0, none⟩) (q9.length + 1) cap8) (fun _ => by kernel_rfl) ?_
                refine pl_nil ?_
                refine au_then ?_
                refine wp_seq ?_
                refine rg_lit ?_
                refine pl_val (want_no rfl) (some 93) rfl (.int .u64 ((mx q9 : Nat) : Int)) (fun _ => by kernel_rfl) ?_
                refine pl_val (want_no rfl) (some 94) rfl (.slice l0 len lc) (fun _ => by kernel_rfl) ?_
                refine pl_val (want_no rfl) (some 95) rfl (.int .i64 (j : Int)) (fun _ => by kernel_rfl) ?_
                refine pl_val (want_no rfl) (some 96) rfl (.pointer (some ⟨b, (o + j * 1), none⟩)) (run_ixK 22 23 1 Try.underlying22 inz23 _ _ rfl l0 b o len lc (by kernel_rfl) (hl0 (by omega)) .i64 j (by kernel_rfl) (by omega)) ?_
                refine pl_cell M (want_no rfl) (some 97) rfl 23 _ rfl b (o + j * 1) (by kernel_rfl) (.int .u64 ((X j : Nat) : Int)) (fun _ => by kernel_rfl) (fun w M => M.oldc (hX j (by omega)) (by simp)) ?_
                refine pl_val (want_no rfl) (some 98) rfl (.int .u64 ((mx (q9 ++ [X j]) : Nat) : Int)) (fun w => Eq.trans (b := .ok (.value (.int .u64 (if ((X j : Nat) : Int) > ((mx q9 : Nat) : Int) then ((X j : Nat) : Int) else ((mx q9 : Nat) : Int)))) w) (by kernel_rfl) (by rw [if_max, mx_more])) ?_
                refine pl_val (want_no rfl) (some 7) rfl (.int .u64 ((mx (q9 ++ [X j]) : Nat) : Int)) (fun _ => by kernel_rfl) ?_
                refine pl_nil ?_
                refine au_then ?_
                refine rg_lit ?_
                refine pl_val (want_no rfl) (some 8) rfl (.bool true) (fun _ => by kernel_rfl) ?_
                refine pl_nil ?_
                refine au_block ?_
                refine au_then ?_
                refine rg_lit ?_
                refine pl_val (want_no rfl) (some 32) rfl (.int .i64 (j : Int)) (fun _ => by kernel_rfl) ?_
                refine pl_val (want_no rfl) (some 33) rfl (.int .i64 ((j + 1 : Nat) : Int)) (fun w => Eq.trans (b := .ok (.value (.int .i64 (IntKind.wrap .i64 ((j : Int) + 1)))) w) (by kernel_rfl) (by rw [wrap64 (by omega) (by omega)]; rfl)) ?_
                refine pl_val (want_no rfl) (some 10) rfl (.int .i64 ((j + 1 : Nat) : Int)) (fun _ => by kernel_rfl) ?_
                refine pl_nil ?_
                refine au_then ?_
                exact ⟨fun k_ => ([v1 4, undef, undef, undef, undef, undef, undef, .bool false, .int .i64 ((q9.length : Nat) : Int), .bool false, .bool true, undef, undef, undef, undef, undef, undef, undef, undef, undef, undef, undef, undef, undef, .int .i64 (j : Int), .slice l0 len lc, .int .i64 (len : Int), .bool true, .int .i64 (j : Int), .int .i64 ((j + 1 : Nat) : Int), .int .i64 ((q9.length : Nat) : Int), .slice (some ⟨k9, 0, none⟩) q9.length cap9, .int .i64 ((q9.length : Nat) : Int), .bool false, v2 38, v2 39, v2 40, v2 41, v2 42, v2 43, v2 44, v2 45, v2 46, v2 47, v2 48, v2 49, v2 50, v2 51, .bool true, .bool true, .slice l0 len lc, .int .i64 (j : Int), .pointer (some ⟨b, (o + j * 1), none⟩), .int .u64 ((X j : Nat) : Int), .int .u64 ((mx q9 : Nat) : Int), .bool false, .bool false, .bool false, undef, undef, undef, undef, undef, undef, undef, undef, undef, .bool false, .pointer (some ⟨gw0, 0, none⟩), .slice l0 len lc, .int .i64 (j : Int), .pointer (some ⟨b, (o + j * 1), none⟩), .int .u64 ((X j : Nat) : Int), .int .i64 (my s q9 (X j)), .bool true, .bool true, .bool false, .bool false, .bool false, .bool false, .bool false, .bool true, .slice (some ⟨k9, 0, none⟩) q9.length cap9, .slice l0 len lc, .int .i64 (j : Int), .pointer (some ⟨b, (o + j * 1), none⟩), .int .u64 ((X j : Nat) : Int), .slice (some ⟨g1, 0, none⟩) 1 1, .slice (some ⟨k8, 0, none⟩) (q9.length + 1) cap8, .int .u64 ((mx q9 : Nat) : Int), .slice l0 len lc, .int .i64 (j : Int), .pointer (some ⟨b, (o + j * 1), none⟩), .int .u64 ((X j : Nat) : Int), .int .u64 ((mx (q9 ++ [X j]) : Nat) : Int)] : List Value).getD (k_ - 4) undef, h1, m1, q9 ++ [X j], hh1, by rw [← mk_yes c4]; exact I1, by rw [← mk_yes c4]; exact mk_lt hqM (hX0 j (by omega)), by rw [List.length_append]; simp; omega, .inr ⟨k8, cap8, Z8, by rw [List.length_append]; kernel_rfl, by rw [vsU_app]; exact hZ8, by rw [List.length_append]; simp, M.drop (.cons_cons _ (.cons_cons _ (.cons _ (.cons_cons _ .slnil))))⟩⟩
              · skip
                refine pl_val (want_no rfl) (some 78) rfl (.bool false) (fun w => Eq.trans (b := .ok (.value (.bool (decide ((my s q9 (X j)) = 0)))) w) (by kernel_rfl) (by rw [decide_eq_false (c4)])) ?_
                refine pl_val (want_no rfl) (some 14) rfl (.bool false) (fun _ => by kernel_rfl) ?_
                refine pl_nil ?_
                refine au_then ?_
                refine wp_seq ?_
                refine wp_seq ?_
                refine rg_lit ?_
                refine pl_val (want_no rfl) (some 79) rfl (.bool false) (fun _ => by kernel_rfl) ?_
                refine pl_val (want_no rfl) (some 80) rfl (.bool false) (fun _ => by kernel_rfl) ?_
                refine pl_val (want_no rfl) (some 81) rfl (.bool false) (fun _ => by kernel_rfl) ?_
                refine pl_val (want_on 2 false rfl 81 rfl (by kernel_rfl)) (some 82) rfl (.bool false) (fun _ => by kernel_rfl) ?_
                refine pl_val (want_no rfl) (some 83) rfl (.bool false) (fun _ => by kernel_rfl) ?_
                refine pl_val (want_no rfl) (some 84) rfl (.bool true) (fun _ => by kernel_rfl) ?_
                refine pl_nil ?_
                refine au_then ?_
                refine wp_cond_true (by kernel_rfl) ?_
                refine wp_seq ?_
                refine rg_lit ?_
                refine pl_val (want_no rfl) (some 4) rfl (.bool false) (fun _ => by kernel_rfl) ?_
                refine pl_nil ?_
                refine au_then ?_
                refine wp_ret ?_
                refine au_then_ret ?_
                refine au_block_ret ?_
                refine au_then_ret ?_
                refine au_then_ret ?_
                refine au_block_ret ?_
                refine au_then_ret ?_
                exfalso
                first | exact ((my_iff s q9 (X j) hq0).1 c4).1 hin | exact ((my_iff s q9 (X j) hq0).1 c4).2 (by omega) | exact c4 ((my_iff s q9 (X j) hq0).2 ⟨hin, by omega⟩)
    · intro a u0 hI
      obtain ⟨v1, h7, m7, q9, hh7, I7, hqM, hqj, hD⟩ := hI
      rcases hD with ⟨rfl, rfl, M⟩ | ⟨k9, cap9, Z9, rfl, hZ9, hq0, M⟩
      · skip
        refine wp_seq ?_
        refine wp_seq ?_
        refine rg_lit ?_
        refine pl_val (want_no rfl) (some 28) rfl (.int .i64 (len : Int)) (fun _ => by kernel_rfl) ?_
        refine pl_val (want_no rfl) (some 29) rfl (.slice l0 len lc) (fun _ => by kernel_rfl) ?_
        refine pl_val (want_no rfl) (some 30) rfl (.int .i64 (len : Int)) (fun _ => by kernel_rfl) ?_
        refine pl_val (want_no rfl) (some 31) rfl (.bool false) (fun w => Eq.trans (b := .ok (.value (.bool (decide ((len : Int) < (len : Int))))) w) (by kernel_rfl) (by rw [decide_eq_false (by omega)])) ?_
        refine pl_nil ?_
        refine au_then ?_
        refine wp_cond_false (by kernel_rfl) ?_
        refine wp_exit ?_
        refine au_then_exit ?_
        refine au_then_exit ?_
        refine au_block_exit ?_
        refine au_then ?_
        refine wp_seq ?_
        refine rg_lit ?_
        refine pl_call M (want_no rfl) (some 99) rfl 6 #[] (.bool true) (fun _ => by kernel_rfl) (fun w M => c_alive w M.laid) ?_
        intro u2 M
        refine pl_val (want_no rfl) (some 4) rfl (.bool true) (fun _ => by kernel_rfl) ?_
        refine pl_nil ?_
        refine au_then ?_
        refine wp_ret ?_
        exact bodyPost_ret (v := .bool true) (results_tmp1 Try.results4 _ _ _ (by kernel_rfl)) (by kernel_rfl) ⟨rfl, below_grown M.old⟩
      · skip
        have hql : q9.length < 1000000 := by omega
        have hmx := mx_lt (by decide) hqM
        refine wp_seq ?_
        refine wp_seq ?_
        refine rg_lit ?_
        refine pl_val (want_no rfl) (some 28) rfl (.int .i64 (len : Int)) (fun _ => by kernel_rfl) ?_
        refine pl_val (want_no rfl) (some 29) rfl (.slice l0 len lc) (fun _ => by kernel_rfl) ?_
        refine pl_val (want_no rfl) (some 30) rfl (.int .i64 (len : Int)) (fun _ => by kernel_rfl) ?_
        refine pl_val (want_no rfl) (some 31) rfl (.bool false) (fun w => Eq.trans (b := .ok (.value (.bool (decide ((len : Int) < (len : Int))))) w) (by kernel_rfl) (by rw [decide_eq_false (by omega)])) ?_
        refine pl_nil ?_
        refine au_then ?_
        refine wp_cond_false (by kernel_rfl) ?_
        refine wp_exit ?_
        refine au_then_exit ?_
        refine au_then_exit ?_
        refine au_block_exit ?_
        refine au_then ?_
        refine wp_seq ?_
        refine rg_lit ?_
        refine pl_call M (want_no rfl) (some 99) rfl 6 #[] (.bool true) (fun _ => by kernel_rfl) (fun w M => c_alive w M.laid) ?_
        intro u2 M
        refine pl_val (want_no rfl) (some 4) rfl (.bool true) (fun _ => by kernel_rfl) ?_
        refine pl_nil ?_
        refine au_then ?_
        refine wp_ret ?_
        exact bodyPost_ret (v := .bool true) (results_tmp1 Try.results4 _ _ _ (by kernel_rfl)) (by kernel_rfl) ⟨rfl, below_grown M.old⟩


end Go.Proofs.Ytpcdnagonpnpmaa
