/- The document's window. -/
import Derived.Test.YtpcdnagonpnpmaaA5
namespace Go.Proofs.Ytpcdnagonpnpmaa
open Go.RowKit

/-- Numbers as cells. -/
def vsU (l : List Nat) : List Value := l.map fun (n : Nat) => Value.int .u64 (n : Int)
theorem vsU_len (l : List Nat) : (vsU l).length = l.length := by simp [vsU]
theorem vsU_app (l : List Nat) (n : Nat) : vsU (l ++ [n]) = vsU l ++ [.int .u64 (n : Int)] := by simp [vsU]
theorem vsU_at (l : List Nat) (j : Nat) (h : j < l.length) : (vsU l)[j]? = some (.int .u64 ((l.getD j 0 : Nat) : Int)) := by
  simp [vsU, h]
theorem mx_step (l : List Nat) (j : Nat) (h : j < l.length) : max ((mx (l.take j) : Nat) : Int) ((l.getD j 0 : Nat) : Int) = ((mx (l.take (j + 1)) : Nat) : Int) := by
  have e : l.take (j + 1) = l.take j ++ [l.getD j 0] := by
    rw [List.take_add_one]
    simp [h]
  rw [e, mx_app]
  omega
theorem my_nil (s n : Nat) : my s [] n = 0 := by simp [my]
theorem mk_nil (s n : Nat) : mk s [] n = [n] := by simp [mk, my_nil]
theorem mk_yes {s n : Nat} {l : List Nat} (h : my s l n = 0) : mk s l n = l ++ [n] := if_pos h
theorem mk_no {s n : Nat} {l : List Nat} (h : ¬ my s l n = 0) : mk s l n = l := if_neg h
theorem my_old {s n : Nat} (l : List Nat) (h0 : 0 < l.length) (h1 : n < mx l) (h2 : s ≤ mx l - n) : my s l n = 170 := if_pos ⟨fun e => by subst e; simp at h0, h1, h2⟩
theorem my_there {s n : Nat} (l : List Nat) (j : Nat) (hj : j < l.length) (hn : ¬ (n < mx l ∧ s ≤ mx l - n)) (h : l.getD j 0 = n) : my s l n = 9 := by
  unfold my
  rw [if_neg (fun x => hn x.2), if_pos]
  rw [← h]
  simp [hj]
theorem my_free {s n : Nat} (l : List Nat) (hn : ¬ (n < mx l ∧ s ≤ mx l - n)) (h : ∀ i, i < l.length → l.getD i 0 ≠ n) : my s l n = 0 := by
  unfold my
  rw [if_neg (fun x => hn x.2), if_neg]
  intro hm
  obtain ⟨i, hi, e⟩ := List.mem_iff_getElem.1 hm
  exact h i hi (by simp [hi, e])
theorem ex_step {l : List Nat} {n j : Nat} (h : ∀ i, i < j → l.getD i 0 ≠ n) (hj : l.getD j 0 ≠ n) : ∀ i, i < j + 1 → l.getD i 0 ≠ n := by
  intro i hi
  by_cases e : i = j
  · subst e
    exact hj
  · exact h i (by omega)
set_option maxRecDepth 100000 in
set_option maxHeartbeats 4000000 in
set_option linter.unusedSimpArgs false in
theorem d_Highest0 (g s : Nat) (w : World) (hL : Laid w)  (hg : w.heap[g]? = some (.cells (av 2 (ls [.int .i64 (s : Int), .slice none 0 0])) 31)) :
    Calls Try.prog 14 #[.pointer (some ⟨g, 0, none⟩)] w fun r w' => r = .returned (.tuple #[.int .u64 0, .bool false]) ∧ Below w.heap.size w w' := by
  go_enter Try.func14, Try.ntmps14
  have M := Mem.startp hL hg
  refine wp_seq ?_
  refine rg_lit ?_
  refine pl_val (want_no rfl) (some 2) rfl (.int .u64 0) (fun _ => by kernel_rfl) ?_
  refine pl_val (want_no rfl) (some 3) rfl (.bool false) (fun _ => by kernel_rfl) ?_
  refine pl_nil ?_
  refine au_then ?_
  refine wp_seq ?_
  refine rg_lit ?_
  refine pl_val (want_no rfl) (some 4) rfl (.int .u64 0) (fun _ => by kernel_rfl) ?_
  refine pl_nil ?_
  refine au_then ?_
  refine wp_seq ?_
  refine wp_seq ?_
  refine rg_lit ?_
  refine pl_val (want_no rfl) (some 5) rfl (.int .i64 0) (fun _ => by kernel_rfl) ?_
  refine pl_nil ?_
  refine au_then ?_
  refine wp_block ?_
  refine wp_loop_rounds 1 ?_
  refine rounds_go ?_
  refine wp_seq ?_
  refine wp_seq ?_
  refine rg_lit ?_
  refine pl_val (want_no rfl) (some 6) rfl (.int .i64 0) (fun _ => by kernel_rfl) ?_
  refine pl_val (want_no rfl) (some 7) rfl (.pointer (some ⟨g, 0, none⟩)) (fun _ => by kernel_rfl) ?_
  refine pl_val (want_no rfl) (some 8) rfl (.pointer (some ⟨g, 0, none⟩)) (fun _ => by kernel_rfl) ?_
  refine pl_val (want_no rfl) (some 9) rfl (.pointer (some ⟨g, 1, none⟩)) (fun _ => by kernel_rfl) ?_
  refine pl_cell M (want_no rfl) (some 10) rfl 22 _ rfl g 1 (by kernel_rfl) (.slice none 0 0) (fun _ => by kernel_rfl) (fun w M => M.cell 0 rfl (by decide) rfl) ?_
  refine pl_val (want_no rfl) (some 11) rfl (.int .i64 0) (fun _ => by kernel_rfl) ?_
  refine pl_val (want_no rfl) (some 12) rfl (.bool false) (fun _ => by kernel_rfl) ?_
  refine pl_nil ?_
  refine au_then ?_
  refine wp_cond_false (by kernel_rfl) ?_
  refine wp_exit ?_
  refine au_then_exit ?_
  refine au_then_exit ?_
  refine au_block_exit ?_
  refine au_then ?_
  refine wp_seq ?_
  refine rg_held M [⟨g, .cells (av 2 (ls [.int .i64 (s : Int), .slice none 0 0])) 31⟩] 8 rfl (by kernel_rfl) (by kernel_rfl) (fun _ _ d _ _ h => by cases d <;> exact h) ?_
  intro u1 M
  replace M : Mem ⟨w, [g]⟩ [⟨g, .cells (av 2 (ls [.int .i64 (s : Int), .slice none 0 0])) 31⟩] u1 := M
  refine hl_val M 0 rfl (by decide) (by kernel_rfl) (by kernel_rfl) (want_no rfl) (some 24) rfl (.int .u64 0) (fun _ _ => by kernel_rfl) ?_
  refine hl_val M 1 rfl (by decide) (by kernel_rfl) (by kernel_rfl) (want_no rfl) (some 25) rfl (.pointer (some ⟨g, 0, none⟩)) (fun _ _ => by kernel_rfl) ?_
  refine hl_val M 2 rfl (by decide) (by kernel_rfl) (by kernel_rfl) (want_no rfl) (some 26) rfl (.pointer (some ⟨g, 0, none⟩)) (fun _ _ => by kernel_rfl) ?_
  refine hl_val M 3 rfl (by decide) (by kernel_rfl) (by kernel_rfl) (want_no rfl) (some 27) rfl (.pointer (some ⟨g, 1, none⟩)) (fun _ _ => by kernel_rfl) ?_
  refine hl_cell M 4 rfl (by decide) (by kernel_rfl) (by kernel_rfl) (want_no rfl) (some 28) rfl 22 _ rfl g 1 (by kernel_rfl) (.slice none 0 0) (fun _ => by kernel_rfl) (fun w M => M.cell 0 rfl (by decide) rfl) ?_
  refine hl_val M 5 rfl (by decide) (by kernel_rfl) (by kernel_rfl) (want_no rfl) (some 29) rfl (.int .i64 0) (fun _ _ => by kernel_rfl) ?_
  refine hl_val M 6 rfl (by decide) (by kernel_rfl) (by kernel_rfl) (want_no rfl) (some 30) rfl (.bool false) (fun _ _ => by kernel_rfl) ?_
  refine hl_val M 7 rfl (by decide) (by kernel_rfl) (by kernel_rfl) (want_no rfl) (some 2) rfl (.int .u64 0) (fun _ _ => by kernel_rfl) ?_
  refine hl_end (by kernel_rfl) (by kernel_rfl) rfl ?_
  refine pl_val (want_no rfl) (some 3) rfl (.bool false) (fun _ => by kernel_rfl) ?_
  refine pl_nil ?_
  refine au_then ?_
  refine au_then ?_
  refine wp_ret ?_
  exact bodyPost_ret (v := .tuple #[.int .u64 0, .bool false]) (results_tmp2 Try.results14 _ _ _ _ (by kernel_rfl) (by kernel_rfl)) (by kernel_rfl) ⟨rfl, ro_below1 M.old hg (M.get 0 rfl)⟩

set_option maxRecDepth 100000 in
set_option maxHeartbeats 4000000 in
set_option linter.unusedSimpArgs false in
theorem d_May0 (g s : Nat) (n : Nat) (w : World) (hL : Laid w)  (hg : w.heap[g]? = some (.cells (av 2 (ls [.int .i64 (s : Int), .slice none 0 0])) 31)) :
    Calls Try.prog 11 #[.pointer (some ⟨g, 0, none⟩), .int .u64 (n : Int)] w fun r w' => r = .returned (.int .i64 (my s [] n)) ∧ Below w.heap.size w w' := by
  go_enter Try.func11, Try.ntmps11
  have M := Mem.startp hL hg
  refine wp_seq ?_
  refine rg_lit ?_
  refine pl_val (want_no rfl) (some 4) rfl (.int .i64 0) (fun _ => by kernel_rfl) ?_
  refine pl_nil ?_
  refine au_then ?_
  refine wp_seq ?_
  refine rg_lit ?_
  refine pl_val (want_no rfl) (some 9) rfl (.pointer (some ⟨g, 0, none⟩)) (fun _ => by kernel_rfl) ?_
  refine pl_call M (want_no rfl) (some 10) rfl 14 #[.pointer (some ⟨g, 0, none⟩)] (.tuple #[.int .u64 0, .bool false]) (fun _ => by kernel_rfl) (fun w M => d_Highest0 g s w M.laid (M.get 0 rfl)) ?_
  intro u1 M
  refine pl_val (want_no rfl) (some 8) rfl (.tuple #[.int .u64 0, .bool false]) (fun _ => by kernel_rfl) ?_
  refine pl_val (want_no rfl) (some 11) rfl (.int .u64 0) (fun _ => by kernel_rfl) ?_
  refine pl_val (want_no rfl) (some 12) rfl (.bool false) (fun _ => by kernel_rfl) ?_
  refine pl_val (want_no rfl) (some 5) rfl (.int .u64 0) (fun _ => by kernel_rfl) ?_
  refine pl_val (want_no rfl) (some 6) rfl (.bool false) (fun _ => by kernel_rfl) ?_
  refine pl_nil ?_
  refine au_then ?_
  refine wp_seq ?_
  refine wp_seq ?_
  refine rg_lit ?_
  refine pl_val (want_no rfl) (some 13) rfl (.bool false) (fun _ => by kernel_rfl) ?_
  refine pl_val (want_no rfl) (some 14) rfl (.bool false) (fun _ => by kernel_rfl) ?_
  refine pl_skip (want_off 1 true rfl 14 rfl (by kernel_rfl)) (some 15) rfl ?_
  refine pl_skip (want_off 1 true rfl 14 rfl (by kernel_rfl)) (some 16) rfl ?_
  refine pl_skip (want_off 1 true rfl 14 rfl (by kernel_rfl)) (some 17) rfl ?_
  refine pl_val (want_no rfl) (some 18) rfl (.bool false) (fun _ => by kernel_rfl) ?_
  refine pl_val (want_no rfl) (some 19) rfl (.bool false) (fun _ => by kernel_rfl) ?_
  refine pl_skip (want_off 6 true rfl 19 rfl (by kernel_rfl)) (some 20) rfl ?_
  refine pl_skip (want_off 6 true rfl 19 rfl (by kernel_rfl)) (some 21) rfl ?_
  refine pl_skip (want_off 6 true rfl 19 rfl (by kernel_rfl)) (some 22) rfl ?_
  refine pl_skip (want_off 6 true rfl 19 rfl (by kernel_rfl)) (some 23) rfl ?_
  refine pl_skip (want_off 6 true rfl 19 rfl (by kernel_rfl)) (some 24) rfl ?_
  refine pl_skip (want_off 6 true rfl 19 rfl (by kernel_rfl)) (some 25) rfl ?_
  refine pl_skip (want_off 6 true rfl 19 rfl (by kernel_rfl)) (some 26) rfl ?_
  refine pl_skip (want_off 6 true rfl 19 rfl (by kernel_rfl)) (some 27) rfl ?_
  refine pl_skip (want_off 6 true rfl 19 rfl (by kernel_rfl)) (some 28) rfl ?_
  refine pl_val (want_no rfl) (some 29) rfl (.bool false) (fun _ => by kernel_rfl) ?_
  refine pl_nil ?_
  refine au_then ?_
  refine wp_cond_false (by kernel_rfl) ?_
  refine wp_skip ?_
  refine au_then ?_
  refine wp_seq ?_
  refine wp_seq ?_
  refine rg_lit ?_
  refine pl_val (want_no rfl) (some 7) rfl (.int .i64 0) (fun _ => by kernel_rfl) ?_
  refine pl_nil ?_
  refine au_then ?_
  refine wp_block ?_
  refine wp_loop_rounds 1 ?_
  refine rounds_go ?_
  refine wp_seq ?_
  refine wp_seq ?_
  refine rg_lit ?_
  refine pl_val (want_no rfl) (some 30) rfl (.int .i64 0) (fun _ => by kernel_rfl) ?_
  refine pl_val (want_no rfl) (some 31) rfl (.pointer (some ⟨g, 0, none⟩)) (fun _ => by kernel_rfl) ?_
  refine pl_val (want_no rfl) (some 32) rfl (.pointer (some ⟨g, 0, none⟩)) (fun _ => by kernel_rfl) ?_
  refine pl_val (want_no rfl) (some 33) rfl (.pointer (some ⟨g, 1, none⟩)) (fun _ => by kernel_rfl) ?_
  refine pl_cell M (want_no rfl) (some 34) rfl 22 _ rfl g 1 (by kernel_rfl) (.slice none 0 0) (fun _ => by kernel_rfl) (fun w M => M.cell 0 rfl (by decide) rfl) ?_
  refine pl_val (want_no rfl) (some 35) rfl (.int .i64 0) (fun _ => by kernel_rfl) ?_
  refine pl_val (want_no rfl) (some 36) rfl (.bool false) (fun _ => by kernel_rfl) ?_
  refine pl_nil ?_
  refine au_then ?_
  refine wp_cond_false (by kernel_rfl) ?_
  refine wp_exit ?_
  refine au_then_exit ?_
  refine au_then_exit ?_
  refine au_block_exit ?_
  refine au_then ?_
  refine wp_seq ?_
  refine rg_lit ?_
  refine pl_val (want_no rfl) (some 4) rfl (.int .i64 0) (fun _ => by kernel_rfl) ?_
  refine pl_nil ?_
  refine au_then ?_
  refine wp_ret ?_
  exact bodyPost_ret (v := .int .i64 0) (results_tmp1 Try.results11 _ _ _ (by kernel_rfl)) (by kernel_rfl) ⟨by rw [my_nil], ro_below1 M.old hg (M.get 0 rfl)⟩

set_option maxRecDepth 100000 in
set_option maxHeartbeats 4000000 in
set_option linter.unusedSimpArgs false in
theorem d_Mark0 (g s : Nat) (n : Nat) (w : World) (hL : Laid w)  (hg : w.heap[g]? = some (.cells (av 2 (ls [.int .i64 (s : Int), .slice none 0 0])) 31)) :
    Calls Try.prog 12 #[.pointer (some ⟨g, 0, none⟩), .int .u64 (n : Int)] w fun r w' => ∃ x : Nat × Nat × Obj, r = .returned (.int .i64 (my s [] n)) ∧ SB x.2.2 x.2.1 (vsU (mk s [] n)) ∧ OkT w w' [⟨g, .cells (av 2 (ls [.int .i64 (s : Int), .slice none 0 0])) 31⟩] [⟨g, .cells (av 2 (ls [.int .i64 (s : Int), .slice (some ⟨x.1, 0, none⟩) (mk s [] n).length x.2.1])) 31⟩, ⟨x.1, x.2.2⟩] := by
  go_enter Try.func12, Try.ntmps12
  have M := Mem.startp hL hg
  refine wp_seq ?_
  refine rg_lit ?_
  refine pl_val (want_no rfl) (some 4) rfl (.int .i64 0) (fun _ => by kernel_rfl) ?_
  refine pl_nil ?_
  refine au_then ?_
  refine wp_seq ?_
  refine rg_lit ?_
  refine pl_val (want_no rfl) (some 6) rfl (.pointer (some ⟨g, 0, none⟩)) (fun _ => by kernel_rfl) ?_
  refine pl_val (want_no rfl) (some 7) rfl (.int .u64 (n : Int)) (fun _ => by kernel_rfl) ?_
  refine pl_call M (want_no rfl) (some 8) rfl 11 #[.pointer (some ⟨g, 0, none⟩), .int .u64 (n : Int)] (.int .i64 0) (fun _ => by kernel_rfl) (fun w M => call_val (d_May0 g s n w M.laid (M.get 0 rfl)) (by rw [my_nil])) ?_
  intro u1 M
  refine pl_val (want_no rfl) (some 5) rfl (.int .i64 0) (fun _ => by kernel_rfl) ?_
  refine pl_nil ?_
  refine au_then ?_
  refine wp_seq ?_
  refine wp_seq ?_
  refine rg_lit ?_
  refine pl_val (want_no rfl) (some 9) rfl (.int .i64 0) (fun _ => by kernel_rfl) ?_
  refine pl_val (want_no rfl) (some 10) rfl (.bool true) (fun _ => by kernel_rfl) ?_
  refine pl_nil ?_
  refine au_then ?_
  refine wp_cond_true (by kernel_rfl) ?_
  refine rg_lit ?_
  refine pl_val (want_no rfl) (some 11) rfl (.pointer (some ⟨g, 0, none⟩)) (fun _ => by kernel_rfl) ?_
  refine pl_val (want_no rfl) (some 12) rfl (.pointer (some ⟨g, 0, none⟩)) (fun _ => by kernel_rfl) ?_
  refine pl_val (want_no rfl) (some 13) rfl (.pointer (some ⟨g, 0, none⟩)) (fun _ => by kernel_rfl) ?_
  refine pl_val (want_no rfl) (some 14) rfl (.pointer (some ⟨g, 1, none⟩)) (fun _ => by kernel_rfl) ?_
  refine pl_cell M (want_no rfl) (some 15) rfl 22 _ rfl g 1 (by kernel_rfl) (.slice none 0 0) (fun _ => by kernel_rfl) (fun w M => M.cell 0 rfl (by decide) rfl) ?_
  refine pl_val (want_no rfl) (some 16) rfl (.int .u64 (n : Int)) (fun _ => by kernel_rfl) ?_
  refine pl_mk M (want_no rfl) (some 17) rfl (fun g1 => .slice (some ⟨g1, 0, none⟩) 1 1) (.cells (av 1 (ls [.int .u64 (n : Int)])) 23) (fun _ => by kernel_rfl) ?_
  intro g1 u2 M
  replace M : Mem ⟨w, [g]⟩ [⟨g, .cells (av 2 (ls [.int .i64 (s : Int), .slice none 0 0])) 31⟩, ⟨g1, .cells (av 1 (ls [.int .u64 (n : Int)])) 23⟩] u2 := M
  refine pl_app0I M (want_no rfl) (some 18) rfl 22 22 23 (.int .u64 0) Try.underlying22 info23 rfl 1 g1 23 (.int .u64 (n : Int)) rfl (fun _ => by kernel_rfl) ?_
  intro g8 cap8 Z8 u3 hZ8 M
  replace M : Mem ⟨w, [g]⟩ [⟨g, .cells (av 2 (ls [.int .i64 (s : Int), .slice none 0 0])) 31⟩, ⟨g1, .cells (av 1 (ls [.int .u64 (n : Int)])) 23⟩, ⟨g8, Z8⟩] u3 := M
  refine pl_val (want_no rfl) (some 19) rfl (.pointer (some ⟨g, 0, none⟩)) (fun _ => by kernel_rfl) ?_
  refine pl_val (want_no rfl) (some 20) rfl (.pointer (some ⟨g, 1, none⟩)) (fun _ => by kernel_rfl) ?_
  refine pl_put1 M (want_no rfl) rfl 22 _ _ rfl 0 g 1 (by kernel_rfl) 2 31 (ls [.int .i64 (s : Int), .slice none 0 0]) rfl (.slice (some ⟨g8, 0, none⟩) 1 cap8) (ls [.int .i64 (s : Int), .slice (some ⟨g8, 0, none⟩) 1 cap8]) (by kernel_rfl) inz22 (by decide) rfl rfl (put_ls _ 1 _ _ rfl) ?_
  intro u4 M
  replace M : Mem ⟨w, [g]⟩ [⟨g, .cells (av 2 (ls [.int .i64 (s : Int), .slice (some ⟨g8, 0, none⟩) 1 cap8])) 31⟩, ⟨g1, .cells (av 1 (ls [.int .u64 (n : Int)])) 23⟩, ⟨g8, Z8⟩] u4 := M
  refine pl_nil ?_
  refine au_then ?_
  refine wp_seq ?_
  refine rg_lit ?_
  refine pl_val (want_no rfl) (some 21) rfl (.int .i64 0) (fun _ => by kernel_rfl) ?_
  refine pl_val (want_no rfl) (some 4) rfl (.int .i64 0) (fun _ => by kernel_rfl) ?_
  refine pl_nil ?_
  refine au_then ?_
  refine wp_ret ?_
  exact bodyPost_ret (v := .int .i64 0) (results_tmp1 Try.results12 _ _ _ (by kernel_rfl)) (by kernel_rfl) ⟨(g8, cap8, Z8), by rw [my_nil], by rw [mk_nil]; exact hZ8, by rw [mk_nil]; exact Mem.okT (L := []) (T := [⟨g, _⟩]) (M.drop (.cons_cons _ (.cons _ (.cons_cons _ .slnil))))⟩

set_option maxRecDepth 100000 in
set_option maxHeartbeats 4000000 in
set_option linter.unusedSimpArgs false in
theorem d_Highest1 (g s : Nat) (l : List Nat) (k cap : Nat) (Z : Obj) (hZ : SB Z cap (vsU l)) (h0 : 0 < l.length) (hl : l.length < 1000000) (w : World) (hL : Laid w)  (hg0 : w.heap[g]? = some (.cells (av 2 (ls [.int .i64 (s : Int), .slice (some ⟨k, 0, none⟩) l.length cap])) 31)) (hg1 : w.heap[k]? = some Z) (hne : g ≠ k) :
    Calls Try.prog 14 #[.pointer (some ⟨g, 0, none⟩)] w fun r w' => r = .returned (.tuple #[.int .u64 ((mx l : Nat) : Int), .bool true]) ∧ Below w.heap.size w w' := by
  go_enter Try.func14, Try.ntmps14
  have M := Mem.startp2 hL hg0 hg1 hne
  refine wp_seq ?_
  refine rg_lit ?_
  refine pl_val (want_no rfl) (some 2) rfl (.int .u64 0) (fun _ => by kernel_rfl) ?_
  refine pl_val (want_no rfl) (some 3) rfl (.bool false) (fun _ => by kernel_rfl) ?_
  refine pl_nil ?_
  refine au_then ?_
  refine wp_seq ?_
  refine rg_lit ?_
  refine pl_val (want_no rfl) (some 4) rfl (.int .u64 0) (fun _ => by kernel_rfl) ?_
  refine pl_nil ?_
  refine au_then ?_
  refine wp_seq ?_
  refine wp_seq ?_
  refine rg_lit ?_
  refine pl_val (want_no rfl) (some 5) rfl (.int .i64 0) (fun _ => by kernel_rfl) ?_
  refine pl_nil ?_
  refine au_then ?_
  refine wp_block ?_
  refine au_loop (fun j a w' => ∃ v1 : Nat → Value, a = ⟨#[.pointer (some ⟨g, 0, none⟩), undef, .int .u64 0, .bool false, .int .u64 ((mx (l.take j) : Nat) : Int), .int .i64 (j : Int), v1 6, v1 7, v1 8, v1 9, v1 10, v1 11, v1 12, v1 13, v1 14, v1 15, v1 16, v1 17, v1 18, v1 19, v1 20, v1 21, v1 22, v1 23, undef, undef, undef, undef, undef, undef, undef], []⟩ ∧ Mem ⟨w, [g, k]⟩ [⟨g, .cells (av 2 (ls [.int .i64 (s : Int), .slice (some ⟨k, 0, none⟩) l.length cap])) 31⟩, ⟨k, Z⟩] w') l.length ⟨fun k_ => ([undef, undef, undef, undef, undef, undef, undef, undef, undef, undef, undef, undef, undef, undef, undef, undef, undef, undef] : List Value).getD (k_ - 6) undef, by kernel_rfl, M⟩ ?_ ?_
  · intro j a u0 hj hI
    obtain ⟨v1, rfl, M⟩ := hI
    refine wp_seq ?_
    refine wp_seq ?_
    refine rg_lit ?_
    refine pl_val (want_no rfl) (some 6) rfl (.int .i64 (j : Int)) (fun _ => by kernel_rfl) ?_
    refine pl_val (want_no rfl) (some 7) rfl (.pointer (some ⟨g, 0, none⟩)) (fun _ => by kernel_rfl) ?_
    refine pl_val (want_no rfl) (some 8) rfl (.pointer (some ⟨g, 0, none⟩)) (fun _ => by kernel_rfl) ?_
    refine pl_val (want_no rfl) (some 9) rfl (.pointer (some ⟨g, 1, none⟩)) (fun _ => by kernel_rfl) ?_
    refine pl_cell M (want_no rfl) (some 10) rfl 22 _ rfl g 1 (by kernel_rfl) (.slice (some ⟨k, 0, none⟩) l.length cap) (fun _ => by kernel_rfl) (fun w M => M.cell 0 rfl (by decide) rfl) ?_
    refine pl_val (want_no rfl) (some 11) rfl (.int .i64 ((l.length : Nat) : Int)) (fun _ => by kernel_rfl) ?_
    refine pl_val (want_no rfl) (some 12) rfl (.bool true) (fun w => Eq.trans (b := .ok (.value (.bool (decide ((j : Int) < ((l.length : Nat) : Int))))) w) (by kernel_rfl) (by rw [decide_eq_true (by omega)])) ?_
    refine pl_nil ?_
    refine au_then ?_
    refine wp_cond_true (by kernel_rfl) ?_
    refine wp_skip ?_
    refine au_then ?_
    refine wp_seq ?_
    refine wp_block ?_
    refine rg_lit ?_
    refine pl_val (want_no rfl) (some 15) rfl (.int .u64 ((mx (l.take j) : Nat) : Int)) (fun _ => by kernel_rfl) ?_
    refine pl_val (want_no rfl) (some 16) rfl (.pointer (some ⟨g, 0, none⟩)) (fun _ => by kernel_rfl) ?_
    refine pl_val (want_no rfl) (some 17) rfl (.pointer (some ⟨g, 0, none⟩)) (fun _ => by kernel_rfl) ?_
    refine pl_val (want_no rfl) (some 18) rfl (.pointer (some ⟨g, 1, none⟩)) (fun _ => by kernel_rfl) ?_
    refine pl_cell M (want_no rfl) (some 19) rfl 22 _ rfl g 1 (by kernel_rfl) (.slice (some ⟨k, 0, none⟩) l.length cap) (fun _ => by kernel_rfl) (fun w M => M.cell 0 rfl (by decide) rfl) ?_
    refine pl_val (want_no rfl) (some 20) rfl (.int .i64 (j : Int)) (fun _ => by kernel_rfl) ?_
    refine pl_val (want_no rfl) (some 21) rfl (.pointer (some ⟨k, j, none⟩)) (run_ix0 22 23 Try.underlying22 inz23 _ _ rfl k l.length cap (by kernel_rfl) .i64 j (by kernel_rfl) (by omega)) ?_
    refine pl_cell M (want_no rfl) (some 22) rfl 23 _ rfl k j (by kernel_rfl) (.int .u64 ((l.getD j 0 : Nat) : Int)) (fun _ => by kernel_rfl) (fun w M => hZ.cell (M.get 1 rfl) (vsU_at l j (by omega))) ?_
    refine pl_val (want_no rfl) (some 23) rfl (.int .u64 ((mx (l.take (j + 1)) : Nat) : Int)) (fun w => Eq.trans (b := .ok (.value (.int .u64 (if ((l.getD j 0 : Nat) : Int) > ((mx (l.take j) : Nat) : Int) then ((l.getD j 0 : Nat) : Int) else ((mx (l.take j) : Nat) : Int)))) w) (by kernel_rfl) (by rw [if_max, mx_step l j hj])) ?_
    refine pl_val (want_no rfl) (some 4) rfl (.int .u64 ((mx (l.take (j + 1)) : Nat) : Int)) (fun _ => by kernel_rfl) ?_
    refine pl_nil ?_
    refine au_block ?_
    refine au_then ?_
    refine rg_lit ?_
    refine pl_val (want_no rfl) (some 13) rfl (.int .i64 (j : Int)) (fun _ => by kernel_rfl) ?_
    refine pl_val (want_no rfl) (some 14) rfl (.int .i64 ((j + 1 : Nat) : Int)) (fun w => Eq.trans (b := .ok (.value (.int .i64 (IntKind.wrap .i64 ((j : Int) + 1)))) w) (by kernel_rfl) (by rw [wrap64 (by omega) (by omega)]; rfl)) ?_
    refine pl_val (want_no rfl) (some 5) rfl (.int .i64 ((j + 1 : Nat) : Int)) (fun _ => by kernel_rfl) ?_
    refine pl_nil ?_
    refine au_then ?_
    exact ⟨fun k_ => ([.int .i64 (j : Int), .pointer (some ⟨g, 0, none⟩), .pointer (some ⟨g, 0, none⟩), .pointer (some ⟨g, 1, none⟩), .slice (some ⟨k, 0, none⟩) l.length cap, .int .i64 ((l.length : Nat) : Int), .bool true, .int .i64 (j : Int), .int .i64 ((j + 1 : Nat) : Int), .int .u64 ((mx (l.take j) : Nat) : Int), .pointer (some ⟨g, 0, none⟩), .pointer (some ⟨g, 0, none⟩), .pointer (some ⟨g, 1, none⟩), .slice (some ⟨k, 0, none⟩) l.length cap, .int .i64 (j : Int), .pointer (some ⟨k, j, none⟩), .int .u64 ((l.getD j 0 : Nat) : Int), .int .u64 ((mx (l.take (j + 1)) : Nat) : Int)] : List Value).getD (k_ - 6) undef, by kernel_rfl, M⟩
  · intro a u0 hI
    obtain ⟨v1, rfl, M⟩ := hI
    refine wp_seq ?_
    refine wp_seq ?_
    refine rg_lit ?_
    refine pl_val (want_no rfl) (some 6) rfl (.int .i64 ((l.length : Nat) : Int)) (fun _ => by kernel_rfl) ?_
    refine pl_val (want_no rfl) (some 7) rfl (.pointer (some ⟨g, 0, none⟩)) (fun _ => by kernel_rfl) ?_
    refine pl_val (want_no rfl) (some 8) rfl (.pointer (some ⟨g, 0, none⟩)) (fun _ => by kernel_rfl) ?_
    refine pl_val (want_no rfl) (some 9) rfl (.pointer (some ⟨g, 1, none⟩)) (fun _ => by kernel_rfl) ?_
    refine pl_cell M (want_no rfl) (some 10) rfl 22 _ rfl g 1 (by kernel_rfl) (.slice (some ⟨k, 0, none⟩) l.length cap) (fun _ => by kernel_rfl) (fun w M => M.cell 0 rfl (by decide) rfl) ?_
    refine pl_val (want_no rfl) (some 11) rfl (.int .i64 ((l.length : Nat) : Int)) (fun _ => by kernel_rfl) ?_
    refine pl_val (want_no rfl) (some 12) rfl (.bool false) (fun w => Eq.trans (b := .ok (.value (.bool (decide (((l.length : Nat) : Int) < ((l.length : Nat) : Int))))) w) (by kernel_rfl) (by rw [decide_eq_false (by omega)])) ?_
    refine pl_nil ?_
    refine au_then ?_
    refine wp_cond_false (by kernel_rfl) ?_
    refine wp_exit ?_
    refine au_then_exit ?_
    refine au_then_exit ?_
    refine au_block_exit ?_
    refine au_then ?_
    refine wp_seq ?_
    refine rg_held M [⟨g, .cells (av 2 (ls [.int .i64 (s : Int), .slice (some ⟨k, 0, none⟩) l.length cap])) 31⟩, ⟨k, Z⟩] 8 rfl (by kernel_rfl) (by kernel_rfl) (fun _ _ d _ _ h => by cases d <;> exact h) ?_
    intro u1 M
    replace M : Mem ⟨w, [g, k]⟩ [⟨g, .cells (av 2 (ls [.int .i64 (s : Int), .slice (some ⟨k, 0, none⟩) l.length cap])) 31⟩, ⟨k, Z⟩] u1 := M
    refine hl_val M 0 rfl (by decide) (by kernel_rfl) (by kernel_rfl) (want_no rfl) (some 24) rfl (.int .u64 ((mx (l.take l.length) : Nat) : Int)) (fun _ _ => by kernel_rfl) ?_
    refine hl_val M 1 rfl (by decide) (by kernel_rfl) (by kernel_rfl) (want_no rfl) (some 25) rfl (.pointer (some ⟨g, 0, none⟩)) (fun _ _ => by kernel_rfl) ?_
    refine hl_val M 2 rfl (by decide) (by kernel_rfl) (by kernel_rfl) (want_no rfl) (some 26) rfl (.pointer (some ⟨g, 0, none⟩)) (fun _ _ => by kernel_rfl) ?_
    refine hl_val M 3 rfl (by decide) (by kernel_rfl) (by kernel_rfl) (want_no rfl) (some 27) rfl (.pointer (some ⟨g, 1, none⟩)) (fun _ _ => by kernel_rfl) ?_
    refine hl_cell M 4 rfl (by decide) (by kernel_rfl) (by kernel_rfl) (want_no rfl) (some 28) rfl 22 _ rfl g 1 (by kernel_rfl) (.slice (some ⟨k, 0, none⟩) l.length cap) (fun _ => by kernel_rfl) (fun w M => M.cell 0 rfl (by decide) rfl) ?_
    refine hl_val M 5 rfl (by decide) (by kernel_rfl) (by kernel_rfl) (want_no rfl) (some 29) rfl (.int .i64 ((l.length : Nat) : Int)) (fun _ _ => by kernel_rfl) ?_
    by_cases c0 : 0 < ((l.length : Nat) : Int)
    · skip
      refine hl_val M 6 rfl (by decide) (by kernel_rfl) (by kernel_rfl) (want_no rfl) (some 30) rfl (.bool true) (fun w _ => (fun w => Eq.trans (b := .ok (.value (.bool (decide (0 < ((l.length : Nat) : Int))))) w) (by kernel_rfl) (by rw [decide_eq_true (c0)])) w) ?_
      refine hl_val M 7 rfl (by decide) (by kernel_rfl) (by kernel_rfl) (want_no rfl) (some 2) rfl (.int .u64 ((mx (l.take l.length) : Nat) : Int)) (fun _ _ => by kernel_rfl) ?_
      refine hl_end (by kernel_rfl) (by kernel_rfl) rfl ?_
      refine pl_val (want_no rfl) (some 3) rfl (.bool true) (fun _ => by kernel_rfl) ?_
      refine pl_nil ?_
      refine au_then ?_
      refine au_then ?_
      refine wp_ret ?_
      exact bodyPost_ret (v := .tuple #[.int .u64 ((mx (l.take l.length) : Nat) : Int), .bool true]) (results_tmp2 Try.results14 _ _ _ _ (by kernel_rfl) (by kernel_rfl)) (by kernel_rfl) ⟨by rw [List.take_length], ro_below2 M.old hg0 (M.get 0 rfl) hg1 (M.get 1 rfl)⟩
    · exfalso; omega

set_option maxRecDepth 100000 in
set_option maxHeartbeats 4000000 in
set_option linter.unusedSimpArgs false in
theorem d_May1 (g s : Nat) (n : Nat) (hs : 1 ≤ s) (hs4 : s ≤ 4096) (l : List Nat) (k cap : Nat) (Z : Obj) (hZ : SB Z cap (vsU l)) (h0 : 0 < l.length) (hl : l.length < 1000000) (hM : ∀ q ∈ l, q < 18446744073709551616) (w : World) (hL : Laid w)  (hg0 : w.heap[g]? = some (.cells (av 2 (ls [.int .i64 (s : Int), .slice (some ⟨k, 0, none⟩) l.length cap])) 31)) (hg1 : w.heap[k]? = some Z) (hne : g ≠ k) :
    Calls Try.prog 11 #[.pointer (some ⟨g, 0, none⟩), .int .u64 (n : Int)] w fun r w' => r = .returned (.int .i64 (my s l n)) ∧ Below w.heap.size w w' := by
  go_enter Try.func11, Try.ntmps11
  have M := Mem.startp2 hL hg0 hg1 hne
  have hmx := mx_lt (by decide) hM
  refine wp_seq ?_
  refine rg_lit ?_
  refine pl_val (want_no rfl) (some 4) rfl (.int .i64 0) (fun _ => by kernel_rfl) ?_
  refine pl_nil ?_
  refine au_then ?_
  refine wp_seq ?_
  refine rg_lit ?_
  refine pl_val (want_no rfl) (some 9) rfl (.pointer (some ⟨g, 0, none⟩)) (fun _ => by kernel_rfl) ?_
  refine pl_call M (want_no rfl) (some 10) rfl 14 #[.pointer (some ⟨g, 0, none⟩)] (.tuple #[.int .u64 ((mx l : Nat) : Int), .bool true]) (fun _ => by kernel_rfl) (fun w M => d_Highest1 g s l k cap Z hZ h0 hl w M.laid (M.get 0 rfl) (M.get 1 rfl) hne) ?_
  intro u1 M
  refine pl_val (want_no rfl) (some 8) rfl (.tuple #[.int .u64 ((mx l : Nat) : Int), .bool true]) (fun _ => by kernel_rfl) ?_
  refine pl_val (want_no rfl) (some 11) rfl (.int .u64 ((mx l : Nat) : Int)) (fun _ => by kernel_rfl) ?_
  refine pl_val (want_no rfl) (some 12) rfl (.bool true) (fun _ => by kernel_rfl) ?_
  refine pl_val (want_no rfl) (some 5) rfl (.int .u64 ((mx l : Nat) : Int)) (fun _ => by kernel_rfl) ?_
  refine pl_val (want_no rfl) (some 6) rfl (.bool true) (fun _ => by kernel_rfl) ?_
  refine pl_nil ?_
  refine au_then ?_
  refine wp_seq ?_
  refine wp_seq ?_
  refine rg_lit ?_
  refine pl_val (want_no rfl) (some 13) rfl (.bool true) (fun _ => by kernel_rfl) ?_
  refine pl_val (want_no rfl) (some 14) rfl (.bool true) (fun _ => by kernel_rfl) ?_
  refine pl_val (want_on 1 true rfl 14 rfl (by kernel_rfl)) (some 15) rfl (.int .u64 (n : Int)) (fun _ => by kernel_rfl) ?_
  refine pl_val (want_on 1 true rfl 14 rfl (by kernel_rfl)) (some 16) rfl (.int .u64 ((mx l : Nat) : Int)) (fun _ => by kernel_rfl) ?_
  by_cases c0 : (n : Int) < ((mx l : Nat) : Int)
  · skip
    refine pl_val (want_on 1 true rfl 14 rfl (by kernel_rfl)) (some 17) rfl (.bool true) (fun w => Eq.trans (b := .ok (.value (.bool (decide ((n : Int) < ((mx l : Nat) : Int))))) w) (by kernel_rfl) (by rw [decide_eq_true (c0)])) ?_
    refine pl_val (want_no rfl) (some 18) rfl (.bool true) (fun _ => by kernel_rfl) ?_
    refine pl_val (want_no rfl) (some 19) rfl (.bool true) (fun _ => by kernel_rfl) ?_
    refine pl_val (want_on 6 true rfl 19 rfl (by kernel_rfl)) (some 20) rfl (.int .u64 ((mx l : Nat) : Int)) (fun _ => by kernel_rfl) ?_
    refine pl_val (want_on 6 true rfl 19 rfl (by kernel_rfl)) (some 21) rfl (.int .u64 (n : Int)) (fun _ => by kernel_rfl) ?_
    refine pl_val (want_on 6 true rfl 19 rfl (by kernel_rfl)) (some 22) rfl (.int .u64 ((mx l - n : Nat) : Int)) (fun w => Eq.trans (b := .ok (.value (.int .u64 (IntKind.wrap .u64 ((((mx l) : Nat) : Int) - ((n : Nat) : Int))))) w) (by kernel_rfl) (by rw [wrapU_sub (mx l) n (by omega) (by omega)])) ?_
    refine pl_val (want_on 6 true rfl 19 rfl (by kernel_rfl)) (some 23) rfl (.pointer (some ⟨g, 0, none⟩)) (fun _ => by kernel_rfl) ?_
    refine pl_val (want_on 6 true rfl 19 rfl (by kernel_rfl)) (some 24) rfl (.pointer (some ⟨g, 0, none⟩)) (fun _ => by kernel_rfl) ?_
    refine pl_val (want_on 6 true rfl 19 rfl (by kernel_rfl)) (some 25) rfl (.pointer (some ⟨g, 0, none⟩)) (fun _ => by kernel_rfl) ?_
    refine pl_cell M (want_on 6 true rfl 19 rfl (by kernel_rfl)) (some 26) rfl 3 _ rfl g 0 (by kernel_rfl) (.int .i64 (s : Int)) (fun _ => by kernel_rfl) (fun w M => M.cell 0 rfl (by decide) rfl) ?_
    refine pl_val (want_on 6 true rfl 19 rfl (by kernel_rfl)) (some 27) rfl (.int .u64 (s : Int)) (fun w => Eq.trans (b := .ok (.value (.int .u64 (cv .u64 (s : Int)))) w) (by kernel_rfl) (by rw [cv_u64, Int.emod_eq_of_lt (by omega) (by omega)])) ?_
    by_cases c1 : ((mx l - n : Nat) : Int) < (s : Int)
    · skip
      refine pl_val (want_on 6 true rfl 19 rfl (by kernel_rfl)) (some 28) rfl (.bool false) (fun w => Eq.trans (b := .ok (.value (.bool (decide ((s : Int) ≤ ((mx l - n : Nat) : Int))))) w) (by kernel_rfl) (by rw [decide_eq_false (by omega)])) ?_
      refine pl_val (want_no rfl) (some 29) rfl (.bool false) (fun _ => by kernel_rfl) ?_
      refine pl_nil ?_
      refine au_then ?_
      refine wp_cond_false (by kernel_rfl) ?_
      refine wp_skip ?_
      refine au_then ?_
      refine wp_seq ?_
      refine wp_seq ?_
      refine rg_lit ?_
      refine pl_val (want_no rfl) (some 7) rfl (.int .i64 0) (fun _ => by kernel_rfl) ?_
      refine pl_nil ?_
      refine au_then ?_
      refine wp_block ?_
      refine au_loop (fun j a w' => ∃ v1 : Nat → Value, a = ⟨#[.pointer (some ⟨g, 0, none⟩), .int .u64 (n : Int), undef, undef, v1 4, .int .u64 ((mx l : Nat) : Int), .bool true, .int .i64 (j : Int), .tuple #[.int .u64 ((mx l : Nat) : Int), .bool true], .pointer (some ⟨g, 0, none⟩), .tuple #[.int .u64 ((mx l : Nat) : Int), .bool true], .int .u64 ((mx l : Nat) : Int), .bool true, .bool true, .bool true, .int .u64 (n : Int), .int .u64 ((mx l : Nat) : Int), .bool true, .bool true, .bool true, .int .u64 ((mx l : Nat) : Int), .int .u64 (n : Int), .int .u64 ((mx l - n : Nat) : Int), .pointer (some ⟨g, 0, none⟩), .pointer (some ⟨g, 0, none⟩), .pointer (some ⟨g, 0, none⟩), .int .i64 (s : Int), .int .u64 (s : Int), .bool false, .bool false, v1 30, v1 31, v1 32, v1 33, v1 34, v1 35, v1 36, v1 37, v1 38, v1 39, v1 40, v1 41, v1 42, v1 43, v1 44, v1 45, v1 46, v1 47], []⟩ ∧ Mem ⟨w, [g, k]⟩ [⟨g, .cells (av 2 (ls [.int .i64 (s : Int), .slice (some ⟨k, 0, none⟩) l.length cap])) 31⟩, ⟨k, Z⟩] w' ∧ (∀ i, i < j → l.getD i 0 ≠ n)) l.length ⟨fun k_ => ([.int .i64 0, undef, undef, undef, undef, undef, undef, undef, undef, undef, undef, undef, undef, undef, undef, undef, undef, undef, undef, undef, undef, undef, undef, undef, undef, undef, undef, undef, undef, undef, undef, undef, undef, undef, undef, undef, undef, undef, undef, undef, undef, undef, undef, undef] : List Value).getD (k_ - 4) undef, by kernel_rfl, M, fun i hi => absurd hi (Nat.not_lt_zero i)⟩ ?_ ?_
      · intro j a u0 hj hI
        obtain ⟨v1, rfl, M, hx⟩ := hI
        refine wp_seq ?_
        refine wp_seq ?_
        refine rg_lit ?_
        refine pl_val (want_no rfl) (some 30) rfl (.int .i64 (j : Int)) (fun _ => by kernel_rfl) ?_
        refine pl_val (want_no rfl) (some 31) rfl (.pointer (some ⟨g, 0, none⟩)) (fun _ => by kernel_rfl) ?_
        refine pl_val (want_no rfl) (some 32) rfl (.pointer (some ⟨g, 0, none⟩)) (fun _ => by kernel_rfl) ?_
        refine pl_val (want_no rfl) (some 33) rfl (.pointer (some ⟨g, 1, none⟩)) (fun _ => by kernel_rfl) ?_
        refine pl_cell M (want_no rfl) (some 34) rfl 22 _ rfl g 1 (by kernel_rfl) (.slice (some ⟨k, 0, none⟩) l.length cap) (fun _ => by kernel_rfl) (fun w M => M.cell 0 rfl (by decide) rfl) ?_
        refine pl_val (want_no rfl) (some 35) rfl (.int .i64 ((l.length : Nat) : Int)) (fun _ => by kernel_rfl) ?_
        refine pl_val (want_no rfl) (some 36) rfl (.bool true) (fun w => Eq.trans (b := .ok (.value (.bool (decide ((j : Int) < ((l.length : Nat) : Int))))) w) (by kernel_rfl) (by rw [decide_eq_true (by omega)])) ?_
        refine pl_nil ?_
        refine au_then ?_
        refine wp_cond_true (by kernel_rfl) ?_
        refine wp_skip ?_
        refine au_then ?_
        refine wp_seq ?_
        refine wp_block ?_
        refine wp_seq ?_
        refine rg_lit ?_
        refine pl_val (want_no rfl) (some 39) rfl (.pointer (some ⟨g, 0, none⟩)) (fun _ => by kernel_rfl) ?_
        refine pl_val (want_no rfl) (some 40) rfl (.pointer (some ⟨g, 0, none⟩)) (fun _ => by kernel_rfl) ?_
        refine pl_val (want_no rfl) (some 41) rfl (.pointer (some ⟨g, 1, none⟩)) (fun _ => by kernel_rfl) ?_
        refine pl_cell M (want_no rfl) (some 42) rfl 22 _ rfl g 1 (by kernel_rfl) (.slice (some ⟨k, 0, none⟩) l.length cap) (fun _ => by kernel_rfl) (fun w M => M.cell 0 rfl (by decide) rfl) ?_
        refine pl_val (want_no rfl) (some 43) rfl (.int .i64 (j : Int)) (fun _ => by kernel_rfl) ?_
        refine pl_val (want_no rfl) (some 44) rfl (.pointer (some ⟨k, j, none⟩)) (run_ix0 22 23 Try.underlying22 inz23 _ _ rfl k l.length cap (by kernel_rfl) .i64 j (by kernel_rfl) (by omega)) ?_
        refine pl_cell M (want_no rfl) (some 45) rfl 23 _ rfl k j (by kernel_rfl) (.int .u64 ((l.getD j 0 : Nat) : Int)) (fun _ => by kernel_rfl) (fun w M => hZ.cell (M.get 1 rfl) (vsU_at l j (by omega))) ?_
        refine pl_val (want_no rfl) (some 46) rfl (.int .u64 (n : Int)) (fun _ => by kernel_rfl) ?_
        by_cases c2 : ((l.getD j 0 : Nat) : Int) = (n : Int)
        · skip
          refine pl_val (want_no rfl) (some 47) rfl (.bool true) (fun w => Eq.trans (b := .ok (.value (.bool (decide (((l.getD j 0 : Nat) : Int) = (n : Int))))) w) (by kernel_rfl) (by rw [decide_eq_true (c2)])) ?_
          refine pl_nil ?_
          refine au_then ?_
          refine wp_cond_true (by kernel_rfl) ?_
          refine wp_seq ?_
          refine rg_lit ?_
          refine pl_val (want_no rfl) (some 4) rfl (.int .i64 9) (fun _ => by kernel_rfl) ?_
          refine pl_nil ?_
          refine au_then ?_
          refine wp_ret ?_
          refine au_block_ret ?_
          refine au_then_ret ?_
          refine au_then_ret ?_
          refine au_block_ret ?_
          refine au_then_ret ?_
          exact bodyPost_ret (v := .int .i64 9) (results_tmp1 Try.results11 _ _ _ (by kernel_rfl)) (by kernel_rfl) ⟨by rw [my_there l j hj (by omega) (by omega)], ro_below2 M.old hg0 (M.get 0 rfl) hg1 (M.get 1 rfl)⟩
        · skip
          refine pl_val (want_no rfl) (some 47) rfl (.bool false) (fun w => Eq.trans (b := .ok (.value (.bool (decide (((l.getD j 0 : Nat) : Int) = (n : Int))))) w) (by kernel_rfl) (by rw [decide_eq_false (c2)])) ?_
          refine pl_nil ?_
          refine au_then ?_
          refine wp_cond_false (by kernel_rfl) ?_
          refine wp_skip ?_
          refine au_block ?_
          refine au_then ?_
          refine rg_lit ?_
          refine pl_val (want_no rfl) (some 37) rfl (.int .i64 (j : Int)) (fun _ => by kernel_rfl) ?_
          refine pl_val (want_no rfl) (some 38) rfl (.int .i64 ((j + 1 : Nat) : Int)) (fun w => Eq.trans (b := .ok (.value (.int .i64 (IntKind.wrap .i64 ((j : Int) + 1)))) w) (by kernel_rfl) (by rw [wrap64 (by omega) (by omega)]; rfl)) ?_
          refine pl_val (want_no rfl) (some 7) rfl (.int .i64 ((j + 1 : Nat) : Int)) (fun _ => by kernel_rfl) ?_
          refine pl_nil ?_
          refine au_then ?_
          exact ⟨fun k_ => ([v1 4, undef, undef, undef, undef, undef, undef, undef, undef, undef, undef, undef, undef, undef, undef, undef, undef, undef, undef, undef, undef, undef, undef, undef, undef, undef, .int .i64 (j : Int), .pointer (some ⟨g, 0, none⟩), .pointer (some ⟨g, 0, none⟩), .pointer (some ⟨g, 1, none⟩), .slice (some ⟨k, 0, none⟩) l.length cap, .int .i64 ((l.length : Nat) : Int), .bool true, .int .i64 (j : Int), .int .i64 ((j + 1 : Nat) : Int), .pointer (some ⟨g, 0, none⟩), .pointer (some ⟨g, 0, none⟩), .pointer (some ⟨g, 1, none⟩), .slice (some ⟨k, 0, none⟩) l.length cap, .int .i64 (j : Int), .pointer (some ⟨k, j, none⟩), .int .u64 ((l.getD j 0 : Nat) : Int), .int .u64 (n : Int), .bool false] : List Value).getD (k_ - 4) undef, by kernel_rfl, M, ex_step hx (by omega)⟩
      · intro a u0 hI
        obtain ⟨v1, rfl, M, hx⟩ := hI
        refine wp_seq ?_
        refine wp_seq ?_
        refine rg_lit ?_
        refine pl_val (want_no rfl) (some 30) rfl (.int .i64 ((l.length : Nat) : Int)) (fun _ => by kernel_rfl) ?_
        refine pl_val (want_no rfl) (some 31) rfl (.pointer (some ⟨g, 0, none⟩)) (fun _ => by kernel_rfl) ?_
        refine pl_val (want_no rfl) (some 32) rfl (.pointer (some ⟨g, 0, none⟩)) (fun _ => by kernel_rfl) ?_
        refine pl_val (want_no rfl) (some 33) rfl (.pointer (some ⟨g, 1, none⟩)) (fun _ => by kernel_rfl) ?_
        refine pl_cell M (want_no rfl) (some 34) rfl 22 _ rfl g 1 (by kernel_rfl) (.slice (some ⟨k, 0, none⟩) l.length cap) (fun _ => by kernel_rfl) (fun w M => M.cell 0 rfl (by decide) rfl) ?_
        refine pl_val (want_no rfl) (some 35) rfl (.int .i64 ((l.length : Nat) : Int)) (fun _ => by kernel_rfl) ?_
        refine pl_val (want_no rfl) (some 36) rfl (.bool false) (fun w => Eq.trans (b := .ok (.value (.bool (decide (((l.length : Nat) : Int) < ((l.length : Nat) : Int))))) w) (by kernel_rfl) (by rw [decide_eq_false (by omega)])) ?_
        refine pl_nil ?_
        refine au_then ?_
        refine wp_cond_false (by kernel_rfl) ?_
        refine wp_exit ?_
        refine au_then_exit ?_
        refine au_then_exit ?_
        refine au_block_exit ?_
        refine au_then ?_
        refine wp_seq ?_
        refine rg_lit ?_
        refine pl_val (want_no rfl) (some 4) rfl (.int .i64 0) (fun _ => by kernel_rfl) ?_
        refine pl_nil ?_
        refine au_then ?_
        refine wp_ret ?_
        exact bodyPost_ret (v := .int .i64 0) (results_tmp1 Try.results11 _ _ _ (by kernel_rfl)) (by kernel_rfl) ⟨by rw [my_free l (by omega) hx], ro_below2 M.old hg0 (M.get 0 rfl) hg1 (M.get 1 rfl)⟩
    · skip
      refine pl_val (want_on 6 true rfl 19 rfl (by kernel_rfl)) (some 28) rfl (.bool true) (fun w => Eq.trans (b := .ok (.value (.bool (decide ((s : Int) ≤ ((mx l - n : Nat) : Int))))) w) (by kernel_rfl) (by rw [decide_eq_true (by omega)])) ?_
      refine pl_val (want_no rfl) (some 29) rfl (.bool true) (fun _ => by kernel_rfl) ?_
      refine pl_nil ?_
      refine au_then ?_
      refine wp_cond_true (by kernel_rfl) ?_
      refine wp_seq ?_
      refine rg_lit ?_
      refine pl_val (want_no rfl) (some 4) rfl (.int .i64 170) (fun _ => by kernel_rfl) ?_
      refine pl_nil ?_
      refine au_then ?_
      refine wp_ret ?_
      refine au_then_ret ?_
      exact bodyPost_ret (v := .int .i64 170) (results_tmp1 Try.results11 _ _ _ (by kernel_rfl)) (by kernel_rfl) ⟨by rw [my_old l (by omega) (by omega) (by omega)], ro_below2 M.old hg0 (M.get 0 rfl) hg1 (M.get 1 rfl)⟩
  · skip
    refine pl_val (want_on 1 true rfl 14 rfl (by kernel_rfl)) (some 17) rfl (.bool false) (fun w => Eq.trans (b := .ok (.value (.bool (decide ((n : Int) < ((mx l : Nat) : Int))))) w) (by kernel_rfl) (by rw [decide_eq_false (c0)])) ?_
    refine pl_val (want_no rfl) (some 18) rfl (.bool false) (fun _ => by kernel_rfl) ?_
    refine pl_val (want_no rfl) (some 19) rfl (.bool false) (fun _ => by kernel_rfl) ?_
    refine pl_skip (want_off 6 true rfl 19 rfl (by kernel_rfl)) (some 20) rfl ?_
    refine pl_skip (want_off 6 true rfl 19 rfl (by kernel_rfl)) (some 21) rfl ?_
    refine pl_skip (want_off 6 true rfl 19 rfl (by kernel_rfl)) (some 22) rfl ?_
    refine pl_skip (want_off 6 true rfl 19 rfl (by kernel_rfl)) (some 23) rfl ?_
    refine pl_skip (want_off 6 true rfl 19 rfl (by kernel_rfl)) (some 24) rfl ?_
    refine pl_skip (want_off 6 true rfl 19 rfl (by kernel_rfl)) (some 25) rfl ?_
    refine pl_skip (want_off 6 true rfl 19 rfl (by kernel_rfl)) (some 26) rfl ?_
    refine pl_skip (want_off 6 true rfl 19 rfl (by kernel_rfl)) (some 27) rfl ?_
    refine pl_skip (want_off 6 true rfl 19 rfl (by kernel_rfl)) (some 28) rfl ?_
    refine pl_val (want_no rfl) (some 29) rfl (.bool false) (fun _ => by kernel_rfl) ?_
    refine pl_nil ?_
    refine au_then ?_
    refine wp_cond_false (by kernel_rfl) ?_
    refine wp_skip ?_
    refine au_then ?_
    refine wp_seq ?_
    refine wp_seq ?_
    refine rg_lit ?_
    refine pl_val (want_no rfl) (some 7) rfl (.int .i64 0) (fun _ => by kernel_rfl) ?_
    refine pl_nil ?_
    refine au_then ?_
    refine wp_block ?_
    refine au_loop (fun j a w' => ∃ v1 : Nat → Value, a = ⟨#[.pointer (some ⟨g, 0, none⟩), .int .u64 (n : Int), undef, undef, v1 4, .int .u64 ((mx l : Nat) : Int), .bool true, .int .i64 (j : Int), .tuple #[.int .u64 ((mx l : Nat) : Int), .bool true], .pointer (some ⟨g, 0, none⟩), .tuple #[.int .u64 ((mx l : Nat) : Int), .bool true], .int .u64 ((mx l : Nat) : Int), .bool true, .bool true, .bool true, .int .u64 (n : Int), .int .u64 ((mx l : Nat) : Int), .bool false, .bool false, .bool false, undef, undef, undef, undef, undef, undef, undef, undef, undef, .bool false, v1 30, v1 31, v1 32, v1 33, v1 34, v1 35, v1 36, v1 37, v1 38, v1 39, v1 40, v1 41, v1 42, v1 43, v1 44, v1 45, v1 46, v1 47], []⟩ ∧ Mem ⟨w, [g, k]⟩ [⟨g, .cells (av 2 (ls [.int .i64 (s : Int), .slice (some ⟨k, 0, none⟩) l.length cap])) 31⟩, ⟨k, Z⟩] w' ∧ (∀ i, i < j → l.getD i 0 ≠ n)) l.length ⟨fun k_ => ([.int .i64 0, undef, undef, undef, undef, undef, undef, undef, undef, undef, undef, undef, undef, undef, undef, undef, undef, undef, undef, undef, undef, undef, undef, undef, undef, undef, undef, undef, undef, undef, undef, undef, undef, undef, undef, undef, undef, undef, undef, undef, undef, undef, undef, undef] : List Value).getD (k_ - 4) undef, by kernel_rfl, M, fun i hi => absurd hi (Nat.not_lt_zero i)⟩ ?_ ?_
    · intro j a u0 hj hI
      obtain ⟨v1, rfl, M, hx⟩ := hI
      refine wp_seq ?_
      refine wp_seq ?_
      refine rg_lit ?_
      refine pl_val (want_no rfl) (some 30) rfl (.int .i64 (j : Int)) (fun _ => by kernel_rfl) ?_
      refine pl_val (want_no rfl) (some 31) rfl (.pointer (some ⟨g, 0, none⟩)) (fun _ => by kernel_rfl) ?_
      refine pl_val (want_no rfl) (some 32) rfl (.pointer (some ⟨g, 0, none⟩)) (fun _ => by kernel_rfl) ?_
      refine pl_val (want_no rfl) (some 33) rfl (.pointer (some ⟨g, 1, none⟩)) (fun _ => by kernel_rfl) ?_
      refine pl_cell M (want_no rfl) (some 34) rfl 22 _ rfl g 1 (by kernel_rfl) (.slice (some ⟨k, 0, none⟩) l.length cap) (fun _ => by kernel_rfl) (fun w M => M.cell 0 rfl (by decide) rfl) ?_
      refine pl_val (want_no rfl) (some 35) rfl (.int .i64 ((l.length : Nat) : Int)) (fun _ => by kernel_rfl) ?_
      refine pl_val (want_no rfl) (some 36) rfl (.bool true) (fun w => Eq.trans (b := .ok (.value (.bool (decide ((j : Int) < ((l.length : Nat) : Int))))) w) (by kernel_rfl) (by rw [decide_eq_true (by omega)])) ?_
      refine pl_nil ?_
      refine au_then ?_
      refine wp_cond_true (by kernel_rfl) ?_
      refine wp_skip ?_
      refine au_then ?_
      refine wp_seq ?_
      refine wp_block ?_
      refine wp_seq ?_
      refine rg_lit ?_
      refine pl_val (want_no rfl) (some 39) rfl (.pointer (some ⟨g, 0, none⟩)) (fun _ => by kernel_rfl) ?_
      refine pl_val (want_no rfl) (some 40) rfl (.pointer (some ⟨g, 0, none⟩)) (fun _ => by kernel_rfl) ?_
      refine pl_val (want_no rfl) (some 41) rfl (.pointer (some ⟨g, 1, none⟩)) (fun _ => by kernel_rfl) ?_
      refine pl_cell M (want_no rfl) (some 42) rfl 22 _ rfl g 1 (by kernel_rfl) (.slice (some ⟨k, 0, none⟩) l.length cap) (fun _ => by kernel_rfl) (fun w M => M.cell 0 rfl (by decide) rfl) ?_
      refine pl_val (want_no rfl) (some 43) rfl (.int .i64 (j : Int)) (fun _ => by kernel_rfl) ?_
      refine pl_val (want_no rfl) (some 44) rfl (.pointer (some ⟨k, j, none⟩)) (run_ix0 22 23 Try.underlying22 inz23 _ _ rfl k l.length cap (by kernel_rfl) .i64 j (by kernel_rfl) (by omega)) ?_
      refine pl_cell M (want_no rfl) (some 45) rfl 23 _ rfl k j (by kernel_rfl) (.int .u64 ((l.getD j 0 : Nat) : Int)) (fun _ => by kernel_rfl) (fun w M => hZ.cell (M.get 1 rfl) (vsU_at l j (by omega))) ?_
      refine pl_val (want_no rfl) (some 46) rfl (.int .u64 (n : Int)) (fun _ => by kernel_rfl) ?_
      by_cases c1 : ((l.getD j 0 : Nat) : Int) = (n : Int)
      · skip
        refine pl_val (want_no rfl) (some 47) rfl (.bool true) (fun w => Eq.trans (b := .ok (.value (.bool (decide (((l.getD j 0 : Nat) : Int) = (n : Int))))) w) (by kernel_rfl) (by rw [decide_eq_true (c1)])) ?_
        refine pl_nil ?_
        refine au_then ?_
        refine wp_cond_true (by kernel_rfl) ?_
        refine wp_seq ?_
        refine rg_lit ?_
        refine pl_val (want_no rfl) (some 4) rfl (.int .i64 9) (fun _ => by kernel_rfl) ?_
        refine pl_nil ?_
        refine au_then ?_
        refine wp_ret ?_
        refine au_block_ret ?_
        refine au_then_ret ?_
        refine au_then_ret ?_
        refine au_block_ret ?_
        refine au_then_ret ?_
        exact bodyPost_ret (v := .int .i64 9) (results_tmp1 Try.results11 _ _ _ (by kernel_rfl)) (by kernel_rfl) ⟨by rw [my_there l j hj (by omega) (by omega)], ro_below2 M.old hg0 (M.get 0 rfl) hg1 (M.get 1 rfl)⟩
      · skip
        refine pl_val (want_no rfl) (some 47) rfl (.bool false) (fun w => Eq.trans (b := .ok (.value (.bool (decide (((l.getD j 0 : Nat) : Int) = (n : Int))))) w) (by kernel_rfl) (by rw [decide_eq_false (c1)])) ?_
        refine pl_nil ?_
        refine au_then ?_
        refine wp_cond_false (by kernel_rfl) ?_
        refine wp_skip ?_
        refine au_block ?_
        refine au_then ?_
        refine rg_lit ?_
        refine pl_val (want_no rfl) (some 37) rfl (.int .i64 (j : Int)) (fun _ => by kernel_rfl) ?_
        refine pl_val (want_no rfl) (some 38) rfl (.int .i64 ((j + 1 : Nat) : Int)) (fun w => Eq.trans (b := .ok (.value (.int .i64 (IntKind.wrap .i64 ((j : Int) + 1)))) w) (by kernel_rfl) (by rw [wrap64 (by omega) (by omega)]; rfl)) ?_
        refine pl_val (want_no rfl) (some 7) rfl (.int .i64 ((j + 1 : Nat) : Int)) (fun _ => by kernel_rfl) ?_
        refine pl_nil ?_
        refine au_then ?_
        exact ⟨fun k_ => ([v1 4, undef, undef, undef, undef, undef, undef, undef, undef, undef, undef, undef, undef, undef, undef, undef, undef, undef, undef, undef, undef, undef, undef, undef, undef, undef, .int .i64 (j : Int), .pointer (some ⟨g, 0, none⟩), .pointer (some ⟨g, 0, none⟩), .pointer (some ⟨g, 1, none⟩), .slice (some ⟨k, 0, none⟩) l.length cap, .int .i64 ((l.length : Nat) : Int), .bool true, .int .i64 (j : Int), .int .i64 ((j + 1 : Nat) : Int), .pointer (some ⟨g, 0, none⟩), .pointer (some ⟨g, 0, none⟩), .pointer (some ⟨g, 1, none⟩), .slice (some ⟨k, 0, none⟩) l.length cap, .int .i64 (j : Int), .pointer (some ⟨k, j, none⟩), .int .u64 ((l.getD j 0 : Nat) : Int), .int .u64 (n : Int), .bool false] : List Value).getD (k_ - 4) undef, by kernel_rfl, M, ex_step hx (by omega)⟩
    · intro a u0 hI
      obtain ⟨v1, rfl, M, hx⟩ := hI
      refine wp_seq ?_
      refine wp_seq ?_
      refine rg_lit ?_
      refine pl_val (want_no rfl) (some 30) rfl (.int .i64 ((l.length : Nat) : Int)) (fun _ => by kernel_rfl) ?_
      refine pl_val (want_no rfl) (some 31) rfl (.pointer (some ⟨g, 0, none⟩)) (fun _ => by kernel_rfl) ?_
      refine pl_val (want_no rfl) (some 32) rfl (.pointer (some ⟨g, 0, none⟩)) (fun _ => by kernel_rfl) ?_
      refine pl_val (want_no rfl) (some 33) rfl (.pointer (some ⟨g, 1, none⟩)) (fun _ => by kernel_rfl) ?_
      refine pl_cell M (want_no rfl) (some 34) rfl 22 _ rfl g 1 (by kernel_rfl) (.slice (some ⟨k, 0, none⟩) l.length cap) (fun _ => by kernel_rfl) (fun w M => M.cell 0 rfl (by decide) rfl) ?_
      refine pl_val (want_no rfl) (some 35) rfl (.int .i64 ((l.length : Nat) : Int)) (fun _ => by kernel_rfl) ?_
      refine pl_val (want_no rfl) (some 36) rfl (.bool false) (fun w => Eq.trans (b := .ok (.value (.bool (decide (((l.length : Nat) : Int) < ((l.length : Nat) : Int))))) w) (by kernel_rfl) (by rw [decide_eq_false (by omega)])) ?_
      refine pl_nil ?_
      refine au_then ?_
      refine wp_cond_false (by kernel_rfl) ?_
      refine wp_exit ?_
      refine au_then_exit ?_
      refine au_then_exit ?_
      refine au_block_exit ?_
      refine au_then ?_
      refine wp_seq ?_
      refine rg_lit ?_
      refine pl_val (want_no rfl) (some 4) rfl (.int .i64 0) (fun _ => by kernel_rfl) ?_
      refine pl_nil ?_
      refine au_then ?_
      refine wp_ret ?_
      exact bodyPost_ret (v := .int .i64 0) (results_tmp1 Try.results11 _ _ _ (by kernel_rfl)) (by kernel_rfl) ⟨by rw [my_free l (by omega) hx], ro_below2 M.old hg0 (M.get 0 rfl) hg1 (M.get 1 rfl)⟩

set_option maxRecDepth 100000 in
set_option maxHeartbeats 4000000 in
set_option linter.unusedSimpArgs false in
theorem d_Mark1 (g s : Nat) (n : Nat) (hs : 1 ≤ s) (hs4 : s ≤ 4096) (l : List Nat) (k cap : Nat) (Z : Obj) (hZ : SB Z cap (vsU l)) (h0 : 0 < l.length) (hl : l.length < 1000000) (hM : ∀ q ∈ l, q < 18446744073709551616) (w : World) (hL : Laid w)  (hg0 : w.heap[g]? = some (.cells (av 2 (ls [.int .i64 (s : Int), .slice (some ⟨k, 0, none⟩) l.length cap])) 31)) (hg1 : w.heap[k]? = some Z) (hne : g ≠ k) :
    Calls Try.prog 12 #[.pointer (some ⟨g, 0, none⟩), .int .u64 (n : Int)] w fun r w' => ∃ x : Nat × Nat × Obj, r = .returned (.int .i64 (my s l n)) ∧ SB x.2.2 x.2.1 (vsU (mk s l n)) ∧ OkT w w' [⟨g, .cells (av 2 (ls [.int .i64 (s : Int), .slice (some ⟨k, 0, none⟩) l.length cap])) 31⟩, ⟨k, Z⟩] [⟨g, .cells (av 2 (ls [.int .i64 (s : Int), .slice (some ⟨x.1, 0, none⟩) (mk s l n).length x.2.1])) 31⟩, ⟨x.1, x.2.2⟩] := by
  go_enter Try.func12, Try.ntmps12
  have M := Mem.startp2 hL hg0 hg1 hne
  refine wp_seq ?_
  refine rg_lit ?_
  refine pl_val (want_no rfl) (some 4) rfl (.int .i64 0) (fun _ => by kernel_rfl) ?_
  refine pl_nil ?_
  refine au_then ?_
  refine wp_seq ?_
  refine rg_lit ?_
  refine pl_val (want_no rfl) (some 6) rfl (.pointer (some ⟨g, 0, none⟩)) (fun _ => by kernel_rfl) ?_
  refine pl_val (want_no rfl) (some 7) rfl (.int .u64 (n : Int)) (fun _ => by kernel_rfl) ?_
  refine pl_call M (want_no rfl) (some 8) rfl 11 #[.pointer (some ⟨g, 0, none⟩), .int .u64 (n : Int)] (.int .i64 (my s l n)) (fun _ => by kernel_rfl) (fun w M => d_May1 g s n hs hs4 l k cap Z hZ h0 hl hM w M.laid (M.get 0 rfl) (M.get 1 rfl) hne) ?_
  intro u1 M
  refine pl_val (want_no rfl) (some 5) rfl (.int .i64 (my s l n)) (fun _ => by kernel_rfl) ?_
  refine pl_nil ?_
  refine au_then ?_
  refine wp_seq ?_
  refine wp_seq ?_
  refine rg_lit ?_
  refine pl_val (want_no rfl) (some 9) rfl (.int .i64 (my s l n)) (fun _ => by kernel_rfl) ?_
  by_cases c0 : (my s l n) = 0
  · skip
    refine pl_val (want_no rfl) (some 10) rfl (.bool true) (fun w => Eq.trans (b := .ok (.value (.bool (decide ((my s l n) = 0)))) w) (by kernel_rfl) (by rw [decide_eq_true (c0)])) ?_
    refine pl_nil ?_
    refine au_then ?_
    refine wp_cond_true (by kernel_rfl) ?_
    refine rg_lit ?_
    refine pl_val (want_no rfl) (some 11) rfl (.pointer (some ⟨g, 0, none⟩)) (fun _ => by kernel_rfl) ?_
    refine pl_val (want_no rfl) (some 12) rfl (.pointer (some ⟨g, 0, none⟩)) (fun _ => by kernel_rfl) ?_
    refine pl_val (want_no rfl) (some 13) rfl (.pointer (some ⟨g, 0, none⟩)) (fun _ => by kernel_rfl) ?_
    refine pl_val (want_no rfl) (some 14) rfl (.pointer (some ⟨g, 1, none⟩)) (fun _ => by kernel_rfl) ?_
    refine pl_cell M (want_no rfl) (some 15) rfl 22 _ rfl g 1 (by kernel_rfl) (.slice (some ⟨k, 0, none⟩) l.length cap) (fun _ => by kernel_rfl) (fun w M => M.cell 0 rfl (by decide) rfl) ?_
    refine pl_val (want_no rfl) (some 16) rfl (.int .u64 (n : Int)) (fun _ => by kernel_rfl) ?_
    refine pl_mk M (want_no rfl) (some 17) rfl (fun g1 => .slice (some ⟨g1, 0, none⟩) 1 1) (.cells (av 1 (ls [.int .u64 (n : Int)])) 23) (fun _ => by kernel_rfl) ?_
    intro g1 u2 M
    replace M : Mem ⟨w, [g, k]⟩ [⟨g, .cells (av 2 (ls [.int .i64 (s : Int), .slice (some ⟨k, 0, none⟩) l.length cap])) 31⟩, ⟨k, Z⟩, ⟨g1, .cells (av 1 (ls [.int .u64 (n : Int)])) 23⟩] u2 := M
    refine pl_appI M (want_no rfl) (some 18) rfl 22 22 23 (.int .u64 0) Try.underlying22 info23 rfl 1 k (l.length) cap Z (vsU l) rfl hZ (vsU_len l) hl 2 g1 23 (.int .u64 (n : Int)) rfl rfl (fun _ => by kernel_rfl) ?_
    intro g8 cap8 Z8 u3 hZ8 M
    replace M : Mem ⟨w, [g, k]⟩ [⟨g, .cells (av 2 (ls [.int .i64 (s : Int), .slice (some ⟨k, 0, none⟩) l.length cap])) 31⟩, ⟨g1, .cells (av 1 (ls [.int .u64 (n : Int)])) 23⟩, ⟨g8, Z8⟩] u3 := M
    refine pl_val (want_no rfl) (some 19) rfl (.pointer (some ⟨g, 0, none⟩)) (fun _ => by kernel_rfl) ?_
    refine pl_val (want_no rfl) (some 20) rfl (.pointer (some ⟨g, 1, none⟩)) (fun _ => by kernel_rfl) ?_
    refine pl_put1 M (want_no rfl) rfl 22 _ _ rfl 0 g 1 (by kernel_rfl) 2 31 (ls [.int .i64 (s : Int), .slice (some ⟨k, 0, none⟩) l.length cap]) rfl (.slice (some ⟨g8, 0, none⟩) (l.length + 1) cap8) (ls [.int .i64 (s : Int), .slice (some ⟨g8, 0, none⟩) (l.length + 1) cap8]) (by kernel_rfl) inz22 (by decide) rfl rfl (put_ls _ 1 _ _ rfl) ?_
    intro u4 M
    replace M : Mem ⟨w, [g, k]⟩ [⟨g, .cells (av 2 (ls [.int .i64 (s : Int), .slice (some ⟨g8, 0, none⟩) (l.length + 1) cap8])) 31⟩, ⟨g1, .cells (av 1 (ls [.int .u64 (n : Int)])) 23⟩, ⟨g8, Z8⟩] u4 := M
    refine pl_nil ?_
    refine au_then ?_
    refine wp_seq ?_
    refine rg_lit ?_
    refine pl_val (want_no rfl) (some 21) rfl (.int .i64 (my s l n)) (fun _ => by kernel_rfl) ?_
    refine pl_val (want_no rfl) (some 4) rfl (.int .i64 (my s l n)) (fun _ => by kernel_rfl) ?_
    refine pl_nil ?_
    refine au_then ?_
    refine wp_ret ?_
    exact bodyPost_ret (v := .int .i64 (my s l n)) (results_tmp1 Try.results12 _ _ _ (by kernel_rfl)) (by kernel_rfl) ⟨(g8, cap8, Z8), rfl, by rw [mk_yes c0, vsU_app]; exact hZ8, by rw [mk_yes c0, List.length_append]; exact Mem.okT (L := []) (T := [⟨g, _⟩, ⟨k, Z⟩]) (M.drop (.cons_cons _ (.cons _ (.cons_cons _ .slnil))))⟩
  · skip
    refine pl_val (want_no rfl) (some 10) rfl (.bool false) (fun w => Eq.trans (b := .ok (.value (.bool (decide ((my s l n) = 0)))) w) (by kernel_rfl) (by rw [decide_eq_false (c0)])) ?_
    refine pl_nil ?_
    refine au_then ?_
    refine wp_cond_false (by kernel_rfl) ?_
    refine wp_skip ?_
    refine au_then ?_
    refine wp_seq ?_
    refine rg_lit ?_
    refine pl_val (want_no rfl) (some 21) rfl (.int .i64 (my s l n)) (fun _ => by kernel_rfl) ?_
    refine pl_val (want_no rfl) (some 4) rfl (.int .i64 (my s l n)) (fun _ => by kernel_rfl) ?_
    refine pl_nil ?_
    refine au_then ?_
    refine wp_ret ?_
    exact bodyPost_ret (v := .int .i64 (my s l n)) (results_tmp1 Try.results12 _ _ _ (by kernel_rfl)) (by kernel_rfl) ⟨(k, cap, Z), rfl, by rw [mk_no c0]; exact hZ, by rw [mk_no c0]; exact Mem.okT (L := []) (T := [⟨g, _⟩, ⟨k, Z⟩]) M⟩


end Go.Proofs.Ytpcdnagonpnpmaa
