/- The document: above. -/
import Derived.Test.YtnglfpekdedgfaaDoorR1
namespace Go.Proofs.YtnglfpekdedgfaaDoor
open Go.RowKit

theorem above_step (A B i : Nat) (h : A / 65536 ^ (i + 1) = B / 65536 ^ (i + 1)) : (dg A i = dg B i → A / 65536 ^ i = B / 65536 ^ i) ∧ (¬ dg A i = dg B i → (dg B i < dg A i ↔ B < A)) := by
  have eA : A / 65536 ^ i = 65536 * (A / 65536 ^ (i + 1)) + A / 65536 ^ i % 65536 := by
    rw [Nat.pow_succ, ← Nat.div_div_eq_div_mul]
    exact (Nat.div_add_mod _ _).symm
  have eB : B / 65536 ^ i = 65536 * (B / 65536 ^ (i + 1)) + B / 65536 ^ i % 65536 := by
    rw [Nat.pow_succ, ← Nat.div_div_eq_div_mul]
    exact (Nat.div_add_mod _ _).symm
  have m1 : A ≤ B → A / 65536 ^ i ≤ B / 65536 ^ i := fun h => Nat.div_le_div_right h
  have m2 : B ≤ A → B / 65536 ^ i ≤ A / 65536 ^ i := fun h => Nat.div_le_div_right h
  unfold dg
  generalize A / 65536 ^ i = a at *
  generalize B / 65536 ^ i = b at *
  generalize A / 65536 ^ (i + 1) = a' at *
  generalize B / 65536 ^ (i + 1) = b' at *
  refine ⟨fun hd => by omega, fun hd => ⟨fun hlt => ?_, fun hlt => ?_⟩⟩
  · refine Classical.byContradiction fun hn => ?_
    have := m1 (by omega)
    omega
  · have := m2 (by omega)
    omega

set_option maxRecDepth 100000 in
set_option maxHeartbeats 4000000 in
theorem c_above (A B : Nat) (hA : A < 65536 ^ 16) (hB : B < 65536 ^ 16) (w : World) (hL : Laid w)  :
    Calls Tryd.prog 38 #[.agg (av 16 (w64 (dg A))), .agg (av 16 (w64 (dg B)))] w fun r w' => r = .returned (.bool (decide (B < A))) ∧ Below w.heap.size w w' := by
  go_enter Tryd.func38, Tryd.ntmps38
  have M := Mem.start hL
  refine wp_seq ?_
  refine rg_lit ?_
  refine pl_new M (want_no rfl) (some 2) rfl (.cells (av 16 (w64 (dg A))) 79) (fun _ => by kernel_rfl) ?_
  intro g1 u1 M
  replace M : Mem ⟨w, []⟩ [⟨g1, .cells (av 16 (w64 (dg A))) 79⟩] u1 := M
  refine pl_new M (want_no rfl) (some 3) rfl (.cells (av 16 (w64 (dg B))) 79) (fun _ => by kernel_rfl) ?_
  intro g2 u2 M
  replace M : Mem ⟨w, []⟩ [⟨g1, .cells (av 16 (w64 (dg A))) 79⟩, ⟨g2, .cells (av 16 (w64 (dg B))) 79⟩] u2 := M
  refine pl_val (want_no rfl) (some 4) rfl (.bool false) (fun _ => by kernel_rfl) ?_
  refine pl_nil ?_
  refine au_then ?_
  refine wp_seq ?_
  refine wp_seq ?_
  refine rg_lit ?_
  refine pl_val (want_no rfl) (some 5) rfl (.int .i64 15) (fun _ => by kernel_rfl) ?_
  refine pl_nil ?_
  refine au_then ?_
  refine wp_block ?_
  refine au_loop (fun j a w' => ∃ v : Nat → Value, a = ⟨#[.agg (av 16 (w64 (dg A))), .agg (av 16 (w64 (dg B))), .pointer (some ⟨g1, 0, none⟩), .pointer (some ⟨g2, 0, none⟩), v 4, .int .i64 (15 - (j : Int)), v 6, v 7, v 8, v 9, v 10, v 11, v 12, v 13, v 14, v 15, v 16, v 17, v 18, v 19, v 20, v 21, v 22, v 23], []⟩ ∧ A / 65536 ^ (16 - j) = B / 65536 ^ (16 - j) ∧ Mem ⟨w, []⟩ [⟨g1, .cells (av 16 (w64 (dg A))) 79⟩, ⟨g2, .cells (av 16 (w64 (dg B))) 79⟩] w') 16 ⟨fun k_ => ([.bool false, undef, undef, undef, undef, undef, undef, undef, undef, undef, undef, undef, undef, undef, undef, undef, undef, undef, undef, undef] : List Value).getD (k_ - 4) undef, by kernel_rfl, by rw [Nat.div_eq_of_lt hA, Nat.div_eq_of_lt hB], M⟩ ?_ ?_
  · intro j a u0 hj hI
    obtain ⟨v, rfl, hq, M⟩ := hI
    rw [show 16 - j = 15 - j + 1 by omega] at hq
    obtain ⟨s1, s2⟩ := above_step A B (15 - j) hq
    by_cases hd : dg A (15 - j) = dg B (15 - j)
    · skip
      refine wp_seq ?_
      refine wp_seq ?_
      refine rg_lit ?_
      refine pl_val (want_no rfl) (some 6) rfl (.int .i64 (15 - (j : Int))) (fun _ => by kernel_rfl) ?_
      refine pl_val (want_no rfl) (some 7) rfl (.bool true) (fun w => Eq.trans (b := .ok (.value (.bool (decide (0 ≤ 15 - (j : Int))))) w) (by kernel_rfl) (by rw [decide_eq_true (by omega)])) ?_
      refine pl_nil ?_
      refine au_then ?_
      refine wp_cond_true (by kernel_rfl) ?_
      refine wp_skip ?_
      refine au_then ?_
      refine wp_seq ?_
      refine wp_block ?_
      refine wp_seq ?_
      refine rg_tail M 6 (by kernel_rfl) (by kernel_rfl) ?_
      simp only [List.take_succ_cons, List.take_zero]
      refine k_val (want_no rfl) (some 10) rfl (.int .i64 ((15 - j : Nat) : Int)) (fun w => Eq.trans (b := .ok (.value (.int .i64 (15 - (j : Int)))) w) (by kernel_rfl) (by congr 3; omega)) ?_
      refine k_val (want_no rfl) (some 11) rfl (.pointer (some ⟨g1, ((15 - j : Nat)), none⟩)) (run_ix1 79 16 40 Tryd.underlying79 inz40 _ _ rfl g1 (by kernel_rfl) .i64 ((15 - j : Nat)) (by kernel_rfl) (by omega)) ?_
      refine k_cell M (want_no rfl) (some 12) rfl 40 _ rfl g1 ((15 - j : Nat)) (by kernel_rfl) (.int .u64 ((dg A) ((15 - j : Nat)))) (fun _ => by kernel_rfl) (fun w M => M.cell 0 rfl (by omega) rfl) ?_
      refine k_val (want_no rfl) (some 13) rfl (.int .i64 ((15 - j : Nat) : Int)) (fun w => Eq.trans (b := .ok (.value (.int .i64 (15 - (j : Int)))) w) (by kernel_rfl) (by congr 3; omega)) ?_
      refine k_val (want_no rfl) (some 14) rfl (.pointer (some ⟨g2, ((15 - j : Nat)), none⟩)) (run_ix1 79 16 40 Tryd.underlying79 inz40 _ _ rfl g2 (by kernel_rfl) .i64 ((15 - j : Nat)) (by kernel_rfl) (by omega)) ?_
      refine k_cell M (want_no rfl) (some 15) rfl 40 _ rfl g2 ((15 - j : Nat)) (by kernel_rfl) (.int .u64 ((dg B) ((15 - j : Nat)))) (fun _ => by kernel_rfl) (fun w M => M.cell 1 rfl (by omega) rfl) ?_
      refine kl_nil ?_
      intro u3 M
      replace M : Mem ⟨w, []⟩ [⟨g1, .cells (av 16 (w64 (dg A))) 79⟩, ⟨g2, .cells (av 16 (w64 (dg B))) 79⟩] u3 := M
      refine pl_val (want_no rfl) (some 16) rfl (.bool false) (fun w => Eq.trans (b := .ok (.value (.bool (!(decide (dg A (15 - j) = dg B (15 - j)))))) w) (by kernel_rfl) (by rw [decide_eq_true hd]; rfl)) ?_
      refine pl_nil ?_
      refine au_then ?_
      refine wp_cond_false (by kernel_rfl) ?_
      refine wp_skip ?_
      refine au_block ?_
      refine au_then ?_
      refine rg_lit ?_
      refine pl_val (want_no rfl) (some 8) rfl (.int .i64 ((15 - j : Nat) : Int)) (fun w => Eq.trans (b := .ok (.value (.int .i64 (15 - (j : Int)))) w) (by kernel_rfl) (by congr 3; omega)) ?_
      refine pl_val (want_no rfl) (some 9) rfl (.int .i64 (15 - ((j + 1 : Nat) : Int))) (fun w => Eq.trans (b := .ok (.value (.int .i64 (IntKind.wrap .i64 (((15 - j : Nat) : Int) - 1)))) w) (by kernel_rfl) (by rw [wrap64 (by omega) (by omega)]; congr 3; omega)) ?_
      refine pl_val (want_no rfl) (some 5) rfl (.int .i64 (15 - ((j + 1 : Nat) : Int))) (fun _ => by kernel_rfl) ?_
      refine pl_nil ?_
      refine au_then ?_
      exact ⟨fun k_ => ([v 4, undef, .int .i64 (15 - (j : Int)), .bool true, .int .i64 ((15 - j : Nat) : Int), .int .i64 (15 - ((j + 1 : Nat) : Int)), .int .i64 ((15 - j : Nat) : Int), .pointer (some ⟨g1, ((15 - j : Nat)), none⟩), .int .u64 ((dg A) ((15 - j : Nat))), .int .i64 ((15 - j : Nat) : Int), .pointer (some ⟨g2, ((15 - j : Nat)), none⟩), .int .u64 ((dg B) ((15 - j : Nat))), .bool false, v 17, v 18, v 19, v 20, v 21, v 22, v 23] : List Value).getD (k_ - 4) undef, by kernel_rfl, by rw [show 16 - (j + 1) = 15 - j by omega]; exact s1 hd, M⟩
    · skip
      refine wp_seq ?_
      refine wp_seq ?_
      refine rg_lit ?_
      refine pl_val (want_no rfl) (some 6) rfl (.int .i64 (15 - (j : Int))) (fun _ => by kernel_rfl) ?_
      refine pl_val (want_no rfl) (some 7) rfl (.bool true) (fun w => Eq.trans (b := .ok (.value (.bool (decide (0 ≤ 15 - (j : Int))))) w) (by kernel_rfl) (by rw [decide_eq_true (by omega)])) ?_
      refine pl_nil ?_
      refine au_then ?_
      refine wp_cond_true (by kernel_rfl) ?_
      refine wp_skip ?_
      refine au_then ?_
      refine wp_seq ?_
      refine wp_block ?_
      refine wp_seq ?_
      refine rg_tail M 6 (by kernel_rfl) (by kernel_rfl) ?_
      simp only [List.take_succ_cons, List.take_zero]
      refine k_val (want_no rfl) (some 10) rfl (.int .i64 ((15 - j : Nat) : Int)) (fun w => Eq.trans (b := .ok (.value (.int .i64 (15 - (j : Int)))) w) (by kernel_rfl) (by congr 3; omega)) ?_
      refine k_val (want_no rfl) (some 11) rfl (.pointer (some ⟨g1, ((15 - j : Nat)), none⟩)) (run_ix1 79 16 40 Tryd.underlying79 inz40 _ _ rfl g1 (by kernel_rfl) .i64 ((15 - j : Nat)) (by kernel_rfl) (by omega)) ?_
      refine k_cell M (want_no rfl) (some 12) rfl 40 _ rfl g1 ((15 - j : Nat)) (by kernel_rfl) (.int .u64 ((dg A) ((15 - j : Nat)))) (fun _ => by kernel_rfl) (fun w M => M.cell 0 rfl (by omega) rfl) ?_
      refine k_val (want_no rfl) (some 13) rfl (.int .i64 ((15 - j : Nat) : Int)) (fun w => Eq.trans (b := .ok (.value (.int .i64 (15 - (j : Int)))) w) (by kernel_rfl) (by congr 3; omega)) ?_
      refine k_val (want_no rfl) (some 14) rfl (.pointer (some ⟨g2, ((15 - j : Nat)), none⟩)) (run_ix1 79 16 40 Tryd.underlying79 inz40 _ _ rfl g2 (by kernel_rfl) .i64 ((15 - j : Nat)) (by kernel_rfl) (by omega)) ?_
      refine k_cell M (want_no rfl) (some 15) rfl 40 _ rfl g2 ((15 - j : Nat)) (by kernel_rfl) (.int .u64 ((dg B) ((15 - j : Nat)))) (fun _ => by kernel_rfl) (fun w M => M.cell 1 rfl (by omega) rfl) ?_
      refine kl_nil ?_
      intro u4 M
      replace M : Mem ⟨w, []⟩ [⟨g1, .cells (av 16 (w64 (dg A))) 79⟩, ⟨g2, .cells (av 16 (w64 (dg B))) 79⟩] u4 := M
      refine pl_val (want_no rfl) (some 16) rfl (.bool true) (fun w => Eq.trans (b := .ok (.value (.bool (!(decide (dg A (15 - j) = dg B (15 - j)))))) w) (by kernel_rfl) (by rw [decide_eq_false hd]; rfl)) ?_
      refine pl_nil ?_
      refine au_then ?_
      refine wp_cond_true (by kernel_rfl) ?_
      refine wp_seq ?_
      refine rg_tail M 7 (by kernel_rfl) (by kernel_rfl) ?_
      simp only [List.take_succ_cons, List.take_zero]
      refine k_val (want_no rfl) (some 17) rfl (.int .i64 ((15 - j : Nat) : Int)) (fun w => Eq.trans (b := .ok (.value (.int .i64 (15 - (j : Int)))) w) (by kernel_rfl) (by congr 3; omega)) ?_
      refine k_val (want_no rfl) (some 18) rfl (.pointer (some ⟨g1, ((15 - j : Nat)), none⟩)) (run_ix1 79 16 40 Tryd.underlying79 inz40 _ _ rfl g1 (by kernel_rfl) .i64 ((15 - j : Nat)) (by kernel_rfl) (by omega)) ?_
      refine k_cell M (want_no rfl) (some 19) rfl 40 _ rfl g1 ((15 - j : Nat)) (by kernel_rfl) (.int .u64 ((dg A) ((15 - j : Nat)))) (fun _ => by kernel_rfl) (fun w M => M.cell 0 rfl (by omega) rfl) ?_
      refine k_val (want_no rfl) (some 20) rfl (.int .i64 ((15 - j : Nat) : Int)) (fun w => Eq.trans (b := .ok (.value (.int .i64 (15 - (j : Int)))) w) (by kernel_rfl) (by congr 3; omega)) ?_
      refine k_val (want_no rfl) (some 21) rfl (.pointer (some ⟨g2, ((15 - j : Nat)), none⟩)) (run_ix1 79 16 40 Tryd.underlying79 inz40 _ _ rfl g2 (by kernel_rfl) .i64 ((15 - j : Nat)) (by kernel_rfl) (by omega)) ?_
      refine k_cell M (want_no rfl) (some 22) rfl 40 _ rfl g2 ((15 - j : Nat)) (by kernel_rfl) (.int .u64 ((dg B) ((15 - j : Nat)))) (fun _ => by kernel_rfl) (fun w M => M.cell 1 rfl (by omega) rfl) ?_
      refine k_val (want_no rfl) (some 23) rfl (.bool (decide (B < A))) (fun w => Eq.trans (b := .ok (.value (.bool (decide (dg B (15 - j) < dg A (15 - j))))) w) (by kernel_rfl) (by rw [decide_eq_decide.2 (s2 hd)])) ?_
      refine kl_nil ?_
      intro u5 M
      replace M : Mem ⟨w, []⟩ [⟨g1, .cells (av 16 (w64 (dg A))) 79⟩, ⟨g2, .cells (av 16 (w64 (dg B))) 79⟩] u5 := M
      refine pl_val (want_no rfl) (some 4) rfl (.bool (decide (B < A))) (fun _ => by kernel_rfl) ?_
      refine pl_nil ?_
      refine au_then ?_
      refine wp_ret ?_
      refine au_block_ret ?_
      refine au_then_ret ?_
      refine au_then_ret ?_
      refine au_block_ret ?_
      refine au_then_ret ?_
      exact bodyPost_ret (v := .bool (decide (B < A))) (results_tmp1 Tryd.results38 _ _ _ (by kernel_rfl)) (by kernel_rfl) ⟨rfl, below_grown M.old⟩
  · intro a u0 hI
    obtain ⟨v, rfl, hq, M⟩ := hI
    have hAB : ¬ B < A := by simp at hq; omega
    refine wp_seq ?_
    refine wp_seq ?_
    refine rg_lit ?_
    refine pl_val (want_no rfl) (some 6) rfl (.int .i64 (15 - (16 : Int))) (fun _ => by kernel_rfl) ?_
    refine pl_val (want_no rfl) (some 7) rfl (.bool false) (fun w => Eq.trans (b := .ok (.value (.bool (decide (0 ≤ 15 - (16 : Int))))) w) (by kernel_rfl) (by rw [decide_eq_false (by omega)])) ?_
    refine pl_nil ?_
    refine au_then ?_
    refine wp_cond_false (by kernel_rfl) ?_
    refine wp_exit ?_
    refine au_then_exit ?_
    refine au_then_exit ?_
    refine au_block_exit ?_
    refine au_then ?_
    refine wp_seq ?_
    refine rg_lit ?_
    refine pl_val (want_no rfl) (some 4) rfl (.bool false) (fun _ => by kernel_rfl) ?_
    refine pl_nil ?_
    refine au_then ?_
    refine wp_ret ?_
    exact bodyPost_ret (v := .bool (decide (B < A))) (Eq.trans (b := .ok (.bool false) _) (results_tmp1 Tryd.results38 _ _ _ (by kernel_rfl)) (by rw [decide_eq_false hAB])) (by kernel_rfl) ⟨rfl, below_grown M.old⟩


end Go.Proofs.YtnglfpekdedgfaaDoor
