/- What was written, one behind the other, is read as itself, and at its end: CodeBack. -/
import Derived.Test.YtoiodkhmkkhjcaaQ7
namespace Go.Proofs.Ytoiodkhmkkhjcaa
open Go.RowKit

theorem tg_mem (l : List ByteArray) (i : Nat) (h : i < l.length) : tg l i ∈ l := List.mem_of_getElem? (tg_at l i h)
theorem vS_app (l : List ByteArray) (t : ByteArray) : vS (l ++ [t]) = vS l ++ [.string t] := by simp [vS]
/-- A slice of texts of one's own, nil as long as it has none. -/
def TS (c : Ctx) (W : World) (tv : Value) (l : List ByteArray) : Prop := (l = [] ∧ tv = .slice none 0 0 ∧ Mem c [] W) ∨ ∃ g cap Z, tv = .slice (some ⟨g, 0, none⟩) l.length cap ∧ SB Z cap (vS l) ∧ Mem c [⟨g, Z⟩] W
set_option maxRecDepth 100000 in
set_option maxHeartbeats 4000000 in
set_option linter.unusedSimpArgs false in
theorem c_back (l0 l1 : Option Addr) (b0 o0 n0 k0 b1 o1 n1 k1 : Nat) (X : Nat → Int) (Y : Nat → ByteArray) (rest : ByteArray) (hl0 : 0 < n0 → l0 = some ⟨b0, o0, none⟩) (hl1 : 0 < n1 → l1 = some ⟨b1, o1, none⟩) (hX0 : ∀ j, j < n0 → 0 ≤ X j ∧ X j < 18446744073709551616) (hr : rest.size ≤ 140737488351232) (hm1 : n1 ≤ 9223372036854775807) (w : World) (hL : Laid w) (hX : ∀ j, j < n0 → w.cell? ⟨b0, o0 + j * 1, none⟩ = some (.int .u64 (X j))) (hY : ∀ j, j < n1 → w.cell? ⟨b1, o1 + j * 1, none⟩ = some (.string (Y j))) :
    Calls Try.prog 5 #[.slice l0 n0 k0, .slice l1 n1 k1, .string rest] w fun r w' => r = .returned (.bool true) ∧ Below w.heap.size w w' := by
  go_enter Try.func5, Try.ntmps5
  have M := Mem.start hL
  refine wp_seq ?_
  refine rg_lit ?_
  refine pl_val (want_no rfl) (some 6) rfl (.bool false) (fun _ => by kernel_rfl) ?_
  refine pl_nil ?_
  refine au_then ?_
  refine wp_seq ?_
  refine rg_lit ?_
  refine pl_val (want_no rfl) (some 18) rfl (.string rest) (fun _ => by kernel_rfl) ?_
  refine pl_val (want_no rfl) (some 19) rfl (.int .i64 (rest.size : Int)) (fun _ => by kernel_rfl) ?_
  refine pl_val (want_no rfl) (some 7) rfl (.int .i64 (rest.size : Int)) (fun _ => by kernel_rfl) ?_
  refine pl_nil ?_
  refine au_then ?_
  refine wp_seq ?_
  refine wp_seq ?_
  refine rg_lit ?_
  refine pl_val (want_no rfl) (some 8) rfl (.int .i64 0) (fun _ => by kernel_rfl) ?_
  refine pl_nil ?_
  refine au_then ?_
  refine wp_block ?_
  refine au_loop (fun j a w' => ∃ v1 : Nat → Value, a = ⟨#[.slice l0 n0 k0, .slice l1 n1 k1, .string rest, undef, undef, undef, .bool false, .int .i64 (sm Y rest j), .int .i64 (j : Int), undef, undef, undef, undef, undef, undef, undef, undef, undef, .string rest, .int .i64 (rest.size : Int), v1 20, v1 21, v1 22, v1 23, v1 24, v1 25, v1 26, v1 27, v1 28, v1 29, v1 30, v1 31, v1 32, undef, undef, undef, undef, undef, undef, undef, undef, undef, undef, undef, undef, undef, undef, undef, undef, undef, undef, undef, undef, undef, undef, undef, undef, undef, undef, undef, undef, undef, undef, undef, undef, undef, undef, undef, undef, undef, undef, undef, undef, undef, undef, undef, undef, undef, undef, undef, undef, undef, undef, undef, undef, undef, undef, undef, undef, undef, undef, undef, undef, undef, undef, undef, undef, undef, undef, undef, undef, undef, undef, undef, undef, undef, undef, undef, undef, undef, undef, undef, undef, undef, undef, undef, undef, undef, undef, undef, undef, undef, undef, undef, undef, undef, undef, undef, undef, undef, undef, undef, undef, undef, undef, undef, undef, undef, undef, undef, undef, undef, undef, undef, undef, undef, undef, undef, undef, undef, undef, undef, undef, undef, undef, undef, undef, undef, undef, undef, undef, undef, undef, undef, undef, undef, undef, undef, undef, undef, undef, undef, undef, undef, undef, undef, undef, undef, undef, undef, undef, undef, undef, undef, undef, undef, undef, undef, undef, undef, undef, undef], []⟩ ∧ Mem ⟨w, []⟩ [] w') n1 ⟨fun k_ => ([undef, undef, undef, undef, undef, undef, undef, undef, undef, undef, undef, undef, undef] : List Value).getD (k_ - 20) undef, by kernel_rfl, M⟩ ?_ ?_
  · intro j a u0 hj hI
    obtain ⟨v1, rfl, M⟩ := hI
    refine wp_seq ?_
    refine wp_seq ?_
    refine rg_lit ?_
    refine pl_val (want_no rfl) (some 20) rfl (.int .i64 (j : Int)) (fun _ => by kernel_rfl) ?_
    refine pl_val (want_no rfl) (some 21) rfl (.slice l1 n1 k1) (fun _ => by kernel_rfl) ?_
    refine pl_val (want_no rfl) (some 22) rfl (.int .i64 (n1 : Int)) (fun _ => by kernel_rfl) ?_
    refine pl_val (want_no rfl) (some 23) rfl (.bool true) (fun w => Eq.trans (b := .ok (.value (.bool (decide ((j : Int) < (n1 : Int))))) w) (by kernel_rfl) (by rw [decide_eq_true (by omega)])) ?_
    refine pl_nil ?_
    refine au_then ?_
    refine wp_cond_true (by kernel_rfl) ?_
    refine wp_skip ?_
    refine au_then ?_
    refine wp_seq ?_
    refine wp_block ?_
    refine rg_lit ?_
    refine pl_val (want_no rfl) (some 26) rfl (.int .i64 (sm Y rest j)) (fun _ => by kernel_rfl) ?_
    refine pl_val (want_no rfl) (some 27) rfl (.slice l1 n1 k1) (fun _ => by kernel_rfl) ?_
    refine pl_val (want_no rfl) (some 28) rfl (.int .i64 (j : Int)) (fun _ => by kernel_rfl) ?_
    refine pl_val (want_no rfl) (some 29) rfl (.pointer (some ⟨b1, (o1 + j * 1), none⟩)) (run_ixK 53 9 1 Try.underlying53 inz9 _ _ rfl l1 b1 o1 n1 k1 (by kernel_rfl) (hl1 (by omega)) .i64 j (by kernel_rfl) (by omega)) ?_
    refine pl_cell M (want_no rfl) (some 30) rfl 9 _ rfl b1 (o1 + j * 1) (by kernel_rfl) (.string (Y j)) (fun _ => by kernel_rfl) (fun w M => M.oldc (hY j (by omega)) (by simp)) ?_
    refine pl_val (want_no rfl) (some 31) rfl (.int .i64 ((Y j).size : Int)) (fun _ => by kernel_rfl) ?_
    refine pl_val (want_no rfl) (some 32) rfl (.int .i64 (sm Y rest (j + 1))) (fun _ => by kernel_rfl) ?_
    refine pl_val (want_no rfl) (some 7) rfl (.int .i64 (sm Y rest (j + 1))) (fun _ => by kernel_rfl) ?_
    refine pl_nil ?_
    refine au_block ?_
    refine au_then ?_
    refine rg_lit ?_
    refine pl_val (want_no rfl) (some 24) rfl (.int .i64 (j : Int)) (fun _ => by kernel_rfl) ?_
    refine pl_val (want_no rfl) (some 25) rfl (.int .i64 ((j + 1 : Nat) : Int)) (fun w => Eq.trans (b := .ok (.value (.int .i64 (IntKind.wrap .i64 ((j : Int) + 1)))) w) (by kernel_rfl) (by rw [wrap64 (by omega) (by omega)]; congr 3)) ?_
    refine pl_val (want_no rfl) (some 8) rfl (.int .i64 ((j + 1 : Nat) : Int)) (fun _ => by kernel_rfl) ?_
    refine pl_nil ?_
    refine au_then ?_
    exact ⟨fun k_ => ([.int .i64 (j : Int), .slice l1 n1 k1, .int .i64 (n1 : Int), .bool true, .int .i64 (j : Int), .int .i64 ((j + 1 : Nat) : Int), .int .i64 (sm Y rest j), .slice l1 n1 k1, .int .i64 (j : Int), .pointer (some ⟨b1, (o1 + j * 1), none⟩), .string (Y j), .int .i64 ((Y j).size : Int), .int .i64 (sm Y rest (j + 1))] : List Value).getD (k_ - 20) undef, by kernel_rfl, M⟩
  · intro a u0 hI
    obtain ⟨v1, rfl, M⟩ := hI
    refine wp_seq ?_
    refine wp_seq ?_
    refine rg_lit ?_
    refine pl_val (want_no rfl) (some 20) rfl (.int .i64 (n1 : Int)) (fun _ => by kernel_rfl) ?_
    refine pl_val (want_no rfl) (some 21) rfl (.slice l1 n1 k1) (fun _ => by kernel_rfl) ?_
    refine pl_val (want_no rfl) (some 22) rfl (.int .i64 (n1 : Int)) (fun _ => by kernel_rfl) ?_
    refine pl_val (want_no rfl) (some 23) rfl (.bool false) (fun w => Eq.trans (b := .ok (.value (.bool (decide ((n1 : Int) < (n1 : Int))))) w) (by kernel_rfl) (by rw [decide_eq_false (by omega)])) ?_
    refine pl_nil ?_
    refine au_then ?_
    refine wp_cond_false (by kernel_rfl) ?_
    refine wp_exit ?_
    refine au_then_exit ?_
    refine au_then_exit ?_
    refine au_block_exit ?_
    refine au_then ?_
    refine wp_seq ?_
    refine wp_seq ?_
    refine rg_lit ?_
    refine pl_val (want_no rfl) (some 33) rfl (.slice l0 n0 k0) (fun _ => by kernel_rfl) ?_
    refine pl_val (want_no rfl) (some 34) rfl (.int .i64 (n0 : Int)) (fun _ => by kernel_rfl) ?_
    by_cases c0 : 100 < (n0 : Int)
    · skip
      refine pl_val (want_no rfl) (some 35) rfl (.bool true) (fun w => Eq.trans (b := .ok (.value (.bool (decide (100 < (n0 : Int))))) w) (by kernel_rfl) (by rw [decide_eq_true (c0)])) ?_
      refine pl_val (want_no rfl) (some 36) rfl (.bool true) (fun _ => by kernel_rfl) ?_
      refine pl_skip (want_off 3 false rfl 36 rfl (by kernel_rfl)) (some 37) rfl ?_
      refine pl_skip (want_off 3 false rfl 36 rfl (by kernel_rfl)) (some 38) rfl ?_
      refine pl_skip (want_off 3 false rfl 36 rfl (by kernel_rfl)) (some 39) rfl ?_
      refine pl_val (want_no rfl) (some 40) rfl (.bool true) (fun _ => by kernel_rfl) ?_
      refine pl_val (want_no rfl) (some 41) rfl (.bool true) (fun _ => by kernel_rfl) ?_
      refine pl_skip (want_off 8 false rfl 41 rfl (by kernel_rfl)) (some 42) rfl ?_
      refine pl_skip (want_off 8 false rfl 41 rfl (by kernel_rfl)) (some 43) rfl ?_
      refine pl_val (want_no rfl) (some 44) rfl (.bool true) (fun _ => by kernel_rfl) ?_
      refine pl_nil ?_
      refine au_then ?_
      refine wp_cond_true (by kernel_rfl) ?_
      refine wp_seq ?_
      refine rg_lit ?_
      refine pl_call M (want_no rfl) (some 45) rfl 7 #[] (.bool true) (fun _ => by kernel_rfl) (fun w M => c_works w M.laid) ?_
      intro u1 M
      refine pl_val (want_no rfl) (some 6) rfl (.bool true) (fun _ => by kernel_rfl) ?_
      refine pl_nil ?_
      refine au_then ?_
      refine wp_ret ?_
      refine au_then_ret ?_
      exact bodyPost_ret (v := .bool true) (results_tmp1 Try.results5 _ _ _ (by kernel_rfl)) (by kernel_rfl) ⟨rfl, below_grown M.old⟩
    · skip
      refine pl_val (want_no rfl) (some 35) rfl (.bool false) (fun w => Eq.trans (b := .ok (.value (.bool (decide (100 < (n0 : Int))))) w) (by kernel_rfl) (by rw [decide_eq_false (c0)])) ?_
      refine pl_val (want_no rfl) (some 36) rfl (.bool false) (fun _ => by kernel_rfl) ?_
      refine pl_val (want_on 3 false rfl 36 rfl (by kernel_rfl)) (some 37) rfl (.slice l1 n1 k1) (fun _ => by kernel_rfl) ?_
      refine pl_val (want_on 3 false rfl 36 rfl (by kernel_rfl)) (some 38) rfl (.int .i64 (n1 : Int)) (fun _ => by kernel_rfl) ?_
      by_cases c1 : 100 < (n1 : Int)
      · skip
        refine pl_val (want_on 3 false rfl 36 rfl (by kernel_rfl)) (some 39) rfl (.bool true) (fun w => Eq.trans (b := .ok (.value (.bool (decide (100 < (n1 : Int))))) w) (by kernel_rfl) (by rw [decide_eq_true (c1)])) ?_
        refine pl_val (want_no rfl) (some 40) rfl (.bool true) (fun _ => by kernel_rfl) ?_
        refine pl_val (want_no rfl) (some 41) rfl (.bool true) (fun _ => by kernel_rfl) ?_
        refine pl_skip (want_off 8 false rfl 41 rfl (by kernel_rfl)) (some 42) rfl ?_
        refine pl_skip (want_off 8 false rfl 41 rfl (by kernel_rfl)) (some 43) rfl ?_
        refine pl_val (want_no rfl) (some 44) rfl (.bool true) (fun _ => by kernel_rfl) ?_
        refine pl_nil ?_
        refine au_then ?_
        refine wp_cond_true (by kernel_rfl) ?_
        refine wp_seq ?_
        refine rg_lit ?_
        refine pl_call M (want_no rfl) (some 45) rfl 7 #[] (.bool true) (fun _ => by kernel_rfl) (fun w M => c_works w M.laid) ?_
        intro u1 M
        refine pl_val (want_no rfl) (some 6) rfl (.bool true) (fun _ => by kernel_rfl) ?_
        refine pl_nil ?_
        refine au_then ?_
        refine wp_ret ?_
        refine au_then_ret ?_
        exact bodyPost_ret (v := .bool true) (results_tmp1 Try.results5 _ _ _ (by kernel_rfl)) (by kernel_rfl) ⟨rfl, below_grown M.old⟩
      · skip
        refine pl_val (want_on 3 false rfl 36 rfl (by kernel_rfl)) (some 39) rfl (.bool false) (fun w => Eq.trans (b := .ok (.value (.bool (decide (100 < (n1 : Int))))) w) (by kernel_rfl) (by rw [decide_eq_false (c1)])) ?_
        refine pl_val (want_no rfl) (some 40) rfl (.bool false) (fun _ => by kernel_rfl) ?_
        refine pl_val (want_no rfl) (some 41) rfl (.bool false) (fun _ => by kernel_rfl) ?_
        refine pl_val (want_on 8 false rfl 41 rfl (by kernel_rfl)) (some 42) rfl (.int .i64 (sm Y rest n1)) (fun _ => by kernel_rfl) ?_
        by_cases c2 : 131072 < (sm Y rest n1)
        · skip
          refine pl_val (want_on 8 false rfl 41 rfl (by kernel_rfl)) (some 43) rfl (.bool true) (fun w => Eq.trans (b := .ok (.value (.bool (decide (131072 < (sm Y rest n1))))) w) (by kernel_rfl) (by rw [decide_eq_true (c2)])) ?_
          refine pl_val (want_no rfl) (some 44) rfl (.bool true) (fun _ => by kernel_rfl) ?_
          refine pl_nil ?_
          refine au_then ?_
          refine wp_cond_true (by kernel_rfl) ?_
          refine wp_seq ?_
          refine rg_lit ?_
          refine pl_call M (want_no rfl) (some 45) rfl 7 #[] (.bool true) (fun _ => by kernel_rfl) (fun w M => c_works w M.laid) ?_
          intro u1 M
          refine pl_val (want_no rfl) (some 6) rfl (.bool true) (fun _ => by kernel_rfl) ?_
          refine pl_nil ?_
          refine au_then ?_
          refine wp_ret ?_
          refine au_then_ret ?_
          exact bodyPost_ret (v := .bool true) (results_tmp1 Try.results5 _ _ _ (by kernel_rfl)) (by kernel_rfl) ⟨rfl, below_grown M.old⟩
        · skip
          refine pl_val (want_on 8 false rfl 41 rfl (by kernel_rfl)) (some 43) rfl (.bool false) (fun w => Eq.trans (b := .ok (.value (.bool (decide (131072 < (sm Y rest n1))))) w) (by kernel_rfl) (by rw [decide_eq_false (c2)])) ?_
          refine pl_val (want_no rfl) (some 44) rfl (.bool false) (fun _ => by kernel_rfl) ?_
          refine pl_nil ?_
          refine au_then ?_
          refine wp_cond_false (by kernel_rfl) ?_
          refine wp_skip ?_
          refine au_then ?_
          refine wp_seq ?_
          refine rg_lit ?_
          refine pl_val (want_no rfl) (some 9) rfl (.string ⟨#[]⟩) (fun _ => by kernel_rfl) ?_
          refine pl_nil ?_
          refine au_then ?_
          refine wp_seq ?_
          refine wp_seq ?_
          refine rg_lit ?_
          refine pl_val (want_no rfl) (some 10) rfl (.int .i64 0) (fun _ => by kernel_rfl) ?_
          refine pl_nil ?_
          refine au_then ?_
          refine wp_block ?_
          refine au_loop (fun j a w' => ∃ v2 : Nat → Value, a = ⟨#[.slice l0 n0 k0, .slice l1 n1 k1, .string rest, undef, undef, undef, .bool false, .int .i64 (sm Y rest n1), .int .i64 (n1 : Int), .string (eL X j), .int .i64 (j : Int), undef, undef, undef, undef, undef, undef, undef, .string rest, .int .i64 (rest.size : Int), .int .i64 (n1 : Int), .slice l1 n1 k1, .int .i64 (n1 : Int), .bool false, v1 24, v1 25, v1 26, v1 27, v1 28, v1 29, v1 30, v1 31, v1 32, .slice l0 n0 k0, .int .i64 (n0 : Int), .bool false, .bool false, .slice l1 n1 k1, .int .i64 (n1 : Int), .bool false, .bool false, .bool false, .int .i64 (sm Y rest n1), .bool false, .bool false, undef, v2 46, v2 47, v2 48, v2 49, v2 50, v2 51, v2 52, v2 53, v2 54, v2 55, v2 56, v2 57, v2 58, v2 59, v2 60, v2 61, v2 62, v2 63, v2 64, v2 65, v2 66, v2 67, v2 68, v2 69, v2 70, v2 71, v2 72, undef, undef, undef, undef, undef, undef, undef, undef, undef, undef, undef, undef, undef, undef, undef, undef, undef, undef, undef, undef, undef, undef, undef, undef, undef, undef, undef, undef, undef, undef, undef, undef, undef, undef, undef, undef, undef, undef, undef, undef, undef, undef, undef, undef, undef, undef, undef, undef, undef, undef, undef, undef, undef, undef, undef, undef, undef, undef, undef, undef, undef, undef, undef, undef, undef, undef, undef, undef, undef, undef, undef, undef, undef, undef, undef, undef, undef, undef, undef, undef, undef, undef, undef, undef, undef, undef, undef, undef, undef, undef, undef, undef, undef, undef, undef, undef, undef, undef, undef, undef, undef, undef, undef, undef, undef, undef, undef, undef, undef, undef, undef, undef, undef, undef, undef, undef, undef, undef, undef], []⟩ ∧ Mem ⟨w, []⟩ [] w') n0 ⟨fun k_ => ([undef, undef, undef, undef, undef, undef, undef, undef, undef, undef, undef, undef, undef, undef, undef, undef, undef, undef, undef, undef, undef, undef, undef, undef, undef, undef, undef] : List Value).getD (k_ - 46) undef, by kernel_rfl, M⟩ ?_ ?_
          · intro j a u0 hj hI
            obtain ⟨v2, rfl, M⟩ := hI
            refine wp_seq ?_
            refine wp_seq ?_
            refine rg_lit ?_
            refine pl_val (want_no rfl) (some 46) rfl (.int .i64 (j : Int)) (fun _ => by kernel_rfl) ?_
            refine pl_val (want_no rfl) (some 47) rfl (.slice l0 n0 k0) (fun _ => by kernel_rfl) ?_
            refine pl_val (want_no rfl) (some 48) rfl (.int .i64 (n0 : Int)) (fun _ => by kernel_rfl) ?_
            refine pl_val (want_no rfl) (some 49) rfl (.bool true) (fun w => Eq.trans (b := .ok (.value (.bool (decide ((j : Int) < (n0 : Int))))) w) (by kernel_rfl) (by rw [decide_eq_true (by omega)])) ?_
            refine pl_nil ?_
            refine au_then ?_
            refine wp_cond_true (by kernel_rfl) ?_
            refine wp_skip ?_
            refine au_then ?_
            refine wp_seq ?_
            refine wp_block ?_
            refine rg_tail M 21 (by kernel_rfl) (by kernel_rfl) ?_
            simp only [List.take_succ_cons, List.take_zero]
            refine k_val (want_no rfl) (some 52) rfl (.string (eL X j)) (fun _ => by kernel_rfl) ?_
            refine k_val (want_no rfl) (some 53) rfl (.slice l0 n0 k0) (fun _ => by kernel_rfl) ?_
            refine k_val (want_no rfl) (some 54) rfl (.int .i64 (j : Int)) (fun _ => by kernel_rfl) ?_
            refine k_val (want_no rfl) (some 55) rfl (.pointer (some ⟨b0, (o0 + j * 1), none⟩)) (run_ixK 52 22 1 Try.underlying52 inz22 _ _ rfl l0 b0 o0 n0 k0 (by kernel_rfl) (hl0 (by omega)) .i64 j (by kernel_rfl) (by omega)) ?_
            refine k_cell M (want_no rfl) (some 56) rfl 22 _ rfl b0 (o0 + j * 1) (by kernel_rfl) (.int .u64 (X j)) (fun _ => by kernel_rfl) (fun w M => M.oldc (hX j (by omega)) (by simp)) ?_
            refine k_call M (want_no rfl) (some 57) rfl 13 #[.int .u64 (X j)] (.string (be8 (X j))) (fun _ => by kernel_rfl) (fun w M => c_U64 (X j) w M.laid) ?_
            refine k_val (want_no rfl) (some 58) rfl (.string ((eL X j) ++ (be8 (X j)))) (run_cat 9 9 _ _ rfl (eL X j) (be8 (X j)) (by kernel_rfl) (by kernel_rfl) (by rw [eL_size, be8_size]; omega)) ?_
            refine k_val (want_no rfl) (some 59) rfl (.slice l0 n0 k0) (fun _ => by kernel_rfl) ?_
            refine k_val (want_no rfl) (some 60) rfl (.int .i64 (j : Int)) (fun _ => by kernel_rfl) ?_
            refine k_val (want_no rfl) (some 61) rfl (.pointer (some ⟨b0, (o0 + j * 1), none⟩)) (run_ixK 52 22 1 Try.underlying52 inz22 _ _ rfl l0 b0 o0 n0 k0 (by kernel_rfl) (hl0 (by omega)) .i64 j (by kernel_rfl) (by omega)) ?_
            refine k_cell M (want_no rfl) (some 62) rfl 22 _ rfl b0 (o0 + j * 1) (by kernel_rfl) (.int .u64 (X j)) (fun _ => by kernel_rfl) (fun w M => M.oldc (hX j (by omega)) (by simp)) ?_
            refine k_val (want_no rfl) (some 63) rfl (.int .u32 (cv .u32 (X j))) (fun _ => by kernel_rfl) ?_
            refine k_call M (want_no rfl) (some 64) rfl 12 #[.int .u32 (cv .u32 (X j))] (.string (be4 (cv .u64 (cv .u32 (X j))))) (fun _ => by kernel_rfl) (fun w M => c_U32 (cv .u32 (X j)) w M.laid) ?_
            refine k_val (want_no rfl) (some 65) rfl (.string (((eL X j) ++ (be8 (X j))) ++ (be4 (cv .u64 (cv .u32 (X j)))))) (run_cat 9 9 _ _ rfl ((eL X j) ++ (be8 (X j))) (be4 (cv .u64 (cv .u32 (X j)))) (by kernel_rfl) (by kernel_rfl) (by rw [ByteArray.size_append, eL_size, be8_size, be4_size]; omega)) ?_
            refine k_val (want_no rfl) (some 66) rfl (.slice l0 n0 k0) (fun _ => by kernel_rfl) ?_
            refine k_val (want_no rfl) (some 67) rfl (.int .i64 (j : Int)) (fun _ => by kernel_rfl) ?_
            refine k_val (want_no rfl) (some 68) rfl (.pointer (some ⟨b0, (o0 + j * 1), none⟩)) (run_ixK 52 22 1 Try.underlying52 inz22 _ _ rfl l0 b0 o0 n0 k0 (by kernel_rfl) (hl0 (by omega)) .i64 j (by kernel_rfl) (by omega)) ?_
            refine k_cell M (want_no rfl) (some 69) rfl 22 _ rfl b0 (o0 + j * 1) (by kernel_rfl) (.int .u64 (X j)) (fun _ => by kernel_rfl) (fun w M => M.oldc (hX j (by omega)) (by simp)) ?_
            refine k_val (want_no rfl) (some 70) rfl (.int .u16 (cv .u16 (X j))) (fun _ => by kernel_rfl) ?_
            refine k_call M (want_no rfl) (some 71) rfl 10 #[.int .u16 (cv .u16 (X j))] (.string (be2 (cv .u64 (cv .u16 (X j))))) (fun _ => by kernel_rfl) (fun w M => c_U16 (cv .u16 (X j)) w M.laid) ?_
            refine k_val (want_no rfl) (some 72) rfl (.string ((((eL X j) ++ (be8 (X j))) ++ (be4 (cv .u64 (cv .u32 (X j))))) ++ (be2 (cv .u64 (cv .u16 (X j)))))) (run_cat 9 9 _ _ rfl (((eL X j) ++ (be8 (X j))) ++ (be4 (cv .u64 (cv .u32 (X j))))) (be2 (cv .u64 (cv .u16 (X j)))) (by kernel_rfl) (by kernel_rfl) (by rw [ByteArray.size_append, ByteArray.size_append, eL_size, be8_size, be4_size, be2_size]; omega)) ?_
            refine kl_nil ?_
            intro u1 M
            replace M : Mem ⟨w, []⟩ [] u1 := M
            refine pl_val (want_no rfl) (some 9) rfl (.string ((((eL X j) ++ (be8 (X j))) ++ (be4 (cv .u64 (cv .u32 (X j))))) ++ (be2 (cv .u64 (cv .u16 (X j)))))) (fun _ => by kernel_rfl) ?_
            refine pl_nil ?_
            refine au_block ?_
            refine au_then ?_
            refine rg_lit ?_
            refine pl_val (want_no rfl) (some 50) rfl (.int .i64 (j : Int)) (fun _ => by kernel_rfl) ?_
            refine pl_val (want_no rfl) (some 51) rfl (.int .i64 ((j + 1 : Nat) : Int)) (fun w => Eq.trans (b := .ok (.value (.int .i64 (IntKind.wrap .i64 ((j : Int) + 1)))) w) (by kernel_rfl) (by rw [wrap64 (by omega) (by omega)]; congr 3)) ?_
            refine pl_val (want_no rfl) (some 10) rfl (.int .i64 ((j + 1 : Nat) : Int)) (fun _ => by kernel_rfl) ?_
            refine pl_nil ?_
            refine au_then ?_
            exact ⟨fun k_ => ([.int .i64 (j : Int), .slice l0 n0 k0, .int .i64 (n0 : Int), .bool true, .int .i64 (j : Int), .int .i64 ((j + 1 : Nat) : Int), .string (eL X j), .slice l0 n0 k0, .int .i64 (j : Int), .pointer (some ⟨b0, (o0 + j * 1), none⟩), .int .u64 (X j), .string (be8 (X j)), .string ((eL X j) ++ (be8 (X j))), .slice l0 n0 k0, .int .i64 (j : Int), .pointer (some ⟨b0, (o0 + j * 1), none⟩), .int .u64 (X j), .int .u32 (cv .u32 (X j)), .string (be4 (cv .u64 (cv .u32 (X j)))), .string (((eL X j) ++ (be8 (X j))) ++ (be4 (cv .u64 (cv .u32 (X j))))), .slice l0 n0 k0, .int .i64 (j : Int), .pointer (some ⟨b0, (o0 + j * 1), none⟩), .int .u64 (X j), .int .u16 (cv .u16 (X j)), .string (be2 (cv .u64 (cv .u16 (X j)))), .string ((((eL X j) ++ (be8 (X j))) ++ (be4 (cv .u64 (cv .u32 (X j))))) ++ (be2 (cv .u64 (cv .u16 (X j)))))] : List Value).getD (k_ - 46) undef, by kernel_rfl, M⟩
          · intro a u0 hI
            obtain ⟨v2, rfl, M⟩ := hI
            refine wp_seq ?_
            refine wp_seq ?_
            refine rg_lit ?_
            refine pl_val (want_no rfl) (some 46) rfl (.int .i64 (n0 : Int)) (fun _ => by kernel_rfl) ?_
            refine pl_val (want_no rfl) (some 47) rfl (.slice l0 n0 k0) (fun _ => by kernel_rfl) ?_
            refine pl_val (want_no rfl) (some 48) rfl (.int .i64 (n0 : Int)) (fun _ => by kernel_rfl) ?_
            refine pl_val (want_no rfl) (some 49) rfl (.bool false) (fun w => Eq.trans (b := .ok (.value (.bool (decide ((n0 : Int) < (n0 : Int))))) w) (by kernel_rfl) (by rw [decide_eq_false (by omega)])) ?_
            refine pl_nil ?_
            refine au_then ?_
            refine wp_cond_false (by kernel_rfl) ?_
            refine wp_exit ?_
            refine au_then_exit ?_
            refine au_then_exit ?_
            refine au_block_exit ?_
            refine au_then ?_
            refine wp_seq ?_
            refine rg_lit ?_
            refine pl_val (want_no rfl) (some 11) rfl (.slice none 0 0) (fun _ => by kernel_rfl) ?_
            refine pl_nil ?_
            refine au_then ?_
            refine wp_seq ?_
            refine wp_seq ?_
            refine rg_lit ?_
            refine pl_val (want_no rfl) (some 12) rfl (.int .i64 0) (fun _ => by kernel_rfl) ?_
            refine pl_nil ?_
            refine au_then ?_
            refine wp_block ?_
            refine au_loop (fun j a w' => ∃ (v3 : Nat → Value) (tv : Value), a = ⟨#[.slice l0 n0 k0, .slice l1 n1 k1, .string rest, undef, undef, undef, v3 6, .int .i64 (sm Y rest n1), .int .i64 (n1 : Int), .string (eT X n0 Y j), .int .i64 (n0 : Int), tv, .int .i64 (j : Int), v3 13, v3 14, undef, undef, undef, .string rest, .int .i64 (rest.size : Int), .int .i64 (n1 : Int), .slice l1 n1 k1, .int .i64 (n1 : Int), .bool false, v1 24, v1 25, v1 26, v1 27, v1 28, v1 29, v1 30, v1 31, v1 32, .slice l0 n0 k0, .int .i64 (n0 : Int), .bool false, .bool false, .slice l1 n1 k1, .int .i64 (n1 : Int), .bool false, .bool false, .bool false, .int .i64 (sm Y rest n1), .bool false, .bool false, undef, .int .i64 (n0 : Int), .slice l0 n0 k0, .int .i64 (n0 : Int), .bool false, v2 50, v2 51, v2 52, v2 53, v2 54, v2 55, v2 56, v2 57, v2 58, v2 59, v2 60, v2 61, v2 62, v2 63, v2 64, v2 65, v2 66, v2 67, v2 68, v2 69, v2 70, v2 71, v2 72, v3 73, v3 74, v3 75, v3 76, v3 77, v3 78, v3 79, v3 80, v3 81, v3 82, v3 83, v3 84, v3 85, v3 86, v3 87, v3 88, v3 89, v3 90, v3 91, v3 92, v3 93, v3 94, v3 95, v3 96, v3 97, v3 98, v3 99, v3 100, v3 101, v3 102, v3 103, v3 104, v3 105, v3 106, v3 107, undef, undef, undef, undef, undef, undef, undef, undef, undef, undef, undef, undef, undef, undef, undef, undef, undef, undef, undef, undef, undef, undef, undef, undef, undef, undef, undef, undef, undef, undef, undef, undef, undef, undef, undef, undef, undef, undef, undef, undef, undef, undef, undef, undef, undef, undef, undef, undef, undef, undef, undef, undef, undef, undef, undef, undef, undef, undef, undef, undef, undef, undef, undef, undef, undef, undef, undef, undef, undef, undef, undef, undef, undef, undef, undef, undef, undef, undef, undef, undef, undef, undef, undef, undef], []⟩ ∧ TS ⟨w, []⟩ w' tv (tl Y j)) n1 ⟨fun k_ => ([.bool false, undef, undef, undef, undef, undef, undef, undef, undef, undef, undef, undef, undef, undef, undef, undef, undef, undef, undef, undef, undef, undef, undef, undef, undef, undef, undef, undef, undef, undef, undef, undef, undef, undef, undef, undef, undef, undef, undef, undef, undef, undef, undef, undef, undef, undef, undef, undef, undef, undef, undef, undef, undef, undef, undef, undef, undef, undef, undef, undef, undef, undef, undef, undef, undef, undef, undef, undef, undef, undef, undef, undef, undef, undef, undef, undef, undef, undef, undef, undef, undef, undef, undef, undef, undef, undef, undef, undef, undef, undef, undef, undef, undef, undef, undef, undef, undef, undef, undef, undef, undef, undef] : List Value).getD (k_ - 6) undef, _, by kernel_rfl, .inl ⟨rfl, rfl, M⟩⟩ ?_ ?_
            · intro j a u0 hj hI
              obtain ⟨v3, tv, rfl, hT⟩ := hI
              rcases hT with ⟨hnil, rfl, M⟩ | ⟨g9, cap9, Z9, rfl, hZ9, M⟩
              · skip
                refine wp_seq ?_
                refine wp_seq ?_
                refine rg_lit ?_
                refine pl_val (want_no rfl) (some 73) rfl (.int .i64 (j : Int)) (fun _ => by kernel_rfl) ?_
                refine pl_val (want_no rfl) (some 74) rfl (.slice l1 n1 k1) (fun _ => by kernel_rfl) ?_
                refine pl_val (want_no rfl) (some 75) rfl (.int .i64 (n1 : Int)) (fun _ => by kernel_rfl) ?_
                refine pl_val (want_no rfl) (some 76) rfl (.bool true) (fun w => Eq.trans (b := .ok (.value (.bool (decide ((j : Int) < (n1 : Int))))) w) (by kernel_rfl) (by rw [decide_eq_true (by omega)])) ?_
                refine pl_nil ?_
                refine au_then ?_
                refine wp_cond_true (by kernel_rfl) ?_
                refine wp_skip ?_
                refine au_then ?_
                refine wp_seq ?_
                refine wp_block ?_
                refine wp_seq ?_
                refine rg_lit ?_
                refine pl_val (want_no rfl) (some 80) rfl (.slice l1 n1 k1) (fun _ => by kernel_rfl) ?_
                refine pl_val (want_no rfl) (some 81) rfl (.int .i64 (j : Int)) (fun _ => by kernel_rfl) ?_
                refine pl_val (want_no rfl) (some 82) rfl (.pointer (some ⟨b1, (o1 + j * 1), none⟩)) (run_ixK 53 9 1 Try.underlying53 inz9 _ _ rfl l1 b1 o1 n1 k1 (by kernel_rfl) (hl1 (by omega)) .i64 j (by kernel_rfl) (by omega)) ?_
                refine pl_cell M (want_no rfl) (some 83) rfl 9 _ rfl b1 (o1 + j * 1) (by kernel_rfl) (.string (Y j)) (fun _ => by kernel_rfl) (fun w M => M.oldc (hY j (by omega)) (by simp)) ?_
                by_cases c4 : 32768 < ((Y j).size : Int)
                · skip
                  refine pl_call M (want_no rfl) (some 84) rfl 8 #[.string (Y j)] (.tuple #[.string ⟨#[]⟩, .int .i64 4]) (fun _ => by kernel_rfl) (fun w M => call_val (c_WText (Y j) w M.laid) (by rw [wtS, wtE, if_pos c4, if_pos c4])) ?_
                  intro u1 M
                  refine pl_val (want_no rfl) (some 79) rfl (.tuple #[.string ⟨#[]⟩, .int .i64 4]) (fun _ => by kernel_rfl) ?_
                  refine pl_val (want_no rfl) (some 85) rfl (.string ⟨#[]⟩) (fun _ => by kernel_rfl) ?_
                  refine pl_val (want_no rfl) (some 86) rfl (.int .i64 4) (fun _ => by kernel_rfl) ?_
                  refine pl_val (want_no rfl) (some 13) rfl (.string ⟨#[]⟩) (fun _ => by kernel_rfl) ?_
                  refine pl_val (want_no rfl) (some 14) rfl (.int .i64 4) (fun _ => by kernel_rfl) ?_
                  refine pl_nil ?_
                  refine au_then ?_
                  refine wp_seq ?_
                  refine wp_seq ?_
                  refine rg_lit ?_
                  refine pl_val (want_no rfl) (some 87) rfl (.int .i64 4) (fun _ => by kernel_rfl) ?_
                  refine pl_val (want_no rfl) (some 88) rfl (.bool false) (fun _ => by kernel_rfl) ?_
                  refine pl_val (want_no rfl) (some 89) rfl (.slice l1 n1 k1) (fun _ => by kernel_rfl) ?_
                  refine pl_val (want_no rfl) (some 90) rfl (.int .i64 (j : Int)) (fun _ => by kernel_rfl) ?_
                  refine pl_val (want_no rfl) (some 91) rfl (.pointer (some ⟨b1, (o1 + j * 1), none⟩)) (run_ixK 53 9 1 Try.underlying53 inz9 _ _ rfl l1 b1 o1 n1 k1 (by kernel_rfl) (hl1 (by omega)) .i64 j (by kernel_rfl) (by omega)) ?_
                  refine pl_cell M (want_no rfl) (some 92) rfl 9 _ rfl b1 (o1 + j * 1) (by kernel_rfl) (.string (Y j)) (fun _ => by kernel_rfl) (fun w M => M.oldc (hY j (by omega)) (by simp)) ?_
                  refine pl_val (want_no rfl) (some 93) rfl (.int .i64 ((Y j).size : Int)) (fun _ => by kernel_rfl) ?_
                  refine pl_val (want_no rfl) (some 94) rfl (.bool false) (fun w => Eq.trans (b := .ok (.value (.bool (decide (((Y j).size : Int) ≤ 32768)))) w) (by kernel_rfl) (by rw [decide_eq_false (by omega)])) ?_
                  refine pl_val (want_no rfl) (some 95) rfl (.bool false) (fun _ => by kernel_rfl) ?_
                  refine pl_nil ?_
                  refine au_then ?_
                  refine wp_cond_false (by kernel_rfl) ?_
                  refine wp_skip ?_
                  refine au_then ?_
                  refine wp_seq ?_
                  refine rg_lit ?_
                  refine pl_val (want_no rfl) (some 96) rfl (.int .i64 4) (fun _ => by kernel_rfl) ?_
                  refine pl_val (want_no rfl) (some 97) rfl (.bool false) (fun _ => by kernel_rfl) ?_
                  refine pl_nil ?_
                  refine au_then ?_
                  refine wp_cond_false (by kernel_rfl) ?_
                  refine wp_skip ?_
                  refine au_block ?_
                  refine au_then ?_
                  refine rg_lit ?_
                  refine pl_val (want_no rfl) (some 77) rfl (.int .i64 (j : Int)) (fun _ => by kernel_rfl) ?_
                  refine pl_val (want_no rfl) (some 78) rfl (.int .i64 ((j + 1 : Nat) : Int)) (fun w => Eq.trans (b := .ok (.value (.int .i64 (IntKind.wrap .i64 ((j : Int) + 1)))) w) (by kernel_rfl) (by rw [wrap64 (by omega) (by omega)]; congr 3)) ?_
                  refine pl_val (want_no rfl) (some 12) rfl (.int .i64 ((j + 1 : Nat) : Int)) (fun _ => by kernel_rfl) ?_
                  refine pl_nil ?_
                  refine au_then ?_
                  have eA : eT X n0 Y (j + 1) = eT X n0 Y j := if_pos c4
                  have eB : tl Y (j + 1) = tl Y j := if_pos c4
                  exact ⟨fun k_ => ([v3 6, undef, undef, undef, undef, undef, undef, .string ⟨#[]⟩, .int .i64 4, undef, undef, undef, undef, undef, undef, undef, undef, undef, undef, undef, undef, undef, undef, undef, undef, undef, undef, undef, undef, undef, undef, undef, undef, undef, undef, undef, undef, undef, undef, undef, undef, undef, undef, undef, undef, undef, undef, undef, undef, undef, undef, undef, undef, undef, undef, undef, undef, undef, undef, undef, undef, undef, undef, undef, undef, undef, undef, .int .i64 (j : Int), .slice l1 n1 k1, .int .i64 (n1 : Int), .bool true, .int .i64 (j : Int), .int .i64 ((j + 1 : Nat) : Int), .tuple #[.string ⟨#[]⟩, .int .i64 4], .slice l1 n1 k1, .int .i64 (j : Int), .pointer (some ⟨b1, (o1 + j * 1), none⟩), .string (Y j), .tuple #[.string ⟨#[]⟩, .int .i64 4], .string ⟨#[]⟩, .int .i64 4, .int .i64 4, .bool false, .slice l1 n1 k1, .int .i64 (j : Int), .pointer (some ⟨b1, (o1 + j * 1), none⟩), .string (Y j), .int .i64 ((Y j).size : Int), .bool false, .bool false, .int .i64 4, .bool false, v3 98, v3 99, v3 100, v3 101, v3 102, v3 103, v3 104, v3 105, v3 106, v3 107] : List Value).getD (k_ - 6) undef, _, by rw [eA]; kernel_rfl, by rw [eB]; exact .inl ⟨hnil, rfl, M⟩⟩
                · skip
                  refine pl_call M (want_no rfl) (some 84) rfl 8 #[.string (Y j)] (.tuple #[.string (wt (Y j)), .int .i64 0]) (fun _ => by kernel_rfl) (fun w M => call_val (c_WText (Y j) w M.laid) (by rw [wtS, wtE, if_neg c4, if_neg c4]; rfl)) ?_
                  intro u1 M
                  refine pl_val (want_no rfl) (some 79) rfl (.tuple #[.string (wt (Y j)), .int .i64 0]) (fun _ => by kernel_rfl) ?_
                  refine pl_val (want_no rfl) (some 85) rfl (.string (wt (Y j))) (fun _ => by kernel_rfl) ?_
                  refine pl_val (want_no rfl) (some 86) rfl (.int .i64 0) (fun _ => by kernel_rfl) ?_
                  refine pl_val (want_no rfl) (some 13) rfl (.string (wt (Y j))) (fun _ => by kernel_rfl) ?_
                  refine pl_val (want_no rfl) (some 14) rfl (.int .i64 0) (fun _ => by kernel_rfl) ?_
                  refine pl_nil ?_
                  refine au_then ?_
                  refine wp_seq ?_
                  refine wp_seq ?_
                  refine rg_lit ?_
                  refine pl_val (want_no rfl) (some 87) rfl (.int .i64 0) (fun _ => by kernel_rfl) ?_
                  refine pl_val (want_no rfl) (some 88) rfl (.bool true) (fun _ => by kernel_rfl) ?_
                  refine pl_val (want_no rfl) (some 89) rfl (.slice l1 n1 k1) (fun _ => by kernel_rfl) ?_
                  refine pl_val (want_no rfl) (some 90) rfl (.int .i64 (j : Int)) (fun _ => by kernel_rfl) ?_
                  refine pl_val (want_no rfl) (some 91) rfl (.pointer (some ⟨b1, (o1 + j * 1), none⟩)) (run_ixK 53 9 1 Try.underlying53 inz9 _ _ rfl l1 b1 o1 n1 k1 (by kernel_rfl) (hl1 (by omega)) .i64 j (by kernel_rfl) (by omega)) ?_
                  refine pl_cell M (want_no rfl) (some 92) rfl 9 _ rfl b1 (o1 + j * 1) (by kernel_rfl) (.string (Y j)) (fun _ => by kernel_rfl) (fun w M => M.oldc (hY j (by omega)) (by simp)) ?_
                  refine pl_val (want_no rfl) (some 93) rfl (.int .i64 ((Y j).size : Int)) (fun _ => by kernel_rfl) ?_
                  refine pl_val (want_no rfl) (some 94) rfl (.bool true) (fun w => Eq.trans (b := .ok (.value (.bool (decide (((Y j).size : Int) ≤ 32768)))) w) (by kernel_rfl) (by rw [decide_eq_true (by omega)])) ?_
                  refine pl_val (want_no rfl) (some 95) rfl (.bool false) (fun _ => by kernel_rfl) ?_
                  refine pl_nil ?_
                  refine au_then ?_
                  refine wp_cond_false (by kernel_rfl) ?_
                  refine wp_skip ?_
                  refine au_then ?_
                  refine wp_seq ?_
                  refine rg_lit ?_
                  refine pl_val (want_no rfl) (some 96) rfl (.int .i64 0) (fun _ => by kernel_rfl) ?_
                  refine pl_val (want_no rfl) (some 97) rfl (.bool true) (fun _ => by kernel_rfl) ?_
                  refine pl_nil ?_
                  refine au_then ?_
                  refine wp_cond_true (by kernel_rfl) ?_
                  refine wp_seq ?_
                  refine rg_lit ?_
                  refine pl_val (want_no rfl) (some 98) rfl (.string (eT X n0 Y j)) (fun _ => by kernel_rfl) ?_
                  refine pl_val (want_no rfl) (some 99) rfl (.string (wt (Y j))) (fun _ => by kernel_rfl) ?_
                  refine pl_val (want_no rfl) (some 100) rfl (.string ((eT X n0 Y j) ++ (wt (Y j)))) (run_cat 9 9 _ _ rfl (eT X n0 Y j) (wt (Y j)) (by kernel_rfl) (by kernel_rfl) (by have := eT_size X n0 Y j; rw [wt_size]; omega)) ?_
                  refine pl_val (want_no rfl) (some 9) rfl (.string ((eT X n0 Y j) ++ (wt (Y j)))) (fun _ => by kernel_rfl) ?_
                  refine pl_nil ?_
                  refine au_then ?_
                  refine rg_lit ?_
                  refine pl_val (want_no rfl) (some 101) rfl (.slice none 0 0) (fun _ => by kernel_rfl) ?_
                  refine pl_val (want_no rfl) (some 102) rfl (.slice l1 n1 k1) (fun _ => by kernel_rfl) ?_
                  refine pl_val (want_no rfl) (some 103) rfl (.int .i64 (j : Int)) (fun _ => by kernel_rfl) ?_
                  refine pl_val (want_no rfl) (some 104) rfl (.pointer (some ⟨b1, (o1 + j * 1), none⟩)) (run_ixK 53 9 1 Try.underlying53 inz9 _ _ rfl l1 b1 o1 n1 k1 (by kernel_rfl) (hl1 (by omega)) .i64 j (by kernel_rfl) (by omega)) ?_
                  refine pl_cell M (want_no rfl) (some 105) rfl 9 _ rfl b1 (o1 + j * 1) (by kernel_rfl) (.string (Y j)) (fun _ => by kernel_rfl) (fun w M => M.oldc (hY j (by omega)) (by simp)) ?_
                  refine pl_mk M (want_no rfl) (some 106) rfl (fun g1 => .slice (some ⟨g1, 0, none⟩) 1 1) (.cells (av 1 (fun _ => .string (Y j))) 9) (fun _ => by kernel_rfl) ?_
                  intro g1 u2 M
                  replace M : Mem ⟨w, []⟩ [⟨g1, .cells (av 1 (fun _ => .string (Y j))) 9⟩] u2 := M
                  refine pl_app0I M (want_no rfl) (some 107) rfl 53 53 9 (.string ⟨#[]⟩) Try.underlying53 info9 rfl 0 g1 9 (.string (Y j)) rfl (fun _ => by kernel_rfl) ?_
                  intro g8 cap8 Z8 u3 hZ8 M
                  replace M : Mem ⟨w, []⟩ [⟨g1, .cells (av 1 (fun _ => .string (Y j))) 9⟩, ⟨g8, Z8⟩] u3 := M
                  refine pl_val (want_no rfl) (some 11) rfl (.slice (some ⟨g8, 0, none⟩) 1 cap8) (fun _ => by kernel_rfl) ?_
                  refine pl_nil ?_
                  refine au_block ?_
                  refine au_then ?_
                  refine rg_lit ?_
                  refine pl_val (want_no rfl) (some 77) rfl (.int .i64 (j : Int)) (fun _ => by kernel_rfl) ?_
                  refine pl_val (want_no rfl) (some 78) rfl (.int .i64 ((j + 1 : Nat) : Int)) (fun w => Eq.trans (b := .ok (.value (.int .i64 (IntKind.wrap .i64 ((j : Int) + 1)))) w) (by kernel_rfl) (by rw [wrap64 (by omega) (by omega)]; congr 3)) ?_
                  refine pl_val (want_no rfl) (some 12) rfl (.int .i64 ((j + 1 : Nat) : Int)) (fun _ => by kernel_rfl) ?_
                  refine pl_nil ?_
                  refine au_then ?_
                  have eA : eT X n0 Y (j + 1) = eT X n0 Y j ++ wt (Y j) := if_neg c4
                  have eB : tl Y (j + 1) = tl Y j ++ [Y j] := if_neg c4
                  exact ⟨fun k_ => ([v3 6, undef, undef, undef, undef, undef, undef, .string (wt (Y j)), .int .i64 0, undef, undef, undef, undef, undef, undef, undef, undef, undef, undef, undef, undef, undef, undef, undef, undef, undef, undef, undef, undef, undef, undef, undef, undef, undef, undef, undef, undef, undef, undef, undef, undef, undef, undef, undef, undef, undef, undef, undef, undef, undef, undef, undef, undef, undef, undef, undef, undef, undef, undef, undef, undef, undef, undef, undef, undef, undef, undef, .int .i64 (j : Int), .slice l1 n1 k1, .int .i64 (n1 : Int), .bool true, .int .i64 (j : Int), .int .i64 ((j + 1 : Nat) : Int), .tuple #[.string (wt (Y j)), .int .i64 0], .slice l1 n1 k1, .int .i64 (j : Int), .pointer (some ⟨b1, (o1 + j * 1), none⟩), .string (Y j), .tuple #[.string (wt (Y j)), .int .i64 0], .string (wt (Y j)), .int .i64 0, .int .i64 0, .bool true, .slice l1 n1 k1, .int .i64 (j : Int), .pointer (some ⟨b1, (o1 + j * 1), none⟩), .string (Y j), .int .i64 ((Y j).size : Int), .bool true, .bool false, .int .i64 0, .bool true, .string (eT X n0 Y j), .string (wt (Y j)), .string ((eT X n0 Y j) ++ (wt (Y j))), .slice none 0 0, .slice l1 n1 k1, .int .i64 (j : Int), .pointer (some ⟨b1, (o1 + j * 1), none⟩), .string (Y j), .slice (some ⟨g1, 0, none⟩) 1 1, .slice (some ⟨g8, 0, none⟩) 1 cap8] : List Value).getD (k_ - 6) undef, .slice (some ⟨g8, 0, none⟩) 1 cap8, by rw [eA]; kernel_rfl, .inr ⟨g8, cap8, Z8, by rw [eB, hnil]; rfl, by rw [eB, hnil]; exact hZ8, M.drop (.cons _ (.cons_cons _ .slnil))⟩⟩
              · skip
                refine wp_seq ?_
                refine wp_seq ?_
                refine rg_lit ?_
                refine pl_val (want_no rfl) (some 73) rfl (.int .i64 (j : Int)) (fun _ => by kernel_rfl) ?_
                refine pl_val (want_no rfl) (some 74) rfl (.slice l1 n1 k1) (fun _ => by kernel_rfl) ?_
                refine pl_val (want_no rfl) (some 75) rfl (.int .i64 (n1 : Int)) (fun _ => by kernel_rfl) ?_
                refine pl_val (want_no rfl) (some 76) rfl (.bool true) (fun w => Eq.trans (b := .ok (.value (.bool (decide ((j : Int) < (n1 : Int))))) w) (by kernel_rfl) (by rw [decide_eq_true (by omega)])) ?_
                refine pl_nil ?_
                refine au_then ?_
                refine wp_cond_true (by kernel_rfl) ?_
                refine wp_skip ?_
                refine au_then ?_
                refine wp_seq ?_
                refine wp_block ?_
                refine wp_seq ?_
                refine rg_lit ?_
                refine pl_val (want_no rfl) (some 80) rfl (.slice l1 n1 k1) (fun _ => by kernel_rfl) ?_
                refine pl_val (want_no rfl) (some 81) rfl (.int .i64 (j : Int)) (fun _ => by kernel_rfl) ?_
                refine pl_val (want_no rfl) (some 82) rfl (.pointer (some ⟨b1, (o1 + j * 1), none⟩)) (run_ixK 53 9 1 Try.underlying53 inz9 _ _ rfl l1 b1 o1 n1 k1 (by kernel_rfl) (hl1 (by omega)) .i64 j (by kernel_rfl) (by omega)) ?_
                refine pl_cell M (want_no rfl) (some 83) rfl 9 _ rfl b1 (o1 + j * 1) (by kernel_rfl) (.string (Y j)) (fun _ => by kernel_rfl) (fun w M => M.oldc (hY j (by omega)) (by simp)) ?_
                by_cases c4 : 32768 < ((Y j).size : Int)
                · skip
                  refine pl_call M (want_no rfl) (some 84) rfl 8 #[.string (Y j)] (.tuple #[.string ⟨#[]⟩, .int .i64 4]) (fun _ => by kernel_rfl) (fun w M => call_val (c_WText (Y j) w M.laid) (by rw [wtS, wtE, if_pos c4, if_pos c4])) ?_
                  intro u1 M
                  refine pl_val (want_no rfl) (some 79) rfl (.tuple #[.string ⟨#[]⟩, .int .i64 4]) (fun _ => by kernel_rfl) ?_
                  refine pl_val (want_no rfl) (some 85) rfl (.string ⟨#[]⟩) (fun _ => by kernel_rfl) ?_
                  refine pl_val (want_no rfl) (some 86) rfl (.int .i64 4) (fun _ => by kernel_rfl) ?_
                  refine pl_val (want_no rfl) (some 13) rfl (.string ⟨#[]⟩) (fun _ => by kernel_rfl) ?_
                  refine pl_val (want_no rfl) (some 14) rfl (.int .i64 4) (fun _ => by kernel_rfl) ?_
                  refine pl_nil ?_
                  refine au_then ?_
                  refine wp_seq ?_
                  refine wp_seq ?_
                  refine rg_lit ?_
                  refine pl_val (want_no rfl) (some 87) rfl (.int .i64 4) (fun _ => by kernel_rfl) ?_
                  refine pl_val (want_no rfl) (some 88) rfl (.bool false) (fun _ => by kernel_rfl) ?_
                  refine pl_val (want_no rfl) (some 89) rfl (.slice l1 n1 k1) (fun _ => by kernel_rfl) ?_
                  refine pl_val (want_no rfl) (some 90) rfl (.int .i64 (j : Int)) (fun _ => by kernel_rfl) ?_
                  refine pl_val (want_no rfl) (some 91) rfl (.pointer (some ⟨b1, (o1 + j * 1), none⟩)) (run_ixK 53 9 1 Try.underlying53 inz9 _ _ rfl l1 b1 o1 n1 k1 (by kernel_rfl) (hl1 (by omega)) .i64 j (by kernel_rfl) (by omega)) ?_
                  refine pl_cell M (want_no rfl) (some 92) rfl 9 _ rfl b1 (o1 + j * 1) (by kernel_rfl) (.string (Y j)) (fun _ => by kernel_rfl) (fun w M => M.oldc (hY j (by omega)) (by simp)) ?_
                  refine pl_val (want_no rfl) (some 93) rfl (.int .i64 ((Y j).size : Int)) (fun _ => by kernel_rfl) ?_
                  refine pl_val (want_no rfl) (some 94) rfl (.bool false) (fun w => Eq.trans (b := .ok (.value (.bool (decide (((Y j).size : Int) ≤ 32768)))) w) (by kernel_rfl) (by rw [decide_eq_false (by omega)])) ?_
                  refine pl_val (want_no rfl) (some 95) rfl (.bool false) (fun _ => by kernel_rfl) ?_
                  refine pl_nil ?_
                  refine au_then ?_
                  refine wp_cond_false (by kernel_rfl) ?_
                  refine wp_skip ?_
                  refine au_then ?_
                  refine wp_seq ?_
                  refine rg_lit ?_
                  refine pl_val (want_no rfl) (some 96) rfl (.int .i64 4) (fun _ => by kernel_rfl) ?_
                  refine pl_val (want_no rfl) (some 97) rfl (.bool false) (fun _ => by kernel_rfl) ?_
                  refine pl_nil ?_
                  refine au_then ?_
                  refine wp_cond_false (by kernel_rfl) ?_
                  refine wp_skip ?_
                  refine au_block ?_
                  refine au_then ?_
                  refine rg_lit ?_
                  refine pl_val (want_no rfl) (some 77) rfl (.int .i64 (j : Int)) (fun _ => by kernel_rfl) ?_
                  refine pl_val (want_no rfl) (some 78) rfl (.int .i64 ((j + 1 : Nat) : Int)) (fun w => Eq.trans (b := .ok (.value (.int .i64 (IntKind.wrap .i64 ((j : Int) + 1)))) w) (by kernel_rfl) (by rw [wrap64 (by omega) (by omega)]; congr 3)) ?_
                  refine pl_val (want_no rfl) (some 12) rfl (.int .i64 ((j + 1 : Nat) : Int)) (fun _ => by kernel_rfl) ?_
                  refine pl_nil ?_
                  refine au_then ?_
                  have eA : eT X n0 Y (j + 1) = eT X n0 Y j := if_pos c4
                  have eB : tl Y (j + 1) = tl Y j := if_pos c4
                  exact ⟨fun k_ => ([v3 6, undef, undef, undef, undef, undef, undef, .string ⟨#[]⟩, .int .i64 4, undef, undef, undef, undef, undef, undef, undef, undef, undef, undef, undef, undef, undef, undef, undef, undef, undef, undef, undef, undef, undef, undef, undef, undef, undef, undef, undef, undef, undef, undef, undef, undef, undef, undef, undef, undef, undef, undef, undef, undef, undef, undef, undef, undef, undef, undef, undef, undef, undef, undef, undef, undef, undef, undef, undef, undef, undef, undef, .int .i64 (j : Int), .slice l1 n1 k1, .int .i64 (n1 : Int), .bool true, .int .i64 (j : Int), .int .i64 ((j + 1 : Nat) : Int), .tuple #[.string ⟨#[]⟩, .int .i64 4], .slice l1 n1 k1, .int .i64 (j : Int), .pointer (some ⟨b1, (o1 + j * 1), none⟩), .string (Y j), .tuple #[.string ⟨#[]⟩, .int .i64 4], .string ⟨#[]⟩, .int .i64 4, .int .i64 4, .bool false, .slice l1 n1 k1, .int .i64 (j : Int), .pointer (some ⟨b1, (o1 + j * 1), none⟩), .string (Y j), .int .i64 ((Y j).size : Int), .bool false, .bool false, .int .i64 4, .bool false, v3 98, v3 99, v3 100, v3 101, v3 102, v3 103, v3 104, v3 105, v3 106, v3 107] : List Value).getD (k_ - 6) undef, _, by rw [eA]; kernel_rfl, by rw [eB]; exact .inr ⟨g9, cap9, Z9, rfl, hZ9, M⟩⟩
                · skip
                  refine pl_call M (want_no rfl) (some 84) rfl 8 #[.string (Y j)] (.tuple #[.string (wt (Y j)), .int .i64 0]) (fun _ => by kernel_rfl) (fun w M => call_val (c_WText (Y j) w M.laid) (by rw [wtS, wtE, if_neg c4, if_neg c4]; rfl)) ?_
                  intro u1 M
                  refine pl_val (want_no rfl) (some 79) rfl (.tuple #[.string (wt (Y j)), .int .i64 0]) (fun _ => by kernel_rfl) ?_
                  refine pl_val (want_no rfl) (some 85) rfl (.string (wt (Y j))) (fun _ => by kernel_rfl) ?_
                  refine pl_val (want_no rfl) (some 86) rfl (.int .i64 0) (fun _ => by kernel_rfl) ?_
                  refine pl_val (want_no rfl) (some 13) rfl (.string (wt (Y j))) (fun _ => by kernel_rfl) ?_
                  refine pl_val (want_no rfl) (some 14) rfl (.int .i64 0) (fun _ => by kernel_rfl) ?_
                  refine pl_nil ?_
                  refine au_then ?_
                  refine wp_seq ?_
                  refine wp_seq ?_
                  refine rg_lit ?_
                  refine pl_val (want_no rfl) (some 87) rfl (.int .i64 0) (fun _ => by kernel_rfl) ?_
                  refine pl_val (want_no rfl) (some 88) rfl (.bool true) (fun _ => by kernel_rfl) ?_
                  refine pl_val (want_no rfl) (some 89) rfl (.slice l1 n1 k1) (fun _ => by kernel_rfl) ?_
                  refine pl_val (want_no rfl) (some 90) rfl (.int .i64 (j : Int)) (fun _ => by kernel_rfl) ?_
                  refine pl_val (want_no rfl) (some 91) rfl (.pointer (some ⟨b1, (o1 + j * 1), none⟩)) (run_ixK 53 9 1 Try.underlying53 inz9 _ _ rfl l1 b1 o1 n1 k1 (by kernel_rfl) (hl1 (by omega)) .i64 j (by kernel_rfl) (by omega)) ?_
                  refine pl_cell M (want_no rfl) (some 92) rfl 9 _ rfl b1 (o1 + j * 1) (by kernel_rfl) (.string (Y j)) (fun _ => by kernel_rfl) (fun w M => M.oldc (hY j (by omega)) (by simp)) ?_
                  refine pl_val (want_no rfl) (some 93) rfl (.int .i64 ((Y j).size : Int)) (fun _ => by kernel_rfl) ?_
                  refine pl_val (want_no rfl) (some 94) rfl (.bool true) (fun w => Eq.trans (b := .ok (.value (.bool (decide (((Y j).size : Int) ≤ 32768)))) w) (by kernel_rfl) (by rw [decide_eq_true (by omega)])) ?_
                  refine pl_val (want_no rfl) (some 95) rfl (.bool false) (fun _ => by kernel_rfl) ?_
                  refine pl_nil ?_
                  refine au_then ?_
                  refine wp_cond_false (by kernel_rfl) ?_
                  refine wp_skip ?_
                  refine au_then ?_
                  refine wp_seq ?_
                  refine rg_lit ?_
                  refine pl_val (want_no rfl) (some 96) rfl (.int .i64 0) (fun _ => by kernel_rfl) ?_
                  refine pl_val (want_no rfl) (some 97) rfl (.bool true) (fun _ => by kernel_rfl) ?_
                  refine pl_nil ?_
                  refine au_then ?_
                  refine wp_cond_true (by kernel_rfl) ?_
                  refine wp_seq ?_
                  refine rg_lit ?_
                  refine pl_val (want_no rfl) (some 98) rfl (.string (eT X n0 Y j)) (fun _ => by kernel_rfl) ?_
                  refine pl_val (want_no rfl) (some 99) rfl (.string (wt (Y j))) (fun _ => by kernel_rfl) ?_
                  refine pl_val (want_no rfl) (some 100) rfl (.string ((eT X n0 Y j) ++ (wt (Y j)))) (run_cat 9 9 _ _ rfl (eT X n0 Y j) (wt (Y j)) (by kernel_rfl) (by kernel_rfl) (by have := eT_size X n0 Y j; rw [wt_size]; omega)) ?_
                  refine pl_val (want_no rfl) (some 9) rfl (.string ((eT X n0 Y j) ++ (wt (Y j)))) (fun _ => by kernel_rfl) ?_
                  refine pl_nil ?_
                  refine au_then ?_
                  refine rg_lit ?_
                  refine pl_val (want_no rfl) (some 101) rfl (.slice (some ⟨g9, 0, none⟩) (tl Y j).length cap9) (fun _ => by kernel_rfl) ?_
                  refine pl_val (want_no rfl) (some 102) rfl (.slice l1 n1 k1) (fun _ => by kernel_rfl) ?_
                  refine pl_val (want_no rfl) (some 103) rfl (.int .i64 (j : Int)) (fun _ => by kernel_rfl) ?_
                  refine pl_val (want_no rfl) (some 104) rfl (.pointer (some ⟨b1, (o1 + j * 1), none⟩)) (run_ixK 53 9 1 Try.underlying53 inz9 _ _ rfl l1 b1 o1 n1 k1 (by kernel_rfl) (hl1 (by omega)) .i64 j (by kernel_rfl) (by omega)) ?_
                  refine pl_cell M (want_no rfl) (some 105) rfl 9 _ rfl b1 (o1 + j * 1) (by kernel_rfl) (.string (Y j)) (fun _ => by kernel_rfl) (fun w M => M.oldc (hY j (by omega)) (by simp)) ?_
                  refine pl_mk M (want_no rfl) (some 106) rfl (fun g1 => .slice (some ⟨g1, 0, none⟩) 1 1) (.cells (av 1 (fun _ => .string (Y j))) 9) (fun _ => by kernel_rfl) ?_
                  intro g1 u2 M
                  replace M : Mem ⟨w, []⟩ [⟨g9, Z9⟩, ⟨g1, .cells (av 1 (fun _ => .string (Y j))) 9⟩] u2 := M
                  refine pl_appI M (want_no rfl) (some 107) rfl 53 53 9 (.string ⟨#[]⟩) Try.underlying53 info9 rfl 0 g9 ((tl Y j).length) cap9 Z9 (vS (tl Y j)) rfl hZ9 (vS_len _) (by have := tl_len Y j; omega) 1 g1 9 (.string (Y j)) rfl rfl (fun _ => by kernel_rfl) ?_
                  intro g8 cap8 Z8 u3 hZ8 M
                  replace M : Mem ⟨w, []⟩ [⟨g1, .cells (av 1 (fun _ => .string (Y j))) 9⟩, ⟨g8, Z8⟩] u3 := M
                  refine pl_val (want_no rfl) (some 11) rfl (.slice (some ⟨g8, 0, none⟩) ((tl Y j).length + 1) cap8) (fun _ => by kernel_rfl) ?_
                  refine pl_nil ?_
                  refine au_block ?_
                  refine au_then ?_
                  refine rg_lit ?_
                  refine pl_val (want_no rfl) (some 77) rfl (.int .i64 (j : Int)) (fun _ => by kernel_rfl) ?_
                  refine pl_val (want_no rfl) (some 78) rfl (.int .i64 ((j + 1 : Nat) : Int)) (fun w => Eq.trans (b := .ok (.value (.int .i64 (IntKind.wrap .i64 ((j : Int) + 1)))) w) (by kernel_rfl) (by rw [wrap64 (by omega) (by omega)]; congr 3)) ?_
                  refine pl_val (want_no rfl) (some 12) rfl (.int .i64 ((j + 1 : Nat) : Int)) (fun _ => by kernel_rfl) ?_
                  refine pl_nil ?_
                  refine au_then ?_
                  have eA : eT X n0 Y (j + 1) = eT X n0 Y j ++ wt (Y j) := if_neg c4
                  have eB : tl Y (j + 1) = tl Y j ++ [Y j] := if_neg c4
                  exact ⟨fun k_ => ([v3 6, undef, undef, undef, undef, undef, undef, .string (wt (Y j)), .int .i64 0, undef, undef, undef, undef, undef, undef, undef, undef, undef, undef, undef, undef, undef, undef, undef, undef, undef, undef, undef, undef, undef, undef, undef, undef, undef, undef, undef, undef, undef, undef, undef, undef, undef, undef, undef, undef, undef, undef, undef, undef, undef, undef, undef, undef, undef, undef, undef, undef, undef, undef, undef, undef, undef, undef, undef, undef, undef, undef, .int .i64 (j : Int), .slice l1 n1 k1, .int .i64 (n1 : Int), .bool true, .int .i64 (j : Int), .int .i64 ((j + 1 : Nat) : Int), .tuple #[.string (wt (Y j)), .int .i64 0], .slice l1 n1 k1, .int .i64 (j : Int), .pointer (some ⟨b1, (o1 + j * 1), none⟩), .string (Y j), .tuple #[.string (wt (Y j)), .int .i64 0], .string (wt (Y j)), .int .i64 0, .int .i64 0, .bool true, .slice l1 n1 k1, .int .i64 (j : Int), .pointer (some ⟨b1, (o1 + j * 1), none⟩), .string (Y j), .int .i64 ((Y j).size : Int), .bool true, .bool false, .int .i64 0, .bool true, .string (eT X n0 Y j), .string (wt (Y j)), .string ((eT X n0 Y j) ++ (wt (Y j))), .slice (some ⟨g9, 0, none⟩) (tl Y j).length cap9, .slice l1 n1 k1, .int .i64 (j : Int), .pointer (some ⟨b1, (o1 + j * 1), none⟩), .string (Y j), .slice (some ⟨g1, 0, none⟩) 1 1, .slice (some ⟨g8, 0, none⟩) ((tl Y j).length + 1) cap8] : List Value).getD (k_ - 6) undef, .slice (some ⟨g8, 0, none⟩) ((tl Y j).length + 1) cap8, by rw [eA]; kernel_rfl, .inr ⟨g8, cap8, Z8, by rw [eB, List.length_append]; rfl, by rw [eB, vS_app]; exact hZ8, M.drop (.cons _ (.cons_cons _ .slnil))⟩⟩
            · intro a u0 hI
              obtain ⟨v3, tv, rfl, hT⟩ := hI
              rcases hT with ⟨hnil, rfl, M⟩ | ⟨g9, cap9, Z9, rfl, hZ9, M⟩
              · skip
                refine wp_seq ?_
                refine wp_seq ?_
                refine rg_lit ?_
                refine pl_val (want_no rfl) (some 73) rfl (.int .i64 (n1 : Int)) (fun _ => by kernel_rfl) ?_
                refine pl_val (want_no rfl) (some 74) rfl (.slice l1 n1 k1) (fun _ => by kernel_rfl) ?_
                refine pl_val (want_no rfl) (some 75) rfl (.int .i64 (n1 : Int)) (fun _ => by kernel_rfl) ?_
                refine pl_val (want_no rfl) (some 76) rfl (.bool false) (fun w => Eq.trans (b := .ok (.value (.bool (decide ((n1 : Int) < (n1 : Int))))) w) (by kernel_rfl) (by rw [decide_eq_false (by omega)])) ?_
                refine pl_nil ?_
                refine au_then ?_
                refine wp_cond_false (by kernel_rfl) ?_
                refine wp_exit ?_
                refine au_then_exit ?_
                refine au_then_exit ?_
                refine au_block_exit ?_
                refine au_then ?_
                refine wp_seq ?_
                refine rg_lit ?_
                refine pl_val (want_no rfl) (some 108) rfl (.string (eT X n0 Y n1)) (fun _ => by kernel_rfl) ?_
                refine pl_val (want_no rfl) (some 109) rfl (.string rest) (fun _ => by kernel_rfl) ?_
                refine pl_val (want_no rfl) (some 110) rfl (.string ((eT X n0 Y n1) ++ rest)) (run_cat 9 9 _ _ rfl (eT X n0 Y n1) rest (by kernel_rfl) (by kernel_rfl) (by have := eT_size X n0 Y n1; omega)) ?_
                refine pl_calln M (want_no rfl) (some 111) rfl 14 #[.string ((eT X n0 Y n1) ++ rest)] (fun g1 => .pointer (some ⟨g1, 0, none⟩)) (.cells (av 3 (ls [.bool true, .string (rl X (rt rest (tl Y n1)) (n0 - 0) 0), .int .i64 0])) 59) (fun _ => by kernel_rfl) (fun w M => c_NewE ((eT X n0 Y n1) ++ rest) _ (all_is X n0 Y n1 rest) w M.laid) ?_
                intro g1 u1 M
                replace M : Mem ⟨w, []⟩ [⟨g1, .cells (av 3 (ls [.bool true, .string (rl X (rt rest (tl Y n1)) (n0 - 0) 0), .int .i64 0])) 59⟩] u1 := M
                refine pl_val (want_no rfl) (some 15) rfl (.pointer (some ⟨g1, 0, none⟩)) (fun _ => by kernel_rfl) ?_
                refine pl_nil ?_
                refine au_then ?_
                refine wp_seq ?_
                refine wp_seq ?_
                refine rg_lit ?_
                refine pl_val (want_no rfl) (some 16) rfl (.int .i64 0) (fun _ => by kernel_rfl) ?_
                refine pl_nil ?_
                refine au_then ?_
                refine wp_block ?_
                refine au_loop (fun j a w' => ∃ v4 : Nat → Value, a = ⟨#[.slice l0 n0 k0, .slice l1 n1 k1, .string rest, undef, undef, undef, v4 6, .int .i64 (sm Y rest n1), .int .i64 (n1 : Int), .string (eT X n0 Y n1), .int .i64 (n0 : Int), .slice none 0 0, .int .i64 (n1 : Int), v3 13, v3 14, .pointer (some ⟨g1, 0, none⟩), .int .i64 (j : Int), undef, .string rest, .int .i64 (rest.size : Int), .int .i64 (n1 : Int), .slice l1 n1 k1, .int .i64 (n1 : Int), .bool false, v1 24, v1 25, v1 26, v1 27, v1 28, v1 29, v1 30, v1 31, v1 32, .slice l0 n0 k0, .int .i64 (n0 : Int), .bool false, .bool false, .slice l1 n1 k1, .int .i64 (n1 : Int), .bool false, .bool false, .bool false, .int .i64 (sm Y rest n1), .bool false, .bool false, undef, .int .i64 (n0 : Int), .slice l0 n0 k0, .int .i64 (n0 : Int), .bool false, v2 50, v2 51, v2 52, v2 53, v2 54, v2 55, v2 56, v2 57, v2 58, v2 59, v2 60, v2 61, v2 62, v2 63, v2 64, v2 65, v2 66, v2 67, v2 68, v2 69, v2 70, v2 71, v2 72, .int .i64 (n1 : Int), .slice l1 n1 k1, .int .i64 (n1 : Int), .bool false, v3 77, v3 78, v3 79, v3 80, v3 81, v3 82, v3 83, v3 84, v3 85, v3 86, v3 87, v3 88, v3 89, v3 90, v3 91, v3 92, v3 93, v3 94, v3 95, v3 96, v3 97, v3 98, v3 99, v3 100, v3 101, v3 102, v3 103, v3 104, v3 105, v3 106, v3 107, .string (eT X n0 Y n1), .string rest, .string ((eT X n0 Y n1) ++ rest), .pointer (some ⟨g1, 0, none⟩), v4 112, v4 113, v4 114, v4 115, v4 116, v4 117, v4 118, v4 119, v4 120, v4 121, v4 122, v4 123, v4 124, v4 125, v4 126, v4 127, v4 128, v4 129, v4 130, v4 131, v4 132, v4 133, v4 134, v4 135, v4 136, v4 137, v4 138, v4 139, v4 140, v4 141, v4 142, v4 143, v4 144, undef, undef, undef, undef, undef, undef, undef, undef, undef, undef, undef, undef, undef, undef, undef, undef, undef, undef, undef, undef, undef, undef, undef, undef, undef, undef, undef, undef, undef, undef, undef, undef, undef, undef, undef, undef, undef, undef, undef, undef, undef, undef, undef, undef, undef, undef, undef], []⟩ ∧ Mem ⟨w, []⟩ [⟨g1, .cells (av 3 (ls [.bool true, .string (rl X (rt rest (tl Y n1)) (n0 - j) j), .int .i64 0])) 59⟩] w') n0 ⟨fun k_ => ([v3 6, undef, undef, undef, undef, undef, undef, undef, undef, undef, undef, undef, undef, undef, undef, undef, undef, undef, undef, undef, undef, undef, undef, undef, undef, undef, undef, undef, undef, undef, undef, undef, undef, undef, undef, undef, undef, undef, undef, undef, undef, undef, undef, undef, undef, undef, undef, undef, undef, undef, undef, undef, undef, undef, undef, undef, undef, undef, undef, undef, undef, undef, undef, undef, undef, undef, undef, undef, undef, undef, undef, undef, undef, undef, undef, undef, undef, undef, undef, undef, undef, undef, undef, undef, undef, undef, undef, undef, undef, undef, undef, undef, undef, undef, undef, undef, undef, undef, undef, undef, undef, undef, undef, undef, undef, undef, undef, undef, undef, undef, undef, undef, undef, undef, undef, undef, undef, undef, undef, undef, undef, undef, undef, undef, undef, undef, undef, undef, undef, undef, undef, undef, undef, undef, undef, undef, undef, undef, undef] : List Value).getD (k_ - 6) undef, by kernel_rfl, M⟩ ?_ ?_
                · intro j a u0 hj hI
                  obtain ⟨v4, rfl, M⟩ := hI
                  rw [rl_step X _ n0 j hj] at M
                  replace M : Mem ⟨w, []⟩ [⟨g1, .cells (av 3 (ls [.bool true, .string (be8 (X j) ++ (be4 (cv .u64 (cv .u32 (X j))) ++ (be2 (cv .u64 (cv .u16 (X j))) ++ rl X (rt rest (tl Y n1)) (n0 - (j + 1)) (j + 1)))), .int .i64 0])) 59⟩] u0 := M
                  refine wp_seq ?_
                  refine wp_seq ?_
                  refine rg_lit ?_
                  refine pl_val (want_no rfl) (some 112) rfl (.int .i64 (j : Int)) (fun _ => by kernel_rfl) ?_
                  refine pl_val (want_no rfl) (some 113) rfl (.slice l0 n0 k0) (fun _ => by kernel_rfl) ?_
                  refine pl_val (want_no rfl) (some 114) rfl (.int .i64 (n0 : Int)) (fun _ => by kernel_rfl) ?_
                  refine pl_val (want_no rfl) (some 115) rfl (.bool true) (fun w => Eq.trans (b := .ok (.value (.bool (decide ((j : Int) < (n0 : Int))))) w) (by kernel_rfl) (by rw [decide_eq_true (by omega)])) ?_
                  refine pl_nil ?_
                  refine au_then ?_
                  refine wp_cond_true (by kernel_rfl) ?_
                  refine wp_skip ?_
                  refine au_then ?_
                  refine wp_seq ?_
                  refine wp_block ?_
                  refine wp_seq ?_
                  refine rg_held M [] 26 rfl (by kernel_rfl) (by kernel_rfl) (fun _ _ d _ _ h => by cases d <;> exact h) ?_
                  intro u2 M
                  replace M : Mem ⟨w, []⟩ [⟨g1, .cells (av 3 (ls [.bool true, .string (be8 (X j) ++ (be4 (cv .u64 (cv .u32 (X j))) ++ (be2 (cv .u64 (cv .u16 (X j))) ++ rl X (rt rest (tl Y n1)) (n0 - (j + 1)) (j + 1)))), .int .i64 0])) 59⟩] u2 := M
                  refine hl_val (M.drop (.cons _ (.slnil))) 0 rfl (by decide) (by kernel_rfl) (by kernel_rfl) (want_no rfl) (some 118) rfl (.pointer (some ⟨g1, 0, none⟩)) (fun _ _ => by kernel_rfl) ?_
                  refine hl_val (M.drop (.cons _ (.slnil))) 2 rfl (by decide) (by kernel_rfl) (by kernel_rfl) (want_no rfl) (some 120) rfl (.slice l0 n0 k0) (fun _ _ => by kernel_rfl) ?_
                  refine hl_val (M.drop (.cons _ (.slnil))) 3 rfl (by decide) (by kernel_rfl) (by kernel_rfl) (want_no rfl) (some 121) rfl (.int .i64 (j : Int)) (fun _ _ => by kernel_rfl) ?_
                  refine hl_val (M.drop (.cons _ (.slnil))) 4 rfl (by decide) (by kernel_rfl) (by kernel_rfl) (want_no rfl) (some 122) rfl (.pointer (some ⟨b0, (o0 + j * 1), none⟩)) (fun w _ => (run_ixK 52 22 1 Try.underlying52 inz22 _ _ rfl l0 b0 o0 n0 k0 (by kernel_rfl) (hl0 (by omega)) .i64 j (by kernel_rfl) (by omega)) w) ?_
                  refine hl_cell (M.drop (.cons _ (.slnil))) 5 rfl (by decide) (by kernel_rfl) (by kernel_rfl) (want_no rfl) (some 123) rfl 22 _ rfl b0 (o0 + j * 1) (by kernel_rfl) (.int .u64 (X j)) (fun _ => by kernel_rfl) (fun w M => M.oldc (hX j (by omega)) (by simp)) ?_
                  refine hl_one 1 (by decide) (by kernel_rfl) rfl ?_
                  refine pl_callp M (want_no rfl) (some 119) rfl 19 #[.pointer (some ⟨g1, 0, none⟩)] (.int .u64 (X j)) 0 g1 (.cells (av 3 (ls [.bool true, .string (be8 (X j) ++ (be4 (cv .u64 (cv .u32 (X j))) ++ (be2 (cv .u64 (cv .u16 (X j))) ++ rl X (rt rest (tl Y n1)) (n0 - (j + 1)) (j + 1)))), .int .i64 0])) 59) (.cells (av 3 (ls [.bool true, .string (be4 (cv .u64 (cv .u32 (X j))) ++ (be2 (cv .u64 (cv .u16 (X j))) ++ rl X (rt rest (tl Y n1)) (n0 - (j + 1)) (j + 1))), .int .i64 0])) 59) rfl (fun _ => by kernel_rfl) (fun w M => q_U64 g1 (X j) (hX0 j (by omega)).1 (hX0 j (by omega)).2 (be4 (cv .u64 (cv .u32 (X j))) ++ (be2 (cv .u64 (cv .u16 (X j))) ++ rl X (rt rest (tl Y n1)) (n0 - (j + 1)) (j + 1))) w M.laid (M.get 0 rfl)) ?_
                  intro u3 M
                  replace M : Mem ⟨w, []⟩ [⟨g1, .cells (av 3 (ls [.bool true, .string (be4 (cv .u64 (cv .u32 (X j))) ++ (be2 (cv .u64 (cv .u16 (X j))) ++ rl X (rt rest (tl Y n1)) (n0 - (j + 1)) (j + 1))), .int .i64 0])) 59⟩] u3 := M
                  refine pl_nil ?_
                  refine au_then ?_
                  refine ⟨(M.drop (.cons _ (.slnil))), ?_⟩
                  refine hl_val (M.drop (.cons _ (.slnil))) 6 rfl (by decide) (by kernel_rfl) (by kernel_rfl) (want_no rfl) (some 124) rfl (.bool false) (fun w _ => (fun w => Eq.trans (b := .ok (.value (.bool (!(decide ((X j) = (X j)))))) w) (by kernel_rfl) (by rw [decide_eq_true rfl]; rfl)) w) ?_
                  refine hl_val (M.drop (.cons _ (.slnil))) 7 rfl (by decide) (by kernel_rfl) (by kernel_rfl) (want_no rfl) (some 125) rfl (.bool false) (fun _ _ => by kernel_rfl) ?_
                  refine hl_val (M.drop (.cons _ (.slnil))) 8 rfl (by decide) (by kernel_rfl) (by kernel_rfl) (want_on 7 false rfl 125 rfl (by kernel_rfl)) (some 126) rfl (.pointer (some ⟨g1, 0, none⟩)) (fun _ _ => by kernel_rfl) ?_
                  refine hl_val (M.drop (.cons _ (.slnil))) 10 rfl (by decide) (by kernel_rfl) (by kernel_rfl) (want_on 7 false rfl 125 rfl (by kernel_rfl)) (some 128) rfl (.slice l0 n0 k0) (fun _ _ => by kernel_rfl) ?_
                  refine hl_val (M.drop (.cons _ (.slnil))) 11 rfl (by decide) (by kernel_rfl) (by kernel_rfl) (want_on 7 false rfl 125 rfl (by kernel_rfl)) (some 129) rfl (.int .i64 (j : Int)) (fun _ _ => by kernel_rfl) ?_
                  refine hl_val (M.drop (.cons _ (.slnil))) 12 rfl (by decide) (by kernel_rfl) (by kernel_rfl) (want_on 7 false rfl 125 rfl (by kernel_rfl)) (some 130) rfl (.pointer (some ⟨b0, (o0 + j * 1), none⟩)) (fun w _ => (run_ixK 52 22 1 Try.underlying52 inz22 _ _ rfl l0 b0 o0 n0 k0 (by kernel_rfl) (hl0 (by omega)) .i64 j (by kernel_rfl) (by omega)) w) ?_
                  refine hl_cell (M.drop (.cons _ (.slnil))) 13 rfl (by decide) (by kernel_rfl) (by kernel_rfl) (want_on 7 false rfl 125 rfl (by kernel_rfl)) (some 131) rfl 22 _ rfl b0 (o0 + j * 1) (by kernel_rfl) (.int .u64 (X j)) (fun _ => by kernel_rfl) (fun w M => M.oldc (hX j (by omega)) (by simp)) ?_
                  refine hl_val (M.drop (.cons _ (.slnil))) 14 rfl (by decide) (by kernel_rfl) (by kernel_rfl) (want_on 7 false rfl 125 rfl (by kernel_rfl)) (some 132) rfl (.int .u32 (cv .u32 (X j))) (fun _ _ => by kernel_rfl) ?_
                  refine hl_one 9 (by decide) (by kernel_rfl) rfl ?_
                  refine pl_callp M (want_on 7 false rfl 125 rfl (by kernel_rfl)) (some 127) rfl 18 #[.pointer (some ⟨g1, 0, none⟩)] (.int .u32 (cv .u32 (X j))) 0 g1 (.cells (av 3 (ls [.bool true, .string (be4 (cv .u64 (cv .u32 (X j))) ++ (be2 (cv .u64 (cv .u16 (X j))) ++ rl X (rt rest (tl Y n1)) (n0 - (j + 1)) (j + 1))), .int .i64 0])) 59) (.cells (av 3 (ls [.bool true, .string (be2 (cv .u64 (cv .u16 (X j))) ++ rl X (rt rest (tl Y n1)) (n0 - (j + 1)) (j + 1)), .int .i64 0])) 59) rfl (fun _ => by kernel_rfl) (fun w M => q_U32 g1 (X j) (be2 (cv .u64 (cv .u16 (X j))) ++ rl X (rt rest (tl Y n1)) (n0 - (j + 1)) (j + 1)) w M.laid (M.get 0 rfl)) ?_
                  intro u4 M
                  replace M : Mem ⟨w, []⟩ [⟨g1, .cells (av 3 (ls [.bool true, .string (be2 (cv .u64 (cv .u16 (X j))) ++ rl X (rt rest (tl Y n1)) (n0 - (j + 1)) (j + 1)), .int .i64 0])) 59⟩] u4 := M
                  refine pl_nil ?_
                  refine au_then ?_
                  refine ⟨(M.drop (.cons _ (.slnil))), ?_⟩
                  refine hl_val (M.drop (.cons _ (.slnil))) 15 rfl (by decide) (by kernel_rfl) (by kernel_rfl) (want_on 7 false rfl 125 rfl (by kernel_rfl)) (some 133) rfl (.bool false) (fun w _ => (fun w => Eq.trans (b := .ok (.value (.bool (!(decide ((cv .u32 (X j)) = (cv .u32 (X j))))))) w) (by kernel_rfl) (by rw [decide_eq_true rfl]; rfl)) w) ?_
                  refine hl_val (M.drop (.cons _ (.slnil))) 16 rfl (by decide) (by kernel_rfl) (by kernel_rfl) (want_no rfl) (some 134) rfl (.bool false) (fun _ _ => by kernel_rfl) ?_
                  refine hl_val (M.drop (.cons _ (.slnil))) 17 rfl (by decide) (by kernel_rfl) (by kernel_rfl) (want_no rfl) (some 135) rfl (.bool false) (fun _ _ => by kernel_rfl) ?_
                  refine hl_val (M.drop (.cons _ (.slnil))) 18 rfl (by decide) (by kernel_rfl) (by kernel_rfl) (want_on 17 false rfl 135 rfl (by kernel_rfl)) (some 136) rfl (.pointer (some ⟨g1, 0, none⟩)) (fun _ _ => by kernel_rfl) ?_
                  refine hl_val (M.drop (.cons _ (.slnil))) 20 rfl (by decide) (by kernel_rfl) (by kernel_rfl) (want_on 17 false rfl 135 rfl (by kernel_rfl)) (some 138) rfl (.slice l0 n0 k0) (fun _ _ => by kernel_rfl) ?_
                  refine hl_val (M.drop (.cons _ (.slnil))) 21 rfl (by decide) (by kernel_rfl) (by kernel_rfl) (want_on 17 false rfl 135 rfl (by kernel_rfl)) (some 139) rfl (.int .i64 (j : Int)) (fun _ _ => by kernel_rfl) ?_
                  refine hl_val (M.drop (.cons _ (.slnil))) 22 rfl (by decide) (by kernel_rfl) (by kernel_rfl) (want_on 17 false rfl 135 rfl (by kernel_rfl)) (some 140) rfl (.pointer (some ⟨b0, (o0 + j * 1), none⟩)) (fun w _ => (run_ixK 52 22 1 Try.underlying52 inz22 _ _ rfl l0 b0 o0 n0 k0 (by kernel_rfl) (hl0 (by omega)) .i64 j (by kernel_rfl) (by omega)) w) ?_
                  refine hl_cell (M.drop (.cons _ (.slnil))) 23 rfl (by decide) (by kernel_rfl) (by kernel_rfl) (want_on 17 false rfl 135 rfl (by kernel_rfl)) (some 141) rfl 22 _ rfl b0 (o0 + j * 1) (by kernel_rfl) (.int .u64 (X j)) (fun _ => by kernel_rfl) (fun w M => M.oldc (hX j (by omega)) (by simp)) ?_
                  refine hl_val (M.drop (.cons _ (.slnil))) 24 rfl (by decide) (by kernel_rfl) (by kernel_rfl) (want_on 17 false rfl 135 rfl (by kernel_rfl)) (some 142) rfl (.int .u16 (cv .u16 (X j))) (fun _ _ => by kernel_rfl) ?_
                  refine hl_one 19 (by decide) (by kernel_rfl) rfl ?_
                  refine pl_callp M (want_on 17 false rfl 135 rfl (by kernel_rfl)) (some 137) rfl 17 #[.pointer (some ⟨g1, 0, none⟩)] (.int .u16 (cv .u16 (X j))) 0 g1 (.cells (av 3 (ls [.bool true, .string (be2 (cv .u64 (cv .u16 (X j))) ++ rl X (rt rest (tl Y n1)) (n0 - (j + 1)) (j + 1)), .int .i64 0])) 59) (.cells (av 3 (ls [.bool true, .string (rl X (rt rest (tl Y n1)) (n0 - (j + 1)) (j + 1)), .int .i64 0])) 59) rfl (fun _ => by kernel_rfl) (fun w M => q_U16 g1 (X j) _ w M.laid (M.get 0 rfl)) ?_
                  intro u5 M
                  replace M : Mem ⟨w, []⟩ [⟨g1, .cells (av 3 (ls [.bool true, .string (rl X (rt rest (tl Y n1)) (n0 - (j + 1)) (j + 1)), .int .i64 0])) 59⟩] u5 := M
                  refine pl_nil ?_
                  refine au_then ?_
                  refine ⟨(M.drop (.cons _ (.slnil))), ?_⟩
                  refine hl_val (M.drop (.cons _ (.slnil))) 25 rfl (by decide) (by kernel_rfl) (by kernel_rfl) (want_on 17 false rfl 135 rfl (by kernel_rfl)) (some 143) rfl (.bool false) (fun w _ => (fun w => Eq.trans (b := .ok (.value (.bool (!(decide ((cv .u16 (X j)) = (cv .u16 (X j))))))) w) (by kernel_rfl) (by rw [decide_eq_true rfl]; rfl)) w) ?_
                  refine hl_end (by kernel_rfl) (by kernel_rfl) rfl ?_
                  refine pl_val (want_no rfl) (some 144) rfl (.bool false) (fun _ => by kernel_rfl) ?_
                  refine pl_nil ?_
                  refine au_then ?_
                  refine au_then ?_
                  refine wp_cond_false (by kernel_rfl) ?_
                  refine wp_skip ?_
                  refine au_block ?_
                  refine au_then ?_
                  refine rg_lit ?_
                  refine pl_val (want_no rfl) (some 116) rfl (.int .i64 (j : Int)) (fun _ => by kernel_rfl) ?_
                  refine pl_val (want_no rfl) (some 117) rfl (.int .i64 ((j + 1 : Nat) : Int)) (fun w => Eq.trans (b := .ok (.value (.int .i64 (IntKind.wrap .i64 ((j : Int) + 1)))) w) (by kernel_rfl) (by rw [wrap64 (by omega) (by omega)]; congr 3)) ?_
                  refine pl_val (want_no rfl) (some 16) rfl (.int .i64 ((j + 1 : Nat) : Int)) (fun _ => by kernel_rfl) ?_
                  refine pl_nil ?_
                  refine au_then ?_
                  exact ⟨fun k_ => ([v4 6, undef, undef, undef, undef, undef, undef, undef, undef, undef, undef, undef, undef, undef, undef, undef, undef, undef, undef, undef, undef, undef, undef, undef, undef, undef, undef, undef, undef, undef, undef, undef, undef, undef, undef, undef, undef, undef, undef, undef, undef, undef, undef, undef, undef, undef, undef, undef, undef, undef, undef, undef, undef, undef, undef, undef, undef, undef, undef, undef, undef, undef, undef, undef, undef, undef, undef, undef, undef, undef, undef, undef, undef, undef, undef, undef, undef, undef, undef, undef, undef, undef, undef, undef, undef, undef, undef, undef, undef, undef, undef, undef, undef, undef, undef, undef, undef, undef, undef, undef, undef, undef, undef, undef, undef, undef, .int .i64 (j : Int), .slice l0 n0 k0, .int .i64 (n0 : Int), .bool true, .int .i64 (j : Int), .int .i64 ((j + 1 : Nat) : Int), .pointer (some ⟨g1, 0, none⟩), .int .u64 (X j), .slice l0 n0 k0, .int .i64 (j : Int), .pointer (some ⟨b0, (o0 + j * 1), none⟩), .int .u64 (X j), .bool false, .bool false, .pointer (some ⟨g1, 0, none⟩), .int .u32 (cv .u32 (X j)), .slice l0 n0 k0, .int .i64 (j : Int), .pointer (some ⟨b0, (o0 + j * 1), none⟩), .int .u64 (X j), .int .u32 (cv .u32 (X j)), .bool false, .bool false, .bool false, .pointer (some ⟨g1, 0, none⟩), .int .u16 (cv .u16 (X j)), .slice l0 n0 k0, .int .i64 (j : Int), .pointer (some ⟨b0, (o0 + j * 1), none⟩), .int .u64 (X j), .int .u16 (cv .u16 (X j)), .bool false, .bool false] : List Value).getD (k_ - 6) undef, by kernel_rfl, M⟩
                · intro a u0 hI
                  obtain ⟨v4, rfl, M⟩ := hI
                  rw [Nat.sub_self] at M
                  replace M : Mem ⟨w, []⟩ [⟨g1, .cells (av 3 (ls [.bool true, .string (rt rest (tl Y n1)), .int .i64 0])) 59⟩] u0 := M
                  rw [hnil] at M
                  replace M : Mem ⟨w, []⟩ [⟨g1, .cells (av 3 (ls [.bool true, .string rest, .int .i64 0])) 59⟩] u0 := M
                  refine wp_seq ?_
                  refine wp_seq ?_
                  refine rg_lit ?_
                  refine pl_val (want_no rfl) (some 112) rfl (.int .i64 (n0 : Int)) (fun _ => by kernel_rfl) ?_
                  refine pl_val (want_no rfl) (some 113) rfl (.slice l0 n0 k0) (fun _ => by kernel_rfl) ?_
                  refine pl_val (want_no rfl) (some 114) rfl (.int .i64 (n0 : Int)) (fun _ => by kernel_rfl) ?_
                  refine pl_val (want_no rfl) (some 115) rfl (.bool false) (fun w => Eq.trans (b := .ok (.value (.bool (decide ((n0 : Int) < (n0 : Int))))) w) (by kernel_rfl) (by rw [decide_eq_false (by omega)])) ?_
                  refine pl_nil ?_
                  refine au_then ?_
                  refine wp_cond_false (by kernel_rfl) ?_
                  refine wp_exit ?_
                  refine au_then_exit ?_
                  refine au_then_exit ?_
                  refine au_block_exit ?_
                  refine au_then ?_
                  refine wp_seq ?_
                  refine wp_seq ?_
                  refine rg_lit ?_
                  refine pl_val (want_no rfl) (some 17) rfl (.int .i64 0) (fun _ => by kernel_rfl) ?_
                  refine pl_nil ?_
                  refine au_then ?_
                  refine wp_block ?_
                  refine wp_loop_rounds 1 ?_
                  refine rounds_go ?_
                  refine wp_seq ?_
                  refine wp_seq ?_
                  refine rg_lit ?_
                  refine pl_val (want_no rfl) (some 145) rfl (.int .i64 0) (fun _ => by kernel_rfl) ?_
                  refine pl_val (want_no rfl) (some 146) rfl (.slice none 0 0) (fun _ => by kernel_rfl) ?_
                  refine pl_val (want_no rfl) (some 147) rfl (.int .i64 0) (fun _ => by kernel_rfl) ?_
                  refine pl_val (want_no rfl) (some 148) rfl (.bool false) (fun _ => by kernel_rfl) ?_
                  refine pl_nil ?_
                  refine au_then ?_
                  refine wp_cond_false (by kernel_rfl) ?_
                  refine wp_exit ?_
                  refine au_then_exit ?_
                  refine au_then_exit ?_
                  refine au_block_exit ?_
                  refine au_then ?_
                  refine wp_seq ?_
                  refine rg_lit ?_
                  refine pl_val (want_no rfl) (some 158) rfl (.pointer (some ⟨g1, 0, none⟩)) (fun _ => by kernel_rfl) ?_
                  refine pl_call M (want_no rfl) (some 159) rfl 24 #[.pointer (some ⟨g1, 0, none⟩)] (.int .i64 (rest.size : Int)) (fun _ => by kernel_rfl) (fun w M => c_Left g1 rest 0 w M.laid (M.get 0 rfl)) ?_
                  intro u2 M
                  refine pl_val (want_no rfl) (some 160) rfl (.string rest) (fun _ => by kernel_rfl) ?_
                  refine pl_val (want_no rfl) (some 161) rfl (.int .i64 (rest.size : Int)) (fun _ => by kernel_rfl) ?_
                  refine pl_val (want_no rfl) (some 162) rfl (.bool true) (fun w => Eq.trans (b := .ok (.value (.bool (decide ((rest.size : Int) = (rest.size : Int))))) w) (by kernel_rfl) (by rw [decide_eq_true (by omega)])) ?_
                  refine pl_val (want_no rfl) (some 163) rfl (.bool true) (fun _ => by kernel_rfl) ?_
                  refine pl_val (want_on 5 true rfl 163 rfl (by kernel_rfl)) (some 164) rfl (.pointer (some ⟨g1, 0, none⟩)) (fun _ => by kernel_rfl) ?_
                  refine pl_call M (want_on 5 true rfl 163 rfl (by kernel_rfl)) (some 165) rfl 25 #[.pointer (some ⟨g1, 0, none⟩)] (.int .i64 0) (fun _ => by kernel_rfl) (fun w M => c_Fault g1 rest 0 w M.laid (M.get 0 rfl)) ?_
                  intro u3 M
                  refine pl_val (want_on 5 true rfl 163 rfl (by kernel_rfl)) (some 166) rfl (.bool true) (fun _ => by kernel_rfl) ?_
                  refine pl_val (want_no rfl) (some 167) rfl (.bool true) (fun _ => by kernel_rfl) ?_
                  refine pl_val (want_no rfl) (some 168) rfl (.bool true) (fun _ => by kernel_rfl) ?_
                  refine pl_val (want_on 10 true rfl 168 rfl (by kernel_rfl)) (some 169) rfl (.pointer (some ⟨g1, 0, none⟩)) (fun _ => by kernel_rfl) ?_
                  by_cases c4 : rest = (⟨#[]⟩ : ByteArray)
                  · skip
                    refine pl_call M (want_on 10 true rfl 168 rfl (by kernel_rfl)) (some 170) rfl 26 #[.pointer (some ⟨g1, 0, none⟩)] (.int .i64 0) (fun _ => by kernel_rfl) (fun w M => call_val (c_End g1 rest 0 w M.laid (M.get 0 rfl)) (by rw [enF, if_pos rfl, if_pos c4])) ?_
                    intro u4 M
                    refine pl_val (want_on 10 true rfl 168 rfl (by kernel_rfl)) (some 171) rfl (.bool true) (fun _ => by kernel_rfl) ?_
                    refine pl_val (want_on 10 true rfl 168 rfl (by kernel_rfl)) (some 172) rfl (.string rest) (fun _ => by kernel_rfl) ?_
                    refine pl_val (want_on 10 true rfl 168 rfl (by kernel_rfl)) (some 173) rfl (.bool true) (fun w => Eq.trans (b := .ok (.value (.bool (rest.toList == (⟨#[]⟩ : ByteArray).toList))) w) (by kernel_rfl) (by rw [seq_pos c4])) ?_
                    refine pl_val (want_on 10 true rfl 168 rfl (by kernel_rfl)) (some 174) rfl (.bool true) (fun _ => by kernel_rfl) ?_
                    refine pl_val (want_no rfl) (some 175) rfl (.bool true) (fun _ => by kernel_rfl) ?_
                    refine pl_val (want_no rfl) (some 176) rfl (.bool true) (fun _ => by kernel_rfl) ?_
                    refine pl_val (want_on 18 true rfl 176 rfl (by kernel_rfl)) (some 177) rfl (.pointer (some ⟨g1, 0, none⟩)) (fun _ => by kernel_rfl) ?_
                    refine pl_val (want_on 18 true rfl 176 rfl (by kernel_rfl)) (some 178) rfl (.string rest) (fun _ => by kernel_rfl) ?_
                    refine pl_val (want_on 18 true rfl 176 rfl (by kernel_rfl)) (some 179) rfl (.int .i64 (rest.size : Int)) (fun _ => by kernel_rfl) ?_
                    refine pl_callp M (want_on 18 true rfl 176 rfl (by kernel_rfl)) (some 180) rfl 20 #[.pointer (some ⟨g1, 0, none⟩), .int .i64 (rest.size : Int)] (.string rest) 0 g1 (.cells (av 3 (ls [.bool true, .string rest, .int .i64 0])) 59) (.cells (av 3 (ls [.bool true, .string ⟨#[]⟩, .int .i64 0])) 59) rfl (fun _ => by kernel_rfl) (fun w M => q_Take g1 rest w M.laid (M.get 0 rfl)) ?_
                    intro u5 M
                    replace M : Mem ⟨w, []⟩ [⟨g1, .cells (av 3 (ls [.bool true, .string ⟨#[]⟩, .int .i64 0])) 59⟩] u5 := M
                    refine pl_val (want_on 18 true rfl 176 rfl (by kernel_rfl)) (some 181) rfl (.string rest) (fun _ => by kernel_rfl) ?_
                    refine pl_val (want_on 18 true rfl 176 rfl (by kernel_rfl)) (some 182) rfl (.bool true) (fun w => Eq.trans (b := .ok (.value (.bool (rest.toList == rest.toList))) w) (by kernel_rfl) (by rw [beq_self_eq_true])) ?_
                    refine pl_val (want_no rfl) (some 183) rfl (.bool true) (fun _ => by kernel_rfl) ?_
                    refine pl_val (want_no rfl) (some 184) rfl (.bool true) (fun _ => by kernel_rfl) ?_
                    refine pl_val (want_on 26 true rfl 184 rfl (by kernel_rfl)) (some 185) rfl (.pointer (some ⟨g1, 0, none⟩)) (fun _ => by kernel_rfl) ?_
                    refine pl_call M (want_on 26 true rfl 184 rfl (by kernel_rfl)) (some 186) rfl 26 #[.pointer (some ⟨g1, 0, none⟩)] (.int .i64 0) (fun _ => by kernel_rfl) (fun w M => call_val (c_End g1 ⟨#[]⟩ 0 w M.laid (M.get 0 rfl)) (by kernel_rfl)) ?_
                    intro u6 M
                    refine pl_val (want_on 26 true rfl 184 rfl (by kernel_rfl)) (some 187) rfl (.bool true) (fun _ => by kernel_rfl) ?_
                    refine pl_val (want_no rfl) (some 188) rfl (.bool true) (fun _ => by kernel_rfl) ?_
                    refine pl_val (want_no rfl) (some 189) rfl (.bool true) (fun _ => by kernel_rfl) ?_
                    refine pl_call M (want_on 31 true rfl 189 rfl (by kernel_rfl)) (some 190) rfl 7 #[] (.bool true) (fun _ => by kernel_rfl) (fun w M => c_works w M.laid) ?_
                    intro u7 M
                    refine pl_val (want_no rfl) (some 191) rfl (.bool true) (fun _ => by kernel_rfl) ?_
                    refine pl_val (want_no rfl) (some 6) rfl (.bool true) (fun _ => by kernel_rfl) ?_
                    refine pl_nil ?_
                    refine au_then ?_
                    refine wp_ret ?_
                    exact bodyPost_ret (v := .bool true) (results_tmp1 Try.results5 _ _ _ (by kernel_rfl)) (by kernel_rfl) ⟨rfl, below_grown M.old⟩
                  · skip
                    refine pl_call M (want_on 10 true rfl 168 rfl (by kernel_rfl)) (some 170) rfl 26 #[.pointer (some ⟨g1, 0, none⟩)] (.int .i64 8) (fun _ => by kernel_rfl) (fun w M => call_val (c_End g1 rest 0 w M.laid (M.get 0 rfl)) (by rw [enF, if_pos rfl, if_neg c4])) ?_
                    intro u4 M
                    refine pl_val (want_on 10 true rfl 168 rfl (by kernel_rfl)) (some 171) rfl (.bool false) (fun _ => by kernel_rfl) ?_
                    refine pl_val (want_on 10 true rfl 168 rfl (by kernel_rfl)) (some 172) rfl (.string rest) (fun _ => by kernel_rfl) ?_
                    refine pl_val (want_on 10 true rfl 168 rfl (by kernel_rfl)) (some 173) rfl (.bool false) (fun w => Eq.trans (b := .ok (.value (.bool (rest.toList == (⟨#[]⟩ : ByteArray).toList))) w) (by kernel_rfl) (by rw [seq_neg c4])) ?_
                    refine pl_val (want_on 10 true rfl 168 rfl (by kernel_rfl)) (some 174) rfl (.bool true) (fun _ => by kernel_rfl) ?_
                    refine pl_val (want_no rfl) (some 175) rfl (.bool true) (fun _ => by kernel_rfl) ?_
                    refine pl_val (want_no rfl) (some 176) rfl (.bool true) (fun _ => by kernel_rfl) ?_
                    refine pl_val (want_on 18 true rfl 176 rfl (by kernel_rfl)) (some 177) rfl (.pointer (some ⟨g1, 0, none⟩)) (fun _ => by kernel_rfl) ?_
                    refine pl_val (want_on 18 true rfl 176 rfl (by kernel_rfl)) (some 178) rfl (.string rest) (fun _ => by kernel_rfl) ?_
                    refine pl_val (want_on 18 true rfl 176 rfl (by kernel_rfl)) (some 179) rfl (.int .i64 (rest.size : Int)) (fun _ => by kernel_rfl) ?_
                    refine pl_callp M (want_on 18 true rfl 176 rfl (by kernel_rfl)) (some 180) rfl 20 #[.pointer (some ⟨g1, 0, none⟩), .int .i64 (rest.size : Int)] (.string rest) 0 g1 (.cells (av 3 (ls [.bool true, .string rest, .int .i64 0])) 59) (.cells (av 3 (ls [.bool true, .string ⟨#[]⟩, .int .i64 0])) 59) rfl (fun _ => by kernel_rfl) (fun w M => q_Take g1 rest w M.laid (M.get 0 rfl)) ?_
                    intro u5 M
                    replace M : Mem ⟨w, []⟩ [⟨g1, .cells (av 3 (ls [.bool true, .string ⟨#[]⟩, .int .i64 0])) 59⟩] u5 := M
                    refine pl_val (want_on 18 true rfl 176 rfl (by kernel_rfl)) (some 181) rfl (.string rest) (fun _ => by kernel_rfl) ?_
                    refine pl_val (want_on 18 true rfl 176 rfl (by kernel_rfl)) (some 182) rfl (.bool true) (fun w => Eq.trans (b := .ok (.value (.bool (rest.toList == rest.toList))) w) (by kernel_rfl) (by rw [beq_self_eq_true])) ?_
                    refine pl_val (want_no rfl) (some 183) rfl (.bool true) (fun _ => by kernel_rfl) ?_
                    refine pl_val (want_no rfl) (some 184) rfl (.bool true) (fun _ => by kernel_rfl) ?_
                    refine pl_val (want_on 26 true rfl 184 rfl (by kernel_rfl)) (some 185) rfl (.pointer (some ⟨g1, 0, none⟩)) (fun _ => by kernel_rfl) ?_
                    refine pl_call M (want_on 26 true rfl 184 rfl (by kernel_rfl)) (some 186) rfl 26 #[.pointer (some ⟨g1, 0, none⟩)] (.int .i64 0) (fun _ => by kernel_rfl) (fun w M => call_val (c_End g1 ⟨#[]⟩ 0 w M.laid (M.get 0 rfl)) (by kernel_rfl)) ?_
                    intro u6 M
                    refine pl_val (want_on 26 true rfl 184 rfl (by kernel_rfl)) (some 187) rfl (.bool true) (fun _ => by kernel_rfl) ?_
                    refine pl_val (want_no rfl) (some 188) rfl (.bool true) (fun _ => by kernel_rfl) ?_
                    refine pl_val (want_no rfl) (some 189) rfl (.bool true) (fun _ => by kernel_rfl) ?_
                    refine pl_call M (want_on 31 true rfl 189 rfl (by kernel_rfl)) (some 190) rfl 7 #[] (.bool true) (fun _ => by kernel_rfl) (fun w M => c_works w M.laid) ?_
                    intro u7 M
                    refine pl_val (want_no rfl) (some 191) rfl (.bool true) (fun _ => by kernel_rfl) ?_
                    refine pl_val (want_no rfl) (some 6) rfl (.bool true) (fun _ => by kernel_rfl) ?_
                    refine pl_nil ?_
                    refine au_then ?_
                    refine wp_ret ?_
                    exact bodyPost_ret (v := .bool true) (results_tmp1 Try.results5 _ _ _ (by kernel_rfl)) (by kernel_rfl) ⟨rfl, below_grown M.old⟩
              · skip
                refine wp_seq ?_
                refine wp_seq ?_
                refine rg_lit ?_
                refine pl_val (want_no rfl) (some 73) rfl (.int .i64 (n1 : Int)) (fun _ => by kernel_rfl) ?_
                refine pl_val (want_no rfl) (some 74) rfl (.slice l1 n1 k1) (fun _ => by kernel_rfl) ?_
                refine pl_val (want_no rfl) (some 75) rfl (.int .i64 (n1 : Int)) (fun _ => by kernel_rfl) ?_
                refine pl_val (want_no rfl) (some 76) rfl (.bool false) (fun w => Eq.trans (b := .ok (.value (.bool (decide ((n1 : Int) < (n1 : Int))))) w) (by kernel_rfl) (by rw [decide_eq_false (by omega)])) ?_
                refine pl_nil ?_
                refine au_then ?_
                refine wp_cond_false (by kernel_rfl) ?_
                refine wp_exit ?_
                refine au_then_exit ?_
                refine au_then_exit ?_
                refine au_block_exit ?_
                refine au_then ?_
                refine wp_seq ?_
                refine rg_lit ?_
                refine pl_val (want_no rfl) (some 108) rfl (.string (eT X n0 Y n1)) (fun _ => by kernel_rfl) ?_
                refine pl_val (want_no rfl) (some 109) rfl (.string rest) (fun _ => by kernel_rfl) ?_
                refine pl_val (want_no rfl) (some 110) rfl (.string ((eT X n0 Y n1) ++ rest)) (run_cat 9 9 _ _ rfl (eT X n0 Y n1) rest (by kernel_rfl) (by kernel_rfl) (by have := eT_size X n0 Y n1; omega)) ?_
                refine pl_calln M (want_no rfl) (some 111) rfl 14 #[.string ((eT X n0 Y n1) ++ rest)] (fun g1 => .pointer (some ⟨g1, 0, none⟩)) (.cells (av 3 (ls [.bool true, .string (rl X (rt rest (tl Y n1)) (n0 - 0) 0), .int .i64 0])) 59) (fun _ => by kernel_rfl) (fun w M => c_NewE ((eT X n0 Y n1) ++ rest) _ (all_is X n0 Y n1 rest) w M.laid) ?_
                intro g1 u1 M
                replace M : Mem ⟨w, []⟩ [⟨g9, Z9⟩, ⟨g1, .cells (av 3 (ls [.bool true, .string (rl X (rt rest (tl Y n1)) (n0 - 0) 0), .int .i64 0])) 59⟩] u1 := M
                refine pl_val (want_no rfl) (some 15) rfl (.pointer (some ⟨g1, 0, none⟩)) (fun _ => by kernel_rfl) ?_
                refine pl_nil ?_
                refine au_then ?_
                refine wp_seq ?_
                refine wp_seq ?_
                refine rg_lit ?_
                refine pl_val (want_no rfl) (some 16) rfl (.int .i64 0) (fun _ => by kernel_rfl) ?_
                refine pl_nil ?_
                refine au_then ?_
                refine wp_block ?_
                refine au_loop (fun j a w' => ∃ v4 : Nat → Value, a = ⟨#[.slice l0 n0 k0, .slice l1 n1 k1, .string rest, undef, undef, undef, v4 6, .int .i64 (sm Y rest n1), .int .i64 (n1 : Int), .string (eT X n0 Y n1), .int .i64 (n0 : Int), .slice (some ⟨g9, 0, none⟩) (tl Y n1).length cap9, .int .i64 (n1 : Int), v3 13, v3 14, .pointer (some ⟨g1, 0, none⟩), .int .i64 (j : Int), undef, .string rest, .int .i64 (rest.size : Int), .int .i64 (n1 : Int), .slice l1 n1 k1, .int .i64 (n1 : Int), .bool false, v1 24, v1 25, v1 26, v1 27, v1 28, v1 29, v1 30, v1 31, v1 32, .slice l0 n0 k0, .int .i64 (n0 : Int), .bool false, .bool false, .slice l1 n1 k1, .int .i64 (n1 : Int), .bool false, .bool false, .bool false, .int .i64 (sm Y rest n1), .bool false, .bool false, undef, .int .i64 (n0 : Int), .slice l0 n0 k0, .int .i64 (n0 : Int), .bool false, v2 50, v2 51, v2 52, v2 53, v2 54, v2 55, v2 56, v2 57, v2 58, v2 59, v2 60, v2 61, v2 62, v2 63, v2 64, v2 65, v2 66, v2 67, v2 68, v2 69, v2 70, v2 71, v2 72, .int .i64 (n1 : Int), .slice l1 n1 k1, .int .i64 (n1 : Int), .bool false, v3 77, v3 78, v3 79, v3 80, v3 81, v3 82, v3 83, v3 84, v3 85, v3 86, v3 87, v3 88, v3 89, v3 90, v3 91, v3 92, v3 93, v3 94, v3 95, v3 96, v3 97, v3 98, v3 99, v3 100, v3 101, v3 102, v3 103, v3 104, v3 105, v3 106, v3 107, .string (eT X n0 Y n1), .string rest, .string ((eT X n0 Y n1) ++ rest), .pointer (some ⟨g1, 0, none⟩), v4 112, v4 113, v4 114, v4 115, v4 116, v4 117, v4 118, v4 119, v4 120, v4 121, v4 122, v4 123, v4 124, v4 125, v4 126, v4 127, v4 128, v4 129, v4 130, v4 131, v4 132, v4 133, v4 134, v4 135, v4 136, v4 137, v4 138, v4 139, v4 140, v4 141, v4 142, v4 143, v4 144, undef, undef, undef, undef, undef, undef, undef, undef, undef, undef, undef, undef, undef, undef, undef, undef, undef, undef, undef, undef, undef, undef, undef, undef, undef, undef, undef, undef, undef, undef, undef, undef, undef, undef, undef, undef, undef, undef, undef, undef, undef, undef, undef, undef, undef, undef, undef], []⟩ ∧ Mem ⟨w, []⟩ [⟨g9, Z9⟩, ⟨g1, .cells (av 3 (ls [.bool true, .string (rl X (rt rest (tl Y n1)) (n0 - j) j), .int .i64 0])) 59⟩] w') n0 ⟨fun k_ => ([v3 6, undef, undef, undef, undef, undef, undef, undef, undef, undef, undef, undef, undef, undef, undef, undef, undef, undef, undef, undef, undef, undef, undef, undef, undef, undef, undef, undef, undef, undef, undef, undef, undef, undef, undef, undef, undef, undef, undef, undef, undef, undef, undef, undef, undef, undef, undef, undef, undef, undef, undef, undef, undef, undef, undef, undef, undef, undef, undef, undef, undef, undef, undef, undef, undef, undef, undef, undef, undef, undef, undef, undef, undef, undef, undef, undef, undef, undef, undef, undef, undef, undef, undef, undef, undef, undef, undef, undef, undef, undef, undef, undef, undef, undef, undef, undef, undef, undef, undef, undef, undef, undef, undef, undef, undef, undef, undef, undef, undef, undef, undef, undef, undef, undef, undef, undef, undef, undef, undef, undef, undef, undef, undef, undef, undef, undef, undef, undef, undef, undef, undef, undef, undef, undef, undef, undef, undef, undef, undef] : List Value).getD (k_ - 6) undef, by kernel_rfl, M⟩ ?_ ?_
                · intro j a u0 hj hI
                  obtain ⟨v4, rfl, M⟩ := hI
                  rw [rl_step X _ n0 j hj] at M
                  replace M : Mem ⟨w, []⟩ [⟨g9, Z9⟩, ⟨g1, .cells (av 3 (ls [.bool true, .string (be8 (X j) ++ (be4 (cv .u64 (cv .u32 (X j))) ++ (be2 (cv .u64 (cv .u16 (X j))) ++ rl X (rt rest (tl Y n1)) (n0 - (j + 1)) (j + 1)))), .int .i64 0])) 59⟩] u0 := M
                  refine wp_seq ?_
                  refine wp_seq ?_
                  refine rg_lit ?_
                  refine pl_val (want_no rfl) (some 112) rfl (.int .i64 (j : Int)) (fun _ => by kernel_rfl) ?_
                  refine pl_val (want_no rfl) (some 113) rfl (.slice l0 n0 k0) (fun _ => by kernel_rfl) ?_
                  refine pl_val (want_no rfl) (some 114) rfl (.int .i64 (n0 : Int)) (fun _ => by kernel_rfl) ?_
                  refine pl_val (want_no rfl) (some 115) rfl (.bool true) (fun w => Eq.trans (b := .ok (.value (.bool (decide ((j : Int) < (n0 : Int))))) w) (by kernel_rfl) (by rw [decide_eq_true (by omega)])) ?_
                  refine pl_nil ?_
                  refine au_then ?_
                  refine wp_cond_true (by kernel_rfl) ?_
                  refine wp_skip ?_
                  refine au_then ?_
                  refine wp_seq ?_
                  refine wp_block ?_
                  refine wp_seq ?_
                  refine rg_held M [⟨g9, Z9⟩] 26 rfl (by kernel_rfl) (by kernel_rfl) (fun _ _ d _ _ h => by cases d <;> exact h) ?_
                  intro u2 M
                  replace M : Mem ⟨w, []⟩ [⟨g9, Z9⟩, ⟨g1, .cells (av 3 (ls [.bool true, .string (be8 (X j) ++ (be4 (cv .u64 (cv .u32 (X j))) ++ (be2 (cv .u64 (cv .u16 (X j))) ++ rl X (rt rest (tl Y n1)) (n0 - (j + 1)) (j + 1)))), .int .i64 0])) 59⟩] u2 := M
                  refine hl_val (M.drop (.cons_cons _ (.cons _ (.slnil)))) 0 rfl (by decide) (by kernel_rfl) (by kernel_rfl) (want_no rfl) (some 118) rfl (.pointer (some ⟨g1, 0, none⟩)) (fun _ _ => by kernel_rfl) ?_
                  refine hl_val (M.drop (.cons_cons _ (.cons _ (.slnil)))) 2 rfl (by decide) (by kernel_rfl) (by kernel_rfl) (want_no rfl) (some 120) rfl (.slice l0 n0 k0) (fun _ _ => by kernel_rfl) ?_
                  refine hl_val (M.drop (.cons_cons _ (.cons _ (.slnil)))) 3 rfl (by decide) (by kernel_rfl) (by kernel_rfl) (want_no rfl) (some 121) rfl (.int .i64 (j : Int)) (fun _ _ => by kernel_rfl) ?_
                  refine hl_val (M.drop (.cons_cons _ (.cons _ (.slnil)))) 4 rfl (by decide) (by kernel_rfl) (by kernel_rfl) (want_no rfl) (some 122) rfl (.pointer (some ⟨b0, (o0 + j * 1), none⟩)) (fun w _ => (run_ixK 52 22 1 Try.underlying52 inz22 _ _ rfl l0 b0 o0 n0 k0 (by kernel_rfl) (hl0 (by omega)) .i64 j (by kernel_rfl) (by omega)) w) ?_
                  refine hl_cell (M.drop (.cons_cons _ (.cons _ (.slnil)))) 5 rfl (by decide) (by kernel_rfl) (by kernel_rfl) (want_no rfl) (some 123) rfl 22 _ rfl b0 (o0 + j * 1) (by kernel_rfl) (.int .u64 (X j)) (fun _ => by kernel_rfl) (fun w M => M.oldc (hX j (by omega)) (by simp)) ?_
                  refine hl_one 1 (by decide) (by kernel_rfl) rfl ?_
                  refine pl_callp M (want_no rfl) (some 119) rfl 19 #[.pointer (some ⟨g1, 0, none⟩)] (.int .u64 (X j)) 1 g1 (.cells (av 3 (ls [.bool true, .string (be8 (X j) ++ (be4 (cv .u64 (cv .u32 (X j))) ++ (be2 (cv .u64 (cv .u16 (X j))) ++ rl X (rt rest (tl Y n1)) (n0 - (j + 1)) (j + 1)))), .int .i64 0])) 59) (.cells (av 3 (ls [.bool true, .string (be4 (cv .u64 (cv .u32 (X j))) ++ (be2 (cv .u64 (cv .u16 (X j))) ++ rl X (rt rest (tl Y n1)) (n0 - (j + 1)) (j + 1))), .int .i64 0])) 59) rfl (fun _ => by kernel_rfl) (fun w M => q_U64 g1 (X j) (hX0 j (by omega)).1 (hX0 j (by omega)).2 (be4 (cv .u64 (cv .u32 (X j))) ++ (be2 (cv .u64 (cv .u16 (X j))) ++ rl X (rt rest (tl Y n1)) (n0 - (j + 1)) (j + 1))) w M.laid (M.get 1 rfl)) ?_
                  intro u3 M
                  replace M : Mem ⟨w, []⟩ [⟨g9, Z9⟩, ⟨g1, .cells (av 3 (ls [.bool true, .string (be4 (cv .u64 (cv .u32 (X j))) ++ (be2 (cv .u64 (cv .u16 (X j))) ++ rl X (rt rest (tl Y n1)) (n0 - (j + 1)) (j + 1))), .int .i64 0])) 59⟩] u3 := M
                  refine pl_nil ?_
                  refine au_then ?_
                  refine ⟨(M.drop (.cons_cons _ (.cons _ (.slnil)))), ?_⟩
                  refine hl_val (M.drop (.cons_cons _ (.cons _ (.slnil)))) 6 rfl (by decide) (by kernel_rfl) (by kernel_rfl) (want_no rfl) (some 124) rfl (.bool false) (fun w _ => (fun w => Eq.trans (b := .ok (.value (.bool (!(decide ((X j) = (X j)))))) w) (by kernel_rfl) (by rw [decide_eq_true rfl]; rfl)) w) ?_
                  refine hl_val (M.drop (.cons_cons _ (.cons _ (.slnil)))) 7 rfl (by decide) (by kernel_rfl) (by kernel_rfl) (want_no rfl) (some 125) rfl (.bool false) (fun _ _ => by kernel_rfl) ?_
                  refine hl_val (M.drop (.cons_cons _ (.cons _ (.slnil)))) 8 rfl (by decide) (by kernel_rfl) (by kernel_rfl) (want_on 7 false rfl 125 rfl (by kernel_rfl)) (some 126) rfl (.pointer (some ⟨g1, 0, none⟩)) (fun _ _ => by kernel_rfl) ?_
                  refine hl_val (M.drop (.cons_cons _ (.cons _ (.slnil)))) 10 rfl (by decide) (by kernel_rfl) (by kernel_rfl) (want_on 7 false rfl 125 rfl (by kernel_rfl)) (some 128) rfl (.slice l0 n0 k0) (fun _ _ => by kernel_rfl) ?_
                  refine hl_val (M.drop (.cons_cons _ (.cons _ (.slnil)))) 11 rfl (by decide) (by kernel_rfl) (by kernel_rfl) (want_on 7 false rfl 125 rfl (by kernel_rfl)) (some 129) rfl (.int .i64 (j : Int)) (fun _ _ => by kernel_rfl) ?_
                  refine hl_val (M.drop (.cons_cons _ (.cons _ (.slnil)))) 12 rfl (by decide) (by kernel_rfl) (by kernel_rfl) (want_on 7 false rfl 125 rfl (by kernel_rfl)) (some 130) rfl (.pointer (some ⟨b0, (o0 + j * 1), none⟩)) (fun w _ => (run_ixK 52 22 1 Try.underlying52 inz22 _ _ rfl l0 b0 o0 n0 k0 (by kernel_rfl) (hl0 (by omega)) .i64 j (by kernel_rfl) (by omega)) w) ?_
                  refine hl_cell (M.drop (.cons_cons _ (.cons _ (.slnil)))) 13 rfl (by decide) (by kernel_rfl) (by kernel_rfl) (want_on 7 false rfl 125 rfl (by kernel_rfl)) (some 131) rfl 22 _ rfl b0 (o0 + j * 1) (by kernel_rfl) (.int .u64 (X j)) (fun _ => by kernel_rfl) (fun w M => M.oldc (hX j (by omega)) (by simp)) ?_
                  refine hl_val (M.drop (.cons_cons _ (.cons _ (.slnil)))) 14 rfl (by decide) (by kernel_rfl) (by kernel_rfl) (want_on 7 false rfl 125 rfl (by kernel_rfl)) (some 132) rfl (.int .u32 (cv .u32 (X j))) (fun _ _ => by kernel_rfl) ?_
                  refine hl_one 9 (by decide) (by kernel_rfl) rfl ?_
                  refine pl_callp M (want_on 7 false rfl 125 rfl (by kernel_rfl)) (some 127) rfl 18 #[.pointer (some ⟨g1, 0, none⟩)] (.int .u32 (cv .u32 (X j))) 1 g1 (.cells (av 3 (ls [.bool true, .string (be4 (cv .u64 (cv .u32 (X j))) ++ (be2 (cv .u64 (cv .u16 (X j))) ++ rl X (rt rest (tl Y n1)) (n0 - (j + 1)) (j + 1))), .int .i64 0])) 59) (.cells (av 3 (ls [.bool true, .string (be2 (cv .u64 (cv .u16 (X j))) ++ rl X (rt rest (tl Y n1)) (n0 - (j + 1)) (j + 1)), .int .i64 0])) 59) rfl (fun _ => by kernel_rfl) (fun w M => q_U32 g1 (X j) (be2 (cv .u64 (cv .u16 (X j))) ++ rl X (rt rest (tl Y n1)) (n0 - (j + 1)) (j + 1)) w M.laid (M.get 1 rfl)) ?_
                  intro u4 M
                  replace M : Mem ⟨w, []⟩ [⟨g9, Z9⟩, ⟨g1, .cells (av 3 (ls [.bool true, .string (be2 (cv .u64 (cv .u16 (X j))) ++ rl X (rt rest (tl Y n1)) (n0 - (j + 1)) (j + 1)), .int .i64 0])) 59⟩] u4 := M
                  refine pl_nil ?_
                  refine au_then ?_
                  refine ⟨(M.drop (.cons_cons _ (.cons _ (.slnil)))), ?_⟩
                  refine hl_val (M.drop (.cons_cons _ (.cons _ (.slnil)))) 15 rfl (by decide) (by kernel_rfl) (by kernel_rfl) (want_on 7 false rfl 125 rfl (by kernel_rfl)) (some 133) rfl (.bool false) (fun w _ => (fun w => Eq.trans (b := .ok (.value (.bool (!(decide ((cv .u32 (X j)) = (cv .u32 (X j))))))) w) (by kernel_rfl) (by rw [decide_eq_true rfl]; rfl)) w) ?_
                  refine hl_val (M.drop (.cons_cons _ (.cons _ (.slnil)))) 16 rfl (by decide) (by kernel_rfl) (by kernel_rfl) (want_no rfl) (some 134) rfl (.bool false) (fun _ _ => by kernel_rfl) ?_
                  refine hl_val (M.drop (.cons_cons _ (.cons _ (.slnil)))) 17 rfl (by decide) (by kernel_rfl) (by kernel_rfl) (want_no rfl) (some 135) rfl (.bool false) (fun _ _ => by kernel_rfl) ?_
                  refine hl_val (M.drop (.cons_cons _ (.cons _ (.slnil)))) 18 rfl (by decide) (by kernel_rfl) (by kernel_rfl) (want_on 17 false rfl 135 rfl (by kernel_rfl)) (some 136) rfl (.pointer (some ⟨g1, 0, none⟩)) (fun _ _ => by kernel_rfl) ?_
                  refine hl_val (M.drop (.cons_cons _ (.cons _ (.slnil)))) 20 rfl (by decide) (by kernel_rfl) (by kernel_rfl) (want_on 17 false rfl 135 rfl (by kernel_rfl)) (some 138) rfl (.slice l0 n0 k0) (fun _ _ => by kernel_rfl) ?_
                  refine hl_val (M.drop (.cons_cons _ (.cons _ (.slnil)))) 21 rfl (by decide) (by kernel_rfl) (by kernel_rfl) (want_on 17 false rfl 135 rfl (by kernel_rfl)) (some 139) rfl (.int .i64 (j : Int)) (fun _ _ => by kernel_rfl) ?_
                  refine hl_val (M.drop (.cons_cons _ (.cons _ (.slnil)))) 22 rfl (by decide) (by kernel_rfl) (by kernel_rfl) (want_on 17 false rfl 135 rfl (by kernel_rfl)) (some 140) rfl (.pointer (some ⟨b0, (o0 + j * 1), none⟩)) (fun w _ => (run_ixK 52 22 1 Try.underlying52 inz22 _ _ rfl l0 b0 o0 n0 k0 (by kernel_rfl) (hl0 (by omega)) .i64 j (by kernel_rfl) (by omega)) w) ?_
                  refine hl_cell (M.drop (.cons_cons _ (.cons _ (.slnil)))) 23 rfl (by decide) (by kernel_rfl) (by kernel_rfl) (want_on 17 false rfl 135 rfl (by kernel_rfl)) (some 141) rfl 22 _ rfl b0 (o0 + j * 1) (by kernel_rfl) (.int .u64 (X j)) (fun _ => by kernel_rfl) (fun w M => M.oldc (hX j (by omega)) (by simp)) ?_
                  refine hl_val (M.drop (.cons_cons _ (.cons _ (.slnil)))) 24 rfl (by decide) (by kernel_rfl) (by kernel_rfl) (want_on 17 false rfl 135 rfl (by kernel_rfl)) (some 142) rfl (.int .u16 (cv .u16 (X j))) (fun _ _ => by kernel_rfl) ?_
                  refine hl_one 19 (by decide) (by kernel_rfl) rfl ?_
                  refine pl_callp M (want_on 17 false rfl 135 rfl (by kernel_rfl)) (some 137) rfl 17 #[.pointer (some ⟨g1, 0, none⟩)] (.int .u16 (cv .u16 (X j))) 1 g1 (.cells (av 3 (ls [.bool true, .string (be2 (cv .u64 (cv .u16 (X j))) ++ rl X (rt rest (tl Y n1)) (n0 - (j + 1)) (j + 1)), .int .i64 0])) 59) (.cells (av 3 (ls [.bool true, .string (rl X (rt rest (tl Y n1)) (n0 - (j + 1)) (j + 1)), .int .i64 0])) 59) rfl (fun _ => by kernel_rfl) (fun w M => q_U16 g1 (X j) _ w M.laid (M.get 1 rfl)) ?_
                  intro u5 M
                  replace M : Mem ⟨w, []⟩ [⟨g9, Z9⟩, ⟨g1, .cells (av 3 (ls [.bool true, .string (rl X (rt rest (tl Y n1)) (n0 - (j + 1)) (j + 1)), .int .i64 0])) 59⟩] u5 := M
                  refine pl_nil ?_
                  refine au_then ?_
                  refine ⟨(M.drop (.cons_cons _ (.cons _ (.slnil)))), ?_⟩
                  refine hl_val (M.drop (.cons_cons _ (.cons _ (.slnil)))) 25 rfl (by decide) (by kernel_rfl) (by kernel_rfl) (want_on 17 false rfl 135 rfl (by kernel_rfl)) (some 143) rfl (.bool false) (fun w _ => (fun w => Eq.trans (b := .ok (.value (.bool (!(decide ((cv .u16 (X j)) = (cv .u16 (X j))))))) w) (by kernel_rfl) (by rw [decide_eq_true rfl]; rfl)) w) ?_
                  refine hl_end (by kernel_rfl) (by kernel_rfl) rfl ?_
                  refine pl_val (want_no rfl) (some 144) rfl (.bool false) (fun _ => by kernel_rfl) ?_
                  refine pl_nil ?_
                  refine au_then ?_
                  refine au_then ?_
                  refine wp_cond_false (by kernel_rfl) ?_
                  refine wp_skip ?_
                  refine au_block ?_
                  refine au_then ?_
                  refine rg_lit ?_
                  refine pl_val (want_no rfl) (some 116) rfl (.int .i64 (j : Int)) (fun _ => by kernel_rfl) ?_
                  refine pl_val (want_no rfl) (some 117) rfl (.int .i64 ((j + 1 : Nat) : Int)) (fun w => Eq.trans (b := .ok (.value (.int .i64 (IntKind.wrap .i64 ((j : Int) + 1)))) w) (by kernel_rfl) (by rw [wrap64 (by omega) (by omega)]; congr 3)) ?_
                  refine pl_val (want_no rfl) (some 16) rfl (.int .i64 ((j + 1 : Nat) : Int)) (fun _ => by kernel_rfl) ?_
                  refine pl_nil ?_
                  refine au_then ?_
                  exact ⟨fun k_ => ([v4 6, undef, undef, undef, undef, undef, undef, undef, undef, undef, undef, undef, undef, undef, undef, undef, undef, undef, undef, undef, undef, undef, undef, undef, undef, undef, undef, undef, undef, undef, undef, undef, undef, undef, undef, undef, undef, undef, undef, undef, undef, undef, undef, undef, undef, undef, undef, undef, undef, undef, undef, undef, undef, undef, undef, undef, undef, undef, undef, undef, undef, undef, undef, undef, undef, undef, undef, undef, undef, undef, undef, undef, undef, undef, undef, undef, undef, undef, undef, undef, undef, undef, undef, undef, undef, undef, undef, undef, undef, undef, undef, undef, undef, undef, undef, undef, undef, undef, undef, undef, undef, undef, undef, undef, undef, undef, .int .i64 (j : Int), .slice l0 n0 k0, .int .i64 (n0 : Int), .bool true, .int .i64 (j : Int), .int .i64 ((j + 1 : Nat) : Int), .pointer (some ⟨g1, 0, none⟩), .int .u64 (X j), .slice l0 n0 k0, .int .i64 (j : Int), .pointer (some ⟨b0, (o0 + j * 1), none⟩), .int .u64 (X j), .bool false, .bool false, .pointer (some ⟨g1, 0, none⟩), .int .u32 (cv .u32 (X j)), .slice l0 n0 k0, .int .i64 (j : Int), .pointer (some ⟨b0, (o0 + j * 1), none⟩), .int .u64 (X j), .int .u32 (cv .u32 (X j)), .bool false, .bool false, .bool false, .pointer (some ⟨g1, 0, none⟩), .int .u16 (cv .u16 (X j)), .slice l0 n0 k0, .int .i64 (j : Int), .pointer (some ⟨b0, (o0 + j * 1), none⟩), .int .u64 (X j), .int .u16 (cv .u16 (X j)), .bool false, .bool false] : List Value).getD (k_ - 6) undef, by kernel_rfl, M⟩
                · intro a u0 hI
                  obtain ⟨v4, rfl, M⟩ := hI
                  rw [Nat.sub_self] at M
                  replace M : Mem ⟨w, []⟩ [⟨g9, Z9⟩, ⟨g1, .cells (av 3 (ls [.bool true, .string (rt rest (tl Y n1)), .int .i64 0])) 59⟩] u0 := M
                  refine wp_seq ?_
                  refine wp_seq ?_
                  refine rg_lit ?_
                  refine pl_val (want_no rfl) (some 112) rfl (.int .i64 (n0 : Int)) (fun _ => by kernel_rfl) ?_
                  refine pl_val (want_no rfl) (some 113) rfl (.slice l0 n0 k0) (fun _ => by kernel_rfl) ?_
                  refine pl_val (want_no rfl) (some 114) rfl (.int .i64 (n0 : Int)) (fun _ => by kernel_rfl) ?_
                  refine pl_val (want_no rfl) (some 115) rfl (.bool false) (fun w => Eq.trans (b := .ok (.value (.bool (decide ((n0 : Int) < (n0 : Int))))) w) (by kernel_rfl) (by rw [decide_eq_false (by omega)])) ?_
                  refine pl_nil ?_
                  refine au_then ?_
                  refine wp_cond_false (by kernel_rfl) ?_
                  refine wp_exit ?_
                  refine au_then_exit ?_
                  refine au_then_exit ?_
                  refine au_block_exit ?_
                  refine au_then ?_
                  refine wp_seq ?_
                  refine wp_seq ?_
                  refine rg_lit ?_
                  refine pl_val (want_no rfl) (some 17) rfl (.int .i64 0) (fun _ => by kernel_rfl) ?_
                  refine pl_nil ?_
                  refine au_then ?_
                  refine wp_block ?_
                  refine au_loop (fun j a w' => ∃ v5 : Nat → Value, a = ⟨#[.slice l0 n0 k0, .slice l1 n1 k1, .string rest, undef, undef, undef, v5 6, .int .i64 (sm Y rest n1), .int .i64 (n1 : Int), .string (eT X n0 Y n1), .int .i64 (n0 : Int), .slice (some ⟨g9, 0, none⟩) (tl Y n1).length cap9, .int .i64 (n1 : Int), v3 13, v3 14, .pointer (some ⟨g1, 0, none⟩), .int .i64 (n0 : Int), .int .i64 (j : Int), .string rest, .int .i64 (rest.size : Int), .int .i64 (n1 : Int), .slice l1 n1 k1, .int .i64 (n1 : Int), .bool false, v1 24, v1 25, v1 26, v1 27, v1 28, v1 29, v1 30, v1 31, v1 32, .slice l0 n0 k0, .int .i64 (n0 : Int), .bool false, .bool false, .slice l1 n1 k1, .int .i64 (n1 : Int), .bool false, .bool false, .bool false, .int .i64 (sm Y rest n1), .bool false, .bool false, undef, .int .i64 (n0 : Int), .slice l0 n0 k0, .int .i64 (n0 : Int), .bool false, v2 50, v2 51, v2 52, v2 53, v2 54, v2 55, v2 56, v2 57, v2 58, v2 59, v2 60, v2 61, v2 62, v2 63, v2 64, v2 65, v2 66, v2 67, v2 68, v2 69, v2 70, v2 71, v2 72, .int .i64 (n1 : Int), .slice l1 n1 k1, .int .i64 (n1 : Int), .bool false, v3 77, v3 78, v3 79, v3 80, v3 81, v3 82, v3 83, v3 84, v3 85, v3 86, v3 87, v3 88, v3 89, v3 90, v3 91, v3 92, v3 93, v3 94, v3 95, v3 96, v3 97, v3 98, v3 99, v3 100, v3 101, v3 102, v3 103, v3 104, v3 105, v3 106, v3 107, .string (eT X n0 Y n1), .string rest, .string ((eT X n0 Y n1) ++ rest), .pointer (some ⟨g1, 0, none⟩), .int .i64 (n0 : Int), .slice l0 n0 k0, .int .i64 (n0 : Int), .bool false, v4 116, v4 117, v4 118, v4 119, v4 120, v4 121, v4 122, v4 123, v4 124, v4 125, v4 126, v4 127, v4 128, v4 129, v4 130, v4 131, v4 132, v4 133, v4 134, v4 135, v4 136, v4 137, v4 138, v4 139, v4 140, v4 141, v4 142, v4 143, v4 144, v5 145, v5 146, v5 147, v5 148, v5 149, v5 150, v5 151, v5 152, v5 153, v5 154, v5 155, v5 156, v5 157, undef, undef, undef, undef, undef, undef, undef, undef, undef, undef, undef, undef, undef, undef, undef, undef, undef, undef, undef, undef, undef, undef, undef, undef, undef, undef, undef, undef, undef, undef, undef, undef, undef, undef], []⟩ ∧ Mem ⟨w, []⟩ [⟨g9, Z9⟩, ⟨g1, .cells (av 3 (ls [.bool true, .string (rt rest ((tl Y n1).drop j)), .int .i64 0])) 59⟩] w') (tl Y n1).length ⟨fun k_ => ([v4 6, undef, undef, undef, undef, undef, undef, undef, undef, undef, undef, undef, undef, undef, undef, undef, undef, undef, undef, undef, undef, undef, undef, undef, undef, undef, undef, undef, undef, undef, undef, undef, undef, undef, undef, undef, undef, undef, undef, undef, undef, undef, undef, undef, undef, undef, undef, undef, undef, undef, undef, undef, undef, undef, undef, undef, undef, undef, undef, undef, undef, undef, undef, undef, undef, undef, undef, undef, undef, undef, undef, undef, undef, undef, undef, undef, undef, undef, undef, undef, undef, undef, undef, undef, undef, undef, undef, undef, undef, undef, undef, undef, undef, undef, undef, undef, undef, undef, undef, undef, undef, undef, undef, undef, undef, undef, undef, undef, undef, undef, undef, undef, undef, undef, undef, undef, undef, undef, undef, undef, undef, undef, undef, undef, undef, undef, undef, undef, undef, undef, undef, undef, undef, undef, undef, undef, undef, undef, undef, undef, undef, undef, undef, undef, undef, undef, undef, undef, undef, undef, undef, undef] : List Value).getD (k_ - 6) undef, by kernel_rfl, M⟩ ?_ ?_
                  · intro j a u0 hj hI
                    obtain ⟨v5, rfl, M⟩ := hI
                    have hTl := tl_len Y n1
                    rw [rt_step rest (tl Y n1) j hj] at M
                    replace M : Mem ⟨w, []⟩ [⟨g9, Z9⟩, ⟨g1, .cells (av 3 (ls [.bool true, .string (wt (tg (tl Y n1) j) ++ rt rest ((tl Y n1).drop (j + 1))), .int .i64 0])) 59⟩] u0 := M
                    refine wp_seq ?_
                    refine wp_seq ?_
                    refine rg_lit ?_
                    refine pl_val (want_no rfl) (some 145) rfl (.int .i64 (j : Int)) (fun _ => by kernel_rfl) ?_
                    refine pl_val (want_no rfl) (some 146) rfl (.slice (some ⟨g9, 0, none⟩) (tl Y n1).length cap9) (fun _ => by kernel_rfl) ?_
                    refine pl_val (want_no rfl) (some 147) rfl (.int .i64 (((tl Y n1).length : Nat) : Int)) (fun _ => by kernel_rfl) ?_
                    refine pl_val (want_no rfl) (some 148) rfl (.bool true) (fun w => Eq.trans (b := .ok (.value (.bool (decide ((j : Int) < (((tl Y n1).length : Nat) : Int))))) w) (by kernel_rfl) (by rw [decide_eq_true (by omega)])) ?_
                    refine pl_nil ?_
                    refine au_then ?_
                    refine wp_cond_true (by kernel_rfl) ?_
                    refine wp_skip ?_
                    refine au_then ?_
                    refine wp_seq ?_
                    refine wp_block ?_
                    refine wp_seq ?_
                    refine rg_held M [⟨g9, Z9⟩] 6 rfl (by kernel_rfl) (by kernel_rfl) (fun _ _ d _ _ h => by cases d <;> exact h) ?_
                    intro u2 M
                    replace M : Mem ⟨w, []⟩ [⟨g9, Z9⟩, ⟨g1, .cells (av 3 (ls [.bool true, .string (wt (tg (tl Y n1) j) ++ rt rest ((tl Y n1).drop (j + 1))), .int .i64 0])) 59⟩] u2 := M
                    refine hl_val (M.drop (.cons_cons _ (.cons _ (.slnil)))) 0 rfl (by decide) (by kernel_rfl) (by kernel_rfl) (want_no rfl) (some 151) rfl (.pointer (some ⟨g1, 0, none⟩)) (fun _ _ => by kernel_rfl) ?_
                    refine hl_val (M.drop (.cons_cons _ (.cons _ (.slnil)))) 2 rfl (by decide) (by kernel_rfl) (by kernel_rfl) (want_no rfl) (some 153) rfl (.slice (some ⟨g9, 0, none⟩) (tl Y n1).length cap9) (fun _ _ => by kernel_rfl) ?_
                    refine hl_val (M.drop (.cons_cons _ (.cons _ (.slnil)))) 3 rfl (by decide) (by kernel_rfl) (by kernel_rfl) (want_no rfl) (some 154) rfl (.int .i64 (j : Int)) (fun _ _ => by kernel_rfl) ?_
                    refine hl_val (M.drop (.cons_cons _ (.cons _ (.slnil)))) 4 rfl (by decide) (by kernel_rfl) (by kernel_rfl) (want_no rfl) (some 155) rfl (.pointer (some ⟨g9, j, none⟩)) (fun w _ => (run_ix0 53 9 Try.underlying53 inz9 _ _ rfl g9 ((tl Y n1).length) cap9 (by kernel_rfl) .i64 j (by kernel_rfl) (by omega)) w) ?_
                    refine hl_cell (M.drop (.cons_cons _ (.cons _ (.slnil)))) 5 rfl (by decide) (by kernel_rfl) (by kernel_rfl) (want_no rfl) (some 156) rfl 9 _ rfl g9 j (by kernel_rfl) (.string (tg (tl Y n1) j)) (fun _ => by kernel_rfl) (fun w M => hZ9.cell (M.get 0 rfl) (vS_at _ _ (by omega))) ?_
                    refine hl_one 1 (by decide) (by kernel_rfl) rfl ?_
                    refine pl_callp M (want_no rfl) (some 152) rfl 22 #[.pointer (some ⟨g1, 0, none⟩)] (.string (tg (tl Y n1) j)) 1 g1 (.cells (av 3 (ls [.bool true, .string (wt (tg (tl Y n1) j) ++ rt rest ((tl Y n1).drop (j + 1))), .int .i64 0])) 59) (.cells (av 3 (ls [.bool true, .string (rt rest ((tl Y n1).drop (j + 1))), .int .i64 0])) 59) rfl (fun _ => by kernel_rfl) (fun w M => q_Text g1 (tg (tl Y n1) j) (tl_le Y n1 _ (tg_mem _ j hj)) _ w M.laid (M.get 1 rfl)) ?_
                    intro u3 M
                    replace M : Mem ⟨w, []⟩ [⟨g9, Z9⟩, ⟨g1, .cells (av 3 (ls [.bool true, .string (rt rest ((tl Y n1).drop (j + 1))), .int .i64 0])) 59⟩] u3 := M
                    refine pl_nil ?_
                    refine au_then ?_
                    refine ⟨(M.drop (.cons_cons _ (.cons _ (.slnil)))), ?_⟩
                    refine hl_end (by kernel_rfl) (by kernel_rfl) rfl ?_
                    refine pl_val (want_no rfl) (some 157) rfl (.bool false) (fun w => Eq.trans (b := .ok (.value (.bool (!((tg (tl Y n1) j).toList == (tg (tl Y n1) j).toList)))) w) (by kernel_rfl) (by rw [beq_self_eq_true]; rfl)) ?_
                    refine pl_nil ?_
                    refine au_then ?_
                    refine au_then ?_
                    refine wp_cond_false (by kernel_rfl) ?_
                    refine wp_skip ?_
                    refine au_block ?_
                    refine au_then ?_
                    refine rg_lit ?_
                    refine pl_val (want_no rfl) (some 149) rfl (.int .i64 (j : Int)) (fun _ => by kernel_rfl) ?_
                    refine pl_val (want_no rfl) (some 150) rfl (.int .i64 ((j + 1 : Nat) : Int)) (fun w => Eq.trans (b := .ok (.value (.int .i64 (IntKind.wrap .i64 ((j : Int) + 1)))) w) (by kernel_rfl) (by rw [wrap64 (by omega) (by omega)]; congr 3)) ?_
                    refine pl_val (want_no rfl) (some 17) rfl (.int .i64 ((j + 1 : Nat) : Int)) (fun _ => by kernel_rfl) ?_
                    refine pl_nil ?_
                    refine au_then ?_
                    exact ⟨fun k_ => ([v5 6, undef, undef, undef, undef, undef, undef, undef, undef, undef, undef, undef, undef, undef, undef, undef, undef, undef, undef, undef, undef, undef, undef, undef, undef, undef, undef, undef, undef, undef, undef, undef, undef, undef, undef, undef, undef, undef, undef, undef, undef, undef, undef, undef, undef, undef, undef, undef, undef, undef, undef, undef, undef, undef, undef, undef, undef, undef, undef, undef, undef, undef, undef, undef, undef, undef, undef, undef, undef, undef, undef, undef, undef, undef, undef, undef, undef, undef, undef, undef, undef, undef, undef, undef, undef, undef, undef, undef, undef, undef, undef, undef, undef, undef, undef, undef, undef, undef, undef, undef, undef, undef, undef, undef, undef, undef, undef, undef, undef, undef, undef, undef, undef, undef, undef, undef, undef, undef, undef, undef, undef, undef, undef, undef, undef, undef, undef, undef, undef, undef, undef, undef, undef, undef, undef, undef, undef, undef, undef, .int .i64 (j : Int), .slice (some ⟨g9, 0, none⟩) (tl Y n1).length cap9, .int .i64 (((tl Y n1).length : Nat) : Int), .bool true, .int .i64 (j : Int), .int .i64 ((j + 1 : Nat) : Int), .pointer (some ⟨g1, 0, none⟩), .string (tg (tl Y n1) j), .slice (some ⟨g9, 0, none⟩) (tl Y n1).length cap9, .int .i64 (j : Int), .pointer (some ⟨g9, j, none⟩), .string (tg (tl Y n1) j), .bool false] : List Value).getD (k_ - 6) undef, by kernel_rfl, M⟩
                  · intro a u0 hI
                    obtain ⟨v5, rfl, M⟩ := hI
                    have hTl := tl_len Y n1
                    rw [rt_end] at M
                    replace M : Mem ⟨w, []⟩ [⟨g9, Z9⟩, ⟨g1, .cells (av 3 (ls [.bool true, .string rest, .int .i64 0])) 59⟩] u0 := M
                    refine wp_seq ?_
                    refine wp_seq ?_
                    refine rg_lit ?_
                    refine pl_val (want_no rfl) (some 145) rfl (.int .i64 (((tl Y n1).length : Nat) : Int)) (fun _ => by kernel_rfl) ?_
                    refine pl_val (want_no rfl) (some 146) rfl (.slice (some ⟨g9, 0, none⟩) (tl Y n1).length cap9) (fun _ => by kernel_rfl) ?_
                    refine pl_val (want_no rfl) (some 147) rfl (.int .i64 (((tl Y n1).length : Nat) : Int)) (fun _ => by kernel_rfl) ?_
                    refine pl_val (want_no rfl) (some 148) rfl (.bool false) (fun w => Eq.trans (b := .ok (.value (.bool (decide ((((tl Y n1).length : Nat) : Int) < (((tl Y n1).length : Nat) : Int))))) w) (by kernel_rfl) (by rw [decide_eq_false (by omega)])) ?_
                    refine pl_nil ?_
                    refine au_then ?_
                    refine wp_cond_false (by kernel_rfl) ?_
                    refine wp_exit ?_
                    refine au_then_exit ?_
                    refine au_then_exit ?_
                    refine au_block_exit ?_
                    refine au_then ?_
                    refine wp_seq ?_
                    refine rg_lit ?_
                    refine pl_val (want_no rfl) (some 158) rfl (.pointer (some ⟨g1, 0, none⟩)) (fun _ => by kernel_rfl) ?_
                    refine pl_call M (want_no rfl) (some 159) rfl 24 #[.pointer (some ⟨g1, 0, none⟩)] (.int .i64 (rest.size : Int)) (fun _ => by kernel_rfl) (fun w M => c_Left g1 rest 0 w M.laid (M.get 1 rfl)) ?_
                    intro u2 M
                    refine pl_val (want_no rfl) (some 160) rfl (.string rest) (fun _ => by kernel_rfl) ?_
                    refine pl_val (want_no rfl) (some 161) rfl (.int .i64 (rest.size : Int)) (fun _ => by kernel_rfl) ?_
                    refine pl_val (want_no rfl) (some 162) rfl (.bool true) (fun w => Eq.trans (b := .ok (.value (.bool (decide ((rest.size : Int) = (rest.size : Int))))) w) (by kernel_rfl) (by rw [decide_eq_true (by omega)])) ?_
                    refine pl_val (want_no rfl) (some 163) rfl (.bool true) (fun _ => by kernel_rfl) ?_
                    refine pl_val (want_on 5 true rfl 163 rfl (by kernel_rfl)) (some 164) rfl (.pointer (some ⟨g1, 0, none⟩)) (fun _ => by kernel_rfl) ?_
                    refine pl_call M (want_on 5 true rfl 163 rfl (by kernel_rfl)) (some 165) rfl 25 #[.pointer (some ⟨g1, 0, none⟩)] (.int .i64 0) (fun _ => by kernel_rfl) (fun w M => c_Fault g1 rest 0 w M.laid (M.get 1 rfl)) ?_
                    intro u3 M
                    refine pl_val (want_on 5 true rfl 163 rfl (by kernel_rfl)) (some 166) rfl (.bool true) (fun _ => by kernel_rfl) ?_
                    refine pl_val (want_no rfl) (some 167) rfl (.bool true) (fun _ => by kernel_rfl) ?_
                    refine pl_val (want_no rfl) (some 168) rfl (.bool true) (fun _ => by kernel_rfl) ?_
                    refine pl_val (want_on 10 true rfl 168 rfl (by kernel_rfl)) (some 169) rfl (.pointer (some ⟨g1, 0, none⟩)) (fun _ => by kernel_rfl) ?_
                    by_cases c4 : rest = (⟨#[]⟩ : ByteArray)
                    · skip
                      refine pl_call M (want_on 10 true rfl 168 rfl (by kernel_rfl)) (some 170) rfl 26 #[.pointer (some ⟨g1, 0, none⟩)] (.int .i64 0) (fun _ => by kernel_rfl) (fun w M => call_val (c_End g1 rest 0 w M.laid (M.get 1 rfl)) (by rw [enF, if_pos rfl, if_pos c4])) ?_
                      intro u4 M
                      refine pl_val (want_on 10 true rfl 168 rfl (by kernel_rfl)) (some 171) rfl (.bool true) (fun _ => by kernel_rfl) ?_
                      refine pl_val (want_on 10 true rfl 168 rfl (by kernel_rfl)) (some 172) rfl (.string rest) (fun _ => by kernel_rfl) ?_
                      refine pl_val (want_on 10 true rfl 168 rfl (by kernel_rfl)) (some 173) rfl (.bool true) (fun w => Eq.trans (b := .ok (.value (.bool (rest.toList == (⟨#[]⟩ : ByteArray).toList))) w) (by kernel_rfl) (by rw [seq_pos c4])) ?_
                      refine pl_val (want_on 10 true rfl 168 rfl (by kernel_rfl)) (some 174) rfl (.bool true) (fun _ => by kernel_rfl) ?_
                      refine pl_val (want_no rfl) (some 175) rfl (.bool true) (fun _ => by kernel_rfl) ?_
                      refine pl_val (want_no rfl) (some 176) rfl (.bool true) (fun _ => by kernel_rfl) ?_
                      refine pl_val (want_on 18 true rfl 176 rfl (by kernel_rfl)) (some 177) rfl (.pointer (some ⟨g1, 0, none⟩)) (fun _ => by kernel_rfl) ?_
                      refine pl_val (want_on 18 true rfl 176 rfl (by kernel_rfl)) (some 178) rfl (.string rest) (fun _ => by kernel_rfl) ?_
                      refine pl_val (want_on 18 true rfl 176 rfl (by kernel_rfl)) (some 179) rfl (.int .i64 (rest.size : Int)) (fun _ => by kernel_rfl) ?_
                      refine pl_callp M (want_on 18 true rfl 176 rfl (by kernel_rfl)) (some 180) rfl 20 #[.pointer (some ⟨g1, 0, none⟩), .int .i64 (rest.size : Int)] (.string rest) 1 g1 (.cells (av 3 (ls [.bool true, .string rest, .int .i64 0])) 59) (.cells (av 3 (ls [.bool true, .string ⟨#[]⟩, .int .i64 0])) 59) rfl (fun _ => by kernel_rfl) (fun w M => q_Take g1 rest w M.laid (M.get 1 rfl)) ?_
                      intro u5 M
                      replace M : Mem ⟨w, []⟩ [⟨g9, Z9⟩, ⟨g1, .cells (av 3 (ls [.bool true, .string ⟨#[]⟩, .int .i64 0])) 59⟩] u5 := M
                      refine pl_val (want_on 18 true rfl 176 rfl (by kernel_rfl)) (some 181) rfl (.string rest) (fun _ => by kernel_rfl) ?_
                      refine pl_val (want_on 18 true rfl 176 rfl (by kernel_rfl)) (some 182) rfl (.bool true) (fun w => Eq.trans (b := .ok (.value (.bool (rest.toList == rest.toList))) w) (by kernel_rfl) (by rw [beq_self_eq_true])) ?_
                      refine pl_val (want_no rfl) (some 183) rfl (.bool true) (fun _ => by kernel_rfl) ?_
                      refine pl_val (want_no rfl) (some 184) rfl (.bool true) (fun _ => by kernel_rfl) ?_
                      refine pl_val (want_on 26 true rfl 184 rfl (by kernel_rfl)) (some 185) rfl (.pointer (some ⟨g1, 0, none⟩)) (fun _ => by kernel_rfl) ?_
                      refine pl_call M (want_on 26 true rfl 184 rfl (by kernel_rfl)) (some 186) rfl 26 #[.pointer (some ⟨g1, 0, none⟩)] (.int .i64 0) (fun _ => by kernel_rfl) (fun w M => call_val (c_End g1 ⟨#[]⟩ 0 w M.laid (M.get 1 rfl)) (by kernel_rfl)) ?_
                      intro u6 M
                      refine pl_val (want_on 26 true rfl 184 rfl (by kernel_rfl)) (some 187) rfl (.bool true) (fun _ => by kernel_rfl) ?_
                      refine pl_val (want_no rfl) (some 188) rfl (.bool true) (fun _ => by kernel_rfl) ?_
                      refine pl_val (want_no rfl) (some 189) rfl (.bool true) (fun _ => by kernel_rfl) ?_
                      refine pl_call M (want_on 31 true rfl 189 rfl (by kernel_rfl)) (some 190) rfl 7 #[] (.bool true) (fun _ => by kernel_rfl) (fun w M => c_works w M.laid) ?_
                      intro u7 M
                      refine pl_val (want_no rfl) (some 191) rfl (.bool true) (fun _ => by kernel_rfl) ?_
                      refine pl_val (want_no rfl) (some 6) rfl (.bool true) (fun _ => by kernel_rfl) ?_
                      refine pl_nil ?_
                      refine au_then ?_
                      refine wp_ret ?_
                      exact bodyPost_ret (v := .bool true) (results_tmp1 Try.results5 _ _ _ (by kernel_rfl)) (by kernel_rfl) ⟨rfl, below_grown M.old⟩
                    · skip
                      refine pl_call M (want_on 10 true rfl 168 rfl (by kernel_rfl)) (some 170) rfl 26 #[.pointer (some ⟨g1, 0, none⟩)] (.int .i64 8) (fun _ => by kernel_rfl) (fun w M => call_val (c_End g1 rest 0 w M.laid (M.get 1 rfl)) (by rw [enF, if_pos rfl, if_neg c4])) ?_
                      intro u4 M
                      refine pl_val (want_on 10 true rfl 168 rfl (by kernel_rfl)) (some 171) rfl (.bool false) (fun _ => by kernel_rfl) ?_
                      refine pl_val (want_on 10 true rfl 168 rfl (by kernel_rfl)) (some 172) rfl (.string rest) (fun _ => by kernel_rfl) ?_
                      refine pl_val (want_on 10 true rfl 168 rfl (by kernel_rfl)) (some 173) rfl (.bool false) (fun w => Eq.trans (b := .ok (.value (.bool (rest.toList == (⟨#[]⟩ : ByteArray).toList))) w) (by kernel_rfl) (by rw [seq_neg c4])) ?_
                      refine pl_val (want_on 10 true rfl 168 rfl (by kernel_rfl)) (some 174) rfl (.bool true) (fun _ => by kernel_rfl) ?_
                      refine pl_val (want_no rfl) (some 175) rfl (.bool true) (fun _ => by kernel_rfl) ?_
                      refine pl_val (want_no rfl) (some 176) rfl (.bool true) (fun _ => by kernel_rfl) ?_
                      refine pl_val (want_on 18 true rfl 176 rfl (by kernel_rfl)) (some 177) rfl (.pointer (some ⟨g1, 0, none⟩)) (fun _ => by kernel_rfl) ?_
                      refine pl_val (want_on 18 true rfl 176 rfl (by kernel_rfl)) (some 178) rfl (.string rest) (fun _ => by kernel_rfl) ?_
                      refine pl_val (want_on 18 true rfl 176 rfl (by kernel_rfl)) (some 179) rfl (.int .i64 (rest.size : Int)) (fun _ => by kernel_rfl) ?_
                      refine pl_callp M (want_on 18 true rfl 176 rfl (by kernel_rfl)) (some 180) rfl 20 #[.pointer (some ⟨g1, 0, none⟩), .int .i64 (rest.size : Int)] (.string rest) 1 g1 (.cells (av 3 (ls [.bool true, .string rest, .int .i64 0])) 59) (.cells (av 3 (ls [.bool true, .string ⟨#[]⟩, .int .i64 0])) 59) rfl (fun _ => by kernel_rfl) (fun w M => q_Take g1 rest w M.laid (M.get 1 rfl)) ?_
                      intro u5 M
                      replace M : Mem ⟨w, []⟩ [⟨g9, Z9⟩, ⟨g1, .cells (av 3 (ls [.bool true, .string ⟨#[]⟩, .int .i64 0])) 59⟩] u5 := M
                      refine pl_val (want_on 18 true rfl 176 rfl (by kernel_rfl)) (some 181) rfl (.string rest) (fun _ => by kernel_rfl) ?_
                      refine pl_val (want_on 18 true rfl 176 rfl (by kernel_rfl)) (some 182) rfl (.bool true) (fun w => Eq.trans (b := .ok (.value (.bool (rest.toList == rest.toList))) w) (by kernel_rfl) (by rw [beq_self_eq_true])) ?_
                      refine pl_val (want_no rfl) (some 183) rfl (.bool true) (fun _ => by kernel_rfl) ?_
                      refine pl_val (want_no rfl) (some 184) rfl (.bool true) (fun _ => by kernel_rfl) ?_
                      refine pl_val (want_on 26 true rfl 184 rfl (by kernel_rfl)) (some 185) rfl (.pointer (some ⟨g1, 0, none⟩)) (fun _ => by kernel_rfl) ?_
                      refine pl_call M (want_on 26 true rfl 184 rfl (by kernel_rfl)) (some 186) rfl 26 #[.pointer (some ⟨g1, 0, none⟩)] (.int .i64 0) (fun _ => by kernel_rfl) (fun w M => call_val (c_End g1 ⟨#[]⟩ 0 w M.laid (M.get 1 rfl)) (by kernel_rfl)) ?_
                      intro u6 M
                      refine pl_val (want_on 26 true rfl 184 rfl (by kernel_rfl)) (some 187) rfl (.bool true) (fun _ => by kernel_rfl) ?_
                      refine pl_val (want_no rfl) (some 188) rfl (.bool true) (fun _ => by kernel_rfl) ?_
                      refine pl_val (want_no rfl) (some 189) rfl (.bool true) (fun _ => by kernel_rfl) ?_
                      refine pl_call M (want_on 31 true rfl 189 rfl (by kernel_rfl)) (some 190) rfl 7 #[] (.bool true) (fun _ => by kernel_rfl) (fun w M => c_works w M.laid) ?_
                      intro u7 M
                      refine pl_val (want_no rfl) (some 191) rfl (.bool true) (fun _ => by kernel_rfl) ?_
                      refine pl_val (want_no rfl) (some 6) rfl (.bool true) (fun _ => by kernel_rfl) ?_
                      refine pl_nil ?_
                      refine au_then ?_
                      refine wp_ret ?_
                      exact bodyPost_ret (v := .bool true) (results_tmp1 Try.results5 _ _ _ (by kernel_rfl)) (by kernel_rfl) ⟨rfl, below_grown M.old⟩


end Go.Proofs.Ytoiodkhmkkhjcaa
