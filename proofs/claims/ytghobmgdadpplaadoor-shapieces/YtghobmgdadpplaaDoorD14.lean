/- The walk of ShaPieces. -/
import Derived.Test.YtghobmgdadpplaaDoorD12
namespace Go.Proofs.YtghobmgdadpplaaDoor
open Go.RowKit

theorem run_ixO {P : Program} {a : Act} {o : Oper} (t : TypeId) (elem : TypeId) (hu : P.underlying t = some (.slice elem)) (hs : (P.info? elem).map (·.size) = some 1) (x ix : Operand) (ho : o.op = .indexAddr t x ix) (l : Option Addr) (b off len cap : Nat) (hl : l = some ⟨b, off, none⟩) (hx : a.eval x = .slice l len cap) (k : IntKind) (i : Nat) (hi : a.eval ix = .int k (i : Int)) (hlt : i < len) (w : World) :
    (execOp a.eval o).run P w = .ok (.value (.pointer (some ⟨b, off + i, none⟩))) w := by
  subst hl
  exact run_ixL t elem hu hs x ix ho b off len cap hx k i hi hlt w
theorem sum_of (A : ByteArray) : sumV (tk hs0 A A.size) = ofV A := rfl
theorem rem5 (n : Nat) : Int.tmod (n : Int) 5 = ((n % 5 : Nat) : Int) := by
  rw [Int.tmod_eq_emod_of_nonneg (by omega)]
  omega

set_option maxRecDepth 100000 in
set_option maxHeartbeats 4000000 in
theorem c_shapieces (l : Option Addr) (b o len cap : Nat) (Ss : Nat → ByteArray) (w : World) (hL : Laid w) (hll : 0 < len → l = some ⟨b, o, none⟩) (hS : ∀ j, j < len → w.cell? ⟨b, o + j, none⟩ = some (.string (Ss j))) :
    Calls Tryd.prog 5 #[.slice l len cap] w fun r w' => r = .returned (.bool true) ∧ Below w.heap.size w w' := by
  go_enter Tryd.func5, Tryd.ntmps5
  have M := Mem.start hL
  obtain ⟨NN, hN⟩ : ∃ NN, NN = min len 40 := ⟨_, rfl⟩
  refine wp_seq ?_
  refine rg_lit ?_
  refine pl_val (want_no rfl) (some 2) rfl (.bool false) (fun _ => by kernel_rfl) ?_
  refine pl_nil ?_
  refine au_then ?_
  refine wp_seq ?_
  refine rg_lit ?_
  refine pl_calln M (want_no rfl) (some 6) rfl 13 #[] (fun g1 => .pointer (some ⟨g1, 0, none⟩)) (.cells (av 138 (hF true hs0.ws hs0.rs hs0.ct)) 47) (fun _ => by kernel_rfl) (fun w M => c_new w M.laid) ?_
  intro g1 u1 M
  replace M : Mem ⟨w, none⟩ [⟨g1, .cells (av 138 (hF true hs0.ws hs0.rs hs0.ct)) 47⟩] u1 := M
  refine pl_val (want_no rfl) (some 3) rfl (.pointer (some ⟨g1, 0, none⟩)) (fun _ => by kernel_rfl) ?_
  refine pl_nil ?_
  refine au_then ?_
  refine wp_seq ?_
  refine rg_lit ?_
  refine pl_val (want_no rfl) (some 4) rfl (.string ⟨#[]⟩) (fun _ => by kernel_rfl) ?_
  refine pl_nil ?_
  refine au_then ?_
  refine wp_seq ?_
  refine wp_seq ?_
  refine rg_lit ?_
  refine pl_val (want_no rfl) (some 5) rfl (.int .i64 0) (fun _ => by kernel_rfl) ?_
  refine pl_nil ?_
  refine au_then ?_
  refine wp_block ?_
  replace M : Mem ⟨w, none⟩ [⟨g1, .cells (av 138 (hF true (tk hs0 strE strE.size).ws (tk hs0 strE strE.size).rs (tk hs0 strE strE.size).ct)) 47⟩] u1 := M
  refine au_loop (fun j a w' => ∃ (v : Nat → Value) (A : ByteArray), A.size ≤ 2548 ∧ a = ⟨#[.slice l len cap, undef, v 2, .pointer (some ⟨g1, 0, none⟩), .string A, .int .i64 (j : Int), .pointer (some ⟨g1, 0, none⟩), v 7, v 8, v 9, v 10, v 11, v 12, v 13, v 14, v 15, v 16, v 17, v 18, v 19, v 20, v 21, v 22, v 23, v 24, v 25, v 26, v 27, v 28, v 29, v 30, v 31, v 32, v 33, v 34, v 35, v 36, v 37, v 38, v 39, v 40, v 41, v 42, v 43, v 44, v 45, v 46, v 47, v 48, v 49, v 50, v 51, undef, undef, undef, undef, undef, undef, undef, undef, undef, undef, undef, undef, undef, undef, undef], []⟩ ∧ Mem ⟨w, none⟩ [⟨g1, .cells (av 138 (hF true (tk hs0 A A.size).ws (tk hs0 A A.size).rs (tk hs0 A A.size).ct)) 47⟩] w') NN ⟨fun k_ => ([.bool false, undef, undef, undef, undef, undef, undef, undef, undef, undef, undef, undef, undef, undef, undef, undef, undef, undef, undef, undef, undef, undef, undef, undef, undef, undef, undef, undef, undef, undef, undef, undef, undef, undef, undef, undef, undef, undef, undef, undef, undef, undef, undef, undef, undef, undef, undef, undef, undef, undef] : List Value).getD (k_ - 2) undef, strE, by decide, by kernel_rfl, M⟩ ?_ ?_
  · intro j a u0 hj hI
    obtain ⟨v, A, hA, rfl, M⟩ := hI
    have hjl : j < len := by omega
    have hl := hll (by omega)
    by_cases h1 : 500 < (Ss j).size
    · skip
      refine wp_seq ?_
      refine wp_seq ?_
      refine rg_lit ?_
      refine pl_val (want_no rfl) (some 7) rfl (.int .i64 (j : Int)) (fun _ => by kernel_rfl) ?_
      refine pl_val (want_no rfl) (some 8) rfl (.slice l len cap) (fun _ => by kernel_rfl) ?_
      refine pl_val (want_no rfl) (some 9) rfl (.int .i64 (len : Int)) (fun _ => by kernel_rfl) ?_
      refine pl_val (want_no rfl) (some 10) rfl (.bool true) (fun w => Eq.trans (b := .ok (.value (.bool (decide ((j : Int) < (len : Int))))) w) (by kernel_rfl) (by rw [decide_eq_true (by omega)])) ?_
      refine pl_val (want_no rfl) (some 11) rfl (.bool true) (fun _ => by kernel_rfl) ?_
      refine pl_val (want_on 4 true rfl 11 rfl (by kernel_rfl)) (some 12) rfl (.int .i64 (j : Int)) (fun _ => by kernel_rfl) ?_
      refine pl_val (want_on 4 true rfl 11 rfl (by kernel_rfl)) (some 13) rfl (.bool true) (fun w => Eq.trans (b := .ok (.value (.bool (decide ((j : Int) < 40)))) w) (by kernel_rfl) (by rw [decide_eq_true (by omega)])) ?_
      refine pl_val (want_no rfl) (some 14) rfl (.bool true) (fun _ => by kernel_rfl) ?_
      refine pl_nil ?_
      refine au_then ?_
      refine wp_cond_true (by kernel_rfl) ?_
      refine wp_skip ?_
      refine au_then ?_
      refine wp_seq ?_
      refine wp_block ?_
      refine wp_seq ?_
      refine wp_seq ?_
      refine rg_lit ?_
      refine pl_val (want_no rfl) (some 17) rfl (.slice l len cap) (fun _ => by kernel_rfl) ?_
      refine pl_val (want_no rfl) (some 18) rfl (.int .i64 (j : Int)) (fun _ => by kernel_rfl) ?_
      refine pl_val (want_no rfl) (some 19) rfl (.pointer (some ⟨b, o + j, none⟩)) (run_ixO 33 9 Tryd.underlying33 inz9 _ _ rfl l b o len cap hl (by kernel_rfl) .i64 j (by kernel_rfl) hjl) ?_
      refine pl_cell M (want_no rfl) (some 20) rfl 9 _ rfl b (o + j) (by kernel_rfl) (.string (Ss j)) (fun _ => by kernel_rfl) (fun w M => M.oldc (hS j hjl) (by simp)) ?_
      refine pl_val (want_no rfl) (some 21) rfl (.int .i64 ((Ss j).size : Int)) (fun _ => by kernel_rfl) ?_
      refine pl_val (want_no rfl) (some 22) rfl (.bool true) (fun w => Eq.trans (b := .ok (.value (.bool (decide ((500 : Int) < ((Ss j).size : Int))))) w) (by kernel_rfl) (by rw [decide_eq_true (by omega)])) ?_
      refine pl_val (want_no rfl) (some 23) rfl (.bool true) (fun _ => by kernel_rfl) ?_
      refine pl_skip (want_off 6 false rfl 23 rfl (by kernel_rfl)) (some 24) rfl ?_
      refine pl_skip (want_off 6 false rfl 23 rfl (by kernel_rfl)) (some 25) rfl ?_
      refine pl_skip (want_off 6 false rfl 23 rfl (by kernel_rfl)) (some 26) rfl ?_
      refine pl_val (want_no rfl) (some 27) rfl (.bool true) (fun _ => by kernel_rfl) ?_
      refine pl_nil ?_
      refine au_then ?_
      refine wp_cond_true (by kernel_rfl) ?_
      refine wp_seq ?_
      refine rg_lit ?_
      refine pl_call M (want_no rfl) (some 28) rfl 7 #[] (.bool true) (fun _ => by kernel_rfl) (fun w M => c_alive w M.laid) ?_
      intro u2 M
      refine pl_val (want_no rfl) (some 2) rfl (.bool true) (fun _ => by kernel_rfl) ?_
      refine pl_nil ?_
      refine au_then ?_
      refine wp_ret ?_
      refine au_then_ret ?_
      refine au_block_ret ?_
      refine au_then_ret ?_
      refine au_then_ret ?_
      refine au_block_ret ?_
      refine au_then_ret ?_
      exact bodyPost_ret (v := .bool true) (results_tmp1 Tryd.results5 _ _ _ (by kernel_rfl)) (by kernel_rfl) ⟨rfl, below_grown M.old⟩
    · by_cases h2 : 2048 < A.size
      · skip
        refine wp_seq ?_
        refine wp_seq ?_
        refine rg_lit ?_
        refine pl_val (want_no rfl) (some 7) rfl (.int .i64 (j : Int)) (fun _ => by kernel_rfl) ?_
        refine pl_val (want_no rfl) (some 8) rfl (.slice l len cap) (fun _ => by kernel_rfl) ?_
        refine pl_val (want_no rfl) (some 9) rfl (.int .i64 (len : Int)) (fun _ => by kernel_rfl) ?_
        refine pl_val (want_no rfl) (some 10) rfl (.bool true) (fun w => Eq.trans (b := .ok (.value (.bool (decide ((j : Int) < (len : Int))))) w) (by kernel_rfl) (by rw [decide_eq_true (by omega)])) ?_
        refine pl_val (want_no rfl) (some 11) rfl (.bool true) (fun _ => by kernel_rfl) ?_
        refine pl_val (want_on 4 true rfl 11 rfl (by kernel_rfl)) (some 12) rfl (.int .i64 (j : Int)) (fun _ => by kernel_rfl) ?_
        refine pl_val (want_on 4 true rfl 11 rfl (by kernel_rfl)) (some 13) rfl (.bool true) (fun w => Eq.trans (b := .ok (.value (.bool (decide ((j : Int) < 40)))) w) (by kernel_rfl) (by rw [decide_eq_true (by omega)])) ?_
        refine pl_val (want_no rfl) (some 14) rfl (.bool true) (fun _ => by kernel_rfl) ?_
        refine pl_nil ?_
        refine au_then ?_
        refine wp_cond_true (by kernel_rfl) ?_
        refine wp_skip ?_
        refine au_then ?_
        refine wp_seq ?_
        refine wp_block ?_
        refine wp_seq ?_
        refine wp_seq ?_
        refine rg_lit ?_
        refine pl_val (want_no rfl) (some 17) rfl (.slice l len cap) (fun _ => by kernel_rfl) ?_
        refine pl_val (want_no rfl) (some 18) rfl (.int .i64 (j : Int)) (fun _ => by kernel_rfl) ?_
        refine pl_val (want_no rfl) (some 19) rfl (.pointer (some ⟨b, o + j, none⟩)) (run_ixO 33 9 Tryd.underlying33 inz9 _ _ rfl l b o len cap hl (by kernel_rfl) .i64 j (by kernel_rfl) hjl) ?_
        refine pl_cell M (want_no rfl) (some 20) rfl 9 _ rfl b (o + j) (by kernel_rfl) (.string (Ss j)) (fun _ => by kernel_rfl) (fun w M => M.oldc (hS j hjl) (by simp)) ?_
        refine pl_val (want_no rfl) (some 21) rfl (.int .i64 ((Ss j).size : Int)) (fun _ => by kernel_rfl) ?_
        refine pl_val (want_no rfl) (some 22) rfl (.bool false) (fun w => Eq.trans (b := .ok (.value (.bool (decide ((500 : Int) < ((Ss j).size : Int))))) w) (by kernel_rfl) (by rw [decide_eq_false (by omega)])) ?_
        refine pl_val (want_no rfl) (some 23) rfl (.bool false) (fun _ => by kernel_rfl) ?_
        refine pl_val (want_on 6 false rfl 23 rfl (by kernel_rfl)) (some 24) rfl (.string A) (fun _ => by kernel_rfl) ?_
        refine pl_val (want_on 6 false rfl 23 rfl (by kernel_rfl)) (some 25) rfl (.int .i64 (A.size : Int)) (fun _ => by kernel_rfl) ?_
        refine pl_val (want_on 6 false rfl 23 rfl (by kernel_rfl)) (some 26) rfl (.bool true) (fun w => Eq.trans (b := .ok (.value (.bool (decide ((2048 : Int) < (A.size : Int))))) w) (by kernel_rfl) (by rw [decide_eq_true (by omega)])) ?_
        refine pl_val (want_no rfl) (some 27) rfl (.bool true) (fun _ => by kernel_rfl) ?_
        refine pl_nil ?_
        refine au_then ?_
        refine wp_cond_true (by kernel_rfl) ?_
        refine wp_seq ?_
        refine rg_lit ?_
        refine pl_call M (want_no rfl) (some 28) rfl 7 #[] (.bool true) (fun _ => by kernel_rfl) (fun w M => c_alive w M.laid) ?_
        intro u3 M
        refine pl_val (want_no rfl) (some 2) rfl (.bool true) (fun _ => by kernel_rfl) ?_
        refine pl_nil ?_
        refine au_then ?_
        refine wp_ret ?_
        refine au_then_ret ?_
        refine au_block_ret ?_
        refine au_then_ret ?_
        refine au_then_ret ?_
        refine au_block_ret ?_
        refine au_then_ret ?_
        exact bodyPost_ret (v := .bool true) (results_tmp1 Tryd.results5 _ _ _ (by kernel_rfl)) (by kernel_rfl) ⟨rfl, below_grown M.old⟩
      · by_cases h3 : j % 5 = 0
        · skip
          refine wp_seq ?_
          refine wp_seq ?_
          refine rg_lit ?_
          refine pl_val (want_no rfl) (some 7) rfl (.int .i64 (j : Int)) (fun _ => by kernel_rfl) ?_
          refine pl_val (want_no rfl) (some 8) rfl (.slice l len cap) (fun _ => by kernel_rfl) ?_
          refine pl_val (want_no rfl) (some 9) rfl (.int .i64 (len : Int)) (fun _ => by kernel_rfl) ?_
          refine pl_val (want_no rfl) (some 10) rfl (.bool true) (fun w => Eq.trans (b := .ok (.value (.bool (decide ((j : Int) < (len : Int))))) w) (by kernel_rfl) (by rw [decide_eq_true (by omega)])) ?_
          refine pl_val (want_no rfl) (some 11) rfl (.bool true) (fun _ => by kernel_rfl) ?_
          refine pl_val (want_on 4 true rfl 11 rfl (by kernel_rfl)) (some 12) rfl (.int .i64 (j : Int)) (fun _ => by kernel_rfl) ?_
          refine pl_val (want_on 4 true rfl 11 rfl (by kernel_rfl)) (some 13) rfl (.bool true) (fun w => Eq.trans (b := .ok (.value (.bool (decide ((j : Int) < 40)))) w) (by kernel_rfl) (by rw [decide_eq_true (by omega)])) ?_
          refine pl_val (want_no rfl) (some 14) rfl (.bool true) (fun _ => by kernel_rfl) ?_
          refine pl_nil ?_
          refine au_then ?_
          refine wp_cond_true (by kernel_rfl) ?_
          refine wp_skip ?_
          refine au_then ?_
          refine wp_seq ?_
          refine wp_block ?_
          refine wp_seq ?_
          refine wp_seq ?_
          refine rg_lit ?_
          refine pl_val (want_no rfl) (some 17) rfl (.slice l len cap) (fun _ => by kernel_rfl) ?_
          refine pl_val (want_no rfl) (some 18) rfl (.int .i64 (j : Int)) (fun _ => by kernel_rfl) ?_
          refine pl_val (want_no rfl) (some 19) rfl (.pointer (some ⟨b, o + j, none⟩)) (run_ixO 33 9 Tryd.underlying33 inz9 _ _ rfl l b o len cap hl (by kernel_rfl) .i64 j (by kernel_rfl) hjl) ?_
          refine pl_cell M (want_no rfl) (some 20) rfl 9 _ rfl b (o + j) (by kernel_rfl) (.string (Ss j)) (fun _ => by kernel_rfl) (fun w M => M.oldc (hS j hjl) (by simp)) ?_
          refine pl_val (want_no rfl) (some 21) rfl (.int .i64 ((Ss j).size : Int)) (fun _ => by kernel_rfl) ?_
          refine pl_val (want_no rfl) (some 22) rfl (.bool false) (fun w => Eq.trans (b := .ok (.value (.bool (decide ((500 : Int) < ((Ss j).size : Int))))) w) (by kernel_rfl) (by rw [decide_eq_false (by omega)])) ?_
          refine pl_val (want_no rfl) (some 23) rfl (.bool false) (fun _ => by kernel_rfl) ?_
          refine pl_val (want_on 6 false rfl 23 rfl (by kernel_rfl)) (some 24) rfl (.string A) (fun _ => by kernel_rfl) ?_
          refine pl_val (want_on 6 false rfl 23 rfl (by kernel_rfl)) (some 25) rfl (.int .i64 (A.size : Int)) (fun _ => by kernel_rfl) ?_
          refine pl_val (want_on 6 false rfl 23 rfl (by kernel_rfl)) (some 26) rfl (.bool false) (fun w => Eq.trans (b := .ok (.value (.bool (decide ((2048 : Int) < (A.size : Int))))) w) (by kernel_rfl) (by rw [decide_eq_false (by omega)])) ?_
          refine pl_val (want_no rfl) (some 27) rfl (.bool false) (fun _ => by kernel_rfl) ?_
          refine pl_nil ?_
          refine au_then ?_
          refine wp_cond_false (by kernel_rfl) ?_
          refine wp_skip ?_
          refine au_then ?_
          refine wp_seq ?_
          refine wp_seq ?_
          refine rg_lit ?_
          refine pl_val (want_no rfl) (some 29) rfl (.pointer (some ⟨g1, 0, none⟩)) (fun _ => by kernel_rfl) ?_
          refine pl_val (want_no rfl) (some 30) rfl (.slice l len cap) (fun _ => by kernel_rfl) ?_
          refine pl_val (want_no rfl) (some 31) rfl (.int .i64 (j : Int)) (fun _ => by kernel_rfl) ?_
          refine pl_val (want_no rfl) (some 32) rfl (.pointer (some ⟨b, o + j, none⟩)) (run_ixO 33 9 Tryd.underlying33 inz9 _ _ rfl l b o len cap hl (by kernel_rfl) .i64 j (by kernel_rfl) hjl) ?_
          refine pl_cell M (want_no rfl) (some 33) rfl 9 _ rfl b (o + j) (by kernel_rfl) (.string (Ss j)) (fun _ => by kernel_rfl) (fun w M => M.oldc (hS j hjl) (by simp)) ?_
          refine pl_callp M (want_no rfl) (some 34) rfl 14 #[.pointer (some ⟨g1, 0, none⟩), .string (Ss j)] (.int .i64 0) 0 g1 (.cells (av 138 (hF true (tk hs0 A A.size).ws (tk hs0 A A.size).rs (tk hs0 A A.size).ct)) 47) (.cells (av 138 (hF true (tk (tk hs0 A A.size) (Ss j) (Ss j).size).ws (tk (tk hs0 A A.size) (Ss j) (Ss j).size).rs (tk (tk hs0 A A.size) (Ss j) (Ss j).size).ct)) 47) rfl (fun _ => by kernel_rfl) (fun w M => c_add (tk hs0 A A.size) (tk_ok hs0_ok _ _) g1 (Ss j) w M.laid (M.get 0 rfl) (M.ne0 0 rfl)) ?_
          intro u4 M
          replace M : Mem ⟨w, none⟩ [⟨g1, .cells (av 138 (hF true (tk (tk hs0 A A.size) (Ss j) (Ss j).size).ws (tk (tk hs0 A A.size) (Ss j) (Ss j).size).rs (tk (tk hs0 A A.size) (Ss j) (Ss j).size).ct)) 47⟩] u4 := M
          rw [← tk_all hs0 A (Ss j)] at M
          replace M : Mem ⟨w, none⟩ [⟨g1, .cells (av 138 (hF true (tk hs0 (A ++ Ss j) (A ++ Ss j).size).ws (tk hs0 (A ++ Ss j) (A ++ Ss j).size).rs (tk hs0 (A ++ Ss j) (A ++ Ss j).size).ct)) 47⟩] u4 := M
          refine pl_val (want_no rfl) (some 35) rfl (.bool false) (fun _ => by kernel_rfl) ?_
          refine pl_nil ?_
          refine au_then ?_
          refine wp_cond_false (by kernel_rfl) ?_
          refine wp_skip ?_
          refine au_then ?_
          refine wp_seq ?_
          refine rg_lit ?_
          refine pl_val (want_no rfl) (some 36) rfl (.string A) (fun _ => by kernel_rfl) ?_
          refine pl_val (want_no rfl) (some 37) rfl (.slice l len cap) (fun _ => by kernel_rfl) ?_
          refine pl_val (want_no rfl) (some 38) rfl (.int .i64 (j : Int)) (fun _ => by kernel_rfl) ?_
          refine pl_val (want_no rfl) (some 39) rfl (.pointer (some ⟨b, o + j, none⟩)) (run_ixO 33 9 Tryd.underlying33 inz9 _ _ rfl l b o len cap hl (by kernel_rfl) .i64 j (by kernel_rfl) hjl) ?_
          refine pl_cell M (want_no rfl) (some 40) rfl 9 _ rfl b (o + j) (by kernel_rfl) (.string (Ss j)) (fun _ => by kernel_rfl) (fun w M => M.oldc (hS j hjl) (by simp)) ?_
          refine pl_val (want_no rfl) (some 41) rfl (.string (A ++ Ss j)) (run_cat 9 9 _ _ rfl A (Ss j) (by kernel_rfl) (by kernel_rfl) (by omega)) ?_
          refine pl_val (want_no rfl) (some 4) rfl (.string (A ++ Ss j)) (fun _ => by kernel_rfl) ?_
          refine pl_nil ?_
          refine au_then ?_
          refine wp_seq ?_
          refine rg_lit ?_
          refine pl_val (want_no rfl) (some 42) rfl (.int .i64 (j : Int)) (fun _ => by kernel_rfl) ?_
          refine pl_val (want_no rfl) (some 43) rfl (.int .i64 ((j % 5 : Nat) : Int)) (fun w => Eq.trans (b := .ok (.value (.int .i64 (Int.tmod (j : Int) 5))) w) (by kernel_rfl) (by rw [rem5])) ?_
          refine pl_val (want_no rfl) (some 44) rfl (.bool true) (fun w => Eq.trans (b := .ok (.value (.bool (decide (((j % 5 : Nat) : Int) = 0)))) w) (by kernel_rfl) (by rw [decide_eq_true (by omega)])) ?_
          refine pl_val (want_no rfl) (some 45) rfl (.bool true) (fun _ => by kernel_rfl) ?_
          refine pl_val (want_on 3 true rfl 45 rfl (by kernel_rfl)) (some 46) rfl (.pointer (some ⟨g1, 0, none⟩)) (fun _ => by kernel_rfl) ?_
          refine pl_call M (want_on 3 true rfl 45 rfl (by kernel_rfl)) (some 47) rfl 15 #[.pointer (some ⟨g1, 0, none⟩)] (.string (ofV (A ++ Ss j))) (fun _ => by kernel_rfl) (fun w M => (by have h := c_sum (tk hs0 (A ++ Ss j) (A ++ Ss j).size) (tk_ok hs0_ok _ _) g1 w M.laid (M.get 0 rfl) (M.ne0 0 rfl); exact h)) ?_
          intro u5 M
          refine pl_val (want_on 3 true rfl 45 rfl (by kernel_rfl)) (some 48) rfl (.string (A ++ Ss j)) (fun _ => by kernel_rfl) ?_
          refine pl_call M (want_on 3 true rfl 45 rfl (by kernel_rfl)) (some 49) rfl 8 #[.string (A ++ Ss j)] (.string (ofV (A ++ Ss j))) (fun _ => by kernel_rfl) (fun w M => c_of (A ++ Ss j) w M.laid) ?_
          intro u6 M
          refine pl_val (want_on 3 true rfl 45 rfl (by kernel_rfl)) (some 50) rfl (.bool false) (fun w => Eq.trans (b := .ok (.value (.bool (!((ofV (A ++ Ss j)).toList == (ofV (A ++ Ss j)).toList)))) w) (by kernel_rfl) (by rw [beq_self_eq_true]; rfl)) ?_
          refine pl_val (want_no rfl) (some 51) rfl (.bool false) (fun _ => by kernel_rfl) ?_
          refine pl_nil ?_
          refine au_then ?_
          refine wp_cond_false (by kernel_rfl) ?_
          refine wp_skip ?_
          refine au_block ?_
          refine au_then ?_
          refine rg_lit ?_
          refine pl_val (want_no rfl) (some 15) rfl (.int .i64 (j : Int)) (fun _ => by kernel_rfl) ?_
          refine pl_val (want_no rfl) (some 16) rfl (.int .i64 ((j + 1 : Nat) : Int)) (fun w => Eq.trans (b := .ok (.value (.int .i64 (IntKind.wrap .i64 ((j : Int) + 1)))) w) (by kernel_rfl) (by rw [wrap64 (by omega) (by omega)]; congr 3)) ?_
          refine pl_val (want_no rfl) (some 5) rfl (.int .i64 ((j + 1 : Nat) : Int)) (fun _ => by kernel_rfl) ?_
          refine pl_nil ?_
          refine au_then ?_
          exact ⟨fun k_ => ([v 2, undef, undef, undef, undef, .int .i64 (j : Int), .slice l len cap, .int .i64 (len : Int), .bool true, .bool true, .int .i64 (j : Int), .bool true, .bool true, .int .i64 (j : Int), .int .i64 ((j + 1 : Nat) : Int), .slice l len cap, .int .i64 (j : Int), .pointer (some ⟨b, o + j, none⟩), .string (Ss j), .int .i64 ((Ss j).size : Int), .bool false, .bool false, .string A, .int .i64 (A.size : Int), .bool false, .bool false, v 28, .pointer (some ⟨g1, 0, none⟩), .slice l len cap, .int .i64 (j : Int), .pointer (some ⟨b, o + j, none⟩), .string (Ss j), .int .i64 0, .bool false, .string A, .slice l len cap, .int .i64 (j : Int), .pointer (some ⟨b, o + j, none⟩), .string (Ss j), .string (A ++ Ss j), .int .i64 (j : Int), .int .i64 ((j % 5 : Nat) : Int), .bool true, .bool true, .pointer (some ⟨g1, 0, none⟩), .string (ofV (A ++ Ss j)), .string (A ++ Ss j), .string (ofV (A ++ Ss j)), .bool false, .bool false] : List Value).getD (k_ - 2) undef, A ++ Ss j, by rw [ByteArray.size_append]; omega, by kernel_rfl, M⟩
        · skip
          refine wp_seq ?_
          refine wp_seq ?_
          refine rg_lit ?_
          refine pl_val (want_no rfl) (some 7) rfl (.int .i64 (j : Int)) (fun _ => by kernel_rfl) ?_
          refine pl_val (want_no rfl) (some 8) rfl (.slice l len cap) (fun _ => by kernel_rfl) ?_
          refine pl_val (want_no rfl) (some 9) rfl (.int .i64 (len : Int)) (fun _ => by kernel_rfl) ?_
          refine pl_val (want_no rfl) (some 10) rfl (.bool true) (fun w => Eq.trans (b := .ok (.value (.bool (decide ((j : Int) < (len : Int))))) w) (by kernel_rfl) (by rw [decide_eq_true (by omega)])) ?_
          refine pl_val (want_no rfl) (some 11) rfl (.bool true) (fun _ => by kernel_rfl) ?_
          refine pl_val (want_on 4 true rfl 11 rfl (by kernel_rfl)) (some 12) rfl (.int .i64 (j : Int)) (fun _ => by kernel_rfl) ?_
          refine pl_val (want_on 4 true rfl 11 rfl (by kernel_rfl)) (some 13) rfl (.bool true) (fun w => Eq.trans (b := .ok (.value (.bool (decide ((j : Int) < 40)))) w) (by kernel_rfl) (by rw [decide_eq_true (by omega)])) ?_
          refine pl_val (want_no rfl) (some 14) rfl (.bool true) (fun _ => by kernel_rfl) ?_
          refine pl_nil ?_
          refine au_then ?_
          refine wp_cond_true (by kernel_rfl) ?_
          refine wp_skip ?_
          refine au_then ?_
          refine wp_seq ?_
          refine wp_block ?_
          refine wp_seq ?_
          refine wp_seq ?_
          refine rg_lit ?_
          refine pl_val (want_no rfl) (some 17) rfl (.slice l len cap) (fun _ => by kernel_rfl) ?_
          refine pl_val (want_no rfl) (some 18) rfl (.int .i64 (j : Int)) (fun _ => by kernel_rfl) ?_
          refine pl_val (want_no rfl) (some 19) rfl (.pointer (some ⟨b, o + j, none⟩)) (run_ixO 33 9 Tryd.underlying33 inz9 _ _ rfl l b o len cap hl (by kernel_rfl) .i64 j (by kernel_rfl) hjl) ?_
          refine pl_cell M (want_no rfl) (some 20) rfl 9 _ rfl b (o + j) (by kernel_rfl) (.string (Ss j)) (fun _ => by kernel_rfl) (fun w M => M.oldc (hS j hjl) (by simp)) ?_
          refine pl_val (want_no rfl) (some 21) rfl (.int .i64 ((Ss j).size : Int)) (fun _ => by kernel_rfl) ?_
          refine pl_val (want_no rfl) (some 22) rfl (.bool false) (fun w => Eq.trans (b := .ok (.value (.bool (decide ((500 : Int) < ((Ss j).size : Int))))) w) (by kernel_rfl) (by rw [decide_eq_false (by omega)])) ?_
          refine pl_val (want_no rfl) (some 23) rfl (.bool false) (fun _ => by kernel_rfl) ?_
          refine pl_val (want_on 6 false rfl 23 rfl (by kernel_rfl)) (some 24) rfl (.string A) (fun _ => by kernel_rfl) ?_
          refine pl_val (want_on 6 false rfl 23 rfl (by kernel_rfl)) (some 25) rfl (.int .i64 (A.size : Int)) (fun _ => by kernel_rfl) ?_
          refine pl_val (want_on 6 false rfl 23 rfl (by kernel_rfl)) (some 26) rfl (.bool false) (fun w => Eq.trans (b := .ok (.value (.bool (decide ((2048 : Int) < (A.size : Int))))) w) (by kernel_rfl) (by rw [decide_eq_false (by omega)])) ?_
          refine pl_val (want_no rfl) (some 27) rfl (.bool false) (fun _ => by kernel_rfl) ?_
          refine pl_nil ?_
          refine au_then ?_
          refine wp_cond_false (by kernel_rfl) ?_
          refine wp_skip ?_
          refine au_then ?_
          refine wp_seq ?_
          refine wp_seq ?_
          refine rg_lit ?_
          refine pl_val (want_no rfl) (some 29) rfl (.pointer (some ⟨g1, 0, none⟩)) (fun _ => by kernel_rfl) ?_
          refine pl_val (want_no rfl) (some 30) rfl (.slice l len cap) (fun _ => by kernel_rfl) ?_
          refine pl_val (want_no rfl) (some 31) rfl (.int .i64 (j : Int)) (fun _ => by kernel_rfl) ?_
          refine pl_val (want_no rfl) (some 32) rfl (.pointer (some ⟨b, o + j, none⟩)) (run_ixO 33 9 Tryd.underlying33 inz9 _ _ rfl l b o len cap hl (by kernel_rfl) .i64 j (by kernel_rfl) hjl) ?_
          refine pl_cell M (want_no rfl) (some 33) rfl 9 _ rfl b (o + j) (by kernel_rfl) (.string (Ss j)) (fun _ => by kernel_rfl) (fun w M => M.oldc (hS j hjl) (by simp)) ?_
          refine pl_callp M (want_no rfl) (some 34) rfl 14 #[.pointer (some ⟨g1, 0, none⟩), .string (Ss j)] (.int .i64 0) 0 g1 (.cells (av 138 (hF true (tk hs0 A A.size).ws (tk hs0 A A.size).rs (tk hs0 A A.size).ct)) 47) (.cells (av 138 (hF true (tk (tk hs0 A A.size) (Ss j) (Ss j).size).ws (tk (tk hs0 A A.size) (Ss j) (Ss j).size).rs (tk (tk hs0 A A.size) (Ss j) (Ss j).size).ct)) 47) rfl (fun _ => by kernel_rfl) (fun w M => c_add (tk hs0 A A.size) (tk_ok hs0_ok _ _) g1 (Ss j) w M.laid (M.get 0 rfl) (M.ne0 0 rfl)) ?_
          intro u7 M
          replace M : Mem ⟨w, none⟩ [⟨g1, .cells (av 138 (hF true (tk (tk hs0 A A.size) (Ss j) (Ss j).size).ws (tk (tk hs0 A A.size) (Ss j) (Ss j).size).rs (tk (tk hs0 A A.size) (Ss j) (Ss j).size).ct)) 47⟩] u7 := M
          rw [← tk_all hs0 A (Ss j)] at M
          replace M : Mem ⟨w, none⟩ [⟨g1, .cells (av 138 (hF true (tk hs0 (A ++ Ss j) (A ++ Ss j).size).ws (tk hs0 (A ++ Ss j) (A ++ Ss j).size).rs (tk hs0 (A ++ Ss j) (A ++ Ss j).size).ct)) 47⟩] u7 := M
          refine pl_val (want_no rfl) (some 35) rfl (.bool false) (fun _ => by kernel_rfl) ?_
          refine pl_nil ?_
          refine au_then ?_
          refine wp_cond_false (by kernel_rfl) ?_
          refine wp_skip ?_
          refine au_then ?_
          refine wp_seq ?_
          refine rg_lit ?_
          refine pl_val (want_no rfl) (some 36) rfl (.string A) (fun _ => by kernel_rfl) ?_
          refine pl_val (want_no rfl) (some 37) rfl (.slice l len cap) (fun _ => by kernel_rfl) ?_
          refine pl_val (want_no rfl) (some 38) rfl (.int .i64 (j : Int)) (fun _ => by kernel_rfl) ?_
          refine pl_val (want_no rfl) (some 39) rfl (.pointer (some ⟨b, o + j, none⟩)) (run_ixO 33 9 Tryd.underlying33 inz9 _ _ rfl l b o len cap hl (by kernel_rfl) .i64 j (by kernel_rfl) hjl) ?_
          refine pl_cell M (want_no rfl) (some 40) rfl 9 _ rfl b (o + j) (by kernel_rfl) (.string (Ss j)) (fun _ => by kernel_rfl) (fun w M => M.oldc (hS j hjl) (by simp)) ?_
          refine pl_val (want_no rfl) (some 41) rfl (.string (A ++ Ss j)) (run_cat 9 9 _ _ rfl A (Ss j) (by kernel_rfl) (by kernel_rfl) (by omega)) ?_
          refine pl_val (want_no rfl) (some 4) rfl (.string (A ++ Ss j)) (fun _ => by kernel_rfl) ?_
          refine pl_nil ?_
          refine au_then ?_
          refine wp_seq ?_
          refine rg_lit ?_
          refine pl_val (want_no rfl) (some 42) rfl (.int .i64 (j : Int)) (fun _ => by kernel_rfl) ?_
          refine pl_val (want_no rfl) (some 43) rfl (.int .i64 ((j % 5 : Nat) : Int)) (fun w => Eq.trans (b := .ok (.value (.int .i64 (Int.tmod (j : Int) 5))) w) (by kernel_rfl) (by rw [rem5])) ?_
          refine pl_val (want_no rfl) (some 44) rfl (.bool false) (fun w => Eq.trans (b := .ok (.value (.bool (decide (((j % 5 : Nat) : Int) = 0)))) w) (by kernel_rfl) (by rw [decide_eq_false (by omega)])) ?_
          refine pl_val (want_no rfl) (some 45) rfl (.bool false) (fun _ => by kernel_rfl) ?_
          refine pl_skip (want_off 3 true rfl 45 rfl (by kernel_rfl)) (some 46) rfl ?_
          refine pl_skip (want_off 3 true rfl 45 rfl (by kernel_rfl)) (some 47) rfl ?_
          refine pl_skip (want_off 3 true rfl 45 rfl (by kernel_rfl)) (some 48) rfl ?_
          refine pl_skip (want_off 3 true rfl 45 rfl (by kernel_rfl)) (some 49) rfl ?_
          refine pl_skip (want_off 3 true rfl 45 rfl (by kernel_rfl)) (some 50) rfl ?_
          refine pl_val (want_no rfl) (some 51) rfl (.bool false) (fun _ => by kernel_rfl) ?_
          refine pl_nil ?_
          refine au_then ?_
          refine wp_cond_false (by kernel_rfl) ?_
          refine wp_skip ?_
          refine au_block ?_
          refine au_then ?_
          refine rg_lit ?_
          refine pl_val (want_no rfl) (some 15) rfl (.int .i64 (j : Int)) (fun _ => by kernel_rfl) ?_
          refine pl_val (want_no rfl) (some 16) rfl (.int .i64 ((j + 1 : Nat) : Int)) (fun w => Eq.trans (b := .ok (.value (.int .i64 (IntKind.wrap .i64 ((j : Int) + 1)))) w) (by kernel_rfl) (by rw [wrap64 (by omega) (by omega)]; congr 3)) ?_
          refine pl_val (want_no rfl) (some 5) rfl (.int .i64 ((j + 1 : Nat) : Int)) (fun _ => by kernel_rfl) ?_
          refine pl_nil ?_
          refine au_then ?_
          exact ⟨fun k_ => ([v 2, undef, undef, undef, undef, .int .i64 (j : Int), .slice l len cap, .int .i64 (len : Int), .bool true, .bool true, .int .i64 (j : Int), .bool true, .bool true, .int .i64 (j : Int), .int .i64 ((j + 1 : Nat) : Int), .slice l len cap, .int .i64 (j : Int), .pointer (some ⟨b, o + j, none⟩), .string (Ss j), .int .i64 ((Ss j).size : Int), .bool false, .bool false, .string A, .int .i64 (A.size : Int), .bool false, .bool false, v 28, .pointer (some ⟨g1, 0, none⟩), .slice l len cap, .int .i64 (j : Int), .pointer (some ⟨b, o + j, none⟩), .string (Ss j), .int .i64 0, .bool false, .string A, .slice l len cap, .int .i64 (j : Int), .pointer (some ⟨b, o + j, none⟩), .string (Ss j), .string (A ++ Ss j), .int .i64 (j : Int), .int .i64 ((j % 5 : Nat) : Int), .bool false, .bool false, undef, undef, undef, undef, undef, .bool false] : List Value).getD (k_ - 2) undef, A ++ Ss j, by rw [ByteArray.size_append]; omega, by kernel_rfl, M⟩
  · intro a u0 hI
    obtain ⟨v, A, hA, rfl, M⟩ := hI
    by_cases h4 : len ≤ 40
    · skip
      refine wp_seq ?_
      refine wp_seq ?_
      refine rg_lit ?_
      refine pl_val (want_no rfl) (some 7) rfl (.int .i64 (NN : Int)) (fun _ => by kernel_rfl) ?_
      refine pl_val (want_no rfl) (some 8) rfl (.slice l len cap) (fun _ => by kernel_rfl) ?_
      refine pl_val (want_no rfl) (some 9) rfl (.int .i64 (len : Int)) (fun _ => by kernel_rfl) ?_
      refine pl_val (want_no rfl) (some 10) rfl (.bool false) (fun w => Eq.trans (b := .ok (.value (.bool (decide ((NN : Int) < (len : Int))))) w) (by kernel_rfl) (by rw [decide_eq_false (by omega)])) ?_
      refine pl_val (want_no rfl) (some 11) rfl (.bool false) (fun _ => by kernel_rfl) ?_
      refine pl_skip (want_off 4 true rfl 11 rfl (by kernel_rfl)) (some 12) rfl ?_
      refine pl_skip (want_off 4 true rfl 11 rfl (by kernel_rfl)) (some 13) rfl ?_
      refine pl_val (want_no rfl) (some 14) rfl (.bool false) (fun _ => by kernel_rfl) ?_
      refine pl_nil ?_
      refine au_then ?_
      refine wp_cond_false (by kernel_rfl) ?_
      refine wp_exit ?_
      refine au_then_exit ?_
      refine au_then_exit ?_
      refine au_block_exit ?_
      refine au_then ?_
      refine wp_seq ?_
      refine rg_lit ?_
      refine pl_val (want_no rfl) (some 52) rfl (.pointer (some ⟨g1, 0, none⟩)) (fun _ => by kernel_rfl) ?_
      refine pl_call M (want_no rfl) (some 53) rfl 15 #[.pointer (some ⟨g1, 0, none⟩)] (.string (ofV A)) (fun _ => by kernel_rfl) (fun w M => (by have h := c_sum (tk hs0 A A.size) (tk_ok hs0_ok _ _) g1 w M.laid (M.get 0 rfl) (M.ne0 0 rfl); exact h)) ?_
      intro u8 M
      refine pl_val (want_no rfl) (some 54) rfl (.string A) (fun _ => by kernel_rfl) ?_
      refine pl_call M (want_no rfl) (some 55) rfl 9 #[.string A] (.string (docV A)) (fun _ => by kernel_rfl) (fun w M => c_doc A (by omega) w M.laid) ?_
      intro u9 M
      refine pl_val (want_no rfl) (some 56) rfl (.bool true) (fun w => Eq.trans (b := .ok (.value (.bool ((ofV A).toList == (docV A).toList))) w) (by kernel_rfl) (by rw [doc_eq A (by omega), beq_self_eq_true])) ?_
      refine pl_val (want_no rfl) (some 57) rfl (.bool true) (fun _ => by kernel_rfl) ?_
      refine pl_val (want_on 5 true rfl 57 rfl (by kernel_rfl)) (some 58) rfl (.pointer (some ⟨g1, 0, none⟩)) (fun _ => by kernel_rfl) ?_
      refine pl_call M (want_on 5 true rfl 57 rfl (by kernel_rfl)) (some 59) rfl 15 #[.pointer (some ⟨g1, 0, none⟩)] (.string (ofV A)) (fun _ => by kernel_rfl) (fun w M => (by have h := c_sum (tk hs0 A A.size) (tk_ok hs0_ok _ _) g1 w M.laid (M.get 0 rfl) (M.ne0 0 rfl); exact h)) ?_
      intro u10 M
      refine pl_val (want_on 5 true rfl 57 rfl (by kernel_rfl)) (some 60) rfl (.string A) (fun _ => by kernel_rfl) ?_
      refine pl_call M (want_on 5 true rfl 57 rfl (by kernel_rfl)) (some 61) rfl 8 #[.string A] (.string (ofV A)) (fun _ => by kernel_rfl) (fun w M => c_of A w M.laid) ?_
      intro u11 M
      refine pl_val (want_on 5 true rfl 57 rfl (by kernel_rfl)) (some 62) rfl (.bool true) (fun w => Eq.trans (b := .ok (.value (.bool ((ofV A).toList == (ofV A).toList))) w) (by kernel_rfl) (by rw [beq_self_eq_true])) ?_
      refine pl_val (want_no rfl) (some 63) rfl (.bool true) (fun _ => by kernel_rfl) ?_
      refine pl_val (want_no rfl) (some 64) rfl (.bool true) (fun _ => by kernel_rfl) ?_
      refine pl_call M (want_on 12 true rfl 64 rfl (by kernel_rfl)) (some 65) rfl 7 #[] (.bool true) (fun _ => by kernel_rfl) (fun w M => c_alive w M.laid) ?_
      intro u12 M
      refine pl_val (want_no rfl) (some 66) rfl (.bool true) (fun _ => by kernel_rfl) ?_
      refine pl_val (want_no rfl) (some 2) rfl (.bool true) (fun _ => by kernel_rfl) ?_
      refine pl_nil ?_
      refine au_then ?_
      refine wp_ret ?_
      exact bodyPost_ret (v := .bool true) (results_tmp1 Tryd.results5 _ _ _ (by kernel_rfl)) (by kernel_rfl) ⟨rfl, below_grown M.old⟩
    · skip
      refine wp_seq ?_
      refine wp_seq ?_
      refine rg_lit ?_
      refine pl_val (want_no rfl) (some 7) rfl (.int .i64 (NN : Int)) (fun _ => by kernel_rfl) ?_
      refine pl_val (want_no rfl) (some 8) rfl (.slice l len cap) (fun _ => by kernel_rfl) ?_
      refine pl_val (want_no rfl) (some 9) rfl (.int .i64 (len : Int)) (fun _ => by kernel_rfl) ?_
      refine pl_val (want_no rfl) (some 10) rfl (.bool true) (fun w => Eq.trans (b := .ok (.value (.bool (decide ((NN : Int) < (len : Int))))) w) (by kernel_rfl) (by rw [decide_eq_true (by omega)])) ?_
      refine pl_val (want_no rfl) (some 11) rfl (.bool true) (fun _ => by kernel_rfl) ?_
      refine pl_val (want_on 4 true rfl 11 rfl (by kernel_rfl)) (some 12) rfl (.int .i64 (NN : Int)) (fun _ => by kernel_rfl) ?_
      refine pl_val (want_on 4 true rfl 11 rfl (by kernel_rfl)) (some 13) rfl (.bool false) (fun w => Eq.trans (b := .ok (.value (.bool (decide ((NN : Int) < 40)))) w) (by kernel_rfl) (by rw [decide_eq_false (by omega)])) ?_
      refine pl_val (want_no rfl) (some 14) rfl (.bool false) (fun _ => by kernel_rfl) ?_
      refine pl_nil ?_
      refine au_then ?_
      refine wp_cond_false (by kernel_rfl) ?_
      refine wp_exit ?_
      refine au_then_exit ?_
      refine au_then_exit ?_
      refine au_block_exit ?_
      refine au_then ?_
      refine wp_seq ?_
      refine rg_lit ?_
      refine pl_val (want_no rfl) (some 52) rfl (.pointer (some ⟨g1, 0, none⟩)) (fun _ => by kernel_rfl) ?_
      refine pl_call M (want_no rfl) (some 53) rfl 15 #[.pointer (some ⟨g1, 0, none⟩)] (.string (ofV A)) (fun _ => by kernel_rfl) (fun w M => (by have h := c_sum (tk hs0 A A.size) (tk_ok hs0_ok _ _) g1 w M.laid (M.get 0 rfl) (M.ne0 0 rfl); exact h)) ?_
      intro u13 M
      refine pl_val (want_no rfl) (some 54) rfl (.string A) (fun _ => by kernel_rfl) ?_
      refine pl_call M (want_no rfl) (some 55) rfl 9 #[.string A] (.string (docV A)) (fun _ => by kernel_rfl) (fun w M => c_doc A (by omega) w M.laid) ?_
      intro u14 M
      refine pl_val (want_no rfl) (some 56) rfl (.bool true) (fun w => Eq.trans (b := .ok (.value (.bool ((ofV A).toList == (docV A).toList))) w) (by kernel_rfl) (by rw [doc_eq A (by omega), beq_self_eq_true])) ?_
      refine pl_val (want_no rfl) (some 57) rfl (.bool true) (fun _ => by kernel_rfl) ?_
      refine pl_val (want_on 5 true rfl 57 rfl (by kernel_rfl)) (some 58) rfl (.pointer (some ⟨g1, 0, none⟩)) (fun _ => by kernel_rfl) ?_
      refine pl_call M (want_on 5 true rfl 57 rfl (by kernel_rfl)) (some 59) rfl 15 #[.pointer (some ⟨g1, 0, none⟩)] (.string (ofV A)) (fun _ => by kernel_rfl) (fun w M => (by have h := c_sum (tk hs0 A A.size) (tk_ok hs0_ok _ _) g1 w M.laid (M.get 0 rfl) (M.ne0 0 rfl); exact h)) ?_
      intro u15 M
      refine pl_val (want_on 5 true rfl 57 rfl (by kernel_rfl)) (some 60) rfl (.string A) (fun _ => by kernel_rfl) ?_
      refine pl_call M (want_on 5 true rfl 57 rfl (by kernel_rfl)) (some 61) rfl 8 #[.string A] (.string (ofV A)) (fun _ => by kernel_rfl) (fun w M => c_of A w M.laid) ?_
      intro u16 M
      refine pl_val (want_on 5 true rfl 57 rfl (by kernel_rfl)) (some 62) rfl (.bool true) (fun w => Eq.trans (b := .ok (.value (.bool ((ofV A).toList == (ofV A).toList))) w) (by kernel_rfl) (by rw [beq_self_eq_true])) ?_
      refine pl_val (want_no rfl) (some 63) rfl (.bool true) (fun _ => by kernel_rfl) ?_
      refine pl_val (want_no rfl) (some 64) rfl (.bool true) (fun _ => by kernel_rfl) ?_
      refine pl_call M (want_on 12 true rfl 64 rfl (by kernel_rfl)) (some 65) rfl 7 #[] (.bool true) (fun _ => by kernel_rfl) (fun w M => c_alive w M.laid) ?_
      intro u17 M
      refine pl_val (want_no rfl) (some 66) rfl (.bool true) (fun _ => by kernel_rfl) ?_
      refine pl_val (want_no rfl) (some 2) rfl (.bool true) (fun _ => by kernel_rfl) ?_
      refine pl_nil ?_
      refine au_then ?_
      refine wp_ret ?_
      exact bodyPost_ret (v := .bool true) (results_tmp1 Tryd.results5 _ _ _ (by kernel_rfl)) (by kernel_rfl) ⟨rfl, below_grown M.old⟩


end Go.Proofs.YtghobmgdadpplaaDoor
