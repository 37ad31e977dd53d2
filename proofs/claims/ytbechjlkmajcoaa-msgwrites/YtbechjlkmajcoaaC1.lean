/- Addresses and prefixes: the walks of both sides. -/
import Derived.Test.YtbechjlkmajcoaaQ2
namespace Go.Proofs.Ytbechjlkmajcoaa
open Go.RowKit

theorem if_max (x y : Int) : (if y > x then y else x) = max x y := by
  rw [Int.max_def]
  split <;> split <;> omega
theorem run_shlV {P : Program} {a : Act} {o : Oper} (t rt : TypeId) (x y : Operand) (ho : o.op = .binOp .shl t x y rt) (k : Int) (ky : IntKind) (m : Nat) (hx : a.eval x = .int .u64 k) (hy : a.eval y = .int ky (m : Int)) (w : World) :
    (execOp a.eval o).run P w = .ok (.value (.int .u64 (sl k m))) w := by
  by_cases hm : m ≤ 64
  · exact run_shlU t rt x y ho k ky m hx hy hm w
  · have e : IntKind.wrap .u64 (k * 2 ^ min m 64) = IntKind.wrap .u64 (k * 2 ^ m) := by
      obtain ⟨n, rfl⟩ : ∃ n, m = n + 64 := ⟨m - 64, by omega⟩
      rw [IntKind.wrap_u64, IntKind.wrap_u64, Nat.min_eq_right (by omega), Int.pow_add, ← Int.mul_assoc]
      have : (2 : Int) ^ 64 = 18446744073709551616 := rfl
      rw [this, Int.mul_emod_left, Int.mul_emod_left]
    unfold execOp sl
    rw [← e]
    simp [ho, hx, hy, eqGuard, binOp, Op.shift, IntKind.bits]
    intro h
    omega
theorem run_shrV {P : Program} {a : Act} {o : Oper} (t rt : TypeId) (x y : Operand) (ho : o.op = .binOp .shr t x y rt) (k : Int) (ky : IntKind) (m : Nat) (hx : a.eval x = .int .u64 k) (hy : a.eval y = .int ky (m : Int)) (hm : m ≤ 64) (w : World) :
    (execOp a.eval o).run P w = .ok (.value (.int .u64 (sr k m))) w := run_shrU t rt x y ho k ky m hx hy hm w
/-- May an address be? -/
def mA (v : Bool) (h l : Int) : Bool := v || (decide (h = 0) && decide (l < 4294967296))
set_option maxRecDepth 100000 in
set_option maxHeartbeats 4000000 in
set_option linter.unusedSimpArgs false in
theorem c_mayAddr (v : Bool) (h l : Int) (w : World) (hL : Laid w)  :
    Calls Try.prog 78 #[.agg (av 3 (ls [.bool (v), .int .u64 h, .int .u64 l]))] w fun r w' => r = .returned (.bool (mA v h l)) ∧ Below w.heap.size w w' := by
  go_enter Try.func78, Try.ntmps78
  have M := Mem.start hL
  refine wp_seq ?_
  refine rg_lit ?_
  refine pl_new M (want_no rfl) (some 1) rfl (.cells (av 3 (ls [.bool (v), .int .u64 h, .int .u64 l])) 25) (fun _ => by kernel_rfl) ?_
  intro g1 u1 M
  replace M : Mem ⟨w, []⟩ [⟨g1, .cells (av 3 (ls [.bool (v), .int .u64 h, .int .u64 l])) 25⟩] u1 := M
  refine pl_val (want_no rfl) (some 2) rfl (.bool false) (fun _ => by kernel_rfl) ?_
  refine pl_nil ?_
  refine au_then ?_
  refine wp_seq ?_
  refine rg_lit ?_
  refine pl_val (want_no rfl) (some 3) rfl (.pointer (some ⟨g1, 0, none⟩)) (fun _ => by kernel_rfl) ?_
  rcases Bool.eq_false_or_eq_true (v) with c0 | c0
  · skip
    refine pl_cell M (want_no rfl) (some 4) rfl 4 _ rfl g1 0 (by kernel_rfl) (.bool true) (fun _ => by kernel_rfl) (fun w M => M.cell 0 rfl (by decide) (congrArg Value.bool c0)) ?_
    refine pl_val (want_no rfl) (some 5) rfl (.bool true) (fun _ => by kernel_rfl) ?_
    refine pl_skip (want_off 2 false rfl 5 rfl (by kernel_rfl)) (some 6) rfl ?_
    refine pl_skip (want_off 2 false rfl 5 rfl (by kernel_rfl)) (some 7) rfl ?_
    refine pl_skip (want_off 2 false rfl 5 rfl (by kernel_rfl)) (some 8) rfl ?_
    refine pl_skip (want_off 2 false rfl 5 rfl (by kernel_rfl)) (some 9) rfl ?_
    refine pl_skip (want_und 6 true rfl 9 rfl (by kernel_rfl)) (some 10) rfl ?_
    refine pl_skip (want_und 6 true rfl 9 rfl (by kernel_rfl)) (some 11) rfl ?_
    refine pl_skip (want_und 6 true rfl 9 rfl (by kernel_rfl)) (some 12) rfl ?_
    refine pl_skip (want_off 2 false rfl 5 rfl (by kernel_rfl)) (some 13) rfl ?_
    refine pl_val (want_no rfl) (some 14) rfl (.bool true) (fun _ => by kernel_rfl) ?_
    refine pl_val (want_no rfl) (some 2) rfl (.bool true) (fun _ => by kernel_rfl) ?_
    refine pl_nil ?_
    refine au_then ?_
    refine wp_ret ?_
    have e0 : mA v h l = true := by simp [mA, c0]
    exact bodyPost_ret (v := .bool true) (results_tmp1 Try.results78 _ _ _ (by kernel_rfl)) (by kernel_rfl) ⟨by rw [e0], below_grown M.old⟩
  · skip
    refine pl_cell M (want_no rfl) (some 4) rfl 4 _ rfl g1 0 (by kernel_rfl) (.bool false) (fun _ => by kernel_rfl) (fun w M => M.cell 0 rfl (by decide) (congrArg Value.bool c0)) ?_
    refine pl_val (want_no rfl) (some 5) rfl (.bool false) (fun _ => by kernel_rfl) ?_
    refine pl_val (want_on 2 false rfl 5 rfl (by kernel_rfl)) (some 6) rfl (.pointer (some ⟨g1, 1, none⟩)) (fun _ => by kernel_rfl) ?_
    refine pl_cell M (want_on 2 false rfl 5 rfl (by kernel_rfl)) (some 7) rfl 23 _ rfl g1 1 (by kernel_rfl) (.int .u64 h) (fun _ => by kernel_rfl) (fun w M => M.cell 0 rfl (by decide) rfl) ?_
    by_cases c1 : h = 0
    · skip
      refine pl_val (want_on 2 false rfl 5 rfl (by kernel_rfl)) (some 8) rfl (.bool true) (fun w => Eq.trans (b := .ok (.value (.bool (decide (h = 0)))) w) (by kernel_rfl) (by rw [decide_eq_true (c1)])) ?_
      refine pl_val (want_on 2 false rfl 5 rfl (by kernel_rfl)) (some 9) rfl (.bool true) (fun _ => by kernel_rfl) ?_
      refine pl_val (want_on 6 true rfl 9 rfl (by kernel_rfl)) (some 10) rfl (.pointer (some ⟨g1, 2, none⟩)) (fun _ => by kernel_rfl) ?_
      refine pl_cell M (want_on 6 true rfl 9 rfl (by kernel_rfl)) (some 11) rfl 23 _ rfl g1 2 (by kernel_rfl) (.int .u64 l) (fun _ => by kernel_rfl) (fun w M => M.cell 0 rfl (by decide) rfl) ?_
      by_cases c2 : l < 4294967296
      · skip
        refine pl_val (want_on 6 true rfl 9 rfl (by kernel_rfl)) (some 12) rfl (.bool true) (fun w => Eq.trans (b := .ok (.value (.bool (decide (l < 4294967296)))) w) (by kernel_rfl) (by rw [decide_eq_true (c2)])) ?_
        refine pl_val (want_on 2 false rfl 5 rfl (by kernel_rfl)) (some 13) rfl (.bool true) (fun _ => by kernel_rfl) ?_
        refine pl_val (want_no rfl) (some 14) rfl (.bool true) (fun _ => by kernel_rfl) ?_
        refine pl_val (want_no rfl) (some 2) rfl (.bool true) (fun _ => by kernel_rfl) ?_
        refine pl_nil ?_
        refine au_then ?_
        refine wp_ret ?_
        have e0 : mA v h l = true := by simp [mA, c0, c1, c2]
        exact bodyPost_ret (v := .bool true) (results_tmp1 Try.results78 _ _ _ (by kernel_rfl)) (by kernel_rfl) ⟨by rw [e0], below_grown M.old⟩
      · skip
        refine pl_val (want_on 6 true rfl 9 rfl (by kernel_rfl)) (some 12) rfl (.bool false) (fun w => Eq.trans (b := .ok (.value (.bool (decide (l < 4294967296)))) w) (by kernel_rfl) (by rw [decide_eq_false (c2)])) ?_
        refine pl_val (want_on 2 false rfl 5 rfl (by kernel_rfl)) (some 13) rfl (.bool false) (fun _ => by kernel_rfl) ?_
        refine pl_val (want_no rfl) (some 14) rfl (.bool false) (fun _ => by kernel_rfl) ?_
        refine pl_val (want_no rfl) (some 2) rfl (.bool false) (fun _ => by kernel_rfl) ?_
        refine pl_nil ?_
        refine au_then ?_
        refine wp_ret ?_
        have e0 : mA v h l = false := by simp [mA, c0, c1, c2]
        exact bodyPost_ret (v := .bool false) (results_tmp1 Try.results78 _ _ _ (by kernel_rfl)) (by kernel_rfl) ⟨by rw [e0], below_grown M.old⟩
    · skip
      refine pl_val (want_on 2 false rfl 5 rfl (by kernel_rfl)) (some 8) rfl (.bool false) (fun w => Eq.trans (b := .ok (.value (.bool (decide (h = 0)))) w) (by kernel_rfl) (by rw [decide_eq_false (c1)])) ?_
      refine pl_val (want_on 2 false rfl 5 rfl (by kernel_rfl)) (some 9) rfl (.bool false) (fun _ => by kernel_rfl) ?_
      refine pl_skip (want_off 6 true rfl 9 rfl (by kernel_rfl)) (some 10) rfl ?_
      refine pl_skip (want_off 6 true rfl 9 rfl (by kernel_rfl)) (some 11) rfl ?_
      refine pl_skip (want_off 6 true rfl 9 rfl (by kernel_rfl)) (some 12) rfl ?_
      refine pl_val (want_on 2 false rfl 5 rfl (by kernel_rfl)) (some 13) rfl (.bool false) (fun _ => by kernel_rfl) ?_
      refine pl_val (want_no rfl) (some 14) rfl (.bool false) (fun _ => by kernel_rfl) ?_
      refine pl_val (want_no rfl) (some 2) rfl (.bool false) (fun _ => by kernel_rfl) ?_
      refine pl_nil ?_
      refine au_then ?_
      refine wp_ret ?_
      have e0 : mA v h l = false := by simp [mA, c0, c1]
      exact bodyPost_ret (v := .bool false) (results_tmp1 Try.results78 _ _ _ (by kernel_rfl)) (by kernel_rfl) ⟨by rw [e0], below_grown M.old⟩

set_option maxRecDepth 100000 in
set_option maxHeartbeats 4000000 in
set_option linter.unusedSimpArgs false in
theorem d_MayAddr (v : Bool) (h l : Int) (w : World) (hL : Laid w)  :
    Calls Try.prog 30 #[.agg (av 3 (ls [.bool (v), .int .u64 h, .int .u64 l]))] w fun r w' => r = .returned (.bool (mA v h l)) ∧ Below w.heap.size w w' := by
  go_enter Try.func30, Try.ntmps30
  have M := Mem.start hL
  refine wp_seq ?_
  refine rg_lit ?_
  refine pl_new M (want_no rfl) (some 1) rfl (.cells (av 3 (ls [.bool (v), .int .u64 h, .int .u64 l])) 25) (fun _ => by kernel_rfl) ?_
  intro g1 u1 M
  replace M : Mem ⟨w, []⟩ [⟨g1, .cells (av 3 (ls [.bool (v), .int .u64 h, .int .u64 l])) 25⟩] u1 := M
  refine pl_val (want_no rfl) (some 2) rfl (.bool false) (fun _ => by kernel_rfl) ?_
  refine pl_nil ?_
  refine au_then ?_
  refine wp_seq ?_
  refine rg_lit ?_
  refine pl_val (want_no rfl) (some 3) rfl (.pointer (some ⟨g1, 0, none⟩)) (fun _ => by kernel_rfl) ?_
  rcases Bool.eq_false_or_eq_true (v) with c0 | c0
  · skip
    refine pl_cell M (want_no rfl) (some 4) rfl 4 _ rfl g1 0 (by kernel_rfl) (.bool true) (fun _ => by kernel_rfl) (fun w M => M.cell 0 rfl (by decide) (congrArg Value.bool c0)) ?_
    refine pl_val (want_no rfl) (some 5) rfl (.bool true) (fun _ => by kernel_rfl) ?_
    refine pl_skip (want_off 2 false rfl 5 rfl (by kernel_rfl)) (some 6) rfl ?_
    refine pl_skip (want_off 2 false rfl 5 rfl (by kernel_rfl)) (some 7) rfl ?_
    refine pl_skip (want_off 2 false rfl 5 rfl (by kernel_rfl)) (some 8) rfl ?_
    refine pl_skip (want_off 2 false rfl 5 rfl (by kernel_rfl)) (some 9) rfl ?_
    refine pl_skip (want_und 6 true rfl 9 rfl (by kernel_rfl)) (some 10) rfl ?_
    refine pl_skip (want_und 6 true rfl 9 rfl (by kernel_rfl)) (some 11) rfl ?_
    refine pl_skip (want_und 6 true rfl 9 rfl (by kernel_rfl)) (some 12) rfl ?_
    refine pl_skip (want_off 2 false rfl 5 rfl (by kernel_rfl)) (some 13) rfl ?_
    refine pl_val (want_no rfl) (some 14) rfl (.bool true) (fun _ => by kernel_rfl) ?_
    refine pl_val (want_no rfl) (some 2) rfl (.bool true) (fun _ => by kernel_rfl) ?_
    refine pl_nil ?_
    refine au_then ?_
    refine wp_ret ?_
    have e0 : mA v h l = true := by simp [mA, c0]
    exact bodyPost_ret (v := .bool true) (results_tmp1 Try.results30 _ _ _ (by kernel_rfl)) (by kernel_rfl) ⟨by rw [e0], below_grown M.old⟩
  · skip
    refine pl_cell M (want_no rfl) (some 4) rfl 4 _ rfl g1 0 (by kernel_rfl) (.bool false) (fun _ => by kernel_rfl) (fun w M => M.cell 0 rfl (by decide) (congrArg Value.bool c0)) ?_
    refine pl_val (want_no rfl) (some 5) rfl (.bool false) (fun _ => by kernel_rfl) ?_
    refine pl_val (want_on 2 false rfl 5 rfl (by kernel_rfl)) (some 6) rfl (.pointer (some ⟨g1, 1, none⟩)) (fun _ => by kernel_rfl) ?_
    refine pl_cell M (want_on 2 false rfl 5 rfl (by kernel_rfl)) (some 7) rfl 23 _ rfl g1 1 (by kernel_rfl) (.int .u64 h) (fun _ => by kernel_rfl) (fun w M => M.cell 0 rfl (by decide) rfl) ?_
    by_cases c1 : h = 0
    · skip
      refine pl_val (want_on 2 false rfl 5 rfl (by kernel_rfl)) (some 8) rfl (.bool true) (fun w => Eq.trans (b := .ok (.value (.bool (decide (h = 0)))) w) (by kernel_rfl) (by rw [decide_eq_true (c1)])) ?_
      refine pl_val (want_on 2 false rfl 5 rfl (by kernel_rfl)) (some 9) rfl (.bool true) (fun _ => by kernel_rfl) ?_
      refine pl_val (want_on 6 true rfl 9 rfl (by kernel_rfl)) (some 10) rfl (.pointer (some ⟨g1, 2, none⟩)) (fun _ => by kernel_rfl) ?_
      refine pl_cell M (want_on 6 true rfl 9 rfl (by kernel_rfl)) (some 11) rfl 23 _ rfl g1 2 (by kernel_rfl) (.int .u64 l) (fun _ => by kernel_rfl) (fun w M => M.cell 0 rfl (by decide) rfl) ?_
      by_cases c2 : l < 4294967296
      · skip
        refine pl_val (want_on 6 true rfl 9 rfl (by kernel_rfl)) (some 12) rfl (.bool true) (fun w => Eq.trans (b := .ok (.value (.bool (decide (l < 4294967296)))) w) (by kernel_rfl) (by rw [decide_eq_true (c2)])) ?_
        refine pl_val (want_on 2 false rfl 5 rfl (by kernel_rfl)) (some 13) rfl (.bool true) (fun _ => by kernel_rfl) ?_
        refine pl_val (want_no rfl) (some 14) rfl (.bool true) (fun _ => by kernel_rfl) ?_
        refine pl_val (want_no rfl) (some 2) rfl (.bool true) (fun _ => by kernel_rfl) ?_
        refine pl_nil ?_
        refine au_then ?_
        refine wp_ret ?_
        have e0 : mA v h l = true := by simp [mA, c0, c1, c2]
        exact bodyPost_ret (v := .bool true) (results_tmp1 Try.results30 _ _ _ (by kernel_rfl)) (by kernel_rfl) ⟨by rw [e0], below_grown M.old⟩
      · skip
        refine pl_val (want_on 6 true rfl 9 rfl (by kernel_rfl)) (some 12) rfl (.bool false) (fun w => Eq.trans (b := .ok (.value (.bool (decide (l < 4294967296)))) w) (by kernel_rfl) (by rw [decide_eq_false (c2)])) ?_
        refine pl_val (want_on 2 false rfl 5 rfl (by kernel_rfl)) (some 13) rfl (.bool false) (fun _ => by kernel_rfl) ?_
        refine pl_val (want_no rfl) (some 14) rfl (.bool false) (fun _ => by kernel_rfl) ?_
        refine pl_val (want_no rfl) (some 2) rfl (.bool false) (fun _ => by kernel_rfl) ?_
        refine pl_nil ?_
        refine au_then ?_
        refine wp_ret ?_
        have e0 : mA v h l = false := by simp [mA, c0, c1, c2]
        exact bodyPost_ret (v := .bool false) (results_tmp1 Try.results30 _ _ _ (by kernel_rfl)) (by kernel_rfl) ⟨by rw [e0], below_grown M.old⟩
    · skip
      refine pl_val (want_on 2 false rfl 5 rfl (by kernel_rfl)) (some 8) rfl (.bool false) (fun w => Eq.trans (b := .ok (.value (.bool (decide (h = 0)))) w) (by kernel_rfl) (by rw [decide_eq_false (c1)])) ?_
      refine pl_val (want_on 2 false rfl 5 rfl (by kernel_rfl)) (some 9) rfl (.bool false) (fun _ => by kernel_rfl) ?_
      refine pl_skip (want_off 6 true rfl 9 rfl (by kernel_rfl)) (some 10) rfl ?_
      refine pl_skip (want_off 6 true rfl 9 rfl (by kernel_rfl)) (some 11) rfl ?_
      refine pl_skip (want_off 6 true rfl 9 rfl (by kernel_rfl)) (some 12) rfl ?_
      refine pl_val (want_on 2 false rfl 5 rfl (by kernel_rfl)) (some 13) rfl (.bool false) (fun _ => by kernel_rfl) ?_
      refine pl_val (want_no rfl) (some 14) rfl (.bool false) (fun _ => by kernel_rfl) ?_
      refine pl_val (want_no rfl) (some 2) rfl (.bool false) (fun _ => by kernel_rfl) ?_
      refine pl_nil ?_
      refine au_then ?_
      refine wp_ret ?_
      have e0 : mA v h l = false := by simp [mA, c0, c1]
      exact bodyPost_ret (v := .bool false) (results_tmp1 Try.results30 _ _ _ (by kernel_rfl)) (by kernel_rfl) ⟨by rw [e0], below_grown M.old⟩


end Go.Proofs.Ytbechjlkmajcoaa
