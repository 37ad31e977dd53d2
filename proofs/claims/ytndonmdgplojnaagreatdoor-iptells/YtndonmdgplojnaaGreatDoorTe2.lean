/- Part 2 of the walks and facts behind ipTells_holds. -/
import Derived.Test.YtndonmdgplojnaaGreatDoorTe1
namespace Go.Proofs.YtndonmdgplojnaaGreatDoor
open Go.RowKit
theorem if_max (x y : Int) : (if y > x then y else x) = max x y := by
 rw [Int.max_def]
 split <;> split <;> omega
theorem run_shlV {P : Program} {a : Act} {o : Oper} (t rt : TypeId) (x y : Operand) (ho : o.op = .binOp .shl t x y rt) (k : Int) (ky : IntKind) (m : Nat) (hx : a.eval x = .int .u64 k) (hy : a.eval y = .int ky (m : Int)) (w : World) :
  (execOp a.eval o).run P w = .ok (.value (.int .u64 (sl k m))) w := by
 by_cases hm : m ≤ 64
 ·exact run_shlU t rt x y ho k ky m hx hy hm w
 ·have e : IntKind.wrap .u64 (k * 2 ^ min m 64) = IntKind.wrap .u64 (k * 2 ^ m) := by
   obtain ⟨n, rfl⟩ : ∃ n, m = n + 64 := ⟨m - 64, by omega⟩
   rw [IntKind.wrap_u64, IntKind.wrap_u64, Nat.min_eq_right (by omega), Int.pow_add, ← Int.mul_assoc]
   have : (2 : Int) ^ 64 = 18446744073709551616 := rfl
   rw [this, Int.mul_emod_left, Int.mul_emod_left]
  unfold execOp sl
  rw [← e]
  simp [ho, hx, hy, eqGuard, binOp, Op.shift, IntKind.bits]
  intro h
  omega
theorem run_shrV {P : Program} {a : Act} {o : Oper} (t rt : TypeId) (x y : Operand) (ho : o.op = .binOp .shr t x y rt) (k : Int) (ky : IntKind) (m : Nat) (hx : a.eval x = .int .u64 k) (hy : a.eval y = .int ky (m : Int)) (hm : m ≤ 64) (w : World) :
  (execOp a.eval o).run P w = .ok (.value (.int .u64 (sr k m))) w := run_shrU t rt x y ho k ky m hx hy hm w
def mA (v : Bool) (h l : Int) : Bool := v || (decide (h = 0) && decide (l < 4294967296))
def wdt (v : Bool) : Int := if v = true then 128 else 32
theorem wdt_nn (v : Bool) : 32 ≤ wdt v ∧ wdt v ≤ 128 := by
 cases v <;> decide
def onz (k : Int) : Int := sl 18446744073709551615 (max (64 - k) 0).toNat
def ctH (v : Bool) (h c : Int) : Int := un h (onz (128 - wdt v + c))
def ctL (v : Bool) (l c : Int) : Int := un l (onz (128 - wdt v + c - 64))
def mP (v : Bool) (h l b : Int) : Bool := mA v h l && decide (¬ wdt v < b) && decide (v = v ∧ ctH v h b = h ∧ ctL v l b = l)
def hO (v : Bool) (h l b : Int) (v' : Bool) (h' l' : Int) : Bool := mP v h l b && mA v' h' l' && decide (v' = v ∧ ctH v' h' b = h ∧ ctL v' l' b = l)
def lS (v : Bool) (h l : Int) (v' : Bool) (h' l' : Int) : Bool := if v = v' then (if h = h' then decide (l < l') else decide (h < h')) else v'
def bI (v : Bool) (h l i : Int) : Bool := if v = true then (if i < 64 then decide (un (sr h (63 - i).toNat) 1 = 1) else decide (un (sr l (127 - i).toNat) 1 = 1)) else decide (un (sr l (31 - i).toNat) 1 = 1)
def rP (v : Bool) (h l b : Int) : Bool := mA v h l && decide (¬ wdt v < b) && decide (∀ j, j < (wdt v - b).toNat → bI v h l (b + (j : Int)) = false)
def rH (v : Bool) (h l b : Int) (v' : Bool) (h' l' : Int) : Bool := rP v h l b && mA v' h' l' && decide (v = v') && decide (∀ j, j < b.toNat → bI v h l (j : Int) = bI v' h' l' (j : Int))
set_option maxRecDepth 100000 in
set_option maxHeartbeats 4000000 in
set_option linter.unusedSimpArgs false in
theorem c_mayAddr (v : Bool) (h l : Int) (w : World) (hL : Laid w)  :
  Calls Tryz.prog 36 #[.agg (av 3 (ls [.bool (v), .int .u64 h, .int .u64 l]))] w fun r w' => r = .returned (.bool (mA v h l)) ∧ Below w.heap.size w w' := by
 go_enter Tryz.func36, Tryz.ntmps36
 have M := Mem.start hL
 refine sR ?_
 refine pN M 1 (.cells (av 3 (ls [.bool (v), .int .u64 h, .int .u64 l])) 24) fun g1 u1 M => ?_
 refine pV 2 (.bool false) ?_
 refine nT ?_
 refine sR ?_
 refine pV 3 (.pointer (some ⟨g1, 0, none⟩)) ?_
 rcases Bool.eq_false_or_eq_true (v) with c0 | c0
 ·skip
  refine pEz M 4 g1 0 (.bool true) (fun w M => M.cell 0 rfl (by decide) (congrArg Value.bool c0)) ?_
  refine pV 5 (.bool true) ?_
  refine pl_skip (want_off 2 false rfl 5 rfl (by kernel_rfl)) (some 6) rfl ?_
  refine pl_skip (want_off 2 false rfl 5 rfl (by kernel_rfl)) (some 7) rfl ?_
  refine pl_skip (want_off 2 false rfl 5 rfl (by kernel_rfl)) (some 8) rfl ?_
  refine pl_skip (want_off 2 false rfl 5 rfl (by kernel_rfl)) (some 9) rfl ?_
  refine pl_skip (want_und 6 true rfl 9 rfl (by kernel_rfl)) (some 10) rfl ?_
  refine pl_skip (want_und 6 true rfl 9 rfl (by kernel_rfl)) (some 11) rfl ?_
  refine pl_skip (want_und 6 true rfl 9 rfl (by kernel_rfl)) (some 12) rfl ?_
  refine pl_skip (want_off 2 false rfl 5 rfl (by kernel_rfl)) (some 13) rfl ?_
  refine pV 14 (.bool true) ?_
  refine pV 2 (.bool true) ?_
  refine nT ?_
  refine wp_ret ?_
  have e0 : mA v h l = true := by simp [mA, c0]
  exact bodyPost_ret (v := .bool true) (results_tmp1 Tryz.results36 _ _ _ (by kernel_rfl)) (by kernel_rfl) ⟨by simp only [e0], below_grown M.old⟩
 ·skip
  refine pEz M 4 g1 0 (.bool false) (fun w M => M.cell 0 rfl (by decide) (congrArg Value.bool c0)) ?_
  refine pV 5 (.bool false) ?_
  refine pl_val (want_on 2 false rfl 5 rfl (by kernel_rfl)) (some 6) rfl (.pointer (some ⟨g1, 1, none⟩)) (fun _ => by kernel_rfl) ?_
  refine pl_cell M (want_on 2 false rfl 5 rfl (by kernel_rfl)) (some 7) rfl 22 _ rfl g1 1 (by kernel_rfl) (.int .u64 h) (fun _ => by kernel_rfl) (fun w M => M.cell 0 rfl (by decide) rfl) ?_
  by_cases c1 : h = 0
  ·skip
   refine pl_val (want_on 2 false rfl 5 rfl (by kernel_rfl)) (some 8) rfl (.bool true) (fun w => Eq.trans (b := .ok (.value (.bool (decide (h = 0)))) w) (by kernel_rfl) (by rw [decide_eq_true (c1)])) ?_
   refine pl_val (want_on 2 false rfl 5 rfl (by kernel_rfl)) (some 9) rfl (.bool true) (fun _ => by kernel_rfl) ?_
   refine pl_val (want_on 6 true rfl 9 rfl (by kernel_rfl)) (some 10) rfl (.pointer (some ⟨g1, 2, none⟩)) (fun _ => by kernel_rfl) ?_
   refine pl_cell M (want_on 6 true rfl 9 rfl (by kernel_rfl)) (some 11) rfl 22 _ rfl g1 2 (by kernel_rfl) (.int .u64 l) (fun _ => by kernel_rfl) (fun w M => M.cell 0 rfl (by decide) rfl) ?_
   by_cases c2 : l < 4294967296
   ·skip
    refine pl_val (want_on 6 true rfl 9 rfl (by kernel_rfl)) (some 12) rfl (.bool true) (fun w => Eq.trans (b := .ok (.value (.bool (decide (l < 4294967296)))) w) (by kernel_rfl) (by rw [decide_eq_true (c2)])) ?_
    refine pl_val (want_on 2 false rfl 5 rfl (by kernel_rfl)) (some 13) rfl (.bool true) (fun _ => by kernel_rfl) ?_
    refine pV 14 (.bool true) ?_
    refine pV 2 (.bool true) ?_
    refine nT ?_
    refine wp_ret ?_
    have e0 : mA v h l = true := by simp [mA, c0, c1, c2]
    exact bodyPost_ret (v := .bool true) (results_tmp1 Tryz.results36 _ _ _ (by kernel_rfl)) (by kernel_rfl) ⟨by simp only [e0], below_grown M.old⟩
   ·skip
    refine pl_val (want_on 6 true rfl 9 rfl (by kernel_rfl)) (some 12) rfl (.bool false) (fun w => Eq.trans (b := .ok (.value (.bool (decide (l < 4294967296)))) w) (by kernel_rfl) (by rw [decide_eq_false (c2)])) ?_
    refine pl_val (want_on 2 false rfl 5 rfl (by kernel_rfl)) (some 13) rfl (.bool false) (fun _ => by kernel_rfl) ?_
    refine pV 14 (.bool false) ?_
    refine pV 2 (.bool false) ?_
    refine nT ?_
    refine wp_ret ?_
    have e0 : mA v h l = false := by simp [mA, c0, c1, c2]
    exact bodyPost_ret (v := .bool false) (results_tmp1 Tryz.results36 _ _ _ (by kernel_rfl)) (by kernel_rfl) ⟨by simp only [e0], below_grown M.old⟩
  ·skip
   refine pl_val (want_on 2 false rfl 5 rfl (by kernel_rfl)) (some 8) rfl (.bool false) (fun w => Eq.trans (b := .ok (.value (.bool (decide (h = 0)))) w) (by kernel_rfl) (by rw [decide_eq_false (c1)])) ?_
   refine pl_val (want_on 2 false rfl 5 rfl (by kernel_rfl)) (some 9) rfl (.bool false) (fun _ => by kernel_rfl) ?_
   refine pl_skip (want_off 6 true rfl 9 rfl (by kernel_rfl)) (some 10) rfl ?_
   refine pl_skip (want_off 6 true rfl 9 rfl (by kernel_rfl)) (some 11) rfl ?_
   refine pl_skip (want_off 6 true rfl 9 rfl (by kernel_rfl)) (some 12) rfl ?_
   refine pl_val (want_on 2 false rfl 5 rfl (by kernel_rfl)) (some 13) rfl (.bool false) (fun _ => by kernel_rfl) ?_
   refine pV 14 (.bool false) ?_
   refine pV 2 (.bool false) ?_
   refine nT ?_
   refine wp_ret ?_
   have e0 : mA v h l = false := by simp [mA, c0, c1]
   exact bodyPost_ret (v := .bool false) (results_tmp1 Tryz.results36 _ _ _ (by kernel_rfl)) (by kernel_rfl) ⟨by simp only [e0], below_grown M.old⟩
set_option maxRecDepth 100000 in
set_option maxHeartbeats 4000000 in
set_option linter.unusedSimpArgs false in
theorem d_MayAddr (v : Bool) (h l : Int) (w : World) (hL : Laid w)  :
  Calls Tryz.prog 38 #[.agg (av 3 (ls [.bool (v), .int .u64 h, .int .u64 l]))] w fun r w' => r = .returned (.bool (mA v h l)) ∧ Below w.heap.size w w' := by
 go_enter Tryz.func38, Tryz.ntmps38
 have M := Mem.start hL
 refine sR ?_
 refine pN M 1 (.cells (av 3 (ls [.bool (v), .int .u64 h, .int .u64 l])) 24) fun g1 u1 M => ?_
 refine pV 2 (.bool false) ?_
 refine nT ?_
 refine sR ?_
 refine pV 3 (.pointer (some ⟨g1, 0, none⟩)) ?_
 rcases Bool.eq_false_or_eq_true (v) with c0 | c0
 ·skip
  refine pEz M 4 g1 0 (.bool true) (fun w M => M.cell 0 rfl (by decide) (congrArg Value.bool c0)) ?_
  refine pV 5 (.bool true) ?_
  refine pl_skip (want_off 2 false rfl 5 rfl (by kernel_rfl)) (some 6) rfl ?_
  refine pl_skip (want_off 2 false rfl 5 rfl (by kernel_rfl)) (some 7) rfl ?_
  refine pl_skip (want_off 2 false rfl 5 rfl (by kernel_rfl)) (some 8) rfl ?_
  refine pl_skip (want_off 2 false rfl 5 rfl (by kernel_rfl)) (some 9) rfl ?_
  refine pl_skip (want_und 6 true rfl 9 rfl (by kernel_rfl)) (some 10) rfl ?_
  refine pl_skip (want_und 6 true rfl 9 rfl (by kernel_rfl)) (some 11) rfl ?_
  refine pl_skip (want_und 6 true rfl 9 rfl (by kernel_rfl)) (some 12) rfl ?_
  refine pl_skip (want_off 2 false rfl 5 rfl (by kernel_rfl)) (some 13) rfl ?_
  refine pV 14 (.bool true) ?_
  refine pV 2 (.bool true) ?_
  refine nT ?_
  refine wp_ret ?_
  have e0 : mA v h l = true := by simp [mA, c0]
  exact bodyPost_ret (v := .bool true) (results_tmp1 Tryz.results38 _ _ _ (by kernel_rfl)) (by kernel_rfl) ⟨by simp only [e0], below_grown M.old⟩
 ·skip
  refine pEz M 4 g1 0 (.bool false) (fun w M => M.cell 0 rfl (by decide) (congrArg Value.bool c0)) ?_
  refine pV 5 (.bool false) ?_
  refine pl_val (want_on 2 false rfl 5 rfl (by kernel_rfl)) (some 6) rfl (.pointer (some ⟨g1, 1, none⟩)) (fun _ => by kernel_rfl) ?_
  refine pl_cell M (want_on 2 false rfl 5 rfl (by kernel_rfl)) (some 7) rfl 22 _ rfl g1 1 (by kernel_rfl) (.int .u64 h) (fun _ => by kernel_rfl) (fun w M => M.cell 0 rfl (by decide) rfl) ?_
  by_cases c1 : h = 0
  ·skip
   refine pl_val (want_on 2 false rfl 5 rfl (by kernel_rfl)) (some 8) rfl (.bool true) (fun w => Eq.trans (b := .ok (.value (.bool (decide (h = 0)))) w) (by kernel_rfl) (by rw [decide_eq_true (c1)])) ?_
   refine pl_val (want_on 2 false rfl 5 rfl (by kernel_rfl)) (some 9) rfl (.bool true) (fun _ => by kernel_rfl) ?_
   refine pl_val (want_on 6 true rfl 9 rfl (by kernel_rfl)) (some 10) rfl (.pointer (some ⟨g1, 2, none⟩)) (fun _ => by kernel_rfl) ?_
   refine pl_cell M (want_on 6 true rfl 9 rfl (by kernel_rfl)) (some 11) rfl 22 _ rfl g1 2 (by kernel_rfl) (.int .u64 l) (fun _ => by kernel_rfl) (fun w M => M.cell 0 rfl (by decide) rfl) ?_
   by_cases c2 : l < 4294967296
   ·skip
    refine pl_val (want_on 6 true rfl 9 rfl (by kernel_rfl)) (some 12) rfl (.bool true) (fun w => Eq.trans (b := .ok (.value (.bool (decide (l < 4294967296)))) w) (by kernel_rfl) (by rw [decide_eq_true (c2)])) ?_
    refine pl_val (want_on 2 false rfl 5 rfl (by kernel_rfl)) (some 13) rfl (.bool true) (fun _ => by kernel_rfl) ?_
    refine pV 14 (.bool true) ?_
    refine pV 2 (.bool true) ?_
    refine nT ?_
    refine wp_ret ?_
    have e0 : mA v h l = true := by simp [mA, c0, c1, c2]
    exact bodyPost_ret (v := .bool true) (results_tmp1 Tryz.results38 _ _ _ (by kernel_rfl)) (by kernel_rfl) ⟨by simp only [e0], below_grown M.old⟩
   ·skip
    refine pl_val (want_on 6 true rfl 9 rfl (by kernel_rfl)) (some 12) rfl (.bool false) (fun w => Eq.trans (b := .ok (.value (.bool (decide (l < 4294967296)))) w) (by kernel_rfl) (by rw [decide_eq_false (c2)])) ?_
    refine pl_val (want_on 2 false rfl 5 rfl (by kernel_rfl)) (some 13) rfl (.bool false) (fun _ => by kernel_rfl) ?_
    refine pV 14 (.bool false) ?_
    refine pV 2 (.bool false) ?_
    refine nT ?_
    refine wp_ret ?_
    have e0 : mA v h l = false := by simp [mA, c0, c1, c2]
    exact bodyPost_ret (v := .bool false) (results_tmp1 Tryz.results38 _ _ _ (by kernel_rfl)) (by kernel_rfl) ⟨by simp only [e0], below_grown M.old⟩
  ·skip
   refine pl_val (want_on 2 false rfl 5 rfl (by kernel_rfl)) (some 8) rfl (.bool false) (fun w => Eq.trans (b := .ok (.value (.bool (decide (h = 0)))) w) (by kernel_rfl) (by rw [decide_eq_false (c1)])) ?_
   refine pl_val (want_on 2 false rfl 5 rfl (by kernel_rfl)) (some 9) rfl (.bool false) (fun _ => by kernel_rfl) ?_
   refine pl_skip (want_off 6 true rfl 9 rfl (by kernel_rfl)) (some 10) rfl ?_
   refine pl_skip (want_off 6 true rfl 9 rfl (by kernel_rfl)) (some 11) rfl ?_
   refine pl_skip (want_off 6 true rfl 9 rfl (by kernel_rfl)) (some 12) rfl ?_
   refine pl_val (want_on 2 false rfl 5 rfl (by kernel_rfl)) (some 13) rfl (.bool false) (fun _ => by kernel_rfl) ?_
   refine pV 14 (.bool false) ?_
   refine pV 2 (.bool false) ?_
   refine nT ?_
   refine wp_ret ?_
   have e0 : mA v h l = false := by simp [mA, c0, c1]
   exact bodyPost_ret (v := .bool false) (results_tmp1 Tryz.results38 _ _ _ (by kernel_rfl)) (by kernel_rfl) ⟨by simp only [e0], below_grown M.old⟩
set_option maxRecDepth 100000 in
set_option maxHeartbeats 4000000 in
set_option linter.unusedSimpArgs false in
theorem c_width (v : Bool) (h l : Int) (w : World) (hL : Laid w)  :
  Calls Tryz.prog 54 #[.agg (av 3 (ls [.bool (v), .int .u64 h, .int .u64 l]))] w fun r w' => r = .returned (.int .i64 (wdt v)) ∧ Below w.heap.size w w' := by
 go_enter Tryz.func54, Tryz.ntmps54
 have M := Mem.start hL
 refine sR ?_
 refine pN M 1 (.cells (av 3 (ls [.bool (v), .int .u64 h, .int .u64 l])) 24) fun g1 u1 M => ?_
 refine pV 2 (.int .i64 0) ?_
 refine nT ?_
 refine wp_seq ?_
 refine sR ?_
 refine pV 3 (.pointer (some ⟨g1, 0, none⟩)) ?_
 rcases Bool.eq_false_or_eq_true (v) with c0 | c0
 ·skip
  refine pEz M 4 g1 0 (.bool true) (fun w M => M.cell 0 rfl (by decide) (congrArg Value.bool c0)) ?_
  refine nT ?_
  refine wp_cond_true (by kernel_rfl) ?_
  refine sR ?_
  refine pV 2 (.int .i64 128) ?_
  refine nT ?_
  refine wp_ret ?_
  refine au_then_ret ?_
  have e0 : (wdt v) = 128 := by simp [wdt, c0]
  exact bodyPost_ret (v := .int .i64 128) (results_tmp1 Tryz.results54 _ _ _ (by kernel_rfl)) (by kernel_rfl) ⟨by simp only [e0], below_grown M.old⟩
 ·skip
  refine pEz M 4 g1 0 (.bool false) (fun w M => M.cell 0 rfl (by decide) (congrArg Value.bool c0)) ?_
  refine nT ?_
  refine wp_cond_false (by kernel_rfl) ?_
  refine wp_skip ?_
  refine au_then ?_
  refine sR ?_
  refine pV 2 (.int .i64 32) ?_
  refine nT ?_
  refine wp_ret ?_
  have e0 : (wdt v) = 32 := by simp [wdt, c0]
  exact bodyPost_ret (v := .int .i64 32) (results_tmp1 Tryz.results54 _ _ _ (by kernel_rfl)) (by kernel_rfl) ⟨by simp only [e0], below_grown M.old⟩
set_option maxRecDepth 100000 in
set_option maxHeartbeats 4000000 in
set_option linter.unusedSimpArgs false in
theorem d_size (v : Bool) (h l : Int) (w : World) (hL : Laid w)  :
  Calls Tryz.prog 56 #[.agg (av 3 (ls [.bool (v), .int .u64 h, .int .u64 l]))] w fun r w' => r = .returned (.int .i64 (wdt v)) ∧ Below w.heap.size w w' := by
 go_enter Tryz.func56, Tryz.ntmps56
 have M := Mem.start hL
 refine sR ?_
 refine pN M 1 (.cells (av 3 (ls [.bool (v), .int .u64 h, .int .u64 l])) 24) fun g1 u1 M => ?_
 refine pV 2 (.int .i64 0) ?_
 refine nT ?_
 refine wp_seq ?_
 refine sR ?_
 refine pV 3 (.pointer (some ⟨g1, 0, none⟩)) ?_
 rcases Bool.eq_false_or_eq_true (v) with c0 | c0
 ·skip
  refine pEz M 4 g1 0 (.bool true) (fun w M => M.cell 0 rfl (by decide) (congrArg Value.bool c0)) ?_
  refine nT ?_
  refine wp_cond_true (by kernel_rfl) ?_
  refine sR ?_
  refine pV 2 (.int .i64 128) ?_
  refine nT ?_
  refine wp_ret ?_
  refine au_then_ret ?_
  have e0 : (wdt v) = 128 := by simp [wdt, c0]
  exact bodyPost_ret (v := .int .i64 128) (results_tmp1 Tryz.results56 _ _ _ (by kernel_rfl)) (by kernel_rfl) ⟨by simp only [e0], below_grown M.old⟩
 ·skip
  refine pEz M 4 g1 0 (.bool false) (fun w M => M.cell 0 rfl (by decide) (congrArg Value.bool c0)) ?_
  refine nT ?_
  refine wp_cond_false (by kernel_rfl) ?_
  refine wp_skip ?_
  refine au_then ?_
  refine sR ?_
  refine pV 2 (.int .i64 32) ?_
  refine nT ?_
  refine wp_ret ?_
  have e0 : (wdt v) = 32 := by simp [wdt, c0]
  exact bodyPost_ret (v := .int .i64 32) (results_tmp1 Tryz.results56 _ _ _ (by kernel_rfl)) (by kernel_rfl) ⟨by simp only [e0], below_grown M.old⟩
set_option maxRecDepth 100000 in
set_option maxHeartbeats 4000000 in
set_option linter.unusedSimpArgs false in
theorem c_ones (c : Int) (h0 : -1000 ≤ c) (h1 : c ≤ 1000) (w : World) (hL : Laid w)  :
  Calls Tryz.prog 78 #[.int .i64 c] w fun r w' => r = .returned (.int .u64 (onz c)) ∧ Below w.heap.size w w' := by
 go_enter Tryz.func78, Tryz.ntmps78
 have M := Mem.start hL
 refine sR ?_
 refine pV 2 (.int .u64 0) ?_
 refine nT ?_
 refine sR ?_
 refine pV 3 (.int .i64 c) ?_
 refine pH 4 (.int .i64 (64 - c)) (fun w => Eq.trans (b := .ok (.value (.int .i64 (IntKind.wrap .i64 (64 - c)))) w) (by kernel_rfl) (by rw [wrap64 (by omega) (by omega)])) ?_
 refine pH 5 (.int .i64 (max (64 - c) 0)) (fun w => Eq.trans (b := .ok (.value (.int .i64 (if (0 : Int) > (64 - c) then 0 else (64 - c)))) w) (by kernel_rfl) (by rw [if_max])) ?_
 refine pH 6 (.int .u64 (sl 18446744073709551615 ((max (64 - c) 0).toNat))) (run_shlV 22 3 _ _ rfl 18446744073709551615 .i64 ((max (64 - c) 0).toNat) (by kernel_rfl) (nat_of (k := .i64) (by kernel_rfl) (by omega))) ?_
 refine pV 2 (.int .u64 (sl 18446744073709551615 ((max (64 - c) 0).toNat))) ?_
 refine nT ?_
 refine wp_ret ?_
 have e0 : (onz c) = (sl 18446744073709551615 ((max (64 - c) 0).toNat)) := rfl
 exact bodyPost_ret (v := .int .u64 (sl 18446744073709551615 ((max (64 - c) 0).toNat))) (results_tmp1 Tryz.results78 _ _ _ (by kernel_rfl)) (by kernel_rfl) ⟨by simp only [e0], below_grown M.old⟩
set_option maxRecDepth 100000 in
set_option maxHeartbeats 4000000 in
set_option linter.unusedSimpArgs false in
theorem c_cut (v : Bool) (h l : Int) (b : Int) (hb0 : 0 ≤ b) (hb1 : b ≤ 255) (w : World) (hL : Laid w)  :
  Calls Tryz.prog 55 #[.agg (av 3 (ls [.bool (v), .int .u64 h, .int .u64 l])), .int .u8 b] w fun r w' => r = .returned (.agg (av 3 (ls [.bool (v), .int .u64 (ctH v h b), .int .u64 (ctL v l b)]))) ∧ Below w.heap.size w w' := by
 go_enter Tryz.func55, Tryz.ntmps55
 have M := Mem.start hL
 have hw := wdt_nn v
 refine sR ?_
 refine pN M 2 (.cells (av 3 (ls [.bool (v), .int .u64 h, .int .u64 l])) 24) fun g1 u1 M => ?_
 refine pN M 4 (.cells (av 3 (ls [.bool false, .int .u64 0, .int .u64 0])) 24) fun g2 u2 M => ?_
 refine nT ?_
 refine sR ?_
 refine pAz M 6 0 3 (ls [.bool (v), .int .u64 h, .int .u64 l]) ?_
 refine pC M 7 54 #[.agg (av 3 (ls [.bool (v), .int .u64 h, .int .u64 l]))] (.int .i64 (wdt v)) (fun w M => c_width v h l w M.laid) fun u3 M => ?_
 refine pH 8 (.int .i64 (128 - (wdt v))) (fun w => Eq.trans (b := .ok (.value (.int .i64 (IntKind.wrap .i64 (128 - (wdt v))))) w) (by kernel_rfl) (by rw [wrap64 (by omega) (by omega)])) ?_
 refine pV 9 (.int .u8 b) ?_
 refine pH 10 (.int .i64 b) (fun w => Eq.trans (b := .ok (.value (.int .i64 (IntKind.wrap .i64 b))) w) (by kernel_rfl) (by rw [wrap64 (by omega) (by omega)])) ?_
 refine pH 11 (.int .i64 ((128 - (wdt v)) + b)) (fun w => Eq.trans (b := .ok (.value (.int .i64 (IntKind.wrap .i64 ((128 - (wdt v)) + b)))) w) (by kernel_rfl) (by rw [wrap64 (by omega) (by omega)])) ?_
 refine pV 5 (.int .i64 ((128 - (wdt v)) + b)) ?_
 refine nT ?_
 refine wp_seq ?_
 refine rg_tail M 6 (by kernel_rfl) (by kernel_rfl) ?_
 simp only [List.take_succ_cons, List.take_zero]
 refine kV 12 (.pointer (some ⟨g1, 1, none⟩)) ?_
 refine kE M 13 g1 1 (.int .u64 h) (fun w M => M.cell 0 rfl (by decide) rfl) ?_
 refine kV 14 (.int .i64 ((128 - (wdt v)) + b)) ?_
 refine kC M 15 78 #[.int .i64 ((128 - (wdt v)) + b)] (.int .u64 (onz ((128 - (wdt v)) + b))) (fun w M => c_ones ((128 - (wdt v)) + b) (by have := wdt_nn v; omega) (by have := wdt_nn v; omega) w M.laid) ?_
 refine kV 16 (.int .u64 (un h (onz ((128 - (wdt v)) + b)))) ?_
 refine kV 17 (.pointer (some ⟨g1, 1, none⟩)) ?_
 refine kl_nil fun u4 M => ?_
 refine pP M 0 rfl 1 (.int .u64 (un h (onz ((128 - (wdt v)) + b)))) (ls [.bool (v), .int .u64 (un h (onz ((128 - (wdt v)) + b))), .int .u64 l]) (by decide) (put_ls _ 1 _ _ rfl) fun u5 M => ?_
 refine nT ?_
 refine wp_seq ?_
 refine rg_tail M 7 (by kernel_rfl) (by kernel_rfl) ?_
 simp only [List.take_succ_cons, List.take_zero]
 refine kV 18 (.pointer (some ⟨g1, 2, none⟩)) ?_
 refine kE M 19 g1 2 (.int .u64 l) (fun w M => M.cell 0 rfl (by decide) rfl) ?_
 refine kV 20 (.int .i64 ((128 - (wdt v)) + b)) ?_
 refine kH 21 (.int .i64 (((128 - (wdt v)) + b) - 64)) (fun w => Eq.trans (b := .ok (.value (.int .i64 (IntKind.wrap .i64 (((128 - (wdt v)) + b) - 64)))) w) (by kernel_rfl) (by rw [wrap64 (by omega) (by omega)])) ?_
 refine kC M 22 78 #[.int .i64 (((128 - (wdt v)) + b) - 64)] (.int .u64 (onz (((128 - (wdt v)) + b) - 64))) (fun w M => c_ones (((128 - (wdt v)) + b) - 64) (by have := wdt_nn v; omega) (by have := wdt_nn v; omega) w M.laid) ?_
 refine kV 23 (.int .u64 (un l (onz (((128 - (wdt v)) + b) - 64)))) ?_
 refine kV 24 (.pointer (some ⟨g1, 2, none⟩)) ?_
 refine kl_nil fun u6 M => ?_
 refine pP M 0 rfl 2 (.int .u64 (un l (onz (((128 - (wdt v)) + b) - 64)))) (ls [.bool (v), .int .u64 (un h (onz ((128 - (wdt v)) + b))), .int .u64 (un l (onz (((128 - (wdt v)) + b) - 64)))]) (by decide) (put_ls _ 2 _ _ rfl) fun u7 M => ?_
 refine nT ?_
 refine sR ?_
 refine pAz M 25 0 3 (ls [.bool (v), .int .u64 (un h (onz ((128 - (wdt v)) + b))), .int .u64 (un l (onz (((128 - (wdt v)) + b) - 64)))]) ?_
 refine pl_put M (want_no rfl) rfl 24 _ _ rfl 1 g2 0 (by kernel_rfl) 3 24 (ls [.bool false, .int .u64 0, .int .u64 0]) rfl 3 (ls [.bool (v), .int .u64 (un h (onz ((128 - (wdt v)) + b))), .int .u64 (un l (onz (((128 - (wdt v)) + b) - 64)))]) (ls [.bool (v), .int .u64 (un h (onz ((128 - (wdt v)) + b))), .int .u64 (un l (onz (((128 - (wdt v)) + b) - 64)))]) (by kernel_rfl) inz24 (by decide) (one_ls _ rfl) (fun j hj => by rw [if_pos (by omega), Nat.sub_zero]) fun u8 M => ?_
 refine nT ?_
 refine wp_ret ?_
 have e0 : (ctH v h b) = (un h (onz ((128 - (wdt v)) + b))) := rfl
 have e1 : (ctL v l b) = (un l (onz (((128 - (wdt v)) + b) - 64))) := rfl
 exact bodyPost_ret (v := .agg (av 3 (ls [.bool (v), .int .u64 (un h (onz ((128 - (wdt v)) + b))), .int .u64 (un l (onz (((128 - (wdt v)) + b) - 64)))]))) (results_cell_row Tryz.results55 _ _ g2 24 (av 3 (ls [.bool (v), .int .u64 (un h (onz ((128 - (wdt v)) + b))), .int .u64 (un l (onz (((128 - (wdt v)) + b) - 64)))])) (0, 0) _ (by kernel_rfl) (M.get 1 rfl) Tryz.underlying24 rfl (by rw [av_size]; exact inz24)) (by kernel_rfl) ⟨by simp only [e0, e1], below_grown M.old⟩
set_option maxRecDepth 100000 in
set_option maxHeartbeats 4000000 in
set_option linter.unusedSimpArgs false in
theorem c_MayPrefix (v : Bool) (h l : Int) (b : Int) (hb0 : 0 ≤ b) (hb1 : b ≤ 255) (w : World) (hL : Laid w)  :
  Calls Tryz.prog 26 #[.agg (av 4 (ls [.bool (v), .int .u64 h, .int .u64 l, .int .u8 b]))] w fun r w' => r = .returned (.bool (mP v h l b)) ∧ Below w.heap.size w w' := by
 go_enter Tryz.func26, Tryz.ntmps26
 have M := Mem.start hL
 refine sR ?_
 refine pN M 1 (.cells (av 4 (ls [.bool (v), .int .u64 h, .int .u64 l, .int .u8 b])) 39) fun g1 u1 M => ?_
 refine pV 2 (.bool false) ?_
 refine nT ?_
 refine wp_seq ?_
 refine rg_tail M 22 (by kernel_rfl) (by kernel_rfl) ?_
 simp only [List.take_succ_cons, List.take_zero]
 refine kV 3 (.pointer (some ⟨g1, 0, none⟩)) ?_
 refine kL M 4 0 rfl 0 3 (ls [.bool (v), .int .u64 h, .int .u64 l]) (part_ls _ 0 3 _ rfl) ?_
 rcases Bool.eq_false_or_eq_true (mA v h l) with c0 | c0
 ·skip
  refine kC M 5 36 #[.agg (av 3 (ls [.bool (v), .int .u64 h, .int .u64 l]))] (.bool true) (fun w M => call_val (c_mayAddr v h l w M.laid) (congrArg Value.bool c0)) ?_
  refine kV 6 (.bool true) ?_
  refine k_val (want_on 3 true rfl 6 rfl (by kernel_rfl)) (some 7) rfl (.pointer (some ⟨g1, 3, none⟩)) (fun _ => by kernel_rfl) ?_
  refine k_cell M (want_on 3 true rfl 6 rfl (by kernel_rfl)) (some 8) rfl 5 _ rfl g1 3 (by kernel_rfl) (.int .u8 b) (fun _ => by kernel_rfl) (fun w M => M.cell 0 rfl (by decide) rfl) ?_
  refine k_val (want_on 3 true rfl 6 rfl (by kernel_rfl)) (some 9) rfl (.int .i64 b) (fun w => Eq.trans (b := .ok (.value (.int .i64 (IntKind.wrap .i64 b))) w) (by kernel_rfl) (by rw [wrap64 (by omega) (by omega)])) ?_
  refine k_val (want_on 3 true rfl 6 rfl (by kernel_rfl)) (some 10) rfl (.pointer (some ⟨g1, 0, none⟩)) (fun _ => by kernel_rfl) ?_
  refine k_load M (want_on 3 true rfl 6 rfl (by kernel_rfl)) (some 11) rfl 24 _ rfl 0 g1 0 (by kernel_rfl) 4 39 (ls [.bool (v), .int .u64 h, .int .u64 l, .int .u8 b]) rfl 3 (ls [.bool (v), .int .u64 h, .int .u64 l]) (part_ls _ 0 3 _ rfl) (by decide) _ Tryz.underlying24 rfl inz24 ?_
  refine k_call M (want_on 3 true rfl 6 rfl (by kernel_rfl)) (some 12) rfl 54 #[.agg (av 3 (ls [.bool (v), .int .u64 h, .int .u64 l]))] (.int .i64 (wdt v)) (fun _ => by kernel_rfl) (fun w M => c_width v h l w M.laid) ?_
  by_cases c1 : (wdt v) < b
  ·skip
   refine k_val (want_on 3 true rfl 6 rfl (by kernel_rfl)) (some 13) rfl (.bool false) (fun w => Eq.trans (b := .ok (.value (.bool (decide (b ≤ (wdt v))))) w) (by kernel_rfl) (by rw [decide_eq_false (by omega)])) ?_
   refine kV 14 (.bool false) ?_
   refine kV 15 (.bool false) ?_
   refine k_skip (want_off 12 true rfl 15 rfl (by kernel_rfl)) (some 16) rfl ?_
   refine k_skip (want_off 12 true rfl 15 rfl (by kernel_rfl)) (some 17) rfl ?_
   refine k_skip (want_off 12 true rfl 15 rfl (by kernel_rfl)) (some 18) rfl ?_
   refine k_skip (want_off 12 true rfl 15 rfl (by kernel_rfl)) (some 19) rfl ?_
   refine k_skip (want_off 12 true rfl 15 rfl (by kernel_rfl)) (some 20) rfl ?_
   refine k_skip (want_off 12 true rfl 15 rfl (by kernel_rfl)) (some 21) rfl ?_
   refine k_skip (want_off 12 true rfl 15 rfl (by kernel_rfl)) (some 22) rfl ?_
   refine k_skip (want_off 12 true rfl 15 rfl (by kernel_rfl)) (some 23) rfl ?_
   refine kV 24 (.bool false) ?_
   refine kl_nil fun u2 M => ?_
   refine pV 2 (.bool false) ?_
   refine nT ?_
   refine wp_ret ?_
   have e0 : mP v h l b = false := by unfold mP; rw [c0, decide_eq_false (p := ¬ (wdt v) < b) (not_not_intro c1)] <;> rfl
   exact bodyPost_ret (v := .bool false) (results_tmp1 Tryz.results26 _ _ _ (by kernel_rfl)) (by kernel_rfl) ⟨by simp only [e0], below_grown M.old⟩
  ·skip
   refine k_val (want_on 3 true rfl 6 rfl (by kernel_rfl)) (some 13) rfl (.bool true) (fun w => Eq.trans (b := .ok (.value (.bool (decide (b ≤ (wdt v))))) w) (by kernel_rfl) (by rw [decide_eq_true (by omega)])) ?_
   refine kV 14 (.bool true) ?_
   refine kV 15 (.bool true) ?_
   refine k_val (want_on 12 true rfl 15 rfl (by kernel_rfl)) (some 16) rfl (.pointer (some ⟨g1, 0, none⟩)) (fun _ => by kernel_rfl) ?_
   refine k_load M (want_on 12 true rfl 15 rfl (by kernel_rfl)) (some 17) rfl 24 _ rfl 0 g1 0 (by kernel_rfl) 4 39 (ls [.bool (v), .int .u64 h, .int .u64 l, .int .u8 b]) rfl 3 (ls [.bool (v), .int .u64 h, .int .u64 l]) (part_ls _ 0 3 _ rfl) (by decide) _ Tryz.underlying24 rfl inz24 ?_
   refine k_val (want_on 12 true rfl 15 rfl (by kernel_rfl)) (some 18) rfl (.pointer (some ⟨g1, 3, none⟩)) (fun _ => by kernel_rfl) ?_
   refine k_cell M (want_on 12 true rfl 15 rfl (by kernel_rfl)) (some 19) rfl 5 _ rfl g1 3 (by kernel_rfl) (.int .u8 b) (fun _ => by kernel_rfl) (fun w M => M.cell 0 rfl (by decide) rfl) ?_
   refine k_call M (want_on 12 true rfl 15 rfl (by kernel_rfl)) (some 20) rfl 55 #[.agg (av 3 (ls [.bool (v), .int .u64 h, .int .u64 l])), .int .u8 b] (.agg (av 3 (ls [.bool (v), .int .u64 (ctH v h b), .int .u64 (ctL v l b)]))) (fun _ => by kernel_rfl) (fun w M => c_cut v h l b (by omega) (by omega) w M.laid) ?_
   refine k_val (want_on 12 true rfl 15 rfl (by kernel_rfl)) (some 21) rfl (.pointer (some ⟨g1, 0, none⟩)) (fun _ => by kernel_rfl) ?_
   refine k_load M (want_on 12 true rfl 15 rfl (by kernel_rfl)) (some 22) rfl 24 _ rfl 0 g1 0 (by kernel_rfl) 4 39 (ls [.bool (v), .int .u64 h, .int .u64 l, .int .u8 b]) rfl 3 (ls [.bool (v), .int .u64 h, .int .u64 l]) (part_ls _ 0 3 _ rfl) (by decide) _ Tryz.underlying24 rfl inz24 ?_
   by_cases c2 : v = v ∧ (ctH v h b) = h ∧ (ctL v l b) = l
   ·skip
    refine k_val (want_on 12 true rfl 15 rfl (by kernel_rfl)) (some 23) rfl (.bool true) (fun w => (eql24 v v (ctH v h b) h (ctL v l b) l _ _ rfl (by kernel_rfl) (by kernel_rfl) w).trans (by rw [decide_eq_true c2])) ?_
    refine kV 24 (.bool true) ?_
    refine kl_nil fun u2 M => ?_
    refine pV 2 (.bool true) ?_
    refine nT ?_
    refine wp_ret ?_
    have e0 : mP v h l b = true := by unfold mP; rw [c0, decide_eq_true (p := ¬ (wdt v) < b) c1, decide_eq_true c2] <;> rfl
    exact bodyPost_ret (v := .bool true) (results_tmp1 Tryz.results26 _ _ _ (by kernel_rfl)) (by kernel_rfl) ⟨by simp only [e0], below_grown M.old⟩
   ·skip
    refine k_val (want_on 12 true rfl 15 rfl (by kernel_rfl)) (some 23) rfl (.bool false) (fun w => (eql24 v v (ctH v h b) h (ctL v l b) l _ _ rfl (by kernel_rfl) (by kernel_rfl) w).trans (by rw [decide_eq_false c2])) ?_
    refine kV 24 (.bool false) ?_
    refine kl_nil fun u2 M => ?_
    refine pV 2 (.bool false) ?_
    refine nT ?_
    refine wp_ret ?_
    have e0 : mP v h l b = false := by unfold mP; rw [c0, decide_eq_true (p := ¬ (wdt v) < b) c1, decide_eq_false c2] <;> rfl
    exact bodyPost_ret (v := .bool false) (results_tmp1 Tryz.results26 _ _ _ (by kernel_rfl)) (by kernel_rfl) ⟨by simp only [e0], below_grown M.old⟩
 ·skip
  refine kC M 5 36 #[.agg (av 3 (ls [.bool (v), .int .u64 h, .int .u64 l]))] (.bool false) (fun w M => call_val (c_mayAddr v h l w M.laid) (congrArg Value.bool c0)) ?_
  refine kV 6 (.bool false) ?_
  refine k_skip (want_off 3 true rfl 6 rfl (by kernel_rfl)) (some 7) rfl ?_
  refine k_skip (want_off 3 true rfl 6 rfl (by kernel_rfl)) (some 8) rfl ?_
  refine k_skip (want_off 3 true rfl 6 rfl (by kernel_rfl)) (some 9) rfl ?_
  refine k_skip (want_off 3 true rfl 6 rfl (by kernel_rfl)) (some 10) rfl ?_
  refine k_skip (want_off 3 true rfl 6 rfl (by kernel_rfl)) (some 11) rfl ?_
  refine k_skip (want_off 3 true rfl 6 rfl (by kernel_rfl)) (some 12) rfl ?_
  refine k_skip (want_off 3 true rfl 6 rfl (by kernel_rfl)) (some 13) rfl ?_
  refine kV 14 (.bool false) ?_
  refine kV 15 (.bool false) ?_
  refine k_skip (want_off 12 true rfl 15 rfl (by kernel_rfl)) (some 16) rfl ?_
  refine k_skip (want_off 12 true rfl 15 rfl (by kernel_rfl)) (some 17) rfl ?_
  refine k_skip (want_off 12 true rfl 15 rfl (by kernel_rfl)) (some 18) rfl ?_
  refine k_skip (want_off 12 true rfl 15 rfl (by kernel_rfl)) (some 19) rfl ?_
  refine k_skip (want_off 12 true rfl 15 rfl (by kernel_rfl)) (some 20) rfl ?_
  refine k_skip (want_off 12 true rfl 15 rfl (by kernel_rfl)) (some 21) rfl ?_
  refine k_skip (want_off 12 true rfl 15 rfl (by kernel_rfl)) (some 22) rfl ?_
  refine k_skip (want_off 12 true rfl 15 rfl (by kernel_rfl)) (some 23) rfl ?_
  refine kV 24 (.bool false) ?_
  refine kl_nil fun u2 M => ?_
  refine pV 2 (.bool false) ?_
  refine nT ?_
  refine wp_ret ?_
  have e0 : mP v h l b = false := by unfold mP; rw [c0] <;> rfl
  exact bodyPost_ret (v := .bool false) (results_tmp1 Tryz.results26 _ _ _ (by kernel_rfl)) (by kernel_rfl) ⟨by simp only [e0], below_grown M.old⟩
set_option maxRecDepth 100000 in
set_option maxHeartbeats 4000000 in
set_option linter.unusedSimpArgs false in
theorem c_Holds (v : Bool) (h l : Int) (b : Int) (hb0 : 0 ≤ b) (hb1 : b ≤ 255) (v' : Bool) (h' l' : Int) (w : World) (hL : Laid w)  :
  Calls Tryz.prog 28 #[.agg (av 4 (ls [.bool (v), .int .u64 h, .int .u64 l, .int .u8 b])), .agg (av 3 (ls [.bool (v'), .int .u64 h', .int .u64 l']))] w fun r w' => r = .returned (.bool (hO v h l b v' h' l')) ∧ Below w.heap.size w w' := by
 go_enter Tryz.func28, Tryz.ntmps28
 have M := Mem.start hL
 refine sR ?_
 refine pN M 2 (.cells (av 4 (ls [.bool (v), .int .u64 h, .int .u64 l, .int .u8 b])) 39) fun g1 u1 M => ?_
 refine pN M 3 (.cells (av 3 (ls [.bool (v'), .int .u64 h', .int .u64 l'])) 24) fun g2 u2 M => ?_
 refine pV 4 (.bool false) ?_
 refine nT ?_
 refine wp_seq ?_
 refine rg_tail M 15 (by kernel_rfl) (by kernel_rfl) ?_
 simp only [List.take_succ_cons, List.take_zero]
 refine kA M 5 0 4 (ls [.bool (v), .int .u64 h, .int .u64 l, .int .u8 b]) ?_
 rcases Bool.eq_false_or_eq_true (mP v h l b) with c0 | c0
 ·skip
  refine kC M 6 26 #[.agg (av 4 (ls [.bool (v), .int .u64 h, .int .u64 l, .int .u8 b]))] (.bool true) (fun w M => call_val (c_MayPrefix v h l b (by omega) (by omega) w M.laid) (congrArg Value.bool c0)) ?_
  refine kV 7 (.bool true) ?_
  refine k_load M (want_on 2 true rfl 7 rfl (by kernel_rfl)) (some 8) rfl 24 _ rfl 1 g2 0 (by kernel_rfl) 3 24 (ls [.bool (v'), .int .u64 h', .int .u64 l']) rfl 3 (ls [.bool (v'), .int .u64 h', .int .u64 l']) (fun j _ => by rw [Nat.zero_add]) (by decide) _ Tryz.underlying24 rfl inz24 ?_
  rcases Bool.eq_false_or_eq_true (mA v' h' l') with c1 | c1
  ·skip
   refine k_call M (want_on 2 true rfl 7 rfl (by kernel_rfl)) (some 9) rfl 36 #[.agg (av 3 (ls [.bool (v'), .int .u64 h', .int .u64 l']))] (.bool true) (fun _ => by kernel_rfl) (fun w M => call_val (c_mayAddr v' h' l' w M.laid) (congrArg Value.bool c1)) ?_
   refine kV 10 (.bool true) ?_
   refine kV 11 (.bool true) ?_
   refine k_load M (want_on 6 true rfl 11 rfl (by kernel_rfl)) (some 12) rfl 24 _ rfl 1 g2 0 (by kernel_rfl) 3 24 (ls [.bool (v'), .int .u64 h', .int .u64 l']) rfl 3 (ls [.bool (v'), .int .u64 h', .int .u64 l']) (fun j _ => by rw [Nat.zero_add]) (by decide) _ Tryz.underlying24 rfl inz24 ?_
   refine k_val (want_on 6 true rfl 11 rfl (by kernel_rfl)) (some 13) rfl (.pointer (some ⟨g1, 3, none⟩)) (fun _ => by kernel_rfl) ?_
   refine k_cell M (want_on 6 true rfl 11 rfl (by kernel_rfl)) (some 14) rfl 5 _ rfl g1 3 (by kernel_rfl) (.int .u8 b) (fun _ => by kernel_rfl) (fun w M => M.cell 0 rfl (by decide) rfl) ?_
   refine k_call M (want_on 6 true rfl 11 rfl (by kernel_rfl)) (some 15) rfl 55 #[.agg (av 3 (ls [.bool (v'), .int .u64 h', .int .u64 l'])), .int .u8 b] (.agg (av 3 (ls [.bool (v'), .int .u64 (ctH v' h' b), .int .u64 (ctL v' l' b)]))) (fun _ => by kernel_rfl) (fun w M => c_cut v' h' l' b (by omega) (by omega) w M.laid) ?_
   refine k_val (want_on 6 true rfl 11 rfl (by kernel_rfl)) (some 16) rfl (.pointer (some ⟨g1, 0, none⟩)) (fun _ => by kernel_rfl) ?_
   refine k_load M (want_on 6 true rfl 11 rfl (by kernel_rfl)) (some 17) rfl 24 _ rfl 0 g1 0 (by kernel_rfl) 4 39 (ls [.bool (v), .int .u64 h, .int .u64 l, .int .u8 b]) rfl 3 (ls [.bool (v), .int .u64 h, .int .u64 l]) (part_ls _ 0 3 _ rfl) (by decide) _ Tryz.underlying24 rfl inz24 ?_
   by_cases c2 : v' = v ∧ (ctH v' h' b) = h ∧ (ctL v' l' b) = l
   ·skip
    refine k_val (want_on 6 true rfl 11 rfl (by kernel_rfl)) (some 18) rfl (.bool true) (fun w => (eql24 v' v (ctH v' h' b) h (ctL v' l' b) l _ _ rfl (by kernel_rfl) (by kernel_rfl) w).trans (by rw [decide_eq_true c2])) ?_
    refine kV 19 (.bool true) ?_
    refine kl_nil fun u3 M => ?_
    refine pV 4 (.bool true) ?_
    refine nT ?_
    refine wp_ret ?_
    have e0 : hO v h l b v' h' l' = true := by unfold hO; rw [c0, c1, decide_eq_true c2] <;> rfl
    exact bodyPost_ret (v := .bool true) (results_tmp1 Tryz.results28 _ _ _ (by kernel_rfl)) (by kernel_rfl) ⟨by simp only [e0], below_grown M.old⟩
   ·skip
    refine k_val (want_on 6 true rfl 11 rfl (by kernel_rfl)) (some 18) rfl (.bool false) (fun w => (eql24 v' v (ctH v' h' b) h (ctL v' l' b) l _ _ rfl (by kernel_rfl) (by kernel_rfl) w).trans (by rw [decide_eq_false c2])) ?_
    refine kV 19 (.bool false) ?_
    refine kl_nil fun u3 M => ?_
    refine pV 4 (.bool false) ?_
    refine nT ?_
    refine wp_ret ?_
    have e0 : hO v h l b v' h' l' = false := by unfold hO; rw [c0, c1, decide_eq_false c2] <;> rfl
    exact bodyPost_ret (v := .bool false) (results_tmp1 Tryz.results28 _ _ _ (by kernel_rfl)) (by kernel_rfl) ⟨by simp only [e0], below_grown M.old⟩
  ·skip
   refine k_call M (want_on 2 true rfl 7 rfl (by kernel_rfl)) (some 9) rfl 36 #[.agg (av 3 (ls [.bool (v'), .int .u64 h', .int .u64 l']))] (.bool false) (fun _ => by kernel_rfl) (fun w M => call_val (c_mayAddr v' h' l' w M.laid) (congrArg Value.bool c1)) ?_
   refine kV 10 (.bool false) ?_
   refine kV 11 (.bool false) ?_
   refine k_skip (want_off 6 true rfl 11 rfl (by kernel_rfl)) (some 12) rfl ?_
   refine k_skip (want_off 6 true rfl 11 rfl (by kernel_rfl)) (some 13) rfl ?_
   refine k_skip (want_off 6 true rfl 11 rfl (by kernel_rfl)) (some 14) rfl ?_
   refine k_skip (want_off 6 true rfl 11 rfl (by kernel_rfl)) (some 15) rfl ?_
   refine k_skip (want_off 6 true rfl 11 rfl (by kernel_rfl)) (some 16) rfl ?_
   refine k_skip (want_off 6 true rfl 11 rfl (by kernel_rfl)) (some 17) rfl ?_
   refine k_skip (want_off 6 true rfl 11 rfl (by kernel_rfl)) (some 18) rfl ?_
   refine kV 19 (.bool false) ?_
   refine kl_nil fun u3 M => ?_
   refine pV 4 (.bool false) ?_
   refine nT ?_
   refine wp_ret ?_
   have e0 : hO v h l b v' h' l' = false := by unfold hO; rw [c0, c1] <;> rfl
   exact bodyPost_ret (v := .bool false) (results_tmp1 Tryz.results28 _ _ _ (by kernel_rfl)) (by kernel_rfl) ⟨by simp only [e0], below_grown M.old⟩
 ·skip
  refine kC M 6 26 #[.agg (av 4 (ls [.bool (v), .int .u64 h, .int .u64 l, .int .u8 b]))] (.bool false) (fun w M => call_val (c_MayPrefix v h l b (by omega) (by omega) w M.laid) (congrArg Value.bool c0)) ?_
  refine kV 7 (.bool false) ?_
  refine k_skip (want_off 2 true rfl 7 rfl (by kernel_rfl)) (some 8) rfl ?_
  refine k_skip (want_off 2 true rfl 7 rfl (by kernel_rfl)) (some 9) rfl ?_
  refine kV 10 (.bool false) ?_
  refine kV 11 (.bool false) ?_
  refine k_skip (want_off 6 true rfl 11 rfl (by kernel_rfl)) (some 12) rfl ?_
  refine k_skip (want_off 6 true rfl 11 rfl (by kernel_rfl)) (some 13) rfl ?_
  refine k_skip (want_off 6 true rfl 11 rfl (by kernel_rfl)) (some 14) rfl ?_
  refine k_skip (want_off 6 true rfl 11 rfl (by kernel_rfl)) (some 15) rfl ?_
  refine k_skip (want_off 6 true rfl 11 rfl (by kernel_rfl)) (some 16) rfl ?_
  refine k_skip (want_off 6 true rfl 11 rfl (by kernel_rfl)) (some 17) rfl ?_
  refine k_skip (want_off 6 true rfl 11 rfl (by kernel_rfl)) (some 18) rfl ?_
  refine kV 19 (.bool false) ?_
  refine kl_nil fun u3 M => ?_
  refine pV 4 (.bool false) ?_
  refine nT ?_
  refine wp_ret ?_
  have e0 : hO v h l b v' h' l' = false := by unfold hO; rw [c0] <;> rfl
  exact bodyPost_ret (v := .bool false) (results_tmp1 Tryz.results28 _ _ _ (by kernel_rfl)) (by kernel_rfl) ⟨by simp only [e0], below_grown M.old⟩
set_option maxRecDepth 100000 in
set_option maxHeartbeats 4000000 in
set_option linter.unusedSimpArgs false in
theorem c_Less (v : Bool) (h l : Int) (v' : Bool) (h' l' : Int) (w : World) (hL : Laid w)  :
  Calls Tryz.prog 30 #[.agg (av 3 (ls [.bool (v), .int .u64 h, .int .u64 l])), .agg (av 3 (ls [.bool (v'), .int .u64 h', .int .u64 l']))] w fun r w' => r = .returned (.bool (lS v h l v' h' l')) ∧ Below w.heap.size w w' := by
 go_enter Tryz.func30, Tryz.ntmps30
 have M := Mem.start hL
 refine sR ?_
 refine pN M 2 (.cells (av 3 (ls [.bool (v), .int .u64 h, .int .u64 l])) 24) fun g1 u1 M => ?_
 refine pN M 3 (.cells (av 3 (ls [.bool (v'), .int .u64 h', .int .u64 l'])) 24) fun g2 u2 M => ?_
 refine pV 4 (.bool false) ?_
 refine nT ?_
 refine wp_seq ?_
 refine wp_block ?_
 refine sR ?_
 refine pV 6 (.pointer (some ⟨g1, 0, none⟩)) ?_
 rcases Bool.eq_false_or_eq_true (v) with c0 | c0
 ·skip
  refine pEz M 7 g1 0 (.bool true) (fun w M => M.cell 0 rfl (by decide) (congrArg Value.bool c0)) ?_
  refine pV 8 (.pointer (some ⟨g2, 0, none⟩)) ?_
  rcases Bool.eq_false_or_eq_true (v') with c1 | c1
  ·skip
   refine pEz M 9 g2 0 (.bool true) (fun w M => M.cell 1 rfl (by decide) (congrArg Value.bool c1)) ?_
   refine pV 10 (.bool false) ?_
   refine pV 5 (.bool false) ?_
   refine nT ?_
   refine wp_cond_false (by kernel_rfl) ?_
   refine sR ?_
   refine pV 14 (.pointer (some ⟨g1, 1, none⟩)) ?_
   refine pEz M 15 g1 1 (.int .u64 h) (fun w M => M.cell 0 rfl (by decide) rfl) ?_
   refine pV 16 (.pointer (some ⟨g2, 1, none⟩)) ?_
   refine pEz M 17 g2 1 (.int .u64 h') (fun w M => M.cell 1 rfl (by decide) rfl) ?_
   by_cases c2 : h = h'
   ·skip
    refine pH 18 (.bool false) (nF (h = h') (c2)) ?_
    refine pV 13 (.bool false) ?_
    refine nT ?_
    refine wp_cond_false (by kernel_rfl) ?_
    refine wp_skip ?_
    refine au_block ?_
    refine au_then ?_
    refine sR ?_
    refine pV 24 (.pointer (some ⟨g1, 2, none⟩)) ?_
    refine pEz M 25 g1 2 (.int .u64 l) (fun w M => M.cell 0 rfl (by decide) rfl) ?_
    refine pV 26 (.pointer (some ⟨g2, 2, none⟩)) ?_
    refine pEz M 27 g2 2 (.int .u64 l') (fun w M => M.cell 1 rfl (by decide) rfl) ?_
    by_cases c3 : l < l'
    ·skip
     refine pH 28 (.bool true) (dTz (l < l') (c3)) ?_
     refine pV 4 (.bool true) ?_
     refine nT ?_
     refine wp_ret ?_
     have e0 : lS v h l v' h' l' = true := by simp [lS, c0, c1, c2, c3] <;> omega
     exact bodyPost_ret (v := .bool true) (results_tmp1 Tryz.results30 _ _ _ (by kernel_rfl)) (by kernel_rfl) ⟨by simp only [e0], below_grown M.old⟩
    ·skip
     refine pH 28 (.bool false) (dF (l < l') (c3)) ?_
     refine pV 4 (.bool false) ?_
     refine nT ?_
     refine wp_ret ?_
     have e0 : lS v h l v' h' l' = false := by simp [lS, c0, c1, c2, c3] <;> omega
     exact bodyPost_ret (v := .bool false) (results_tmp1 Tryz.results30 _ _ _ (by kernel_rfl)) (by kernel_rfl) ⟨by simp only [e0], below_grown M.old⟩
   ·skip
    refine pH 18 (.bool true) (nU (h = h') (c2)) ?_
    refine pV 13 (.bool true) ?_
    refine nT ?_
    refine wp_cond_true (by kernel_rfl) ?_
    refine sR ?_
    refine pV 19 (.pointer (some ⟨g1, 1, none⟩)) ?_
    refine pEz M 20 g1 1 (.int .u64 h) (fun w M => M.cell 0 rfl (by decide) rfl) ?_
    refine pV 21 (.pointer (some ⟨g2, 1, none⟩)) ?_
    refine pEz M 22 g2 1 (.int .u64 h') (fun w M => M.cell 1 rfl (by decide) rfl) ?_
    by_cases c3 : h < h'
    ·skip
     refine pH 23 (.bool true) (dTz (h < h') (c3)) ?_
     refine pV 4 (.bool true) ?_
     refine nT ?_
     refine wp_ret ?_
     refine au_block_ret ?_
     refine au_then_ret ?_
     have e0 : lS v h l v' h' l' = true := by simp [lS, c0, c1, c2, c3] <;> omega
     exact bodyPost_ret (v := .bool true) (results_tmp1 Tryz.results30 _ _ _ (by kernel_rfl)) (by kernel_rfl) ⟨by simp only [e0], below_grown M.old⟩
    ·skip
     refine pH 23 (.bool false) (dF (h < h') (c3)) ?_
     refine pV 4 (.bool false) ?_
     refine nT ?_
     refine wp_ret ?_
     refine au_block_ret ?_
     refine au_then_ret ?_
     have e0 : lS v h l v' h' l' = false := by simp [lS, c0, c1, c2, c3] <;> omega
     exact bodyPost_ret (v := .bool false) (results_tmp1 Tryz.results30 _ _ _ (by kernel_rfl)) (by kernel_rfl) ⟨by simp only [e0], below_grown M.old⟩
  ·skip
   refine pEz M 9 g2 0 (.bool false) (fun w M => M.cell 1 rfl (by decide) (congrArg Value.bool c1)) ?_
   refine pV 10 (.bool true) ?_
   refine pV 5 (.bool true) ?_
   refine nT ?_
   refine wp_cond_true (by kernel_rfl) ?_
   refine sR ?_
   refine pV 11 (.pointer (some ⟨g2, 0, none⟩)) ?_
   refine pEz M 12 g2 0 (.bool false) (fun w M => M.cell 1 rfl (by decide) (congrArg Value.bool c1)) ?_
   refine pV 4 (.bool false) ?_
   refine nT ?_
   refine wp_ret ?_
   refine au_block_ret ?_
   refine au_then_ret ?_
   have e0 : lS v h l v' h' l' = false := by simp [lS, c0, c1] <;> omega
   exact bodyPost_ret (v := .bool false) (results_tmp1 Tryz.results30 _ _ _ (by kernel_rfl)) (by kernel_rfl) ⟨by simp only [e0], below_grown M.old⟩
 ·skip
  refine pEz M 7 g1 0 (.bool false) (fun w M => M.cell 0 rfl (by decide) (congrArg Value.bool c0)) ?_
  refine pV 8 (.pointer (some ⟨g2, 0, none⟩)) ?_
  rcases Bool.eq_false_or_eq_true (v') with c1 | c1
  ·skip
   refine pEz M 9 g2 0 (.bool true) (fun w M => M.cell 1 rfl (by decide) (congrArg Value.bool c1)) ?_
   refine pV 10 (.bool true) ?_
   refine pV 5 (.bool true) ?_
   refine nT ?_
   refine wp_cond_true (by kernel_rfl) ?_
   refine sR ?_
   refine pV 11 (.pointer (some ⟨g2, 0, none⟩)) ?_
   refine pEz M 12 g2 0 (.bool true) (fun w M => M.cell 1 rfl (by decide) (congrArg Value.bool c1)) ?_
   refine pV 4 (.bool true) ?_
   refine nT ?_
   refine wp_ret ?_
   refine au_block_ret ?_
   refine au_then_ret ?_
   have e0 : lS v h l v' h' l' = true := by simp [lS, c0, c1] <;> omega
   exact bodyPost_ret (v := .bool true) (results_tmp1 Tryz.results30 _ _ _ (by kernel_rfl)) (by kernel_rfl) ⟨by simp only [e0], below_grown M.old⟩
  ·skip
   refine pEz M 9 g2 0 (.bool false) (fun w M => M.cell 1 rfl (by decide) (congrArg Value.bool c1)) ?_
   refine pV 10 (.bool false) ?_
   refine pV 5 (.bool false) ?_
   refine nT ?_
   refine wp_cond_false (by kernel_rfl) ?_
   refine sR ?_
   refine pV 14 (.pointer (some ⟨g1, 1, none⟩)) ?_
   refine pEz M 15 g1 1 (.int .u64 h) (fun w M => M.cell 0 rfl (by decide) rfl) ?_
   refine pV 16 (.pointer (some ⟨g2, 1, none⟩)) ?_
   refine pEz M 17 g2 1 (.int .u64 h') (fun w M => M.cell 1 rfl (by decide) rfl) ?_
   by_cases c2 : h = h'
   ·skip
    refine pH 18 (.bool false) (nF (h = h') (c2)) ?_
    refine pV 13 (.bool false) ?_
    refine nT ?_
    refine wp_cond_false (by kernel_rfl) ?_
    refine wp_skip ?_
    refine au_block ?_
    refine au_then ?_
    refine sR ?_
    refine pV 24 (.pointer (some ⟨g1, 2, none⟩)) ?_
    refine pEz M 25 g1 2 (.int .u64 l) (fun w M => M.cell 0 rfl (by decide) rfl) ?_
    refine pV 26 (.pointer (some ⟨g2, 2, none⟩)) ?_
    refine pEz M 27 g2 2 (.int .u64 l') (fun w M => M.cell 1 rfl (by decide) rfl) ?_
    by_cases c3 : l < l'
    ·skip
     refine pH 28 (.bool true) (dTz (l < l') (c3)) ?_
     refine pV 4 (.bool true) ?_
     refine nT ?_
     refine wp_ret ?_
     have e0 : lS v h l v' h' l' = true := by simp [lS, c0, c1, c2, c3] <;> omega
     exact bodyPost_ret (v := .bool true) (results_tmp1 Tryz.results30 _ _ _ (by kernel_rfl)) (by kernel_rfl) ⟨by simp only [e0], below_grown M.old⟩
    ·skip
     refine pH 28 (.bool false) (dF (l < l') (c3)) ?_
     refine pV 4 (.bool false) ?_
     refine nT ?_
     refine wp_ret ?_
     have e0 : lS v h l v' h' l' = false := by simp [lS, c0, c1, c2, c3] <;> omega
     exact bodyPost_ret (v := .bool false) (results_tmp1 Tryz.results30 _ _ _ (by kernel_rfl)) (by kernel_rfl) ⟨by simp only [e0], below_grown M.old⟩
   ·skip
    refine pH 18 (.bool true) (nU (h = h') (c2)) ?_
    refine pV 13 (.bool true) ?_
    refine nT ?_
    refine wp_cond_true (by kernel_rfl) ?_
    refine sR ?_
    refine pV 19 (.pointer (some ⟨g1, 1, none⟩)) ?_
    refine pEz M 20 g1 1 (.int .u64 h) (fun w M => M.cell 0 rfl (by decide) rfl) ?_
    refine pV 21 (.pointer (some ⟨g2, 1, none⟩)) ?_
    refine pEz M 22 g2 1 (.int .u64 h') (fun w M => M.cell 1 rfl (by decide) rfl) ?_
    by_cases c3 : h < h'
    ·skip
     refine pH 23 (.bool true) (dTz (h < h') (c3)) ?_
     refine pV 4 (.bool true) ?_
     refine nT ?_
     refine wp_ret ?_
     refine au_block_ret ?_
     refine au_then_ret ?_
     have e0 : lS v h l v' h' l' = true := by simp [lS, c0, c1, c2, c3] <;> omega
     exact bodyPost_ret (v := .bool true) (results_tmp1 Tryz.results30 _ _ _ (by kernel_rfl)) (by kernel_rfl) ⟨by simp only [e0], below_grown M.old⟩
    ·skip
     refine pH 23 (.bool false) (dF (h < h') (c3)) ?_
     refine pV 4 (.bool false) ?_
     refine nT ?_
     refine wp_ret ?_
     refine au_block_ret ?_
     refine au_then_ret ?_
     have e0 : lS v h l v' h' l' = false := by simp [lS, c0, c1, c2, c3] <;> omega
     exact bodyPost_ret (v := .bool false) (results_tmp1 Tryz.results30 _ _ _ (by kernel_rfl)) (by kernel_rfl) ⟨by simp only [e0], below_grown M.old⟩
set_option maxRecDepth 100000 in
set_option maxHeartbeats 4000000 in
set_option linter.unusedSimpArgs false in
theorem d_Less (v : Bool) (h l : Int) (v' : Bool) (h' l' : Int) (w : World) (hL : Laid w)  :
  Calls Tryz.prog 31 #[.agg (av 3 (ls [.bool (v), .int .u64 h, .int .u64 l])), .agg (av 3 (ls [.bool (v'), .int .u64 h', .int .u64 l']))] w fun r w' => r = .returned (.bool (lS v h l v' h' l')) ∧ Below w.heap.size w w' := by
 go_enter Tryz.func31, Tryz.ntmps31
 have M := Mem.start hL
 refine sR ?_
 refine pN M 2 (.cells (av 3 (ls [.bool (v), .int .u64 h, .int .u64 l])) 24) fun g1 u1 M => ?_
 refine pN M 3 (.cells (av 3 (ls [.bool (v'), .int .u64 h', .int .u64 l'])) 24) fun g2 u2 M => ?_
 refine pV 4 (.bool false) ?_
 refine nT ?_
 refine wp_seq ?_
 refine sR ?_
 refine pV 5 (.pointer (some ⟨g1, 0, none⟩)) ?_
 rcases Bool.eq_false_or_eq_true (v) with c0 | c0
 ·skip
  refine pEz M 6 g1 0 (.bool true) (fun w M => M.cell 0 rfl (by decide) (congrArg Value.bool c0)) ?_
  refine pV 7 (.pointer (some ⟨g2, 0, none⟩)) ?_
  rcases Bool.eq_false_or_eq_true (v') with c1 | c1
  ·skip
   refine pEz M 8 g2 0 (.bool true) (fun w M => M.cell 1 rfl (by decide) (congrArg Value.bool c1)) ?_
   refine pV 9 (.bool false) ?_
   refine nT ?_
   refine wp_cond_false (by kernel_rfl) ?_
   refine wp_skip ?_
   refine au_then ?_
   refine sR ?_
   refine pV 12 (.pointer (some ⟨g1, 1, none⟩)) ?_
   refine pEz M 13 g1 1 (.int .u64 h) (fun w M => M.cell 0 rfl (by decide) rfl) ?_
   refine pV 14 (.pointer (some ⟨g2, 1, none⟩)) ?_
   refine pEz M 15 g2 1 (.int .u64 h') (fun w M => M.cell 1 rfl (by decide) rfl) ?_
   by_cases c2 : h < h'
   ·skip
    refine pH 16 (.bool true) (dTz (h < h') (c2)) ?_
    refine pV 17 (.bool true) ?_
    refine pl_skip (want_off 5 false rfl 17 rfl (by kernel_rfl)) (some 18) rfl ?_
    refine pl_skip (want_off 5 false rfl 17 rfl (by kernel_rfl)) (some 19) rfl ?_
    refine pl_skip (want_off 5 false rfl 17 rfl (by kernel_rfl)) (some 20) rfl ?_
    refine pl_skip (want_off 5 false rfl 17 rfl (by kernel_rfl)) (some 21) rfl ?_
    refine pl_skip (want_off 5 false rfl 17 rfl (by kernel_rfl)) (some 22) rfl ?_
    refine pl_skip (want_off 5 false rfl 17 rfl (by kernel_rfl)) (some 23) rfl ?_
    refine pl_skip (want_und 11 true rfl 23 rfl (by kernel_rfl)) (some 24) rfl ?_
    refine pl_skip (want_und 11 true rfl 23 rfl (by kernel_rfl)) (some 25) rfl ?_
    refine pl_skip (want_und 11 true rfl 23 rfl (by kernel_rfl)) (some 26) rfl ?_
    refine pl_skip (want_und 11 true rfl 23 rfl (by kernel_rfl)) (some 27) rfl ?_
    refine pl_skip (want_und 11 true rfl 23 rfl (by kernel_rfl)) (some 28) rfl ?_
    refine pl_skip (want_off 5 false rfl 17 rfl (by kernel_rfl)) (some 29) rfl ?_
    refine pV 30 (.bool true) ?_
    refine pV 4 (.bool true) ?_
    refine nT ?_
    refine wp_ret ?_
    have e0 : lS v h l v' h' l' = true := by simp [lS, c0, c1, c2] <;> omega
    exact bodyPost_ret (v := .bool true) (results_tmp1 Tryz.results31 _ _ _ (by kernel_rfl)) (by kernel_rfl) ⟨by simp only [e0], below_grown M.old⟩
   ·skip
    refine pH 16 (.bool false) (dF (h < h') (c2)) ?_
    refine pV 17 (.bool false) ?_
    refine pl_val (want_on 5 false rfl 17 rfl (by kernel_rfl)) (some 18) rfl (.pointer (some ⟨g1, 1, none⟩)) (fun _ => by kernel_rfl) ?_
    refine pl_cell M (want_on 5 false rfl 17 rfl (by kernel_rfl)) (some 19) rfl 22 _ rfl g1 1 (by kernel_rfl) (.int .u64 h) (fun _ => by kernel_rfl) (fun w M => M.cell 0 rfl (by decide) rfl) ?_
    refine pl_val (want_on 5 false rfl 17 rfl (by kernel_rfl)) (some 20) rfl (.pointer (some ⟨g2, 1, none⟩)) (fun _ => by kernel_rfl) ?_
    refine pl_cell M (want_on 5 false rfl 17 rfl (by kernel_rfl)) (some 21) rfl 22 _ rfl g2 1 (by kernel_rfl) (.int .u64 h') (fun _ => by kernel_rfl) (fun w M => M.cell 1 rfl (by decide) rfl) ?_
    by_cases c3 : h = h'
    ·skip
     refine pl_val (want_on 5 false rfl 17 rfl (by kernel_rfl)) (some 22) rfl (.bool true) (fun w => Eq.trans (b := .ok (.value (.bool (decide (h = h')))) w) (by kernel_rfl) (by rw [decide_eq_true (c3)])) ?_
     refine pl_val (want_on 5 false rfl 17 rfl (by kernel_rfl)) (some 23) rfl (.bool true) (fun _ => by kernel_rfl) ?_
     refine pl_val (want_on 11 true rfl 23 rfl (by kernel_rfl)) (some 24) rfl (.pointer (some ⟨g1, 2, none⟩)) (fun _ => by kernel_rfl) ?_
     refine pl_cell M (want_on 11 true rfl 23 rfl (by kernel_rfl)) (some 25) rfl 22 _ rfl g1 2 (by kernel_rfl) (.int .u64 l) (fun _ => by kernel_rfl) (fun w M => M.cell 0 rfl (by decide) rfl) ?_
     refine pl_val (want_on 11 true rfl 23 rfl (by kernel_rfl)) (some 26) rfl (.pointer (some ⟨g2, 2, none⟩)) (fun _ => by kernel_rfl) ?_
     refine pl_cell M (want_on 11 true rfl 23 rfl (by kernel_rfl)) (some 27) rfl 22 _ rfl g2 2 (by kernel_rfl) (.int .u64 l') (fun _ => by kernel_rfl) (fun w M => M.cell 1 rfl (by decide) rfl) ?_
     by_cases c4 : l < l'
     ·skip
      refine pl_val (want_on 11 true rfl 23 rfl (by kernel_rfl)) (some 28) rfl (.bool true) (fun w => Eq.trans (b := .ok (.value (.bool (decide (l < l')))) w) (by kernel_rfl) (by rw [decide_eq_true (c4)])) ?_
      refine pl_val (want_on 5 false rfl 17 rfl (by kernel_rfl)) (some 29) rfl (.bool true) (fun _ => by kernel_rfl) ?_
      refine pV 30 (.bool true) ?_
      refine pV 4 (.bool true) ?_
      refine nT ?_
      refine wp_ret ?_
      have e0 : lS v h l v' h' l' = true := by simp [lS, c0, c1, c2, c3, c4] <;> omega
      exact bodyPost_ret (v := .bool true) (results_tmp1 Tryz.results31 _ _ _ (by kernel_rfl)) (by kernel_rfl) ⟨by simp only [e0], below_grown M.old⟩
     ·skip
      refine pl_val (want_on 11 true rfl 23 rfl (by kernel_rfl)) (some 28) rfl (.bool false) (fun w => Eq.trans (b := .ok (.value (.bool (decide (l < l')))) w) (by kernel_rfl) (by rw [decide_eq_false (c4)])) ?_
      refine pl_val (want_on 5 false rfl 17 rfl (by kernel_rfl)) (some 29) rfl (.bool false) (fun _ => by kernel_rfl) ?_
      refine pV 30 (.bool false) ?_
      refine pV 4 (.bool false) ?_
      refine nT ?_
      refine wp_ret ?_
      have e0 : lS v h l v' h' l' = false := by simp [lS, c0, c1, c2, c3, c4] <;> omega
      exact bodyPost_ret (v := .bool false) (results_tmp1 Tryz.results31 _ _ _ (by kernel_rfl)) (by kernel_rfl) ⟨by simp only [e0], below_grown M.old⟩
    ·skip
     refine pl_val (want_on 5 false rfl 17 rfl (by kernel_rfl)) (some 22) rfl (.bool false) (fun w => Eq.trans (b := .ok (.value (.bool (decide (h = h')))) w) (by kernel_rfl) (by rw [decide_eq_false (c3)])) ?_
     refine pl_val (want_on 5 false rfl 17 rfl (by kernel_rfl)) (some 23) rfl (.bool false) (fun _ => by kernel_rfl) ?_
     refine pl_skip (want_off 11 true rfl 23 rfl (by kernel_rfl)) (some 24) rfl ?_
     refine pl_skip (want_off 11 true rfl 23 rfl (by kernel_rfl)) (some 25) rfl ?_
     refine pl_skip (want_off 11 true rfl 23 rfl (by kernel_rfl)) (some 26) rfl ?_
     refine pl_skip (want_off 11 true rfl 23 rfl (by kernel_rfl)) (some 27) rfl ?_
     refine pl_skip (want_off 11 true rfl 23 rfl (by kernel_rfl)) (some 28) rfl ?_
     refine pl_val (want_on 5 false rfl 17 rfl (by kernel_rfl)) (some 29) rfl (.bool false) (fun _ => by kernel_rfl) ?_
     refine pV 30 (.bool false) ?_
     refine pV 4 (.bool false) ?_
     refine nT ?_
     refine wp_ret ?_
     have e0 : lS v h l v' h' l' = false := by simp [lS, c0, c1, c2, c3] <;> omega
     exact bodyPost_ret (v := .bool false) (results_tmp1 Tryz.results31 _ _ _ (by kernel_rfl)) (by kernel_rfl) ⟨by simp only [e0], below_grown M.old⟩
  ·skip
   refine pEz M 8 g2 0 (.bool false) (fun w M => M.cell 1 rfl (by decide) (congrArg Value.bool c1)) ?_
   refine pV 9 (.bool true) ?_
   refine nT ?_
   refine wp_cond_true (by kernel_rfl) ?_
   refine sR ?_
   refine pV 10 (.pointer (some ⟨g2, 0, none⟩)) ?_
   refine pEz M 11 g2 0 (.bool false) (fun w M => M.cell 1 rfl (by decide) (congrArg Value.bool c1)) ?_
   refine pV 4 (.bool false) ?_
   refine nT ?_
   refine wp_ret ?_
   refine au_then_ret ?_
   have e0 : lS v h l v' h' l' = false := by simp [lS, c0, c1] <;> omega
   exact bodyPost_ret (v := .bool false) (results_tmp1 Tryz.results31 _ _ _ (by kernel_rfl)) (by kernel_rfl) ⟨by simp only [e0], below_grown M.old⟩
 ·skip
  refine pEz M 6 g1 0 (.bool false) (fun w M => M.cell 0 rfl (by decide) (congrArg Value.bool c0)) ?_
  refine pV 7 (.pointer (some ⟨g2, 0, none⟩)) ?_
  rcases Bool.eq_false_or_eq_true (v') with c1 | c1
  ·skip
   refine pEz M 8 g2 0 (.bool true) (fun w M => M.cell 1 rfl (by decide) (congrArg Value.bool c1)) ?_
   refine pV 9 (.bool true) ?_
   refine nT ?_
   refine wp_cond_true (by kernel_rfl) ?_
   refine sR ?_
   refine pV 10 (.pointer (some ⟨g2, 0, none⟩)) ?_
   refine pEz M 11 g2 0 (.bool true) (fun w M => M.cell 1 rfl (by decide) (congrArg Value.bool c1)) ?_
   refine pV 4 (.bool true) ?_
   refine nT ?_
   refine wp_ret ?_
   refine au_then_ret ?_
   have e0 : lS v h l v' h' l' = true := by simp [lS, c0, c1] <;> omega
   exact bodyPost_ret (v := .bool true) (results_tmp1 Tryz.results31 _ _ _ (by kernel_rfl)) (by kernel_rfl) ⟨by simp only [e0], below_grown M.old⟩
  ·skip
   refine pEz M 8 g2 0 (.bool false) (fun w M => M.cell 1 rfl (by decide) (congrArg Value.bool c1)) ?_
   refine pV 9 (.bool false) ?_
   refine nT ?_
   refine wp_cond_false (by kernel_rfl) ?_
   refine wp_skip ?_
   refine au_then ?_
   refine sR ?_
   refine pV 12 (.pointer (some ⟨g1, 1, none⟩)) ?_
   refine pEz M 13 g1 1 (.int .u64 h) (fun w M => M.cell 0 rfl (by decide) rfl) ?_
   refine pV 14 (.pointer (some ⟨g2, 1, none⟩)) ?_
   refine pEz M 15 g2 1 (.int .u64 h') (fun w M => M.cell 1 rfl (by decide) rfl) ?_
   by_cases c2 : h < h'
   ·skip
    refine pH 16 (.bool true) (dTz (h < h') (c2)) ?_
    refine pV 17 (.bool true) ?_
    refine pl_skip (want_off 5 false rfl 17 rfl (by kernel_rfl)) (some 18) rfl ?_
    refine pl_skip (want_off 5 false rfl 17 rfl (by kernel_rfl)) (some 19) rfl ?_
    refine pl_skip (want_off 5 false rfl 17 rfl (by kernel_rfl)) (some 20) rfl ?_
    refine pl_skip (want_off 5 false rfl 17 rfl (by kernel_rfl)) (some 21) rfl ?_
    refine pl_skip (want_off 5 false rfl 17 rfl (by kernel_rfl)) (some 22) rfl ?_
    refine pl_skip (want_off 5 false rfl 17 rfl (by kernel_rfl)) (some 23) rfl ?_
    refine pl_skip (want_und 11 true rfl 23 rfl (by kernel_rfl)) (some 24) rfl ?_
    refine pl_skip (want_und 11 true rfl 23 rfl (by kernel_rfl)) (some 25) rfl ?_
    refine pl_skip (want_und 11 true rfl 23 rfl (by kernel_rfl)) (some 26) rfl ?_
    refine pl_skip (want_und 11 true rfl 23 rfl (by kernel_rfl)) (some 27) rfl ?_
    refine pl_skip (want_und 11 true rfl 23 rfl (by kernel_rfl)) (some 28) rfl ?_
    refine pl_skip (want_off 5 false rfl 17 rfl (by kernel_rfl)) (some 29) rfl ?_
    refine pV 30 (.bool true) ?_
    refine pV 4 (.bool true) ?_
    refine nT ?_
    refine wp_ret ?_
    have e0 : lS v h l v' h' l' = true := by simp [lS, c0, c1, c2] <;> omega
    exact bodyPost_ret (v := .bool true) (results_tmp1 Tryz.results31 _ _ _ (by kernel_rfl)) (by kernel_rfl) ⟨by simp only [e0], below_grown M.old⟩
   ·skip
    refine pH 16 (.bool false) (dF (h < h') (c2)) ?_
    refine pV 17 (.bool false) ?_
    refine pl_val (want_on 5 false rfl 17 rfl (by kernel_rfl)) (some 18) rfl (.pointer (some ⟨g1, 1, none⟩)) (fun _ => by kernel_rfl) ?_
    refine pl_cell M (want_on 5 false rfl 17 rfl (by kernel_rfl)) (some 19) rfl 22 _ rfl g1 1 (by kernel_rfl) (.int .u64 h) (fun _ => by kernel_rfl) (fun w M => M.cell 0 rfl (by decide) rfl) ?_
    refine pl_val (want_on 5 false rfl 17 rfl (by kernel_rfl)) (some 20) rfl (.pointer (some ⟨g2, 1, none⟩)) (fun _ => by kernel_rfl) ?_
    refine pl_cell M (want_on 5 false rfl 17 rfl (by kernel_rfl)) (some 21) rfl 22 _ rfl g2 1 (by kernel_rfl) (.int .u64 h') (fun _ => by kernel_rfl) (fun w M => M.cell 1 rfl (by decide) rfl) ?_
    by_cases c3 : h = h'
    ·skip
     refine pl_val (want_on 5 false rfl 17 rfl (by kernel_rfl)) (some 22) rfl (.bool true) (fun w => Eq.trans (b := .ok (.value (.bool (decide (h = h')))) w) (by kernel_rfl) (by rw [decide_eq_true (c3)])) ?_
     refine pl_val (want_on 5 false rfl 17 rfl (by kernel_rfl)) (some 23) rfl (.bool true) (fun _ => by kernel_rfl) ?_
     refine pl_val (want_on 11 true rfl 23 rfl (by kernel_rfl)) (some 24) rfl (.pointer (some ⟨g1, 2, none⟩)) (fun _ => by kernel_rfl) ?_
     refine pl_cell M (want_on 11 true rfl 23 rfl (by kernel_rfl)) (some 25) rfl 22 _ rfl g1 2 (by kernel_rfl) (.int .u64 l) (fun _ => by kernel_rfl) (fun w M => M.cell 0 rfl (by decide) rfl) ?_
     refine pl_val (want_on 11 true rfl 23 rfl (by kernel_rfl)) (some 26) rfl (.pointer (some ⟨g2, 2, none⟩)) (fun _ => by kernel_rfl) ?_
     refine pl_cell M (want_on 11 true rfl 23 rfl (by kernel_rfl)) (some 27) rfl 22 _ rfl g2 2 (by kernel_rfl) (.int .u64 l') (fun _ => by kernel_rfl) (fun w M => M.cell 1 rfl (by decide) rfl) ?_
     by_cases c4 : l < l'
     ·skip
      refine pl_val (want_on 11 true rfl 23 rfl (by kernel_rfl)) (some 28) rfl (.bool true) (fun w => Eq.trans (b := .ok (.value (.bool (decide (l < l')))) w) (by kernel_rfl) (by rw [decide_eq_true (c4)])) ?_
      refine pl_val (want_on 5 false rfl 17 rfl (by kernel_rfl)) (some 29) rfl (.bool true) (fun _ => by kernel_rfl) ?_
      refine pV 30 (.bool true) ?_
      refine pV 4 (.bool true) ?_
      refine nT ?_
      refine wp_ret ?_
      have e0 : lS v h l v' h' l' = true := by simp [lS, c0, c1, c2, c3, c4] <;> omega
      exact bodyPost_ret (v := .bool true) (results_tmp1 Tryz.results31 _ _ _ (by kernel_rfl)) (by kernel_rfl) ⟨by simp only [e0], below_grown M.old⟩
     ·skip
      refine pl_val (want_on 11 true rfl 23 rfl (by kernel_rfl)) (some 28) rfl (.bool false) (fun w => Eq.trans (b := .ok (.value (.bool (decide (l < l')))) w) (by kernel_rfl) (by rw [decide_eq_false (c4)])) ?_
      refine pl_val (want_on 5 false rfl 17 rfl (by kernel_rfl)) (some 29) rfl (.bool false) (fun _ => by kernel_rfl) ?_
      refine pV 30 (.bool false) ?_
      refine pV 4 (.bool false) ?_
      refine nT ?_
      refine wp_ret ?_
      have e0 : lS v h l v' h' l' = false := by simp [lS, c0, c1, c2, c3, c4] <;> omega
      exact bodyPost_ret (v := .bool false) (results_tmp1 Tryz.results31 _ _ _ (by kernel_rfl)) (by kernel_rfl) ⟨by simp only [e0], below_grown M.old⟩
    ·skip
     refine pl_val (want_on 5 false rfl 17 rfl (by kernel_rfl)) (some 22) rfl (.bool false) (fun w => Eq.trans (b := .ok (.value (.bool (decide (h = h')))) w) (by kernel_rfl) (by rw [decide_eq_false (c3)])) ?_
     refine pl_val (want_on 5 false rfl 17 rfl (by kernel_rfl)) (some 23) rfl (.bool false) (fun _ => by kernel_rfl) ?_
     refine pl_skip (want_off 11 true rfl 23 rfl (by kernel_rfl)) (some 24) rfl ?_
     refine pl_skip (want_off 11 true rfl 23 rfl (by kernel_rfl)) (some 25) rfl ?_
     refine pl_skip (want_off 11 true rfl 23 rfl (by kernel_rfl)) (some 26) rfl ?_
     refine pl_skip (want_off 11 true rfl 23 rfl (by kernel_rfl)) (some 27) rfl ?_
     refine pl_skip (want_off 11 true rfl 23 rfl (by kernel_rfl)) (some 28) rfl ?_
     refine pl_val (want_on 5 false rfl 17 rfl (by kernel_rfl)) (some 29) rfl (.bool false) (fun _ => by kernel_rfl) ?_
     refine pV 30 (.bool false) ?_
     refine pV 4 (.bool false) ?_
     refine nT ?_
     refine wp_ret ?_
     have e0 : lS v h l v' h' l' = false := by simp [lS, c0, c1, c2, c3] <;> omega
     exact bodyPost_ret (v := .bool false) (results_tmp1 Tryz.results31 _ _ _ (by kernel_rfl)) (by kernel_rfl) ⟨by simp only [e0], below_grown M.old⟩
set_option maxRecDepth 100000 in
set_option maxHeartbeats 4000000 in
set_option linter.unusedSimpArgs false in
theorem d_bit (v : Bool) (h l : Int) (i : Int) (hi0 : 0 ≤ i) (hi1 : i < wdt v) (w : World) (hL : Laid w)  :
  Calls Tryz.prog 57 #[.agg (av 3 (ls [.bool (v), .int .u64 h, .int .u64 l])), .int .i64 i] w fun r w' => r = .returned (.bool (bI v h l i)) ∧ Below w.heap.size w w' := by
 go_enter Tryz.func57, Tryz.ntmps57
 have M := Mem.start hL
 have hw := wdt_nn v
 have hv : v = false → wdt v = 32 := fun e => by subst e; rfl
 refine sR ?_
 refine pN M 2 (.cells (av 3 (ls [.bool (v), .int .u64 h, .int .u64 l])) 24) fun g1 u1 M => ?_
 refine pV 4 (.bool false) ?_
 refine nT ?_
 refine wp_seq ?_
 refine sR ?_
 refine pV 5 (.pointer (some ⟨g1, 0, none⟩)) ?_
 rcases Bool.eq_false_or_eq_true (v) with c0 | c0
 ·skip
  refine pEz M 6 g1 0 (.bool true) (fun w M => M.cell 0 rfl (by decide) (congrArg Value.bool c0)) ?_
  refine pV 7 (.bool false) ?_
  refine nT ?_
  refine wp_cond_false (by kernel_rfl) ?_
  refine wp_skip ?_
  refine au_then ?_
  refine wp_seq ?_
  refine sR ?_
  refine pV 16 (.int .i64 i) ?_
  by_cases c1 : i < 64
  ·skip
   refine pH 17 (.bool true) (dTz (i < 64) (c1)) ?_
   refine nT ?_
   refine wp_cond_true (by kernel_rfl) ?_
   refine sR ?_
   refine pV 18 (.pointer (some ⟨g1, 1, none⟩)) ?_
   refine pEz M 19 g1 1 (.int .u64 h) (fun w M => M.cell 0 rfl (by decide) rfl) ?_
   refine pV 20 (.int .i64 i) ?_
   refine pH 21 (.int .i64 (63 - i)) (fun w => Eq.trans (b := .ok (.value (.int .i64 (IntKind.wrap .i64 (63 - i)))) w) (by kernel_rfl) (by rw [wrap64 (by omega) (by omega)])) ?_
   refine pH 22 (.int .u64 (63 - i)) (fun w => Eq.trans (b := .ok (.value (.int .u64 (cv .u64 (63 - i)))) w) (by kernel_rfl) (by rw [cv_u64]; congr 3; omega)) ?_
   refine pH 23 (.int .u64 (sr h ((63 - i).toNat))) (run_shrV 22 53 _ _ rfl h .u64 ((63 - i).toNat) (by kernel_rfl) (nat_of (k := .u64) (by kernel_rfl) (by omega)) (by omega)) ?_
   refine pV 24 (.int .u64 (un (sr h ((63 - i).toNat)) 1)) ?_
   by_cases c2 : (un (sr h ((63 - i).toNat)) 1) = 1
   ·skip
    refine pH 25 (.bool true) (dTz ((un (sr h ((63 - i).toNat)) 1) = 1) (c2)) ?_
    refine pV 4 (.bool true) ?_
    refine nT ?_
    refine wp_ret ?_
    refine au_then_ret ?_
    have e0 : bI v h l i = true := by simp [bI, c0, c1, c2]
    exact bodyPost_ret (v := .bool true) (results_tmp1 Tryz.results57 _ _ _ (by kernel_rfl)) (by kernel_rfl) ⟨by simp only [e0], below_grown M.old⟩
   ·skip
    refine pH 25 (.bool false) (dF ((un (sr h ((63 - i).toNat)) 1) = 1) (c2)) ?_
    refine pV 4 (.bool false) ?_
    refine nT ?_
    refine wp_ret ?_
    refine au_then_ret ?_
    have e0 : bI v h l i = false := by simp [bI, c0, c1, c2]
    exact bodyPost_ret (v := .bool false) (results_tmp1 Tryz.results57 _ _ _ (by kernel_rfl)) (by kernel_rfl) ⟨by simp only [e0], below_grown M.old⟩
  ·skip
   refine pH 17 (.bool false) (dF (i < 64) (c1)) ?_
   refine nT ?_
   refine wp_cond_false (by kernel_rfl) ?_
   refine wp_skip ?_
   refine au_then ?_
   refine sR ?_
   refine pV 26 (.pointer (some ⟨g1, 2, none⟩)) ?_
   refine pEz M 27 g1 2 (.int .u64 l) (fun w M => M.cell 0 rfl (by decide) rfl) ?_
   refine pV 28 (.int .i64 i) ?_
   refine pH 29 (.int .i64 (127 - i)) (fun w => Eq.trans (b := .ok (.value (.int .i64 (IntKind.wrap .i64 (127 - i)))) w) (by kernel_rfl) (by rw [wrap64 (by omega) (by omega)])) ?_
   refine pH 30 (.int .u64 (127 - i)) (fun w => Eq.trans (b := .ok (.value (.int .u64 (cv .u64 (127 - i)))) w) (by kernel_rfl) (by rw [cv_u64]; congr 3; omega)) ?_
   refine pH 31 (.int .u64 (sr l ((127 - i).toNat))) (run_shrV 22 53 _ _ rfl l .u64 ((127 - i).toNat) (by kernel_rfl) (nat_of (k := .u64) (by kernel_rfl) (by omega)) (by omega)) ?_
   refine pV 32 (.int .u64 (un (sr l ((127 - i).toNat)) 1)) ?_
   by_cases c2 : (un (sr l ((127 - i).toNat)) 1) = 1
   ·skip
    refine pH 33 (.bool true) (dTz ((un (sr l ((127 - i).toNat)) 1) = 1) (c2)) ?_
    refine pV 4 (.bool true) ?_
    refine nT ?_
    refine wp_ret ?_
    have e0 : bI v h l i = true := by simp [bI, c0, c1, c2]
    exact bodyPost_ret (v := .bool true) (results_tmp1 Tryz.results57 _ _ _ (by kernel_rfl)) (by kernel_rfl) ⟨by simp only [e0], below_grown M.old⟩
   ·skip
    refine pH 33 (.bool false) (dF ((un (sr l ((127 - i).toNat)) 1) = 1) (c2)) ?_
    refine pV 4 (.bool false) ?_
    refine nT ?_
    refine wp_ret ?_
    have e0 : bI v h l i = false := by simp [bI, c0, c1, c2]
    exact bodyPost_ret (v := .bool false) (results_tmp1 Tryz.results57 _ _ _ (by kernel_rfl)) (by kernel_rfl) ⟨by simp only [e0], below_grown M.old⟩
 ·skip
  refine pEz M 6 g1 0 (.bool false) (fun w M => M.cell 0 rfl (by decide) (congrArg Value.bool c0)) ?_
  refine pV 7 (.bool true) ?_
  refine nT ?_
  refine wp_cond_true (by kernel_rfl) ?_
  refine sR ?_
  refine pV 8 (.pointer (some ⟨g1, 2, none⟩)) ?_
  refine pEz M 9 g1 2 (.int .u64 l) (fun w M => M.cell 0 rfl (by decide) rfl) ?_
  refine pV 10 (.int .i64 i) ?_
  refine pH 11 (.int .i64 (31 - i)) (fun w => Eq.trans (b := .ok (.value (.int .i64 (IntKind.wrap .i64 (31 - i)))) w) (by kernel_rfl) (by rw [wrap64 (by omega) (by omega)])) ?_
  refine pH 12 (.int .u64 (31 - i)) (fun w => Eq.trans (b := .ok (.value (.int .u64 (cv .u64 (31 - i)))) w) (by kernel_rfl) (by rw [cv_u64]; congr 3; have := hv c0; omega)) ?_
  refine pH 13 (.int .u64 (sr l ((31 - i).toNat))) (run_shrV 22 53 _ _ rfl l .u64 ((31 - i).toNat) (by kernel_rfl) (nat_of (k := .u64) (by kernel_rfl) (by have := hv c0; omega)) (by omega)) ?_
  refine pV 14 (.int .u64 (un (sr l ((31 - i).toNat)) 1)) ?_
  by_cases c1 : (un (sr l ((31 - i).toNat)) 1) = 1
  ·skip
   refine pH 15 (.bool true) (dTz ((un (sr l ((31 - i).toNat)) 1) = 1) (c1)) ?_
   refine pV 4 (.bool true) ?_
   refine nT ?_
   refine wp_ret ?_
   refine au_then_ret ?_
   have e0 : bI v h l i = true := by simp [bI, c0, c1]
   exact bodyPost_ret (v := .bool true) (results_tmp1 Tryz.results57 _ _ _ (by kernel_rfl)) (by kernel_rfl) ⟨by simp only [e0], below_grown M.old⟩
  ·skip
   refine pH 15 (.bool false) (dF ((un (sr l ((31 - i).toNat)) 1) = 1) (c1)) ?_
   refine pV 4 (.bool false) ?_
   refine nT ?_
   refine wp_ret ?_
   refine au_then_ret ?_
   have e0 : bI v h l i = false := by simp [bI, c0, c1]
   exact bodyPost_ret (v := .bool false) (results_tmp1 Tryz.results57 _ _ _ (by kernel_rfl)) (by kernel_rfl) ⟨by simp only [e0], below_grown M.old⟩
end Go.Proofs.YtndonmdgplojnaaGreatDoor

namespace Go.Proofs.YtndonmdgplojnaaGreatDoor
open Go.RowKit
theorem all_step {p : Nat → Prop} {j : Nat} (h : ∀ k, k < j → p k) (hj : p j) : ∀ k, k < j + 1 → p k := fun k hk => by
 rcases Nat.lt_or_ge k j with e | e
 ·exact h k e
 ·obtain rfl : k = j := by omega
  exact hj
set_option maxRecDepth 100000 in
set_option maxHeartbeats 4000000 in
set_option linter.unusedSimpArgs false in
theorem d_MayPrefix (v : Bool) (h l : Int) (b : Int) (hb0 : 0 ≤ b) (hb1 : b ≤ 255) (w : World) (hL : Laid w)  :
  Calls Tryz.prog 27 #[.agg (av 4 (ls [.bool (v), .int .u64 h, .int .u64 l, .int .u8 b]))] w fun r w' => r = .returned (.bool (rP v h l b)) ∧ Below w.heap.size w w' := by
 go_enter Tryz.func27, Tryz.ntmps27
 have M := Mem.start hL
 have hw := wdt_nn v
 obtain ⟨n, hn⟩ : ∃ n : Nat, n = (wdt v - b).toNat := ⟨_, rfl⟩
 refine sR ?_
 refine pN M 1 (.cells (av 4 (ls [.bool (v), .int .u64 h, .int .u64 l, .int .u8 b])) 39) fun g1 u1 M => ?_
 refine pV 2 (.bool false) ?_
 refine nT ?_
 refine wp_seq ?_
 refine wp_seq ?_
 refine rg_tail M 12 (by kernel_rfl) (by kernel_rfl) ?_
 simp only [List.take_succ_cons, List.take_zero]
 refine kV 4 (.pointer (some ⟨g1, 0, none⟩)) ?_
 refine kL M 5 0 rfl 0 3 (ls [.bool (v), .int .u64 h, .int .u64 l]) (part_ls _ 0 3 _ rfl) ?_
 rcases Bool.eq_false_or_eq_true (mA v h l) with c0 | c0
 ·skip
  refine kC M 6 38 #[.agg (av 3 (ls [.bool (v), .int .u64 h, .int .u64 l]))] (.bool true) (fun w M => call_val (d_MayAddr v h l w M.laid) (congrArg Value.bool c0)) ?_
  refine kV 7 (.bool false) ?_
  refine kV 8 (.bool false) ?_
  refine k_val (want_on 4 false rfl 8 rfl (by kernel_rfl)) (some 9) rfl (.pointer (some ⟨g1, 3, none⟩)) (fun _ => by kernel_rfl) ?_
  refine k_cell M (want_on 4 false rfl 8 rfl (by kernel_rfl)) (some 10) rfl 5 _ rfl g1 3 (by kernel_rfl) (.int .u8 b) (fun _ => by kernel_rfl) (fun w M => M.cell 0 rfl (by decide) rfl) ?_
  refine k_val (want_on 4 false rfl 8 rfl (by kernel_rfl)) (some 11) rfl (.int .i64 b) (fun w => Eq.trans (b := .ok (.value (.int .i64 (IntKind.wrap .i64 b))) w) (by kernel_rfl) (by rw [wrap64 (by omega) (by omega)])) ?_
  refine k_val (want_on 4 false rfl 8 rfl (by kernel_rfl)) (some 12) rfl (.pointer (some ⟨g1, 0, none⟩)) (fun _ => by kernel_rfl) ?_
  refine k_load M (want_on 4 false rfl 8 rfl (by kernel_rfl)) (some 13) rfl 24 _ rfl 0 g1 0 (by kernel_rfl) 4 39 (ls [.bool (v), .int .u64 h, .int .u64 l, .int .u8 b]) rfl 3 (ls [.bool (v), .int .u64 h, .int .u64 l]) (part_ls _ 0 3 _ rfl) (by decide) _ Tryz.underlying24 rfl inz24 ?_
  refine k_call M (want_on 4 false rfl 8 rfl (by kernel_rfl)) (some 14) rfl 56 #[.agg (av 3 (ls [.bool (v), .int .u64 h, .int .u64 l]))] (.int .i64 (wdt v)) (fun _ => by kernel_rfl) (fun w M => d_size v h l w M.laid) ?_
  by_cases c1 : (wdt v) < b
  ·skip
   refine k_val (want_on 4 false rfl 8 rfl (by kernel_rfl)) (some 15) rfl (.bool true) (fun w => Eq.trans (b := .ok (.value (.bool (decide ((wdt v) < b)))) w) (by kernel_rfl) (by rw [decide_eq_true (c1)])) ?_
   refine kl_nil fun u2 M => ?_
   refine pV 16 (.bool true) ?_
   refine nT ?_
   refine wp_cond_true (by kernel_rfl) ?_
   refine sR ?_
   refine pV 2 (.bool false) ?_
   refine nT ?_
   refine wp_ret ?_
   refine au_then_ret ?_
   have e0 : rP v h l b = false := by unfold rP; rw [c0, decide_eq_false (p := ¬ (wdt v) < b) (not_not_intro c1)] <;> rfl
   exact bodyPost_ret (v := .bool false) (results_tmp1 Tryz.results27 _ _ _ (by kernel_rfl)) (by kernel_rfl) ⟨by simp only [e0], below_grown M.old⟩
  ·skip
   refine k_val (want_on 4 false rfl 8 rfl (by kernel_rfl)) (some 15) rfl (.bool false) (fun w => Eq.trans (b := .ok (.value (.bool (decide ((wdt v) < b)))) w) (by kernel_rfl) (by rw [decide_eq_false (c1)])) ?_
   refine kl_nil fun u2 M => ?_
   refine pV 16 (.bool false) ?_
   refine nT ?_
   refine wp_cond_false (by kernel_rfl) ?_
   refine wp_skip ?_
   refine au_then ?_
   refine wp_seq ?_
   refine sR ?_
   refine pV 17 (.pointer (some ⟨g1, 3, none⟩)) ?_
   refine pEz M 18 g1 3 (.int .u8 b) (fun w M => M.cell 0 rfl (by decide) rfl) ?_
   refine pH 19 (.int .i64 (b + ((0 : Nat) : Int))) (fun w => Eq.trans (b := .ok (.value (.int .i64 (IntKind.wrap .i64 b))) w) (by kernel_rfl) (by rw [wrap64 (by omega) (by omega)]; congr 3; omega)) ?_
   refine pV 3 (.int .i64 (b + ((0 : Nat) : Int))) ?_
   refine nT ?_
   refine wp_block ?_
   refine au_loop (fun j a w' => ∃ v1 : Nat → Value, a = ⟨#[.agg (av 4 (ls [.bool (v), .int .u64 h, .int .u64 l, .int .u8 b])), .pointer (some ⟨g1, 0, none⟩), v1 2, .int .i64 (b + (j : Int)), .pointer (some ⟨g1, 0, none⟩), .agg (av 3 (ls [.bool (v), .int .u64 h, .int .u64 l])), .bool true, .bool false, .bool false, .pointer (some ⟨g1, 3, none⟩), .int .u8 b, .int .i64 b, .pointer (some ⟨g1, 0, none⟩), .agg (av 3 (ls [.bool (v), .int .u64 h, .int .u64 l])), .int .i64 (wdt v), .bool false, .bool false, .pointer (some ⟨g1, 3, none⟩), .int .u8 b, .int .i64 (b + ((0 : Nat) : Int)), v1 20, v1 21, v1 22, v1 23, v1 24, v1 25, v1 26, v1 27, v1 28, v1 29, v1 30], []⟩ ∧ Mem ⟨w, []⟩ [⟨g1, .cells (av 4 (ls [.bool (v), .int .u64 h, .int .u64 l, .int .u8 b])) 39⟩] w' ∧ ∀ k, k < j → bI v h l (b + (k : Int)) = false) n ⟨fun k_ => ([.bool false, undef, undef, undef, undef, undef, undef, undef, undef, undef, undef, undef, undef, undef, undef, undef, undef, undef, undef, undef, undef, undef, undef, undef, undef, undef, undef, undef, undef] : List Value).getD (k_ - 2) undef, by kernel_rfl, M, fun k hk => absurd hk (Nat.not_lt_zero k)⟩ ?_ ?_
   ·intro j a u0 hj hI
    obtain ⟨v1, rfl, M, hx⟩ := hI
    refine wp_seq ?_
    refine sR ?_
    refine pV 20 (.int .i64 (b + (j : Int))) ?_
    refine pV 21 (.pointer (some ⟨g1, 0, none⟩)) ?_
    refine pL M 22 0 rfl 0 3 (ls [.bool (v), .int .u64 h, .int .u64 l]) (part_ls _ 0 3 _ rfl) ?_
    refine pC M 23 56 #[.agg (av 3 (ls [.bool (v), .int .u64 h, .int .u64 l]))] (.int .i64 (wdt v)) (fun w M => d_size v h l w M.laid) fun u3 M => ?_
    refine pH 24 (.bool true) (dTz ((b + (j : Int)) < (wdt v)) (by omega)) ?_
    refine nT ?_
    refine wp_cond_true (by kernel_rfl) ?_
    refine wp_skip ?_
    refine au_then ?_
    refine wp_seq ?_
    refine wp_block ?_
    refine sR ?_
    refine pV 27 (.pointer (some ⟨g1, 0, none⟩)) ?_
    refine pL M 28 0 rfl 0 3 (ls [.bool (v), .int .u64 h, .int .u64 l]) (part_ls _ 0 3 _ rfl) ?_
    refine pV 29 (.int .i64 (b + (j : Int))) ?_
    rcases Bool.eq_false_or_eq_true (bI v h l (b + (j : Int))) with c2 | c2
    ·skip
     refine pC M 30 57 #[.agg (av 3 (ls [.bool (v), .int .u64 h, .int .u64 l])), .int .i64 (b + (j : Int))] (.bool true) (fun w M => call_val (d_bit v h l (b + (j : Int)) (by omega) (by omega) w M.laid) (congrArg Value.bool c2)) fun u4 M => ?_
     refine nT ?_
     refine wp_cond_true (by kernel_rfl) ?_
     refine sR ?_
     refine pV 2 (.bool false) ?_
     refine nT ?_
     refine wp_ret ?_
     refine au_block_ret ?_
     refine au_then_ret ?_
     refine au_then_ret ?_
     refine au_block_ret ?_
     refine au_then_ret ?_
     have e0 : rP v h l b = false := by unfold rP; rw [c0, decide_eq_true (p := ¬ wdt v < b) c1, decide_eq_false (fun hh => by have := hh j (by omega); rw [c2] at this; cases this)] <;> rfl
     exact bodyPost_ret (v := .bool false) (results_tmp1 Tryz.results27 _ _ _ (by kernel_rfl)) (by kernel_rfl) ⟨by simp only [e0], below_grown M.old⟩
    ·skip
     refine pC M 30 57 #[.agg (av 3 (ls [.bool (v), .int .u64 h, .int .u64 l])), .int .i64 (b + (j : Int))] (.bool false) (fun w M => call_val (d_bit v h l (b + (j : Int)) (by omega) (by omega) w M.laid) (congrArg Value.bool c2)) fun u4 M => ?_
     refine nT ?_
     refine wp_cond_false (by kernel_rfl) ?_
     refine wp_skip ?_
     refine au_block ?_
     refine au_then ?_
     refine rg_lit ?_
     refine pV 25 (.int .i64 (b + (j : Int))) ?_
     refine pH 26 (.int .i64 (b + ((j + 1 : Nat) : Int))) (fun w => Eq.trans (b := .ok (.value (.int .i64 (IntKind.wrap .i64 (b + (j : Int) + 1)))) w) (by kernel_rfl) (by rw [wrap64 (by omega) (by omega)]; congr 3; omega)) ?_
     refine pV 3 (.int .i64 (b + ((j + 1 : Nat) : Int))) ?_
     refine nT ?_
     exact ⟨fun k_ => ([v1 2, undef, undef, undef, undef, undef, undef, undef, undef, undef, undef, undef, undef, undef, undef, undef, undef, undef, .int .i64 (b + (j : Int)), .pointer (some ⟨g1, 0, none⟩), .agg (av 3 (ls [.bool (v), .int .u64 h, .int .u64 l])), .int .i64 (wdt v), .bool true, .int .i64 (b + (j : Int)), .int .i64 (b + ((j + 1 : Nat) : Int)), .pointer (some ⟨g1, 0, none⟩), .agg (av 3 (ls [.bool (v), .int .u64 h, .int .u64 l])), .int .i64 (b + (j : Int)), .bool false] : List Value).getD (k_ - 2) undef, by kernel_rfl, M, all_step (p := fun k => bI v h l (b + (k : Int)) = false) hx c2⟩
   ·intro a u0 hI
    obtain ⟨v1, rfl, M, hx⟩ := hI
    refine wp_seq ?_
    refine sR ?_
    refine pV 20 (.int .i64 (b + (n : Int))) ?_
    refine pV 21 (.pointer (some ⟨g1, 0, none⟩)) ?_
    refine pL M 22 0 rfl 0 3 (ls [.bool (v), .int .u64 h, .int .u64 l]) (part_ls _ 0 3 _ rfl) ?_
    refine pC M 23 56 #[.agg (av 3 (ls [.bool (v), .int .u64 h, .int .u64 l]))] (.int .i64 (wdt v)) (fun w M => d_size v h l w M.laid) fun u3 M => ?_
    refine pH 24 (.bool false) (dF ((b + (n : Int)) < (wdt v)) (by omega)) ?_
    refine nT ?_
    refine wp_cond_false (by kernel_rfl) ?_
    refine wp_exit ?_
    refine au_then_exit ?_
    refine au_then_exit ?_
    refine au_block_exit ?_
    refine au_then ?_
    refine sR ?_
    refine pV 2 (.bool true) ?_
    refine nT ?_
    refine wp_ret ?_
    have e0 : rP v h l b = true := by unfold rP; rw [c0, decide_eq_true (p := ¬ wdt v < b) c1, decide_eq_true (by rw [← hn]; exact hx)] <;> rfl
    exact bodyPost_ret (v := .bool true) (results_tmp1 Tryz.results27 _ _ _ (by kernel_rfl)) (by kernel_rfl) ⟨by simp only [e0], below_grown M.old⟩
 ·skip
  refine kC M 6 38 #[.agg (av 3 (ls [.bool (v), .int .u64 h, .int .u64 l]))] (.bool false) (fun w M => call_val (d_MayAddr v h l w M.laid) (congrArg Value.bool c0)) ?_
  refine kV 7 (.bool true) ?_
  refine kV 8 (.bool true) ?_
  refine k_skip (want_off 4 false rfl 8 rfl (by kernel_rfl)) (some 9) rfl ?_
  refine k_skip (want_off 4 false rfl 8 rfl (by kernel_rfl)) (some 10) rfl ?_
  refine k_skip (want_off 4 false rfl 8 rfl (by kernel_rfl)) (some 11) rfl ?_
  refine k_skip (want_off 4 false rfl 8 rfl (by kernel_rfl)) (some 12) rfl ?_
  refine k_skip (want_off 4 false rfl 8 rfl (by kernel_rfl)) (some 13) rfl ?_
  refine k_skip (want_off 4 false rfl 8 rfl (by kernel_rfl)) (some 14) rfl ?_
  refine k_skip (want_off 4 false rfl 8 rfl (by kernel_rfl)) (some 15) rfl ?_
  refine kl_nil fun u2 M => ?_
  refine pV 16 (.bool true) ?_
  refine nT ?_
  refine wp_cond_true (by kernel_rfl) ?_
  refine sR ?_
  refine pV 2 (.bool false) ?_
  refine nT ?_
  refine wp_ret ?_
  refine au_then_ret ?_
  have e0 : rP v h l b = false := by unfold rP; rw [c0] <;> rfl
  exact bodyPost_ret (v := .bool false) (results_tmp1 Tryz.results27 _ _ _ (by kernel_rfl)) (by kernel_rfl) ⟨by simp only [e0], below_grown M.old⟩
theorem rP_le (v : Bool) (h l b : Int) (e : rP v h l b = true) : b ≤ wdt v := by
 unfold rP at e
 simp only [Bool.and_eq_true, decide_eq_true_eq] at e
 omega
set_option maxRecDepth 100000 in
set_option maxHeartbeats 4000000 in
set_option linter.unusedSimpArgs false in
theorem d_Holds (v : Bool) (h l : Int) (b : Int) (hb0 : 0 ≤ b) (hb1 : b ≤ 255) (v' : Bool) (h' l' : Int) (w : World) (hL : Laid w)  :
  Calls Tryz.prog 29 #[.agg (av 4 (ls [.bool (v), .int .u64 h, .int .u64 l, .int .u8 b])), .agg (av 3 (ls [.bool (v'), .int .u64 h', .int .u64 l']))] w fun r w' => r = .returned (.bool (rH v h l b v' h' l')) ∧ Below w.heap.size w w' := by
 go_enter Tryz.func29, Tryz.ntmps29
 have M := Mem.start hL
 have hbw : rP v h l b = true → b ≤ wdt v := rP_le v h l b
 obtain ⟨n, hn⟩ : ∃ n : Nat, n = b.toNat := ⟨_, rfl⟩
 refine sR ?_
 refine pN M 2 (.cells (av 4 (ls [.bool (v), .int .u64 h, .int .u64 l, .int .u8 b])) 39) fun g1 u1 M => ?_
 refine pN M 3 (.cells (av 3 (ls [.bool (v'), .int .u64 h', .int .u64 l'])) 24) fun g2 u2 M => ?_
 refine pV 4 (.bool false) ?_
 refine nT ?_
 refine wp_seq ?_
 refine sR ?_
 refine pAz M 6 0 4 (ls [.bool (v), .int .u64 h, .int .u64 l, .int .u8 b]) ?_
 rcases Bool.eq_false_or_eq_true (rP v h l b) with c0 | c0
 ·skip
  refine pC M 7 27 #[.agg (av 4 (ls [.bool (v), .int .u64 h, .int .u64 l, .int .u8 b]))] (.bool true) (fun w M => call_val (d_MayPrefix v h l b (by omega) (by omega) w M.laid) (congrArg Value.bool c0)) fun u3 M => ?_
  refine pV 8 (.bool false) ?_
  refine pV 9 (.bool false) ?_
  refine pl_load M (want_on 3 false rfl 9 rfl (by kernel_rfl)) (some 10) rfl 24 _ rfl 1 g2 0 (by kernel_rfl) 3 24 (ls [.bool (v'), .int .u64 h', .int .u64 l']) rfl 3 (ls [.bool (v'), .int .u64 h', .int .u64 l']) (fun j _ => by rw [Nat.zero_add]) (by decide) _ Tryz.underlying24 rfl inz24 ?_
  rcases Bool.eq_false_or_eq_true (mA v' h' l') with c1 | c1
  ·skip
   refine pl_call M (want_on 3 false rfl 9 rfl (by kernel_rfl)) (some 11) rfl 38 #[.agg (av 3 (ls [.bool (v'), .int .u64 h', .int .u64 l']))] (.bool true) (fun _ => by kernel_rfl) (fun w M => call_val (d_MayAddr v' h' l' w M.laid) (congrArg Value.bool c1)) fun u4 M => ?_
   refine pl_val (want_on 3 false rfl 9 rfl (by kernel_rfl)) (some 12) rfl (.bool false) (fun _ => by kernel_rfl) ?_
   refine pV 13 (.bool false) ?_
   refine pV 14 (.bool false) ?_
   refine pl_val (want_on 8 false rfl 14 rfl (by kernel_rfl)) (some 15) rfl (.pointer (some ⟨g1, 0, none⟩)) (fun _ => by kernel_rfl) ?_
   refine pl_val (want_on 8 false rfl 14 rfl (by kernel_rfl)) (some 16) rfl (.pointer (some ⟨g1, 0, none⟩)) (fun _ => by kernel_rfl) ?_
   rcases Bool.eq_false_or_eq_true (v) with c2 | c2
   ·skip
    refine pl_cell M (want_on 8 false rfl 14 rfl (by kernel_rfl)) (some 17) rfl 4 _ rfl g1 0 (by kernel_rfl) (.bool true) (fun _ => by kernel_rfl) (fun w M => M.cell 0 rfl (by decide) (congrArg Value.bool c2)) ?_
    refine pl_val (want_on 8 false rfl 14 rfl (by kernel_rfl)) (some 18) rfl (.pointer (some ⟨g2, 0, none⟩)) (fun _ => by kernel_rfl) ?_
    rcases Bool.eq_false_or_eq_true (v') with c3 | c3
    ·skip
     refine pl_cell M (want_on 8 false rfl 14 rfl (by kernel_rfl)) (some 19) rfl 4 _ rfl g2 0 (by kernel_rfl) (.bool true) (fun _ => by kernel_rfl) (fun w M => M.cell 1 rfl (by decide) (congrArg Value.bool c3)) ?_
     refine pl_val (want_on 8 false rfl 14 rfl (by kernel_rfl)) (some 20) rfl (.bool false) (fun _ => by kernel_rfl) ?_
     refine pV 21 (.bool false) ?_
     refine nT ?_
     refine wp_cond_false (by kernel_rfl) ?_
     refine wp_skip ?_
     refine au_then ?_
     refine wp_seq ?_
     refine sR ?_
     refine pV 5 (.int .i64 0) ?_
     refine nT ?_
     refine wp_block ?_
     refine au_loop (fun j a w' => ∃ v1 : Nat → Value, a = ⟨#[.agg (av 4 (ls [.bool (v), .int .u64 h, .int .u64 l, .int .u8 b])), .agg (av 3 (ls [.bool (v'), .int .u64 h', .int .u64 l'])), .pointer (some ⟨g1, 0, none⟩), .pointer (some ⟨g2, 0, none⟩), v1 4, .int .i64 (j : Int), .agg (av 4 (ls [.bool (v), .int .u64 h, .int .u64 l, .int .u8 b])), .bool true, .bool false, .bool false, .agg (av 3 (ls [.bool (v'), .int .u64 h', .int .u64 l'])), .bool true, .bool false, .bool false, .bool false, .pointer (some ⟨g1, 0, none⟩), .pointer (some ⟨g1, 0, none⟩), .bool true, .pointer (some ⟨g2, 0, none⟩), .bool true, .bool false, .bool false, v1 22, v1 23, v1 24, v1 25, v1 26, v1 27, v1 28, v1 29, v1 30, v1 31, v1 32, v1 33, v1 34, v1 35, v1 36], []⟩ ∧ Mem ⟨w, []⟩ [⟨g1, .cells (av 4 (ls [.bool (v), .int .u64 h, .int .u64 l, .int .u8 b])) 39⟩, ⟨g2, .cells (av 3 (ls [.bool (v'), .int .u64 h', .int .u64 l'])) 24⟩] w' ∧ ∀ k, k < j → bI v h l (k : Int) = bI v' h' l' (k : Int)) n ⟨fun k_ => ([.bool false, undef, undef, undef, undef, undef, undef, undef, undef, undef, undef, undef, undef, undef, undef, undef, undef, undef, undef, undef, undef, undef, undef, undef, undef, undef, undef, undef, undef, undef, undef, undef, undef] : List Value).getD (k_ - 4) undef, by kernel_rfl, M, fun k hk => absurd hk (Nat.not_lt_zero k)⟩ ?_ ?_
     ·intro j a u0 hj hI
      obtain ⟨v1, rfl, M, hx⟩ := hI
      refine wp_seq ?_
      refine sR ?_
      refine pV 22 (.int .i64 (j : Int)) ?_
      refine pV 23 (.pointer (some ⟨g1, 3, none⟩)) ?_
      refine pEz M 24 g1 3 (.int .u8 b) (fun w M => M.cell 0 rfl (by decide) rfl) ?_
      refine pH 25 (.int .i64 b) (fun w => Eq.trans (b := .ok (.value (.int .i64 (IntKind.wrap .i64 b))) w) (by kernel_rfl) (by rw [wrap64 (by omega) (by omega)])) ?_
      refine pH 26 (.bool true) (dTz ((j : Int) < b) (by omega)) ?_
      refine nT ?_
      refine wp_cond_true (by kernel_rfl) ?_
      refine wp_skip ?_
      refine au_then ?_
      refine wp_seq ?_
      refine wp_block ?_
      refine wp_seq ?_
      refine rg_tail M 7 (by kernel_rfl) (by kernel_rfl) ?_
      simp only [List.take_succ_cons, List.take_zero]
      refine kV 29 (.pointer (some ⟨g1, 0, none⟩)) ?_
      refine kL M 30 0 rfl 0 3 (ls [.bool (v), .int .u64 h, .int .u64 l]) (part_ls _ 0 3 _ rfl) ?_
      refine kV 31 (.int .i64 (j : Int)) ?_
      rcases Bool.eq_false_or_eq_true (bI v h l (j : Int)) with c4 | c4
      ·skip
       refine kC M 32 57 #[.agg (av 3 (ls [.bool (v), .int .u64 h, .int .u64 l])), .int .i64 (j : Int)] (.bool true) (fun w M => call_val (d_bit v h l (j : Int) (by omega) (by have e1 := hbw c0; have e2 : wdt v = wdt v' := (by rw [c2, c3]); omega) w M.laid) (congrArg Value.bool c4)) ?_
       refine kA M 33 1 3 (ls [.bool (v'), .int .u64 h', .int .u64 l']) ?_
       refine kV 34 (.int .i64 (j : Int)) ?_
       rcases Bool.eq_false_or_eq_true (bI v' h' l' (j : Int)) with c5 | c5
       ·skip
        refine kC M 35 57 #[.agg (av 3 (ls [.bool (v'), .int .u64 h', .int .u64 l'])), .int .i64 (j : Int)] (.bool true) (fun w M => call_val (d_bit v' h' l' (j : Int) (by omega) (by have e1 := hbw c0; have e2 : wdt v = wdt v' := (by rw [c2, c3]); omega) w M.laid) (congrArg Value.bool c5)) ?_
        refine kl_nil fun u5 M => ?_
        refine pV 36 (.bool false) ?_
        refine nT ?_
        refine wp_cond_false (by kernel_rfl) ?_
        refine wp_skip ?_
        refine au_block ?_
        refine au_then ?_
        refine rg_lit ?_
        refine pV 27 (.int .i64 (j : Int)) ?_
        refine pH 28 (.int .i64 ((j + 1 : Nat) : Int)) (iV ((j : Int) + 1) (by omega) (by omega) (by omega)) ?_
        refine pV 5 (.int .i64 ((j + 1 : Nat) : Int)) ?_
        refine nT ?_
        exact ⟨fun k_ => ([v1 4, undef, undef, undef, undef, undef, undef, undef, undef, undef, undef, undef, undef, undef, undef, undef, undef, undef, .int .i64 (j : Int), .pointer (some ⟨g1, 3, none⟩), .int .u8 b, .int .i64 b, .bool true, .int .i64 (j : Int), .int .i64 ((j + 1 : Nat) : Int), .pointer (some ⟨g1, 0, none⟩), .agg (av 3 (ls [.bool (v), .int .u64 h, .int .u64 l])), .int .i64 (j : Int), .bool true, .agg (av 3 (ls [.bool (v'), .int .u64 h', .int .u64 l'])), .int .i64 (j : Int), .bool true, .bool false] : List Value).getD (k_ - 4) undef, by kernel_rfl, M, all_step (p := fun k => bI v h l (k : Int) = bI v' h' l' (k : Int)) hx (by rw [c4, c5])⟩
       ·skip
        refine kC M 35 57 #[.agg (av 3 (ls [.bool (v'), .int .u64 h', .int .u64 l'])), .int .i64 (j : Int)] (.bool false) (fun w M => call_val (d_bit v' h' l' (j : Int) (by omega) (by have e1 := hbw c0; have e2 : wdt v = wdt v' := (by rw [c2, c3]); omega) w M.laid) (congrArg Value.bool c5)) ?_
        refine kl_nil fun u5 M => ?_
        refine pV 36 (.bool true) ?_
        refine nT ?_
        refine wp_cond_true (by kernel_rfl) ?_
        refine sR ?_
        refine pV 4 (.bool false) ?_
        refine nT ?_
        refine wp_ret ?_
        refine au_block_ret ?_
        refine au_then_ret ?_
        refine au_then_ret ?_
        refine au_block_ret ?_
        refine au_then_ret ?_
        have e0 : rH v h l b v' h' l' = false := by unfold rH; rw [c0, c1, decide_eq_true (p := v = v') (by rw [c2, c3]), decide_eq_false (fun hh => by have := hh j (by omega); rw [c4, c5] at this; cases this)] <;> rfl
        exact bodyPost_ret (v := .bool false) (results_tmp1 Tryz.results29 _ _ _ (by kernel_rfl)) (by kernel_rfl) ⟨by simp only [e0], below_grown M.old⟩
      ·skip
       refine kC M 32 57 #[.agg (av 3 (ls [.bool (v), .int .u64 h, .int .u64 l])), .int .i64 (j : Int)] (.bool false) (fun w M => call_val (d_bit v h l (j : Int) (by omega) (by have e1 := hbw c0; have e2 : wdt v = wdt v' := (by rw [c2, c3]); omega) w M.laid) (congrArg Value.bool c4)) ?_
       refine kA M 33 1 3 (ls [.bool (v'), .int .u64 h', .int .u64 l']) ?_
       refine kV 34 (.int .i64 (j : Int)) ?_
       rcases Bool.eq_false_or_eq_true (bI v' h' l' (j : Int)) with c5 | c5
       ·skip
        refine kC M 35 57 #[.agg (av 3 (ls [.bool (v'), .int .u64 h', .int .u64 l'])), .int .i64 (j : Int)] (.bool true) (fun w M => call_val (d_bit v' h' l' (j : Int) (by omega) (by have e1 := hbw c0; have e2 : wdt v = wdt v' := (by rw [c2, c3]); omega) w M.laid) (congrArg Value.bool c5)) ?_
        refine kl_nil fun u5 M => ?_
        refine pV 36 (.bool true) ?_
        refine nT ?_
        refine wp_cond_true (by kernel_rfl) ?_
        refine sR ?_
        refine pV 4 (.bool false) ?_
        refine nT ?_
        refine wp_ret ?_
        refine au_block_ret ?_
        refine au_then_ret ?_
        refine au_then_ret ?_
        refine au_block_ret ?_
        refine au_then_ret ?_
        have e0 : rH v h l b v' h' l' = false := by unfold rH; rw [c0, c1, decide_eq_true (p := v = v') (by rw [c2, c3]), decide_eq_false (fun hh => by have := hh j (by omega); rw [c4, c5] at this; cases this)] <;> rfl
        exact bodyPost_ret (v := .bool false) (results_tmp1 Tryz.results29 _ _ _ (by kernel_rfl)) (by kernel_rfl) ⟨by simp only [e0], below_grown M.old⟩
       ·skip
        refine kC M 35 57 #[.agg (av 3 (ls [.bool (v'), .int .u64 h', .int .u64 l'])), .int .i64 (j : Int)] (.bool false) (fun w M => call_val (d_bit v' h' l' (j : Int) (by omega) (by have e1 := hbw c0; have e2 : wdt v = wdt v' := (by rw [c2, c3]); omega) w M.laid) (congrArg Value.bool c5)) ?_
        refine kl_nil fun u5 M => ?_
        refine pV 36 (.bool false) ?_
        refine nT ?_
        refine wp_cond_false (by kernel_rfl) ?_
        refine wp_skip ?_
        refine au_block ?_
        refine au_then ?_
        refine rg_lit ?_
        refine pV 27 (.int .i64 (j : Int)) ?_
        refine pH 28 (.int .i64 ((j + 1 : Nat) : Int)) (iV ((j : Int) + 1) (by omega) (by omega) (by omega)) ?_
        refine pV 5 (.int .i64 ((j + 1 : Nat) : Int)) ?_
        refine nT ?_
        exact ⟨fun k_ => ([v1 4, undef, undef, undef, undef, undef, undef, undef, undef, undef, undef, undef, undef, undef, undef, undef, undef, undef, .int .i64 (j : Int), .pointer (some ⟨g1, 3, none⟩), .int .u8 b, .int .i64 b, .bool true, .int .i64 (j : Int), .int .i64 ((j + 1 : Nat) : Int), .pointer (some ⟨g1, 0, none⟩), .agg (av 3 (ls [.bool (v), .int .u64 h, .int .u64 l])), .int .i64 (j : Int), .bool false, .agg (av 3 (ls [.bool (v'), .int .u64 h', .int .u64 l'])), .int .i64 (j : Int), .bool false, .bool false] : List Value).getD (k_ - 4) undef, by kernel_rfl, M, all_step (p := fun k => bI v h l (k : Int) = bI v' h' l' (k : Int)) hx (by rw [c4, c5])⟩
     ·intro a u0 hI
      obtain ⟨v1, rfl, M, hx⟩ := hI
      refine wp_seq ?_
      refine sR ?_
      refine pV 22 (.int .i64 (n : Int)) ?_
      refine pV 23 (.pointer (some ⟨g1, 3, none⟩)) ?_
      refine pEz M 24 g1 3 (.int .u8 b) (fun w M => M.cell 0 rfl (by decide) rfl) ?_
      refine pH 25 (.int .i64 b) (fun w => Eq.trans (b := .ok (.value (.int .i64 (IntKind.wrap .i64 b))) w) (by kernel_rfl) (by rw [wrap64 (by omega) (by omega)])) ?_
      refine pH 26 (.bool false) (dF ((n : Int) < b) (by omega)) ?_
      refine nT ?_
      refine wp_cond_false (by kernel_rfl) ?_
      refine wp_exit ?_
      refine au_then_exit ?_
      refine au_then_exit ?_
      refine au_block_exit ?_
      refine au_then ?_
      refine sR ?_
      refine pV 4 (.bool true) ?_
      refine nT ?_
      refine wp_ret ?_
      have e0 : rH v h l b v' h' l' = true := by unfold rH; rw [c0, c1, decide_eq_true (p := v = v') (by rw [c2, c3]), decide_eq_true (by rw [← hn]; exact hx)] <;> rfl
      exact bodyPost_ret (v := .bool true) (results_tmp1 Tryz.results29 _ _ _ (by kernel_rfl)) (by kernel_rfl) ⟨by simp only [e0], below_grown M.old⟩
    ·skip
     refine pl_cell M (want_on 8 false rfl 14 rfl (by kernel_rfl)) (some 19) rfl 4 _ rfl g2 0 (by kernel_rfl) (.bool false) (fun _ => by kernel_rfl) (fun w M => M.cell 1 rfl (by decide) (congrArg Value.bool c3)) ?_
     refine pl_val (want_on 8 false rfl 14 rfl (by kernel_rfl)) (some 20) rfl (.bool true) (fun _ => by kernel_rfl) ?_
     refine pV 21 (.bool true) ?_
     refine nT ?_
     refine wp_cond_true (by kernel_rfl) ?_
     refine sR ?_
     refine pV 4 (.bool false) ?_
     refine nT ?_
     refine wp_ret ?_
     refine au_then_ret ?_
     have e0 : rH v h l b v' h' l' = false := by unfold rH; rw [c0, c1, decide_eq_false (p := v = v') (by rw [c2, c3]; decide)] <;> rfl
     exact bodyPost_ret (v := .bool false) (results_tmp1 Tryz.results29 _ _ _ (by kernel_rfl)) (by kernel_rfl) ⟨by simp only [e0], below_grown M.old⟩
   ·skip
    refine pl_cell M (want_on 8 false rfl 14 rfl (by kernel_rfl)) (some 17) rfl 4 _ rfl g1 0 (by kernel_rfl) (.bool false) (fun _ => by kernel_rfl) (fun w M => M.cell 0 rfl (by decide) (congrArg Value.bool c2)) ?_
    refine pl_val (want_on 8 false rfl 14 rfl (by kernel_rfl)) (some 18) rfl (.pointer (some ⟨g2, 0, none⟩)) (fun _ => by kernel_rfl) ?_
    rcases Bool.eq_false_or_eq_true (v') with c3 | c3
    ·skip
     refine pl_cell M (want_on 8 false rfl 14 rfl (by kernel_rfl)) (some 19) rfl 4 _ rfl g2 0 (by kernel_rfl) (.bool true) (fun _ => by kernel_rfl) (fun w M => M.cell 1 rfl (by decide) (congrArg Value.bool c3)) ?_
     refine pl_val (want_on 8 false rfl 14 rfl (by kernel_rfl)) (some 20) rfl (.bool true) (fun _ => by kernel_rfl) ?_
     refine pV 21 (.bool true) ?_
     refine nT ?_
     refine wp_cond_true (by kernel_rfl) ?_
     refine sR ?_
     refine pV 4 (.bool false) ?_
     refine nT ?_
     refine wp_ret ?_
     refine au_then_ret ?_
     have e0 : rH v h l b v' h' l' = false := by unfold rH; rw [c0, c1, decide_eq_false (p := v = v') (by rw [c2, c3]; decide)] <;> rfl
     exact bodyPost_ret (v := .bool false) (results_tmp1 Tryz.results29 _ _ _ (by kernel_rfl)) (by kernel_rfl) ⟨by simp only [e0], below_grown M.old⟩
    ·skip
     refine pl_cell M (want_on 8 false rfl 14 rfl (by kernel_rfl)) (some 19) rfl 4 _ rfl g2 0 (by kernel_rfl) (.bool false) (fun _ => by kernel_rfl) (fun w M => M.cell 1 rfl (by decide) (congrArg Value.bool c3)) ?_
     refine pl_val (want_on 8 false rfl 14 rfl (by kernel_rfl)) (some 20) rfl (.bool false) (fun _ => by kernel_rfl) ?_
     refine pV 21 (.bool false) ?_
     refine nT ?_
     refine wp_cond_false (by kernel_rfl) ?_
     refine wp_skip ?_
     refine au_then ?_
     refine wp_seq ?_
     refine sR ?_
     refine pV 5 (.int .i64 0) ?_
     refine nT ?_
     refine wp_block ?_
     refine au_loop (fun j a w' => ∃ v1 : Nat → Value, a = ⟨#[.agg (av 4 (ls [.bool (v), .int .u64 h, .int .u64 l, .int .u8 b])), .agg (av 3 (ls [.bool (v'), .int .u64 h', .int .u64 l'])), .pointer (some ⟨g1, 0, none⟩), .pointer (some ⟨g2, 0, none⟩), v1 4, .int .i64 (j : Int), .agg (av 4 (ls [.bool (v), .int .u64 h, .int .u64 l, .int .u8 b])), .bool true, .bool false, .bool false, .agg (av 3 (ls [.bool (v'), .int .u64 h', .int .u64 l'])), .bool true, .bool false, .bool false, .bool false, .pointer (some ⟨g1, 0, none⟩), .pointer (some ⟨g1, 0, none⟩), .bool false, .pointer (some ⟨g2, 0, none⟩), .bool false, .bool false, .bool false, v1 22, v1 23, v1 24, v1 25, v1 26, v1 27, v1 28, v1 29, v1 30, v1 31, v1 32, v1 33, v1 34, v1 35, v1 36], []⟩ ∧ Mem ⟨w, []⟩ [⟨g1, .cells (av 4 (ls [.bool (v), .int .u64 h, .int .u64 l, .int .u8 b])) 39⟩, ⟨g2, .cells (av 3 (ls [.bool (v'), .int .u64 h', .int .u64 l'])) 24⟩] w' ∧ ∀ k, k < j → bI v h l (k : Int) = bI v' h' l' (k : Int)) n ⟨fun k_ => ([.bool false, undef, undef, undef, undef, undef, undef, undef, undef, undef, undef, undef, undef, undef, undef, undef, undef, undef, undef, undef, undef, undef, undef, undef, undef, undef, undef, undef, undef, undef, undef, undef, undef] : List Value).getD (k_ - 4) undef, by kernel_rfl, M, fun k hk => absurd hk (Nat.not_lt_zero k)⟩ ?_ ?_
     ·intro j a u0 hj hI
      obtain ⟨v1, rfl, M, hx⟩ := hI
      refine wp_seq ?_
      refine sR ?_
      refine pV 22 (.int .i64 (j : Int)) ?_
      refine pV 23 (.pointer (some ⟨g1, 3, none⟩)) ?_
      refine pEz M 24 g1 3 (.int .u8 b) (fun w M => M.cell 0 rfl (by decide) rfl) ?_
      refine pH 25 (.int .i64 b) (fun w => Eq.trans (b := .ok (.value (.int .i64 (IntKind.wrap .i64 b))) w) (by kernel_rfl) (by rw [wrap64 (by omega) (by omega)])) ?_
      refine pH 26 (.bool true) (dTz ((j : Int) < b) (by omega)) ?_
      refine nT ?_
      refine wp_cond_true (by kernel_rfl) ?_
      refine wp_skip ?_
      refine au_then ?_
      refine wp_seq ?_
      refine wp_block ?_
      refine wp_seq ?_
      refine rg_tail M 7 (by kernel_rfl) (by kernel_rfl) ?_
      simp only [List.take_succ_cons, List.take_zero]
      refine kV 29 (.pointer (some ⟨g1, 0, none⟩)) ?_
      refine kL M 30 0 rfl 0 3 (ls [.bool (v), .int .u64 h, .int .u64 l]) (part_ls _ 0 3 _ rfl) ?_
      refine kV 31 (.int .i64 (j : Int)) ?_
      rcases Bool.eq_false_or_eq_true (bI v h l (j : Int)) with c4 | c4
      ·skip
       refine kC M 32 57 #[.agg (av 3 (ls [.bool (v), .int .u64 h, .int .u64 l])), .int .i64 (j : Int)] (.bool true) (fun w M => call_val (d_bit v h l (j : Int) (by omega) (by have e1 := hbw c0; have e2 : wdt v = wdt v' := (by rw [c2, c3]); omega) w M.laid) (congrArg Value.bool c4)) ?_
       refine kA M 33 1 3 (ls [.bool (v'), .int .u64 h', .int .u64 l']) ?_
       refine kV 34 (.int .i64 (j : Int)) ?_
       rcases Bool.eq_false_or_eq_true (bI v' h' l' (j : Int)) with c5 | c5
       ·skip
        refine kC M 35 57 #[.agg (av 3 (ls [.bool (v'), .int .u64 h', .int .u64 l'])), .int .i64 (j : Int)] (.bool true) (fun w M => call_val (d_bit v' h' l' (j : Int) (by omega) (by have e1 := hbw c0; have e2 : wdt v = wdt v' := (by rw [c2, c3]); omega) w M.laid) (congrArg Value.bool c5)) ?_
        refine kl_nil fun u5 M => ?_
        refine pV 36 (.bool false) ?_
        refine nT ?_
        refine wp_cond_false (by kernel_rfl) ?_
        refine wp_skip ?_
        refine au_block ?_
        refine au_then ?_
        refine rg_lit ?_
        refine pV 27 (.int .i64 (j : Int)) ?_
        refine pH 28 (.int .i64 ((j + 1 : Nat) : Int)) (iV ((j : Int) + 1) (by omega) (by omega) (by omega)) ?_
        refine pV 5 (.int .i64 ((j + 1 : Nat) : Int)) ?_
        refine nT ?_
        exact ⟨fun k_ => ([v1 4, undef, undef, undef, undef, undef, undef, undef, undef, undef, undef, undef, undef, undef, undef, undef, undef, undef, .int .i64 (j : Int), .pointer (some ⟨g1, 3, none⟩), .int .u8 b, .int .i64 b, .bool true, .int .i64 (j : Int), .int .i64 ((j + 1 : Nat) : Int), .pointer (some ⟨g1, 0, none⟩), .agg (av 3 (ls [.bool (v), .int .u64 h, .int .u64 l])), .int .i64 (j : Int), .bool true, .agg (av 3 (ls [.bool (v'), .int .u64 h', .int .u64 l'])), .int .i64 (j : Int), .bool true, .bool false] : List Value).getD (k_ - 4) undef, by kernel_rfl, M, all_step (p := fun k => bI v h l (k : Int) = bI v' h' l' (k : Int)) hx (by rw [c4, c5])⟩
       ·skip
        refine kC M 35 57 #[.agg (av 3 (ls [.bool (v'), .int .u64 h', .int .u64 l'])), .int .i64 (j : Int)] (.bool false) (fun w M => call_val (d_bit v' h' l' (j : Int) (by omega) (by have e1 := hbw c0; have e2 : wdt v = wdt v' := (by rw [c2, c3]); omega) w M.laid) (congrArg Value.bool c5)) ?_
        refine kl_nil fun u5 M => ?_
        refine pV 36 (.bool true) ?_
        refine nT ?_
        refine wp_cond_true (by kernel_rfl) ?_
        refine sR ?_
        refine pV 4 (.bool false) ?_
        refine nT ?_
        refine wp_ret ?_
        refine au_block_ret ?_
        refine au_then_ret ?_
        refine au_then_ret ?_
        refine au_block_ret ?_
        refine au_then_ret ?_
        have e0 : rH v h l b v' h' l' = false := by unfold rH; rw [c0, c1, decide_eq_true (p := v = v') (by rw [c2, c3]), decide_eq_false (fun hh => by have := hh j (by omega); rw [c4, c5] at this; cases this)] <;> rfl
        exact bodyPost_ret (v := .bool false) (results_tmp1 Tryz.results29 _ _ _ (by kernel_rfl)) (by kernel_rfl) ⟨by simp only [e0], below_grown M.old⟩
      ·skip
       refine kC M 32 57 #[.agg (av 3 (ls [.bool (v), .int .u64 h, .int .u64 l])), .int .i64 (j : Int)] (.bool false) (fun w M => call_val (d_bit v h l (j : Int) (by omega) (by have e1 := hbw c0; have e2 : wdt v = wdt v' := (by rw [c2, c3]); omega) w M.laid) (congrArg Value.bool c4)) ?_
       refine kA M 33 1 3 (ls [.bool (v'), .int .u64 h', .int .u64 l']) ?_
       refine kV 34 (.int .i64 (j : Int)) ?_
       rcases Bool.eq_false_or_eq_true (bI v' h' l' (j : Int)) with c5 | c5
       ·skip
        refine kC M 35 57 #[.agg (av 3 (ls [.bool (v'), .int .u64 h', .int .u64 l'])), .int .i64 (j : Int)] (.bool true) (fun w M => call_val (d_bit v' h' l' (j : Int) (by omega) (by have e1 := hbw c0; have e2 : wdt v = wdt v' := (by rw [c2, c3]); omega) w M.laid) (congrArg Value.bool c5)) ?_
        refine kl_nil fun u5 M => ?_
        refine pV 36 (.bool true) ?_
        refine nT ?_
        refine wp_cond_true (by kernel_rfl) ?_
        refine sR ?_
        refine pV 4 (.bool false) ?_
        refine nT ?_
        refine wp_ret ?_
        refine au_block_ret ?_
        refine au_then_ret ?_
        refine au_then_ret ?_
        refine au_block_ret ?_
        refine au_then_ret ?_
        have e0 : rH v h l b v' h' l' = false := by unfold rH; rw [c0, c1, decide_eq_true (p := v = v') (by rw [c2, c3]), decide_eq_false (fun hh => by have := hh j (by omega); rw [c4, c5] at this; cases this)] <;> rfl
        exact bodyPost_ret (v := .bool false) (results_tmp1 Tryz.results29 _ _ _ (by kernel_rfl)) (by kernel_rfl) ⟨by simp only [e0], below_grown M.old⟩
       ·skip
        refine kC M 35 57 #[.agg (av 3 (ls [.bool (v'), .int .u64 h', .int .u64 l'])), .int .i64 (j : Int)] (.bool false) (fun w M => call_val (d_bit v' h' l' (j : Int) (by omega) (by have e1 := hbw c0; have e2 : wdt v = wdt v' := (by rw [c2, c3]); omega) w M.laid) (congrArg Value.bool c5)) ?_
        refine kl_nil fun u5 M => ?_
        refine pV 36 (.bool false) ?_
        refine nT ?_
        refine wp_cond_false (by kernel_rfl) ?_
        refine wp_skip ?_
        refine au_block ?_
        refine au_then ?_
        refine rg_lit ?_
        refine pV 27 (.int .i64 (j : Int)) ?_
        refine pH 28 (.int .i64 ((j + 1 : Nat) : Int)) (iV ((j : Int) + 1) (by omega) (by omega) (by omega)) ?_
        refine pV 5 (.int .i64 ((j + 1 : Nat) : Int)) ?_
        refine nT ?_
        exact ⟨fun k_ => ([v1 4, undef, undef, undef, undef, undef, undef, undef, undef, undef, undef, undef, undef, undef, undef, undef, undef, undef, .int .i64 (j : Int), .pointer (some ⟨g1, 3, none⟩), .int .u8 b, .int .i64 b, .bool true, .int .i64 (j : Int), .int .i64 ((j + 1 : Nat) : Int), .pointer (some ⟨g1, 0, none⟩), .agg (av 3 (ls [.bool (v), .int .u64 h, .int .u64 l])), .int .i64 (j : Int), .bool false, .agg (av 3 (ls [.bool (v'), .int .u64 h', .int .u64 l'])), .int .i64 (j : Int), .bool false, .bool false] : List Value).getD (k_ - 4) undef, by kernel_rfl, M, all_step (p := fun k => bI v h l (k : Int) = bI v' h' l' (k : Int)) hx (by rw [c4, c5])⟩
     ·intro a u0 hI
      obtain ⟨v1, rfl, M, hx⟩ := hI
      refine wp_seq ?_
      refine sR ?_
      refine pV 22 (.int .i64 (n : Int)) ?_
      refine pV 23 (.pointer (some ⟨g1, 3, none⟩)) ?_
      refine pEz M 24 g1 3 (.int .u8 b) (fun w M => M.cell 0 rfl (by decide) rfl) ?_
      refine pH 25 (.int .i64 b) (fun w => Eq.trans (b := .ok (.value (.int .i64 (IntKind.wrap .i64 b))) w) (by kernel_rfl) (by rw [wrap64 (by omega) (by omega)])) ?_
      refine pH 26 (.bool false) (dF ((n : Int) < b) (by omega)) ?_
      refine nT ?_
      refine wp_cond_false (by kernel_rfl) ?_
      refine wp_exit ?_
      refine au_then_exit ?_
      refine au_then_exit ?_
      refine au_block_exit ?_
      refine au_then ?_
      refine sR ?_
      refine pV 4 (.bool true) ?_
      refine nT ?_
      refine wp_ret ?_
      have e0 : rH v h l b v' h' l' = true := by unfold rH; rw [c0, c1, decide_eq_true (p := v = v') (by rw [c2, c3]), decide_eq_true (by rw [← hn]; exact hx)] <;> rfl
      exact bodyPost_ret (v := .bool true) (results_tmp1 Tryz.results29 _ _ _ (by kernel_rfl)) (by kernel_rfl) ⟨by simp only [e0], below_grown M.old⟩
  ·skip
   refine pl_call M (want_on 3 false rfl 9 rfl (by kernel_rfl)) (some 11) rfl 38 #[.agg (av 3 (ls [.bool (v'), .int .u64 h', .int .u64 l']))] (.bool false) (fun _ => by kernel_rfl) (fun w M => call_val (d_MayAddr v' h' l' w M.laid) (congrArg Value.bool c1)) fun u4 M => ?_
   refine pl_val (want_on 3 false rfl 9 rfl (by kernel_rfl)) (some 12) rfl (.bool true) (fun _ => by kernel_rfl) ?_
   refine pV 13 (.bool true) ?_
   refine pV 14 (.bool true) ?_
   refine pl_skip (want_off 8 false rfl 14 rfl (by kernel_rfl)) (some 15) rfl ?_
   refine pl_skip (want_off 8 false rfl 14 rfl (by kernel_rfl)) (some 16) rfl ?_
   refine pl_skip (want_off 8 false rfl 14 rfl (by kernel_rfl)) (some 17) rfl ?_
   refine pl_skip (want_off 8 false rfl 14 rfl (by kernel_rfl)) (some 18) rfl ?_
   refine pl_skip (want_off 8 false rfl 14 rfl (by kernel_rfl)) (some 19) rfl ?_
   refine pl_skip (want_off 8 false rfl 14 rfl (by kernel_rfl)) (some 20) rfl ?_
   refine pV 21 (.bool true) ?_
   refine nT ?_
   refine wp_cond_true (by kernel_rfl) ?_
   refine sR ?_
   refine pV 4 (.bool false) ?_
   refine nT ?_
   refine wp_ret ?_
   refine au_then_ret ?_
   have e0 : rH v h l b v' h' l' = false := by unfold rH; rw [c0, c1] <;> rfl
   exact bodyPost_ret (v := .bool false) (results_tmp1 Tryz.results29 _ _ _ (by kernel_rfl)) (by kernel_rfl) ⟨by simp only [e0], below_grown M.old⟩
 ·skip
  refine pC M 7 27 #[.agg (av 4 (ls [.bool (v), .int .u64 h, .int .u64 l, .int .u8 b]))] (.bool false) (fun w M => call_val (d_MayPrefix v h l b (by omega) (by omega) w M.laid) (congrArg Value.bool c0)) fun u3 M => ?_
  refine pV 8 (.bool true) ?_
  refine pV 9 (.bool true) ?_
  refine pl_skip (want_off 3 false rfl 9 rfl (by kernel_rfl)) (some 10) rfl ?_
  refine pl_skip (want_off 3 false rfl 9 rfl (by kernel_rfl)) (some 11) rfl ?_
  refine pl_skip (want_off 3 false rfl 9 rfl (by kernel_rfl)) (some 12) rfl ?_
  refine pV 13 (.bool true) ?_
  refine pV 14 (.bool true) ?_
  refine pl_skip (want_off 8 false rfl 14 rfl (by kernel_rfl)) (some 15) rfl ?_
  refine pl_skip (want_off 8 false rfl 14 rfl (by kernel_rfl)) (some 16) rfl ?_
  refine pl_skip (want_off 8 false rfl 14 rfl (by kernel_rfl)) (some 17) rfl ?_
  refine pl_skip (want_off 8 false rfl 14 rfl (by kernel_rfl)) (some 18) rfl ?_
  refine pl_skip (want_off 8 false rfl 14 rfl (by kernel_rfl)) (some 19) rfl ?_
  refine pl_skip (want_off 8 false rfl 14 rfl (by kernel_rfl)) (some 20) rfl ?_
  refine pV 21 (.bool true) ?_
  refine nT ?_
  refine wp_cond_true (by kernel_rfl) ?_
  refine sR ?_
  refine pV 4 (.bool false) ?_
  refine nT ?_
  refine wp_ret ?_
  refine au_then_ret ?_
  have e0 : rH v h l b v' h' l' = false := by unfold rH; rw [c0] <;> rfl
  exact bodyPost_ret (v := .bool false) (results_tmp1 Tryz.results29 _ _ _ (by kernel_rfl)) (by kernel_rfl) ⟨by simp only [e0], below_grown M.old⟩
end Go.Proofs.YtndonmdgplojnaaGreatDoor

namespace Go.Proofs.YtndonmdgplojnaaGreatDoor
open Go.RowKit
def fo (n : Int) : Int := n % 65536 + n / 65536
def sm (s : ByteArray) : Nat → Int
 | 0 => 0
 | j + 1 => fo (sm s j + 256 * bt s (2 * j) + bt s (2 * j + 1))
def tt (s : ByteArray) : Nat → Int
 | 0 => 0
 | j + 1 => tt s j + (if j % 2 = 0 then 256 * bt s j else bt s j)
def Fs (t : Int) : Int := if t = 0 then 0 else (t - 1) % 65535 + 1
def tot (s : ByteArray) : Int := tt s s.size
def sumS (s : ByteArray) : Int := 65535 - Fs (tot s)
theorem bt_ge (s : ByteArray) (i : Nat) (h : s.size ≤ i) : bt s i = 0 := by
 unfold bt
 rw [Array.getElem?_eq_none h]
 rfl
theorem Fs_nn (t : Int) : 0 ≤ Fs t ∧ Fs t ≤ 65535 := by
 unfold Fs
 split <;> omega
theorem Fs_add (t d : Int) (h0 : 0 ≤ t) (d0 : 0 ≤ d) (d1 : d ≤ 65535) : Fs (t + d) = fo (Fs t + d) := by
 unfold Fs fo
 split <;> split <;> omega
theorem tt_nn (s : ByteArray) (j : Nat) : 0 ≤ tt s j ∧ tt s j ≤ 65280 * j := by
 induction j with
 | zero => unfold tt; omega
 | succ j ih =>
  have := bt_nn s j
  unfold tt
  split <;> omega
theorem sm_Fs (s : ByteArray) (j : Nat) : sm s j = Fs (tt s (2 * j)) := by
 induction j with
 | zero => rfl
 | succ j ih =>
  have h1 := bt_nn s (2 * j)
  have h2 := bt_nn s (2 * j + 1)
  have h3 := tt_nn s (2 * j)
  have e : tt s (2 * (j + 1)) = tt s (2 * j) + (256 * bt s (2 * j) + bt s (2 * j + 1)) := by
   show tt s (2 * j) + (if 2 * j % 2 = 0 then _ else _) + (if (2 * j + 1) % 2 = 0 then _ else _) = _
   rw [if_pos (by omega), if_neg (by omega), Int.add_assoc]
   rfl
  rw [e, Fs_add _ _ h3.1 (by omega) (by omega), ← ih]
  show fo _ = fo _
  congr 1
  omega
theorem sm_nn (s : ByteArray) (j : Nat) : 0 ≤ sm s j ∧ sm s j ≤ 65535 := by
 rw [sm_Fs]
 exact Fs_nn _
theorem sm_tot (s : ByteArray) (n : Nat) (h : n = (s.size + 1) / 2) : sm s n = Fs (tot s) := by
 rw [sm_Fs]
 unfold tot
 by_cases e : 2 * n = s.size
 ·rw [e]
 ·have e2 : 2 * n = s.size + 1 := by omega
  have e3 : tt s (s.size + 1) = tt s s.size := by
   show tt s s.size + (if s.size % 2 = 0 then _ else _) = _
   rw [bt_ge s s.size (Nat.le_refl _)]
   split <;> omega
  rw [e2, e3]
theorem yx_not (x : Int) (h0 : 0 ≤ x) (h1 : x ≤ 65535) : yx 65535 x = 65535 - x := by
 obtain ⟨n, rfl⟩ := Int.eq_ofNat_of_zero_le h0
 have e : BitVec.ofInt 16 65535 = BitVec.allOnes 16 := by decide
 have e2 : BitVec.ofInt 16 (n : Int) = BitVec.ofNat 16 n := rfl
 unfold yx
 rw [e, e2, BitVec.allOnes_xor, BitVec.toNat_not, BitVec.toNat_ofNat, Nat.mod_eq_of_lt (by omega), IntKind.wrap_u16]
 omega
theorem vn_low (x : Int) (h0 : 0 ≤ x) (h1 : x < 4294967296) : vn x 65535 = x % 65536 := by
 obtain ⟨n, rfl⟩ := Int.eq_ofNat_of_zero_le h0
 have e : BitVec.ofInt 32 65535 = BitVec.ofNat 32 65535 := by decide
 have e2 : BitVec.ofInt 32 (n : Int) = BitVec.ofNat 32 n := rfl
 unfold vn
 rw [e, e2, BitVec.toNat_and, BitVec.toNat_ofNat, BitVec.toNat_ofNat, Nat.mod_eq_of_lt (by omega), Nat.mod_eq_of_lt (by omega)]
 have e3 : n &&& 65535 = n % 65536 := Nat.and_two_pow_sub_one_eq_mod n 16
 rw [e3, IntKind.wrap_u32]
 omega
theorem vl_8 (x : Int) : vl x 8 = (x * 256) % 4294967296 := by
 unfold vl
 rw [IntKind.wrap_u32]
 rfl
theorem sr_16 (x : Int) : sr x 16 = x / 65536 := by
 unfold sr
 rw [Int.fdiv_eq_ediv_of_nonneg _ (by decide)]
 rfl
set_option maxRecDepth 100000 in
set_option maxHeartbeats 4000000 in
set_option linter.unusedSimpArgs false in
theorem c_Sum (s : ByteArray) (hs : s.size ≤ 200000) (w : World) (hL : Laid w)  :
  Calls Tryz.prog 14 #[.string s] w fun r w' => r = .returned (.int .u16 (sumS s)) ∧ Below w.heap.size w w' := by
 go_enter Tryz.func14, Tryz.ntmps14
 have M := Mem.start hL
 obtain ⟨n, hn⟩ : ∃ n : Nat, n = (s.size + 1) / 2 := ⟨_, rfl⟩
 refine sR ?_
 refine pV 2 (.int .u16 0) ?_
 refine nT ?_
 refine sR ?_
 refine pV 3 (.int .u32 0) ?_
 refine nT ?_
 refine wp_seq ?_
 refine sR ?_
 refine pV 4 (.int .i64 0) ?_
 refine nT ?_
 refine wp_block ?_
 refine au_loop (fun j a w' => ∃ v1 : Nat → Value, a = ⟨#[.string s, undef, .int .u16 0, .int .u32 (sm s j), .int .i64 ((2 * j : Nat) : Int), v1 5, v1 6, v1 7, v1 8, v1 9, v1 10, v1 11, v1 12, v1 13, v1 14, v1 15, v1 16, v1 17, v1 18, v1 19, v1 20, v1 21, v1 22, v1 23, v1 24, v1 25, v1 26, v1 27, v1 28, v1 29, v1 30, v1 31, v1 32, v1 33, v1 34, undef, undef, undef], []⟩ ∧ Mem ⟨w, []⟩ [] w') n ⟨fun k_ => ([undef, undef, undef, undef, undef, undef, undef, undef, undef, undef, undef, undef, undef, undef, undef, undef, undef, undef, undef, undef, undef, undef, undef, undef, undef, undef, undef, undef, undef, undef] : List Value).getD (k_ - 5) undef, by kernel_rfl, M⟩ ?_ ?_
 ·intro j a u0 hj hI
  obtain ⟨v1, rfl, M⟩ := hI
  have hs1 := sm_nn s j
  have hb0 := bt_nn s (2 * j)
  have hb1 := bt_nn s (2 * j + 1)
  refine wp_seq ?_
  refine sR ?_
  refine pV 5 (.int .i64 ((2 * j : Nat) : Int)) ?_
  refine pV 6 (.string s) ?_
  refine pV 7 (.int .i64 (s.size : Int)) ?_
  refine pH 8 (.bool true) (dTz (((2 * j : Nat) : Int) < (s.size : Int)) (by omega)) ?_
  refine nT ?_
  refine wp_cond_true (by kernel_rfl) ?_
  refine wp_skip ?_
  refine au_then ?_
  refine wp_seq ?_
  refine wp_block ?_
  refine sR ?_
  refine pV 11 (.int .u32 (sm s j)) ?_
  refine pV 12 (.string s) ?_
  refine pV 13 (.int .i64 ((2 * j : Nat) : Int)) ?_
  refine pH 14 (.int .u8 (bt s (2 * j))) (run_ixS 9 Tryz.underlying9 _ _ rfl s (by kernel_rfl) .i64 (2 * j) (by kernel_rfl) (by omega)) ?_
  refine pH 15 (.int .u32 (bt s (2 * j))) (fun w => Eq.trans (b := .ok (.value (.int .u32 (cv .u32 (bt s (2 * j))))) w) (by kernel_rfl) (by rw [cv_u32]; congr 3; omega)) ?_
  refine pH 16 (.int .u32 (256 * bt s (2 * j))) (fun w => Eq.trans (b := .ok (.value (.int .u32 (vl (bt s (2 * j)) 8))) w) (by kernel_rfl) (by rw [vl_8]; congr 3; omega)) ?_
  refine pH 17 (.int .u32 (sm s j + 256 * bt s (2 * j))) (fun w => Eq.trans (b := .ok (.value (.int .u32 (cv .u32 (sm s j + 256 * bt s (2 * j))))) w) (by kernel_rfl) (by rw [cv_u32]; congr 3; omega)) ?_
  refine pV 3 (.int .u32 (sm s j + 256 * bt s (2 * j))) ?_
  refine nT ?_
  refine wp_seq ?_
  refine sR ?_
  refine pV 18 (.int .i64 ((2 * j : Nat) : Int)) ?_
  refine pH 19 (.int .i64 ((2 * j + 1 : Nat) : Int)) (fun w => Eq.trans (b := .ok (.value (.int .i64 (cv .i64 (((2 * j : Nat) : Int) + 1)))) w) (by kernel_rfl) (by rw [cv_i64 (by omega) (by omega)]; rfl)) ?_
  refine pV 20 (.string s) ?_
  refine pV 21 (.int .i64 (s.size : Int)) ?_
  by_cases c0 : ((2 * j + 1 : Nat) : Int) < (s.size : Int)
  ·skip
   refine pH 22 (.bool true) (dTz (((2 * j + 1 : Nat) : Int) < (s.size : Int)) (c0)) ?_
   refine nT ?_
   refine wp_cond_true (by kernel_rfl) ?_
   refine rg_lit ?_
   refine pV 23 (.int .u32 (sm s j + 256 * bt s (2 * j))) ?_
   refine pV 24 (.string s) ?_
   refine pV 25 (.int .i64 ((2 * j : Nat) : Int)) ?_
   refine pH 26 (.int .i64 ((2 * j + 1 : Nat) : Int)) (fun w => Eq.trans (b := .ok (.value (.int .i64 (cv .i64 (((2 * j : Nat) : Int) + 1)))) w) (by kernel_rfl) (by rw [cv_i64 (by omega) (by omega)]; rfl)) ?_
   refine pH 27 (.int .u8 (bt s (2 * j + 1))) (run_ixS 9 Tryz.underlying9 _ _ rfl s (by kernel_rfl) .i64 (2 * j + 1) (by kernel_rfl) (by omega)) ?_
   refine pH 28 (.int .u32 (bt s (2 * j + 1))) (fun w => Eq.trans (b := .ok (.value (.int .u32 (cv .u32 (bt s (2 * j + 1))))) w) (by kernel_rfl) (by rw [cv_u32]; congr 3; omega)) ?_
   refine pH 29 (.int .u32 (sm s j + 256 * bt s (2 * j) + bt s (2 * j + 1))) (fun w => Eq.trans (b := .ok (.value (.int .u32 (cv .u32 (sm s j + 256 * bt s (2 * j) + bt s (2 * j + 1))))) w) (by kernel_rfl) (by rw [cv_u32]; congr 3; omega)) ?_
   refine pV 3 (.int .u32 (sm s j + 256 * bt s (2 * j) + bt s (2 * j + 1))) ?_
   refine nT ?_
   refine rg_lit ?_
   refine pV 30 (.int .u32 (sm s j + 256 * bt s (2 * j) + bt s (2 * j + 1))) ?_
   refine pH 31 (.int .u32 ((sm s j + 256 * bt s (2 * j) + bt s (2 * j + 1)) % 65536)) (fun w => Eq.trans (b := .ok (.value (.int .u32 (vn (sm s j + 256 * bt s (2 * j) + bt s (2 * j + 1)) 65535))) w) (by kernel_rfl) (by rw [vn_low _ (by omega) (by omega)])) ?_
   refine pV 32 (.int .u32 (sm s j + 256 * bt s (2 * j) + bt s (2 * j + 1))) ?_
   refine pH 33 (.int .u32 ((sm s j + 256 * bt s (2 * j) + bt s (2 * j + 1)) / 65536)) (fun w => Eq.trans (b := .ok (.value (.int .u32 (sr (sm s j + 256 * bt s (2 * j) + bt s (2 * j + 1)) 16))) w) (by kernel_rfl) (by rw [sr_16])) ?_
   refine pH 34 (.int .u32 (sm s (j + 1))) (fun w => Eq.trans (b := .ok (.value (.int .u32 (cv .u32 (((sm s j + 256 * bt s (2 * j) + bt s (2 * j + 1)) % 65536) + ((sm s j + 256 * bt s (2 * j) + bt s (2 * j + 1)) / 65536))))) w) (by kernel_rfl) (by rw [cv_u32]; congr 3; show _ = fo (sm s j + 256 * bt s (2 * j) + bt s (2 * j + 1)); unfold fo; omega)) ?_
   refine pV 3 (.int .u32 (sm s (j + 1))) ?_
   refine pl_nil ?_
   refine au_block ?_
   refine au_then ?_
   refine rg_lit ?_
   refine pV 9 (.int .i64 ((2 * j : Nat) : Int)) ?_
   refine pH 10 (.int .i64 ((2 * (j + 1) : Nat) : Int)) (fun w => Eq.trans (b := .ok (.value (.int .i64 (cv .i64 (((2 * j : Nat) : Int) + 2)))) w) (by kernel_rfl) (by rw [cv_i64 (by omega) (by omega)]; rfl)) ?_
   refine pV 4 (.int .i64 ((2 * (j + 1) : Nat) : Int)) ?_
   refine nT ?_
   exact ⟨fun k_ => ([.int .i64 ((2 * j : Nat) : Int), .string s, .int .i64 (s.size : Int), .bool true, .int .i64 ((2 * j : Nat) : Int), .int .i64 ((2 * (j + 1) : Nat) : Int), .int .u32 (sm s j), .string s, .int .i64 ((2 * j : Nat) : Int), .int .u8 (bt s (2 * j)), .int .u32 (bt s (2 * j)), .int .u32 (256 * bt s (2 * j)), .int .u32 (sm s j + 256 * bt s (2 * j)), .int .i64 ((2 * j : Nat) : Int), .int .i64 ((2 * j + 1 : Nat) : Int), .string s, .int .i64 (s.size : Int), .bool true, .int .u32 (sm s j + 256 * bt s (2 * j)), .string s, .int .i64 ((2 * j : Nat) : Int), .int .i64 ((2 * j + 1 : Nat) : Int), .int .u8 (bt s (2 * j + 1)), .int .u32 (bt s (2 * j + 1)), .int .u32 (sm s j + 256 * bt s (2 * j) + bt s (2 * j + 1)), .int .u32 (sm s j + 256 * bt s (2 * j) + bt s (2 * j + 1)), .int .u32 ((sm s j + 256 * bt s (2 * j) + bt s (2 * j + 1)) % 65536), .int .u32 (sm s j + 256 * bt s (2 * j) + bt s (2 * j + 1)), .int .u32 ((sm s j + 256 * bt s (2 * j) + bt s (2 * j + 1)) / 65536), .int .u32 (sm s (j + 1))] : List Value).getD (k_ - 5) undef, by kernel_rfl, M⟩
  ·skip
   refine pH 22 (.bool false) (dF (((2 * j + 1 : Nat) : Int) < (s.size : Int)) (c0)) ?_
   refine nT ?_
   refine wp_cond_false (by kernel_rfl) ?_
   refine wp_skip ?_
   refine au_then ?_
   refine rg_lit ?_
   refine pV 30 (.int .u32 (sm s j + 256 * bt s (2 * j))) ?_
   refine pH 31 (.int .u32 ((sm s j + 256 * bt s (2 * j)) % 65536)) (fun w => Eq.trans (b := .ok (.value (.int .u32 (vn (sm s j + 256 * bt s (2 * j)) 65535))) w) (by kernel_rfl) (by rw [vn_low _ (by omega) (by omega)])) ?_
   refine pV 32 (.int .u32 (sm s j + 256 * bt s (2 * j))) ?_
   refine pH 33 (.int .u32 ((sm s j + 256 * bt s (2 * j)) / 65536)) (fun w => Eq.trans (b := .ok (.value (.int .u32 (sr (sm s j + 256 * bt s (2 * j)) 16))) w) (by kernel_rfl) (by rw [sr_16])) ?_
   refine pH 34 (.int .u32 (sm s (j + 1))) (fun w => Eq.trans (b := .ok (.value (.int .u32 (cv .u32 (((sm s j + 256 * bt s (2 * j)) % 65536) + ((sm s j + 256 * bt s (2 * j)) / 65536))))) w) (by kernel_rfl) (by rw [cv_u32]; congr 3; show _ = fo (sm s j + 256 * bt s (2 * j) + bt s (2 * j + 1)); unfold fo; rw [bt_ge s (2 * j + 1) (by omega)]; omega)) ?_
   refine pV 3 (.int .u32 (sm s (j + 1))) ?_
   refine pl_nil ?_
   refine au_block ?_
   refine au_then ?_
   refine rg_lit ?_
   refine pV 9 (.int .i64 ((2 * j : Nat) : Int)) ?_
   refine pH 10 (.int .i64 ((2 * (j + 1) : Nat) : Int)) (fun w => Eq.trans (b := .ok (.value (.int .i64 (cv .i64 (((2 * j : Nat) : Int) + 2)))) w) (by kernel_rfl) (by rw [cv_i64 (by omega) (by omega)]; rfl)) ?_
   refine pV 4 (.int .i64 ((2 * (j + 1) : Nat) : Int)) ?_
   refine nT ?_
   exact ⟨fun k_ => ([.int .i64 ((2 * j : Nat) : Int), .string s, .int .i64 (s.size : Int), .bool true, .int .i64 ((2 * j : Nat) : Int), .int .i64 ((2 * (j + 1) : Nat) : Int), .int .u32 (sm s j), .string s, .int .i64 ((2 * j : Nat) : Int), .int .u8 (bt s (2 * j)), .int .u32 (bt s (2 * j)), .int .u32 (256 * bt s (2 * j)), .int .u32 (sm s j + 256 * bt s (2 * j)), .int .i64 ((2 * j : Nat) : Int), .int .i64 ((2 * j + 1 : Nat) : Int), .string s, .int .i64 (s.size : Int), .bool false, v1 23, v1 24, v1 25, v1 26, v1 27, v1 28, v1 29, .int .u32 (sm s j + 256 * bt s (2 * j)), .int .u32 ((sm s j + 256 * bt s (2 * j)) % 65536), .int .u32 (sm s j + 256 * bt s (2 * j)), .int .u32 ((sm s j + 256 * bt s (2 * j)) / 65536), .int .u32 (sm s (j + 1))] : List Value).getD (k_ - 5) undef, by kernel_rfl, M⟩
 ·intro a u0 hI
  obtain ⟨v1, rfl, M⟩ := hI
  refine wp_seq ?_
  refine sR ?_
  refine pV 5 (.int .i64 ((2 * n : Nat) : Int)) ?_
  refine pV 6 (.string s) ?_
  refine pV 7 (.int .i64 (s.size : Int)) ?_
  refine pH 8 (.bool false) (dF (((2 * n : Nat) : Int) < (s.size : Int)) (by omega)) ?_
  refine nT ?_
  refine wp_cond_false (by kernel_rfl) ?_
  refine wp_exit ?_
  refine au_then_exit ?_
  refine au_then_exit ?_
  refine au_block_exit ?_
  refine au_then ?_
  refine sR ?_
  refine pV 35 (.int .u32 (sm s n)) ?_
  refine pH 36 (.int .u16 (sm s n)) (fun w => Eq.trans (b := .ok (.value (.int .u16 (cv .u16 (sm s n)))) w) (by kernel_rfl) (by rw [cv_u16]; congr 3; have := sm_nn s n; omega)) ?_
  refine pH 37 (.int .u16 (sumS s)) (fun w => Eq.trans (b := .ok (.value (.int .u16 (yx 65535 (sm s n)))) w) (by kernel_rfl) (by rw [yx_not _ (sm_nn s n).1 (sm_nn s n).2, sm_tot s n hn]; rfl)) ?_
  refine pV 2 (.int .u16 (sumS s)) ?_
  refine nT ?_
  refine wp_ret ?_
  exact bodyPost_ret (v := .int .u16 (sumS s)) (results_tmp1 Tryz.results14 _ _ _ (by kernel_rfl)) (by kernel_rfl) ⟨rfl, below_grown M.old⟩
end Go.Proofs.YtndonmdgplojnaaGreatDoor

namespace Go.Proofs.YtndonmdgplojnaaGreatDoor
open Go.RowKit
def hdr (v : Bool) : Int := if v = true then 40 else 20
def my (v0 : Bool) (h0 l0 : Int) (v1 : Bool) (h1 l1 n : Int) : Int := if (mA v0 h0 l0 && mA v1 h1 l1 && decide (v0 = v1)) = true then (if 1500 < hdr v0 + n then 4 else 0) else 2
def aB (v : Bool) (h l : Int) : ByteArray := if v = true then be8 h ++ be8 l else be4 (cv .u64 (cv .u32 l))
theorem aB_t (h l : Int) : (aB true h l).size = 16 := by
 show (be8 h ++ be8 l).size = 16
 rw [ByteArray.size_append, be8_size, be8_size]
theorem aB_f (h l : Int) : (aB false h l).size = 4 := be4_size _
def cpy (f : Nat → Int) (off n : Nat) (X : ByteArray) : Nat → Int := fun i => if off ≤ i ∧ i < off + n then bt X (i - off) else f i
theorem cpy_w8 (f : Nat → Int) (off n : Nat) (X : ByteArray) (j : Nat) : (if off ≤ j ∧ j < off + n then w8 (bt X) (j - off) else w8 f j) = w8 (cpy f off n X) j := by
 unfold w8 cpy
 split <;> rfl
def NB (f : Nat → Int) : Prop := ∀ i, 0 ≤ f i ∧ f i < 256
theorem NB.z : NB (fun _ => 0) := fun _ => ⟨Int.le_refl 0, show (0 : Int) < 256 by decide⟩
theorem NB.c {f : Nat → Int} (h : NB f) (off n : Nat) (X : ByteArray) : NB (cpy f off n X) := fun i => by
 unfold cpy
 split
 ·exact bt_nn _ _
 ·exact h i
theorem NB.u {f : Nat → Int} (h : NB f) (k : Nat) {v : Int} (h0 : 0 ≤ v ∧ v < 256) : NB (upd f k v) := fun i => by
 unfold upd
 split
 ·exact h0
 ·exact h i
theorem NB.l {f : Nat → Int} (h : NB f) (n : Nat) : ∀ x ∈ (List.range n).map f, 0 ≤ x ∧ x < 256 := fun x hx => by
 obtain ⟨i, _, rfl⟩ := List.mem_map.1 hx
 exact h i
theorem sb_avk (n k : Nat) (h : k ≤ n) (F : Nat → Int) (T : TypeId) : SB (.cells (av n (w8 F)) T) n (vs8 ((List.range k).map F)) := ⟨_, T, (0, 0), rfl, by simp [vs8, h], by rw [av_size]; exact Nat.le_refl _, fun i hi => by
 have hi : i < k := by simpa [vs8] using hi
 rw [av_get n (w8 F) i (Nat.lt_of_lt_of_le hi h)]
 simp [vs8, w8, hi], fun i _ => by simp⟩
set_option linter.unusedSimpArgs false in
theorem run_slAH {P : Program} {a : Act} {o : Oper} (t : TypeId) (len : Nat) (elem : TypeId) (hu : P.underlying t = some (.array len elem)) (hs : (P.info? elem).map (·.size) = some 1) (x hi : Operand) (ho : o.op = .slice t x none (some hi) none) (g off : Nat) (hx : a.eval x = .pointer (some ⟨g, off, none⟩)) (k : IntKind) (i : Nat) (hh : a.eval hi = .int k (i : Int)) (hle : i ≤ len) (hl : 0 < len) (w : World) :
  (execOp a.eval o).run P w = .ok (.value (.slice (some ⟨g, off, none⟩) i len)) w := by
 cases hq : P.info? elem with
 | none => simp [hq] at hs
 | some u =>
  have hne : ¬ len = 0 := by omega
  unfold execOp
  simp [ho, hx, hh, Instr.sliceAt, Instr.sureAddr, run_underlying hu, Instr.sliceBounds, run_sliceBound, sizeOf, typeInfo, hq, add_at, hne, hle]
set_option maxRecDepth 100000 in
set_option maxHeartbeats 4000000 in
set_option linter.unusedSimpArgs false in
theorem c_layT  (w : World) (hL : Laid w)  :
  Calls Tryz.prog 37 #[.bool true] w fun r w' => r = .returned (.agg (av 7 (ls [.int .u8 96, .int .i64 40, .int .i64 4, .int .i64 7, .int .i64 6, .int .i64 8, .int .i64 40]))) ∧ Below w.heap.size w w' := by
 go_enter Tryz.func37, Tryz.ntmps37
 have M := Mem.start hL
 refine sR ?_
 refine pN M 2 (.cells (av 7 (ls [.int .u8 0, .int .i64 0, .int .i64 0, .int .i64 0, .int .i64 0, .int .i64 0, .int .i64 0])) 60) fun g1 u1 M => ?_
 refine nT ?_
 refine wp_seq ?_
 refine sR ?_
 refine pV 3 (.bool true) ?_
 refine nT ?_
 refine wp_cond_true (by kernel_rfl) ?_
 refine sR ?_
 refine pV 4 (.agg (av 7 (ls [.int .u8 96, .int .i64 40, .int .i64 4, .int .i64 7, .int .i64 6, .int .i64 8, .int .i64 40]))) ?_
 refine pl_put M (want_no rfl) rfl 60 _ _ rfl 0 g1 0 (by kernel_rfl) 7 60 (ls [.int .u8 0, .int .i64 0, .int .i64 0, .int .i64 0, .int .i64 0, .int .i64 0, .int .i64 0]) rfl 7 (ls [.int .u8 96, .int .i64 40, .int .i64 4, .int .i64 7, .int .i64 6, .int .i64 8, .int .i64 40]) (ls [.int .u8 96, .int .i64 40, .int .i64 4, .int .i64 7, .int .i64 6, .int .i64 8, .int .i64 40]) (by kernel_rfl) inz60 (by decide) (one_ls _ rfl) (fun j hj => by rw [if_pos (by omega), Nat.sub_zero]) fun u2 M => ?_
 refine nT ?_
 refine wp_ret ?_
 refine au_then_ret ?_
 exact bodyPost_ret (v := .agg (av 7 (ls [.int .u8 96, .int .i64 40, .int .i64 4, .int .i64 7, .int .i64 6, .int .i64 8, .int .i64 40]))) (results_cell_row Tryz.results37 _ _ g1 60 (av 7 (ls [.int .u8 96, .int .i64 40, .int .i64 4, .int .i64 7, .int .i64 6, .int .i64 8, .int .i64 40])) (0, 0) _ (by kernel_rfl) (M.get 0 rfl) Tryz.underlying60 rfl (by rw [av_size]; exact inz60)) (by kernel_rfl) ⟨rfl, below_grown M.old⟩
set_option maxRecDepth 100000 in
set_option maxHeartbeats 4000000 in
set_option linter.unusedSimpArgs false in
theorem c_layF  (w : World) (hL : Laid w)  :
  Calls Tryz.prog 37 #[.bool false] w fun r w' => r = .returned (.agg (av 7 (ls [.int .u8 69, .int .i64 20, .int .i64 2, .int .i64 8, .int .i64 9, .int .i64 12, .int .i64 0]))) ∧ Below w.heap.size w w' := by
 go_enter Tryz.func37, Tryz.ntmps37
 have M := Mem.start hL
 refine sR ?_
 refine pN M 2 (.cells (av 7 (ls [.int .u8 0, .int .i64 0, .int .i64 0, .int .i64 0, .int .i64 0, .int .i64 0, .int .i64 0])) 60) fun g1 u1 M => ?_
 refine nT ?_
 refine wp_seq ?_
 refine sR ?_
 refine pV 3 (.bool false) ?_
 refine nT ?_
 refine wp_cond_false (by kernel_rfl) ?_
 refine wp_skip ?_
 refine au_then ?_
 refine sR ?_
 refine pV 5 (.agg (av 7 (ls [.int .u8 69, .int .i64 20, .int .i64 2, .int .i64 8, .int .i64 9, .int .i64 12, .int .i64 0]))) ?_
 refine pl_put M (want_no rfl) rfl 60 _ _ rfl 0 g1 0 (by kernel_rfl) 7 60 (ls [.int .u8 0, .int .i64 0, .int .i64 0, .int .i64 0, .int .i64 0, .int .i64 0, .int .i64 0]) rfl 7 (ls [.int .u8 69, .int .i64 20, .int .i64 2, .int .i64 8, .int .i64 9, .int .i64 12, .int .i64 0]) (ls [.int .u8 69, .int .i64 20, .int .i64 2, .int .i64 8, .int .i64 9, .int .i64 12, .int .i64 0]) (by kernel_rfl) inz60 (by decide) (one_ls _ rfl) (fun j hj => by rw [if_pos (by omega), Nat.sub_zero]) fun u2 M => ?_
 refine nT ?_
 refine wp_ret ?_
 exact bodyPost_ret (v := .agg (av 7 (ls [.int .u8 69, .int .i64 20, .int .i64 2, .int .i64 8, .int .i64 9, .int .i64 12, .int .i64 0]))) (results_cell_row Tryz.results37 _ _ g1 60 (av 7 (ls [.int .u8 69, .int .i64 20, .int .i64 2, .int .i64 8, .int .i64 9, .int .i64 12, .int .i64 0])) (0, 0) _ (by kernel_rfl) (M.get 0 rfl) Tryz.underlying60 rfl (by rw [av_size]; exact inz60)) (by kernel_rfl) ⟨rfl, below_grown M.old⟩
set_option maxRecDepth 100000 in
set_option maxHeartbeats 4000000 in
set_option linter.unusedSimpArgs false in
theorem c_May (v0 : Bool) (h0 l0 : Int) (v1 : Bool) (h1 l1 p t : Int) (s : ByteArray) (hs : s.size ≤ 200000) (w : World) (hL : Laid w)  :
  Calls Tryz.prog 12 #[.agg (av 9 (ls [.bool (v0), .int .u64 h0, .int .u64 l0, .bool (v1), .int .u64 h1, .int .u64 l1, .int .u8 p, .int .u8 t, .string s]))] w fun r w' => r = .returned (.int .i64 (my v0 h0 l0 v1 h1 l1 (s.size : Int))) ∧ Below w.heap.size w w' := by
 go_enter Tryz.func12, Tryz.ntmps12
 have M := Mem.start hL
 refine sR ?_
 refine pN M 1 (.cells (av 9 (ls [.bool (v0), .int .u64 h0, .int .u64 l0, .bool (v1), .int .u64 h1, .int .u64 l1, .int .u8 p, .int .u8 t, .string s])) 26) fun g1 u1 M => ?_
 refine pV 2 (.int .i64 0) ?_
 refine nT ?_
 refine wp_seq ?_
 refine wp_block ?_
 refine wp_seq ?_
 refine sR ?_
 refine pV 4 (.pointer (some ⟨g1, 0, none⟩)) ?_
 refine pL M 5 0 rfl 0 3 (ls [.bool (v0), .int .u64 h0, .int .u64 l0]) (part_ls _ 0 3 _ rfl) ?_
 rcases Bool.eq_false_or_eq_true (mA v0 h0 l0) with c0 | c0
 ·skip
  refine pC M 6 36 #[.agg (av 3 (ls [.bool (v0), .int .u64 h0, .int .u64 l0]))] (.bool true) (fun w M => call_val (c_mayAddr v0 h0 l0 w M.laid) (congrArg Value.bool c0)) fun u2 M => ?_
  refine pV 7 (.bool false) ?_
  refine pV 3 (.bool false) ?_
  refine nT ?_
  refine wp_cond_false (by kernel_rfl) ?_
  refine sR ?_
  refine pV 8 (.pointer (some ⟨g1, 3, none⟩)) ?_
  refine pL M 9 0 rfl 3 3 (ls [.bool (v1), .int .u64 h1, .int .u64 l1]) (part_ls _ 3 3 _ rfl) ?_
  rcases Bool.eq_false_or_eq_true (mA v1 h1 l1) with c1 | c1
  ·skip
   refine pC M 10 36 #[.agg (av 3 (ls [.bool (v1), .int .u64 h1, .int .u64 l1]))] (.bool true) (fun w M => call_val (c_mayAddr v1 h1 l1 w M.laid) (congrArg Value.bool c1)) fun u3 M => ?_
   refine pV 11 (.bool false) ?_
   refine pV 3 (.bool false) ?_
   refine nT ?_
   refine wp_cond_false (by kernel_rfl) ?_
   refine rg_lit ?_
   refine pV 12 (.pointer (some ⟨g1, 0, none⟩)) ?_
   refine pV 13 (.pointer (some ⟨g1, 0, none⟩)) ?_
   rcases Bool.eq_false_or_eq_true (v0) with c2 | c2
   ·skip
    refine pEz M 14 g1 0 (.bool true) (fun w M => M.cell 0 rfl (by decide) (congrArg Value.bool c2)) ?_
    refine pV 15 (.pointer (some ⟨g1, 3, none⟩)) ?_
    refine pV 16 (.pointer (some ⟨g1, 3, none⟩)) ?_
    rcases Bool.eq_false_or_eq_true (v1) with c3 | c3
    ·skip
     refine pEz M 17 g1 3 (.bool true) (fun w M => M.cell 0 rfl (by decide) (congrArg Value.bool c3)) ?_
     refine pV 18 (.bool false) ?_
     refine pV 3 (.bool false) ?_
     refine nT ?_
     refine wp_cond_false (by kernel_rfl) ?_
     refine wp_seq ?_
     refine rg_tail M 10 (by kernel_rfl) (by kernel_rfl) ?_
     simp only [List.take_succ_cons, List.take_zero]
     refine kV 20 (.pointer (some ⟨g1, 8, none⟩)) ?_
     refine kE M 21 g1 8 (.string s) (fun w M => M.cell 0 rfl (by decide) rfl) ?_
     refine kV 22 (.int .i64 (s.size : Int)) ?_
     refine kV 23 (.pointer (some ⟨g1, 0, none⟩)) ?_
     refine kV 24 (.pointer (some ⟨g1, 0, none⟩)) ?_
     refine kE M 25 g1 0 (.bool true) (fun w M => M.cell 0 rfl (by decide) (congrArg Value.bool c2)) ?_
     refine kC M 26 37 #[.bool true] (.agg (av 7 (ls [.int .u8 96, .int .i64 40, .int .i64 4, .int .i64 7, .int .i64 6, .int .i64 8, .int .i64 40]))) (fun w M => c_layT w M.laid) ?_
     refine kV 27 (.int .i64 40) ?_
     refine kV 28 (.int .i64 1460) ?_
     by_cases c4 : 1460 < (s.size : Int)
     ·skip
      refine kH 29 (.bool true) (dTz (1460 < (s.size : Int)) (c4)) ?_
      refine kl_nil fun u4 M => ?_
      refine pV 19 (.bool true) ?_
      refine nT ?_
      refine wp_cond_true (by kernel_rfl) ?_
      refine sR ?_
      refine pV 2 (.int .i64 4) ?_
      refine nT ?_
      refine wp_ret ?_
      refine au_block_ret ?_
      refine au_then_ret ?_
      have e0 : (my v0 h0 l0 v1 h1 l1 (s.size : Int)) = 4 := by unfold my; rw [c0, c1, c2, c3]; show (if 1500 < (40 : Int) + (s.size : Int) then (4 : Int) else 0) = _; exact if_pos (by omega)
      exact bodyPost_ret (v := .int .i64 4) (results_tmp1 Tryz.results12 _ _ _ (by kernel_rfl)) (by kernel_rfl) ⟨by simp only [e0], below_grown M.old⟩
     ·skip
      refine kH 29 (.bool false) (dF (1460 < (s.size : Int)) (c4)) ?_
      refine kl_nil fun u4 M => ?_
      refine pV 19 (.bool false) ?_
      refine nT ?_
      refine wp_cond_false (by kernel_rfl) ?_
      refine wp_skip ?_
      refine au_block ?_
      refine au_then ?_
      refine sR ?_
      refine pV 2 (.int .i64 0) ?_
      refine nT ?_
      refine wp_ret ?_
      have e0 : (my v0 h0 l0 v1 h1 l1 (s.size : Int)) = 0 := by unfold my; rw [c0, c1, c2, c3]; show (if 1500 < (40 : Int) + (s.size : Int) then (4 : Int) else 0) = _; exact if_neg (by omega)
      exact bodyPost_ret (v := .int .i64 0) (results_tmp1 Tryz.results12 _ _ _ (by kernel_rfl)) (by kernel_rfl) ⟨by simp only [e0], below_grown M.old⟩
    ·skip
     refine pEz M 17 g1 3 (.bool false) (fun w M => M.cell 0 rfl (by decide) (congrArg Value.bool c3)) ?_
     refine pV 18 (.bool true) ?_
     refine pV 3 (.bool true) ?_
     refine nT ?_
     refine wp_cond_true (by kernel_rfl) ?_
     refine sR ?_
     refine pV 2 (.int .i64 2) ?_
     refine nT ?_
     refine wp_ret ?_
     refine au_block_ret ?_
     refine au_then_ret ?_
     have e0 : (my v0 h0 l0 v1 h1 l1 (s.size : Int)) = 2 := by unfold my; rw [c0, c1, c2, c3] <;> rfl
     exact bodyPost_ret (v := .int .i64 2) (results_tmp1 Tryz.results12 _ _ _ (by kernel_rfl)) (by kernel_rfl) ⟨by simp only [e0], below_grown M.old⟩
   ·skip
    refine pEz M 14 g1 0 (.bool false) (fun w M => M.cell 0 rfl (by decide) (congrArg Value.bool c2)) ?_
    refine pV 15 (.pointer (some ⟨g1, 3, none⟩)) ?_
    refine pV 16 (.pointer (some ⟨g1, 3, none⟩)) ?_
    rcases Bool.eq_false_or_eq_true (v1) with c3 | c3
    ·skip
     refine pEz M 17 g1 3 (.bool true) (fun w M => M.cell 0 rfl (by decide) (congrArg Value.bool c3)) ?_
     refine pV 18 (.bool true) ?_
     refine pV 3 (.bool true) ?_
     refine nT ?_
     refine wp_cond_true (by kernel_rfl) ?_
     refine sR ?_
     refine pV 2 (.int .i64 2) ?_
     refine nT ?_
     refine wp_ret ?_
     refine au_block_ret ?_
     refine au_then_ret ?_
     have e0 : (my v0 h0 l0 v1 h1 l1 (s.size : Int)) = 2 := by unfold my; rw [c0, c1, c2, c3] <;> rfl
     exact bodyPost_ret (v := .int .i64 2) (results_tmp1 Tryz.results12 _ _ _ (by kernel_rfl)) (by kernel_rfl) ⟨by simp only [e0], below_grown M.old⟩
    ·skip
     refine pEz M 17 g1 3 (.bool false) (fun w M => M.cell 0 rfl (by decide) (congrArg Value.bool c3)) ?_
     refine pV 18 (.bool false) ?_
     refine pV 3 (.bool false) ?_
     refine nT ?_
     refine wp_cond_false (by kernel_rfl) ?_
     refine wp_seq ?_
     refine rg_tail M 10 (by kernel_rfl) (by kernel_rfl) ?_
     simp only [List.take_succ_cons, List.take_zero]
     refine kV 20 (.pointer (some ⟨g1, 8, none⟩)) ?_
     refine kE M 21 g1 8 (.string s) (fun w M => M.cell 0 rfl (by decide) rfl) ?_
     refine kV 22 (.int .i64 (s.size : Int)) ?_
     refine kV 23 (.pointer (some ⟨g1, 0, none⟩)) ?_
     refine kV 24 (.pointer (some ⟨g1, 0, none⟩)) ?_
     refine kE M 25 g1 0 (.bool false) (fun w M => M.cell 0 rfl (by decide) (congrArg Value.bool c2)) ?_
     refine kC M 26 37 #[.bool false] (.agg (av 7 (ls [.int .u8 69, .int .i64 20, .int .i64 2, .int .i64 8, .int .i64 9, .int .i64 12, .int .i64 0]))) (fun w M => c_layF w M.laid) ?_
     refine kV 27 (.int .i64 20) ?_
     refine kV 28 (.int .i64 1480) ?_
     by_cases c4 : 1480 < (s.size : Int)
     ·skip
      refine kH 29 (.bool true) (dTz (1480 < (s.size : Int)) (c4)) ?_
      refine kl_nil fun u4 M => ?_
      refine pV 19 (.bool true) ?_
      refine nT ?_
      refine wp_cond_true (by kernel_rfl) ?_
      refine sR ?_
      refine pV 2 (.int .i64 4) ?_
      refine nT ?_
      refine wp_ret ?_
      refine au_block_ret ?_
      refine au_then_ret ?_
      have e0 : (my v0 h0 l0 v1 h1 l1 (s.size : Int)) = 4 := by unfold my; rw [c0, c1, c2, c3]; show (if 1500 < (20 : Int) + (s.size : Int) then (4 : Int) else 0) = _; exact if_pos (by omega)
      exact bodyPost_ret (v := .int .i64 4) (results_tmp1 Tryz.results12 _ _ _ (by kernel_rfl)) (by kernel_rfl) ⟨by simp only [e0], below_grown M.old⟩
     ·skip
      refine kH 29 (.bool false) (dF (1480 < (s.size : Int)) (c4)) ?_
      refine kl_nil fun u4 M => ?_
      refine pV 19 (.bool false) ?_
      refine nT ?_
      refine wp_cond_false (by kernel_rfl) ?_
      refine wp_skip ?_
      refine au_block ?_
      refine au_then ?_
      refine sR ?_
      refine pV 2 (.int .i64 0) ?_
      refine nT ?_
      refine wp_ret ?_
      have e0 : (my v0 h0 l0 v1 h1 l1 (s.size : Int)) = 0 := by unfold my; rw [c0, c1, c2, c3]; show (if 1500 < (20 : Int) + (s.size : Int) then (4 : Int) else 0) = _; exact if_neg (by omega)
      exact bodyPost_ret (v := .int .i64 0) (results_tmp1 Tryz.results12 _ _ _ (by kernel_rfl)) (by kernel_rfl) ⟨by simp only [e0], below_grown M.old⟩
  ·skip
   refine pC M 10 36 #[.agg (av 3 (ls [.bool (v1), .int .u64 h1, .int .u64 l1]))] (.bool false) (fun w M => call_val (c_mayAddr v1 h1 l1 w M.laid) (congrArg Value.bool c1)) fun u3 M => ?_
   refine pV 11 (.bool true) ?_
   refine pV 3 (.bool true) ?_
   refine nT ?_
   refine wp_cond_true (by kernel_rfl) ?_
   refine wp_skip ?_
   refine au_then ?_
   refine wp_cond_true (by kernel_rfl) ?_
   refine sR ?_
   refine pV 2 (.int .i64 2) ?_
   refine nT ?_
   refine wp_ret ?_
   refine au_block_ret ?_
   refine au_then_ret ?_
   have e0 : (my v0 h0 l0 v1 h1 l1 (s.size : Int)) = 2 := by unfold my; rw [c0, c1] <;> rfl
   exact bodyPost_ret (v := .int .i64 2) (results_tmp1 Tryz.results12 _ _ _ (by kernel_rfl)) (by kernel_rfl) ⟨by simp only [e0], below_grown M.old⟩
 ·skip
  refine pC M 6 36 #[.agg (av 3 (ls [.bool (v0), .int .u64 h0, .int .u64 l0]))] (.bool false) (fun w M => call_val (c_mayAddr v0 h0 l0 w M.laid) (congrArg Value.bool c0)) fun u2 M => ?_
  refine pV 7 (.bool true) ?_
  refine pV 3 (.bool true) ?_
  refine nT ?_
  refine wp_cond_true (by kernel_rfl) ?_
  refine wp_skip ?_
  refine au_then ?_
  refine wp_cond_true (by kernel_rfl) ?_
  refine sR ?_
  refine pV 2 (.int .i64 2) ?_
  refine nT ?_
  refine wp_ret ?_
  refine au_block_ret ?_
  refine au_then_ret ?_
  have e0 : (my v0 h0 l0 v1 h1 l1 (s.size : Int)) = 2 := by unfold my; rw [c0] <;> rfl
  exact bodyPost_ret (v := .int .i64 2) (results_tmp1 Tryz.results12 _ _ _ (by kernel_rfl)) (by kernel_rfl) ⟨by simp only [e0], below_grown M.old⟩
set_option maxRecDepth 100000 in
set_option maxHeartbeats 4000000 in
set_option linter.unusedSimpArgs false in
theorem c_addrBytes (v : Bool) (h l : Int) (w : World) (hL : Laid w)  :
  Calls Tryz.prog 58 #[.agg (av 3 (ls [.bool (v), .int .u64 h, .int .u64 l]))] w fun r w' => r = .returned (.string (aB v h l)) ∧ Below w.heap.size w w' := by
 go_enter Tryz.func58, Tryz.ntmps58
 have M := Mem.start hL
 refine sR ?_
 refine pN M 1 (.cells (av 3 (ls [.bool (v), .int .u64 h, .int .u64 l])) 24) fun g1 u1 M => ?_
 refine pV 2 (.string ⟨#[]⟩) ?_
 refine nT ?_
 refine wp_seq ?_
 refine sR ?_
 refine pV 3 (.pointer (some ⟨g1, 0, none⟩)) ?_
 rcases Bool.eq_false_or_eq_true (v) with c0 | c0
 ·skip
  refine pEz M 4 g1 0 (.bool true) (fun w M => M.cell 0 rfl (by decide) (congrArg Value.bool c0)) ?_
  refine nT ?_
  refine wp_cond_true (by kernel_rfl) ?_
  refine wp_seq ?_
  refine rg_tail M 7 (by kernel_rfl) (by kernel_rfl) ?_
  simp only [List.take_succ_cons, List.take_zero]
  refine kV 5 (.pointer (some ⟨g1, 1, none⟩)) ?_
  refine kE M 6 g1 1 (.int .u64 h) (fun w M => M.cell 0 rfl (by decide) rfl) ?_
  refine kC M 7 79 #[.int .u64 h] (.string (be8 h)) (fun w M => c_U64 h w M.laid) ?_
  refine kV 8 (.pointer (some ⟨g1, 2, none⟩)) ?_
  refine kE M 9 g1 2 (.int .u64 l) (fun w M => M.cell 0 rfl (by decide) rfl) ?_
  refine kC M 10 79 #[.int .u64 l] (.string (be8 l)) (fun w M => c_U64 l w M.laid) ?_
  refine kH 11 (.string ((be8 h) ++ (be8 l))) (run_cat 9 9 _ _ rfl (be8 h) (be8 l) (by kernel_rfl) (by kernel_rfl) (by rw [be8_size, be8_size]; decide)) ?_
  refine kl_nil fun u2 M => ?_
  refine pV 2 (.string ((be8 h) ++ (be8 l))) ?_
  refine nT ?_
  refine wp_ret ?_
  refine au_then_ret ?_
  have e0 : (aB v h l) = ((be8 h) ++ (be8 l)) := by simp [aB, c0]
  exact bodyPost_ret (v := .string ((be8 h) ++ (be8 l))) (results_tmp1 Tryz.results58 _ _ _ (by kernel_rfl)) (by kernel_rfl) ⟨by simp only [e0], below_grown M.old⟩
 ·skip
  refine pEz M 4 g1 0 (.bool false) (fun w M => M.cell 0 rfl (by decide) (congrArg Value.bool c0)) ?_
  refine nT ?_
  refine wp_cond_false (by kernel_rfl) ?_
  refine wp_skip ?_
  refine au_then ?_
  refine sR ?_
  refine pV 12 (.pointer (some ⟨g1, 2, none⟩)) ?_
  refine pEz M 13 g1 2 (.int .u64 l) (fun w M => M.cell 0 rfl (by decide) rfl) ?_
  refine pV 14 (.int .u32 (cv .u32 l)) ?_
  refine pC M 15 80 #[.int .u32 (cv .u32 l)] (.string (be4 (cv .u64 (cv .u32 l)))) (fun w M => c_U32 (cv .u32 l) w M.laid) fun u2 M => ?_
  refine pV 2 (.string (be4 (cv .u64 (cv .u32 l)))) ?_
  refine nT ?_
  refine wp_ret ?_
  have e0 : (aB v h l) = (be4 (cv .u64 (cv .u32 l))) := by simp [aB, c0]
  exact bodyPost_ret (v := .string (be4 (cv .u64 (cv .u32 l)))) (results_tmp1 Tryz.results58 _ _ _ (by kernel_rfl)) (by kernel_rfl) ⟨by simp only [e0], below_grown M.old⟩
def f6a (h0 l0 h1 l1 p t : Int) (s : ByteArray) : Nat → Int := (upd (upd (cpy (upd (cpy (fun _ => 0) 8 (32 + s.size) (((aB true h0 l0) ++ (aB true h1 l1)) ++ s)) 0 96) 4 2 (be2 (cv .u64 ((s.size : Nat) : Int)))) 7 t) 6 p)
theorem NB_f6a (h0 l0 h1 l1 p t : Int) (s : ByteArray) (hp : 0 ≤ p ∧ p < 256) (ht : 0 ≤ t ∧ t < 256) : NB (f6a h0 l0 h1 l1 p t s) := (((((NB.z.c _ _ _).u _ (by decide)).c _ _ _).u _ ht).u _ hp)
def f6o (h0 l0 h1 l1 p t : Int) (s : ByteArray) : ByteArray := bs ((List.range (40 + s.size)).map (f6a h0 l0 h1 l1 p t s))
set_option maxRecDepth 100000 in
set_option maxHeartbeats 4000000 in
set_option linter.unusedSimpArgs false in
theorem c_bytesSix (h0 l0 h1 l1 p t : Int) (s : ByteArray) (hs : s.size ≤ 1460) (hp : 0 ≤ p ∧ p < 256) (ht : 0 ≤ t ∧ t < 256) (w : World) (hL : Laid w)  :
  Calls Tryz.prog 33 #[.agg (av 9 (ls [.bool true, .int .u64 h0, .int .u64 l0, .bool true, .int .u64 h1, .int .u64 l1, .int .u8 p, .int .u8 t, .string s]))] w fun r w' => r = .returned (.string (f6o h0 l0 h1 l1 p t s)) ∧ Below w.heap.size w w' := by
 go_enter Tryz.func33, Tryz.ntmps33
 have M := Mem.start hL
 refine sR ?_
 refine pN M 1 (.cells (av 9 (ls [.bool true, .int .u64 h0, .int .u64 l0, .bool true, .int .u64 h1, .int .u64 l1, .int .u8 p, .int .u8 t, .string s])) 26) fun g1 u1 M => ?_
 refine pV 2 (.string ⟨#[]⟩) ?_
 refine nT ?_
 refine sR ?_
 refine pN M 3 (.cells (av 1500 (w8 (fun _ => 0))) 80) fun g2 u2 M => ?_
 refine nT ?_
 refine sR ?_
 refine pV 6 (.pointer (some ⟨g1, 0, none⟩)) ?_
 refine pV 7 (.pointer (some ⟨g1, 0, none⟩)) ?_
 refine pEz M 8 g1 0 (.bool true) (fun w M => M.cell 0 rfl (by decide) rfl) ?_
 refine pC M 9 37 #[.bool true] (.agg (av 7 (ls [.int .u8 96, .int .i64 40, .int .i64 4, .int .i64 7, .int .i64 6, .int .i64 8, .int .i64 40]))) (fun w M => c_layT w M.laid) fun u3 M => ?_
 refine pN M 4 (.cells (av 7 (ls [.int .u8 0, .int .i64 0, .int .i64 0, .int .i64 0, .int .i64 0, .int .i64 0, .int .i64 0])) 60) fun g3 u4 M => ?_
 refine pl_put M (want_no rfl) rfl 60 _ _ rfl 2 g3 0 (by kernel_rfl) 7 60 (ls [.int .u8 0, .int .i64 0, .int .i64 0, .int .i64 0, .int .i64 0, .int .i64 0, .int .i64 0]) rfl 7 (ls [.int .u8 96, .int .i64 40, .int .i64 4, .int .i64 7, .int .i64 6, .int .i64 8, .int .i64 40]) (ls [.int .u8 96, .int .i64 40, .int .i64 4, .int .i64 7, .int .i64 6, .int .i64 8, .int .i64 40]) (by kernel_rfl) inz60 (by decide) (one_ls _ rfl) (fun j hj => by rw [if_pos (by omega), Nat.sub_zero]) fun u5 M => ?_
 refine nT ?_
 refine wp_seq ?_
 refine rg_held M [⟨g1, .cells (av 9 (ls [.bool true, .int .u64 h0, .int .u64 l0, .bool true, .int .u64 h1, .int .u64 l1, .int .u8 p, .int .u8 t, .string s])) 26⟩, ⟨g3, .cells (av 7 (ls [.int .u8 96, .int .i64 40, .int .i64 4, .int .i64 7, .int .i64 6, .int .i64 8, .int .i64 40])) 60⟩] 17 rfl (by kernel_rfl) (by kernel_rfl) (fun _ _ d _ _ h => by cases d <;> exact h) fun u6 M => ?_
 refine qV (M.drop (.cons_cons _ (.cons _ (.cons_cons _ (.slnil))))) 0 10 (.pointer (some ⟨g3, 5, none⟩)) ?_
 refine hl_cell (M.drop (.cons_cons _ (.cons _ (.cons_cons _ (.slnil))))) 1 rfl (by decide) (by kernel_rfl) (by kernel_rfl) (want_no rfl) (some 11) rfl 3 _ rfl g3 5 (by kernel_rfl) (.int .i64 8) (fun _ => by kernel_rfl) (fun w M => M.cell 1 rfl (by decide) rfl) ?_
 refine qV (M.drop (.cons_cons _ (.cons _ (.cons_cons _ (.slnil))))) 2 12 (.pointer (some ⟨g3, 5, none⟩)) ?_
 refine hl_cell (M.drop (.cons_cons _ (.cons _ (.cons_cons _ (.slnil))))) 3 rfl (by decide) (by kernel_rfl) (by kernel_rfl) (want_no rfl) (some 13) rfl 3 _ rfl g3 5 (by kernel_rfl) (.int .i64 8) (fun _ => by kernel_rfl) (fun w M => M.cell 1 rfl (by decide) rfl) ?_
 refine qV (M.drop (.cons_cons _ (.cons _ (.cons_cons _ (.slnil))))) 4 14 (.slice (some ⟨g2, 8, none⟩) 1492 1492) ?_
 refine qV (M.drop (.cons_cons _ (.cons _ (.cons_cons _ (.slnil))))) 5 15 (.pointer (some ⟨g1, 0, none⟩)) ?_
 refine hl_load (M.drop (.cons_cons _ (.cons _ (.cons_cons _ (.slnil))))) 6 rfl (by decide) (by kernel_rfl) (by kernel_rfl) (want_no rfl) (some 16) rfl 24 _ rfl 0 g1 0 (by kernel_rfl) 9 26 (ls [.bool true, .int .u64 h0, .int .u64 l0, .bool true, .int .u64 h1, .int .u64 l1, .int .u8 p, .int .u8 t, .string s]) rfl 3 (ls [.bool true, .int .u64 h0, .int .u64 l0]) (part_ls _ 0 3 _ rfl) (by decide) _ Tryz.underlying24 rfl inz24 ?_
 refine qV (M.drop (.cons_cons _ (.cons _ (.cons_cons _ (.slnil))))) 8 18 (.pointer (some ⟨g1, 3, none⟩)) ?_
 refine hl_load (M.drop (.cons_cons _ (.cons _ (.cons_cons _ (.slnil))))) 9 rfl (by decide) (by kernel_rfl) (by kernel_rfl) (want_no rfl) (some 19) rfl 24 _ rfl 0 g1 3 (by kernel_rfl) 9 26 (ls [.bool true, .int .u64 h0, .int .u64 l0, .bool true, .int .u64 h1, .int .u64 l1, .int .u8 p, .int .u8 t, .string s]) rfl 3 (ls [.bool true, .int .u64 h1, .int .u64 l1]) (part_ls _ 3 3 _ rfl) (by decide) _ Tryz.underlying24 rfl inz24 ?_
 refine qV (M.drop (.cons_cons _ (.cons _ (.cons_cons _ (.slnil))))) 12 22 (.pointer (some ⟨g1, 8, none⟩)) ?_
 refine hl_cell (M.drop (.cons_cons _ (.cons _ (.cons_cons _ (.slnil))))) 13 rfl (by decide) (by kernel_rfl) (by kernel_rfl) (want_no rfl) (some 23) rfl 9 _ rfl g1 8 (by kernel_rfl) (.string s) (fun _ => by kernel_rfl) (fun w M => M.cell 0 rfl (by decide) rfl) ?_
 refine hl_one 7 (by decide) (by kernel_rfl) rfl ?_
 refine pC M 17 58 #[.agg (av 3 (ls [.bool true, .int .u64 h0, .int .u64 l0]))] (.string (aB true h0 l0)) (fun w M => c_addrBytes true h0 l0 w M.laid) fun u7 M => ?_
 refine nT ?_
 refine ⟨(M.drop (.cons_cons _ (.cons _ (.cons_cons _ (.slnil))))), ?_⟩
 refine hl_one 10 (by decide) (by kernel_rfl) rfl ?_
 refine pC M 20 58 #[.agg (av 3 (ls [.bool true, .int .u64 h1, .int .u64 l1]))] (.string (aB true h1 l1)) (fun w M => c_addrBytes true h1 l1 w M.laid) fun u8 M => ?_
 refine nT ?_
 refine ⟨(M.drop (.cons_cons _ (.cons _ (.cons_cons _ (.slnil))))), ?_⟩
 refine hl_val (M.drop (.cons_cons _ (.cons _ (.cons_cons _ (.slnil))))) 11 rfl (by decide) (by kernel_rfl) (by kernel_rfl) (want_no rfl) (some 21) rfl (.string ((aB true h0 l0) ++ (aB true h1 l1))) (fun w _ => (run_cat 9 9 _ _ rfl (aB true h0 l0) (aB true h1 l1) (by kernel_rfl) (by kernel_rfl) (by rw [aB_t, aB_t]; decide)) w) ?_
 refine hl_val (M.drop (.cons_cons _ (.cons _ (.cons_cons _ (.slnil))))) 14 rfl (by decide) (by kernel_rfl) (by kernel_rfl) (want_no rfl) (some 24) rfl (.string (((aB true h0 l0) ++ (aB true h1 l1)) ++ s)) (fun w _ => (run_cat 9 9 _ _ rfl ((aB true h0 l0) ++ (aB true h1 l1)) s (by kernel_rfl) (by kernel_rfl) (by rw [ByteArray.size_append, aB_t, aB_t]; omega)) w) ?_
 refine hl_one 15 (by decide) (by kernel_rfl) rfl ?_
 refine pl_copyS M (want_no rfl) (some 25) rfl 54 9 3 5 Tryz.underlying54 inz5 1 g2 1500 80 (w8 (fun _ => 0)) rfl 8 1492 1492 (((aB true h0 l0) ++ (aB true h1 l1)) ++ s) (32 + s.size) (by rw [ByteArray.size_append, ByteArray.size_append, aB_t, aB_t]; show _ = min _ _; omega) (by omega) (w8 (cpy (fun _ => 0) 8 (32 + s.size) (((aB true h0 l0) ++ (aB true h1 l1)) ++ s))) (fun j _ => cpy_w8 _ _ _ _ j) (fun _ => by kernel_rfl) fun u9 M => ?_
 refine nT ?_
 refine ⟨(M.drop (.cons_cons _ (.cons _ (.cons_cons _ (.slnil))))), ?_⟩
 refine hl_val (M.drop (.cons_cons _ (.cons _ (.cons_cons _ (.slnil))))) 16 rfl (by decide) (by kernel_rfl) (by kernel_rfl) (want_no rfl) (some 26) rfl (.int .i64 ((40 + s.size : Nat) : Int)) (fun w _ => (fun w => Eq.trans (b := .ok (.value (.int .i64 (cv .i64 (8 + ((32 + s.size : Nat) : Int))))) w) (by kernel_rfl) (by rw [cv_i64 (by omega) (by omega)] <;> (congr 3 <;> omega))) w) ?_
 refine hl_end (by kernel_rfl) (by kernel_rfl) rfl ?_
 refine pV 5 (.int .i64 ((40 + s.size : Nat) : Int)) ?_
 refine nT ?_
 refine au_then ?_
 refine sR ?_
 refine pV 27 (.pointer (some ⟨g3, 0, none⟩)) ?_
 refine pEz M 28 g3 0 (.int .u8 96) (fun w M => M.cell 2 rfl (by decide) rfl) ?_
 refine pV 29 (.pointer (some ⟨g2, 0, none⟩)) ?_
 refine pP M 1 rfl 0 (.int .u8 96) (w8 (upd (cpy (fun _ => 0) 8 (32 + s.size) (((aB true h0 l0) ++ (aB true h1 l1)) ++ s)) 0 96)) (by decide) (fun j _ => put_w8 _ _ _ j) fun u10 M => ?_
 refine nT ?_
 refine wp_seq ?_
 refine rg_tail M 9 (by kernel_rfl) (by kernel_rfl) ?_
 simp only [List.take_succ_cons, List.take_zero]
 refine kV 30 (.pointer (some ⟨g3, 2, none⟩)) ?_
 refine kE M 31 g3 2 (.int .i64 4) (fun w M => M.cell 2 rfl (by decide) rfl) ?_
 refine kV 32 (.slice (some ⟨g2, 4, none⟩) 1496 1496) ?_
 refine kV 33 (.int .i64 ((40 + s.size : Nat) : Int)) ?_
 refine kV 34 (.pointer (some ⟨g3, 6, none⟩)) ?_
 refine kE M 35 g3 6 (.int .i64 40) (fun w M => M.cell 2 rfl (by decide) rfl) ?_
 refine kH 36 (.int .i64 ((s.size : Nat) : Int)) (fun w => Eq.trans (b := .ok (.value (.int .i64 (cv .i64 (((40 + s.size : Nat) : Int) - 40)))) w) (by kernel_rfl) (by rw [cv_i64 (by omega) (by omega)] <;> (congr 3 <;> omega))) ?_
 refine kH 37 (.int .u16 (((s.size : Nat) : Int))) (fun w => Eq.trans (b := .ok (.value (.int .u16 (cv .u16 (((s.size : Nat) : Int))))) w) (by kernel_rfl) (by rw [cv_u16]; congr 3; omega)) ?_
 refine kC M 38 59 #[.int .u16 (((s.size : Nat) : Int))] (.string (be2 (cv .u64 (((s.size : Nat) : Int))))) (fun w M => c_U16 (((s.size : Nat) : Int)) w M.laid) ?_
 refine kl_nil fun u11 M => ?_
 refine pl_copyS M (want_no rfl) (some 39) rfl 54 9 3 5 Tryz.underlying54 inz5 1 g2 1500 80 (w8 (upd (cpy (fun _ => 0) 8 (32 + s.size) (((aB true h0 l0) ++ (aB true h1 l1)) ++ s)) 0 96)) rfl 4 1496 1496 (be2 (cv .u64 (((s.size : Nat) : Int)))) 2 (by rw [be2_size]; rfl) (by omega) (w8 (cpy (upd (cpy (fun _ => 0) 8 (32 + s.size) (((aB true h0 l0) ++ (aB true h1 l1)) ++ s)) 0 96) 4 2 (be2 (cv .u64 (((s.size : Nat) : Int)))))) (fun j _ => cpy_w8 _ _ _ _ j) (fun _ => by kernel_rfl) fun u12 M => ?_
 refine nT ?_
 refine wp_seq ?_
 refine rg_held M [⟨g1, .cells (av 9 (ls [.bool true, .int .u64 h0, .int .u64 l0, .bool true, .int .u64 h1, .int .u64 l1, .int .u8 p, .int .u8 t, .string s])) 26⟩, ⟨g3, .cells (av 7 (ls [.int .u8 96, .int .i64 40, .int .i64 4, .int .i64 7, .int .i64 6, .int .i64 8, .int .i64 40])) 60⟩] 11 rfl (by kernel_rfl) (by kernel_rfl) (fun _ _ d _ _ h => by cases d <;> exact h) fun u13 M => ?_
 refine qV (M.drop (.cons_cons _ (.cons _ (.cons_cons _ (.slnil))))) 0 40 (.pointer (some ⟨g3, 3, none⟩)) ?_
 refine hl_cell (M.drop (.cons_cons _ (.cons _ (.cons_cons _ (.slnil))))) 1 rfl (by decide) (by kernel_rfl) (by kernel_rfl) (want_no rfl) (some 41) rfl 3 _ rfl g3 3 (by kernel_rfl) (.int .i64 7) (fun _ => by kernel_rfl) (fun w M => M.cell 1 rfl (by decide) rfl) ?_
 refine qV (M.drop (.cons_cons _ (.cons _ (.cons_cons _ (.slnil))))) 2 42 (.pointer (some ⟨g3, 4, none⟩)) ?_
 refine hl_cell (M.drop (.cons_cons _ (.cons _ (.cons_cons _ (.slnil))))) 3 rfl (by decide) (by kernel_rfl) (by kernel_rfl) (want_no rfl) (some 43) rfl 3 _ rfl g3 4 (by kernel_rfl) (.int .i64 6) (fun _ => by kernel_rfl) (fun w M => M.cell 1 rfl (by decide) rfl) ?_
 refine qV (M.drop (.cons_cons _ (.cons _ (.cons_cons _ (.slnil))))) 4 44 (.pointer (some ⟨g1, 7, none⟩)) ?_
 refine hl_cell (M.drop (.cons_cons _ (.cons _ (.cons_cons _ (.slnil))))) 5 rfl (by decide) (by kernel_rfl) (by kernel_rfl) (want_no rfl) (some 45) rfl 5 _ rfl g1 7 (by kernel_rfl) (.int .u8 t) (fun _ => by kernel_rfl) (fun w M => M.cell 0 rfl (by decide) rfl) ?_
 refine qV (M.drop (.cons_cons _ (.cons _ (.cons_cons _ (.slnil))))) 6 46 (.pointer (some ⟨g1, 6, none⟩)) ?_
 refine hl_cell (M.drop (.cons_cons _ (.cons _ (.cons_cons _ (.slnil))))) 7 rfl (by decide) (by kernel_rfl) (by kernel_rfl) (want_no rfl) (some 47) rfl 5 _ rfl g1 6 (by kernel_rfl) (.int .u8 p) (fun _ => by kernel_rfl) (fun w M => M.cell 0 rfl (by decide) rfl) ?_
 refine qV (M.drop (.cons_cons _ (.cons _ (.cons_cons _ (.slnil))))) 8 48 (.pointer (some ⟨g2, 7, none⟩)) ?_
 refine hl_one 9 (by decide) (by kernel_rfl) rfl ?_
 refine pP M 1 rfl 7 (.int .u8 t) (w8 (upd (cpy (upd (cpy (fun _ => 0) 8 (32 + s.size) (((aB true h0 l0) ++ (aB true h1 l1)) ++ s)) 0 96) 4 2 (be2 (cv .u64 (((s.size : Nat) : Int))))) 7 t)) (by decide) (fun j _ => put_w8 _ _ _ j) fun u14 M => ?_
 refine nT ?_
 refine ⟨(M.drop (.cons_cons _ (.cons _ (.cons_cons _ (.slnil))))), ?_⟩
 refine qV (M.drop (.cons_cons _ (.cons _ (.cons_cons _ (.slnil))))) 10 49 (.pointer (some ⟨g2, 6, none⟩)) ?_
 refine hl_end (by kernel_rfl) (by kernel_rfl) rfl ?_
 refine pP M 1 rfl 6 (.int .u8 p) (w8 (upd (upd (cpy (upd (cpy (fun _ => 0) 8 (32 + s.size) (((aB true h0 l0) ++ (aB true h1 l1)) ++ s)) 0 96) 4 2 (be2 (cv .u64 (((s.size : Nat) : Int))))) 7 t) 6 p)) (by decide) (fun j _ => put_w8 _ _ _ j) fun u15 M => ?_
 refine nT ?_
 have hNBa := NB_f6a h0 l0 h1 l1 p t s hp ht
 refine au_then ?_
 refine wp_seq ?_
 refine sR ?_
 refine pV 50 (.pointer (some ⟨g1, 0, none⟩)) ?_
 refine pV 51 (.pointer (some ⟨g1, 0, none⟩)) ?_
 refine pEz M 52 g1 0 (.bool true) (fun w M => M.cell 0 rfl (by decide) rfl) ?_
 refine pV 53 (.bool false) ?_
 refine nT ?_
 refine wp_cond_false (by kernel_rfl) ?_
 refine wp_skip ?_
 refine au_then ?_
 refine sR ?_
 refine pV 62 (.int .i64 ((40 + s.size : Nat) : Int)) ?_
 refine pH 63 (.slice (some ⟨g2, 0, none⟩) (40 + s.size) 1500) (run_slAH 80 1500 5 Tryz.underlying80 inz5 _ _ rfl g2 0 (by kernel_rfl) .i64 (40 + s.size) (by kernel_rfl) (by omega) (by decide)) ?_
 refine pl_back M (want_no rfl) (some 64) rfl _ rfl 1 g2 (40 + s.size) 1500 (by kernel_rfl) _ rfl ((List.range (40 + s.size)).map (f6a h0 l0 h1 l1 p t s)) 1500 (sb_avk 1500 (40 + s.size) (by omega) (f6a h0 l0 h1 l1 p t s) 80) (by simp) (NB.l hNBa _) ?_
 refine pV 2 (.string (bs ((List.range (40 + s.size)).map (f6a h0 l0 h1 l1 p t s)))) ?_
 refine nT ?_
 refine wp_ret ?_
 have e0 : (f6o h0 l0 h1 l1 p t s) = (bs ((List.range (40 + s.size)).map (f6a h0 l0 h1 l1 p t s))) := rfl
 exact bodyPost_ret (v := .string (bs ((List.range (40 + s.size)).map (f6a h0 l0 h1 l1 p t s)))) (results_tmp1 Tryz.results33 _ _ _ (by kernel_rfl)) (by kernel_rfl) ⟨by simp only [e0], below_grown M.old⟩
def f4a (h0 l0 h1 l1 p t : Int) (s : ByteArray) : Nat → Int := (upd (upd (cpy (upd (cpy (fun _ => 0) 12 (8 + s.size) (((aB false h0 l0) ++ (aB false h1 l1)) ++ s)) 0 69) 2 2 (be2 (cv .u64 (((20 + s.size) : Nat) : Int)))) 8 t) 9 p)
theorem NB_f4a (h0 l0 h1 l1 p t : Int) (s : ByteArray) (hp : 0 ≤ p ∧ p < 256) (ht : 0 ≤ t ∧ t < 256) : NB (f4a h0 l0 h1 l1 p t s) := (((((NB.z.c _ _ _).u _ (by decide)).c _ _ _).u _ ht).u _ hp)
def f4s (h0 l0 h1 l1 p t : Int) (s : ByteArray) : ByteArray := bs ((List.range 20).map (f4a h0 l0 h1 l1 p t s))
def f4b (h0 l0 h1 l1 p t : Int) (s : ByteArray) : Nat → Int := cpy (f4a h0 l0 h1 l1 p t s) 10 2 (be2 (cv .u64 (sumS (f4s h0 l0 h1 l1 p t s))))
def f4o (h0 l0 h1 l1 p t : Int) (s : ByteArray) : ByteArray := bs ((List.range (20 + s.size)).map (f4b h0 l0 h1 l1 p t s))
set_option maxRecDepth 100000 in
set_option maxHeartbeats 4000000 in
set_option linter.unusedSimpArgs false in
theorem c_bytesFour (h0 l0 h1 l1 p t : Int) (s : ByteArray) (hs : s.size ≤ 1480) (hp : 0 ≤ p ∧ p < 256) (ht : 0 ≤ t ∧ t < 256) (w : World) (hL : Laid w)  :
  Calls Tryz.prog 33 #[.agg (av 9 (ls [.bool false, .int .u64 h0, .int .u64 l0, .bool false, .int .u64 h1, .int .u64 l1, .int .u8 p, .int .u8 t, .string s]))] w fun r w' => r = .returned (.string (f4o h0 l0 h1 l1 p t s)) ∧ Below w.heap.size w w' := by
 go_enter Tryz.func33, Tryz.ntmps33
 have M := Mem.start hL
 refine sR ?_
 refine pN M 1 (.cells (av 9 (ls [.bool false, .int .u64 h0, .int .u64 l0, .bool false, .int .u64 h1, .int .u64 l1, .int .u8 p, .int .u8 t, .string s])) 26) fun g1 u1 M => ?_
 refine pV 2 (.string ⟨#[]⟩) ?_
 refine nT ?_
 refine sR ?_
 refine pN M 3 (.cells (av 1500 (w8 (fun _ => 0))) 80) fun g2 u2 M => ?_
 refine nT ?_
 refine sR ?_
 refine pV 6 (.pointer (some ⟨g1, 0, none⟩)) ?_
 refine pV 7 (.pointer (some ⟨g1, 0, none⟩)) ?_
 refine pEz M 8 g1 0 (.bool false) (fun w M => M.cell 0 rfl (by decide) rfl) ?_
 refine pC M 9 37 #[.bool false] (.agg (av 7 (ls [.int .u8 69, .int .i64 20, .int .i64 2, .int .i64 8, .int .i64 9, .int .i64 12, .int .i64 0]))) (fun w M => c_layF w M.laid) fun u3 M => ?_
 refine pN M 4 (.cells (av 7 (ls [.int .u8 0, .int .i64 0, .int .i64 0, .int .i64 0, .int .i64 0, .int .i64 0, .int .i64 0])) 60) fun g3 u4 M => ?_
 refine pl_put M (want_no rfl) rfl 60 _ _ rfl 2 g3 0 (by kernel_rfl) 7 60 (ls [.int .u8 0, .int .i64 0, .int .i64 0, .int .i64 0, .int .i64 0, .int .i64 0, .int .i64 0]) rfl 7 (ls [.int .u8 69, .int .i64 20, .int .i64 2, .int .i64 8, .int .i64 9, .int .i64 12, .int .i64 0]) (ls [.int .u8 69, .int .i64 20, .int .i64 2, .int .i64 8, .int .i64 9, .int .i64 12, .int .i64 0]) (by kernel_rfl) inz60 (by decide) (one_ls _ rfl) (fun j hj => by rw [if_pos (by omega), Nat.sub_zero]) fun u5 M => ?_
 refine nT ?_
 refine wp_seq ?_
 refine rg_held M [⟨g1, .cells (av 9 (ls [.bool false, .int .u64 h0, .int .u64 l0, .bool false, .int .u64 h1, .int .u64 l1, .int .u8 p, .int .u8 t, .string s])) 26⟩, ⟨g3, .cells (av 7 (ls [.int .u8 69, .int .i64 20, .int .i64 2, .int .i64 8, .int .i64 9, .int .i64 12, .int .i64 0])) 60⟩] 17 rfl (by kernel_rfl) (by kernel_rfl) (fun _ _ d _ _ h => by cases d <;> exact h) fun u6 M => ?_
 refine qV (M.drop (.cons_cons _ (.cons _ (.cons_cons _ (.slnil))))) 0 10 (.pointer (some ⟨g3, 5, none⟩)) ?_
 refine hl_cell (M.drop (.cons_cons _ (.cons _ (.cons_cons _ (.slnil))))) 1 rfl (by decide) (by kernel_rfl) (by kernel_rfl) (want_no rfl) (some 11) rfl 3 _ rfl g3 5 (by kernel_rfl) (.int .i64 12) (fun _ => by kernel_rfl) (fun w M => M.cell 1 rfl (by decide) rfl) ?_
 refine qV (M.drop (.cons_cons _ (.cons _ (.cons_cons _ (.slnil))))) 2 12 (.pointer (some ⟨g3, 5, none⟩)) ?_
 refine hl_cell (M.drop (.cons_cons _ (.cons _ (.cons_cons _ (.slnil))))) 3 rfl (by decide) (by kernel_rfl) (by kernel_rfl) (want_no rfl) (some 13) rfl 3 _ rfl g3 5 (by kernel_rfl) (.int .i64 12) (fun _ => by kernel_rfl) (fun w M => M.cell 1 rfl (by decide) rfl) ?_
 refine qV (M.drop (.cons_cons _ (.cons _ (.cons_cons _ (.slnil))))) 4 14 (.slice (some ⟨g2, 12, none⟩) 1488 1488) ?_
 refine qV (M.drop (.cons_cons _ (.cons _ (.cons_cons _ (.slnil))))) 5 15 (.pointer (some ⟨g1, 0, none⟩)) ?_
 refine hl_load (M.drop (.cons_cons _ (.cons _ (.cons_cons _ (.slnil))))) 6 rfl (by decide) (by kernel_rfl) (by kernel_rfl) (want_no rfl) (some 16) rfl 24 _ rfl 0 g1 0 (by kernel_rfl) 9 26 (ls [.bool false, .int .u64 h0, .int .u64 l0, .bool false, .int .u64 h1, .int .u64 l1, .int .u8 p, .int .u8 t, .string s]) rfl 3 (ls [.bool false, .int .u64 h0, .int .u64 l0]) (part_ls _ 0 3 _ rfl) (by decide) _ Tryz.underlying24 rfl inz24 ?_
 refine qV (M.drop (.cons_cons _ (.cons _ (.cons_cons _ (.slnil))))) 8 18 (.pointer (some ⟨g1, 3, none⟩)) ?_
 refine hl_load (M.drop (.cons_cons _ (.cons _ (.cons_cons _ (.slnil))))) 9 rfl (by decide) (by kernel_rfl) (by kernel_rfl) (want_no rfl) (some 19) rfl 24 _ rfl 0 g1 3 (by kernel_rfl) 9 26 (ls [.bool false, .int .u64 h0, .int .u64 l0, .bool false, .int .u64 h1, .int .u64 l1, .int .u8 p, .int .u8 t, .string s]) rfl 3 (ls [.bool false, .int .u64 h1, .int .u64 l1]) (part_ls _ 3 3 _ rfl) (by decide) _ Tryz.underlying24 rfl inz24 ?_
 refine qV (M.drop (.cons_cons _ (.cons _ (.cons_cons _ (.slnil))))) 12 22 (.pointer (some ⟨g1, 8, none⟩)) ?_
 refine hl_cell (M.drop (.cons_cons _ (.cons _ (.cons_cons _ (.slnil))))) 13 rfl (by decide) (by kernel_rfl) (by kernel_rfl) (want_no rfl) (some 23) rfl 9 _ rfl g1 8 (by kernel_rfl) (.string s) (fun _ => by kernel_rfl) (fun w M => M.cell 0 rfl (by decide) rfl) ?_
 refine hl_one 7 (by decide) (by kernel_rfl) rfl ?_
 refine pC M 17 58 #[.agg (av 3 (ls [.bool false, .int .u64 h0, .int .u64 l0]))] (.string (aB false h0 l0)) (fun w M => c_addrBytes false h0 l0 w M.laid) fun u7 M => ?_
 refine nT ?_
 refine ⟨(M.drop (.cons_cons _ (.cons _ (.cons_cons _ (.slnil))))), ?_⟩
 refine hl_one 10 (by decide) (by kernel_rfl) rfl ?_
 refine pC M 20 58 #[.agg (av 3 (ls [.bool false, .int .u64 h1, .int .u64 l1]))] (.string (aB false h1 l1)) (fun w M => c_addrBytes false h1 l1 w M.laid) fun u8 M => ?_
 refine nT ?_
 refine ⟨(M.drop (.cons_cons _ (.cons _ (.cons_cons _ (.slnil))))), ?_⟩
 refine hl_val (M.drop (.cons_cons _ (.cons _ (.cons_cons _ (.slnil))))) 11 rfl (by decide) (by kernel_rfl) (by kernel_rfl) (want_no rfl) (some 21) rfl (.string ((aB false h0 l0) ++ (aB false h1 l1))) (fun w _ => (run_cat 9 9 _ _ rfl (aB false h0 l0) (aB false h1 l1) (by kernel_rfl) (by kernel_rfl) (by rw [aB_f, aB_f]; decide)) w) ?_
 refine hl_val (M.drop (.cons_cons _ (.cons _ (.cons_cons _ (.slnil))))) 14 rfl (by decide) (by kernel_rfl) (by kernel_rfl) (want_no rfl) (some 24) rfl (.string (((aB false h0 l0) ++ (aB false h1 l1)) ++ s)) (fun w _ => (run_cat 9 9 _ _ rfl ((aB false h0 l0) ++ (aB false h1 l1)) s (by kernel_rfl) (by kernel_rfl) (by rw [ByteArray.size_append, aB_f, aB_f]; omega)) w) ?_
 refine hl_one 15 (by decide) (by kernel_rfl) rfl ?_
 refine pl_copyS M (want_no rfl) (some 25) rfl 54 9 3 5 Tryz.underlying54 inz5 1 g2 1500 80 (w8 (fun _ => 0)) rfl 12 1488 1488 (((aB false h0 l0) ++ (aB false h1 l1)) ++ s) (8 + s.size) (by rw [ByteArray.size_append, ByteArray.size_append, aB_f, aB_f]; show _ = min _ _; omega) (by omega) (w8 (cpy (fun _ => 0) 12 (8 + s.size) (((aB false h0 l0) ++ (aB false h1 l1)) ++ s))) (fun j _ => cpy_w8 _ _ _ _ j) (fun _ => by kernel_rfl) fun u9 M => ?_
 refine nT ?_
 refine ⟨(M.drop (.cons_cons _ (.cons _ (.cons_cons _ (.slnil))))), ?_⟩
 refine hl_val (M.drop (.cons_cons _ (.cons _ (.cons_cons _ (.slnil))))) 16 rfl (by decide) (by kernel_rfl) (by kernel_rfl) (want_no rfl) (some 26) rfl (.int .i64 ((20 + s.size : Nat) : Int)) (fun w _ => (fun w => Eq.trans (b := .ok (.value (.int .i64 (cv .i64 (12 + ((8 + s.size : Nat) : Int))))) w) (by kernel_rfl) (by rw [cv_i64 (by omega) (by omega)] <;> (congr 3 <;> omega))) w) ?_
 refine hl_end (by kernel_rfl) (by kernel_rfl) rfl ?_
 refine pV 5 (.int .i64 ((20 + s.size : Nat) : Int)) ?_
 refine nT ?_
 refine au_then ?_
 refine sR ?_
 refine pV 27 (.pointer (some ⟨g3, 0, none⟩)) ?_
 refine pEz M 28 g3 0 (.int .u8 69) (fun w M => M.cell 2 rfl (by decide) rfl) ?_
 refine pV 29 (.pointer (some ⟨g2, 0, none⟩)) ?_
 refine pP M 1 rfl 0 (.int .u8 69) (w8 (upd (cpy (fun _ => 0) 12 (8 + s.size) (((aB false h0 l0) ++ (aB false h1 l1)) ++ s)) 0 69)) (by decide) (fun j _ => put_w8 _ _ _ j) fun u10 M => ?_
 refine nT ?_
 refine wp_seq ?_
 refine rg_tail M 9 (by kernel_rfl) (by kernel_rfl) ?_
 simp only [List.take_succ_cons, List.take_zero]
 refine kV 30 (.pointer (some ⟨g3, 2, none⟩)) ?_
 refine kE M 31 g3 2 (.int .i64 2) (fun w M => M.cell 2 rfl (by decide) rfl) ?_
 refine kV 32 (.slice (some ⟨g2, 2, none⟩) 1498 1498) ?_
 refine kV 33 (.int .i64 ((20 + s.size : Nat) : Int)) ?_
 refine kV 34 (.pointer (some ⟨g3, 6, none⟩)) ?_
 refine kE M 35 g3 6 (.int .i64 0) (fun w M => M.cell 2 rfl (by decide) rfl) ?_
 refine kH 36 (.int .i64 (((20 + s.size) : Nat) : Int)) (fun w => Eq.trans (b := .ok (.value (.int .i64 (cv .i64 (((20 + s.size : Nat) : Int) - 0)))) w) (by kernel_rfl) (by rw [cv_i64 (by omega) (by omega)] <;> (congr 3 <;> omega))) ?_
 refine kH 37 (.int .u16 ((((20 + s.size) : Nat) : Int))) (fun w => Eq.trans (b := .ok (.value (.int .u16 (cv .u16 ((((20 + s.size) : Nat) : Int))))) w) (by kernel_rfl) (by rw [cv_u16]; congr 3; omega)) ?_
 refine kC M 38 59 #[.int .u16 ((((20 + s.size) : Nat) : Int))] (.string (be2 (cv .u64 ((((20 + s.size) : Nat) : Int))))) (fun w M => c_U16 ((((20 + s.size) : Nat) : Int)) w M.laid) ?_
 refine kl_nil fun u11 M => ?_
 refine pl_copyS M (want_no rfl) (some 39) rfl 54 9 3 5 Tryz.underlying54 inz5 1 g2 1500 80 (w8 (upd (cpy (fun _ => 0) 12 (8 + s.size) (((aB false h0 l0) ++ (aB false h1 l1)) ++ s)) 0 69)) rfl 2 1498 1498 (be2 (cv .u64 ((((20 + s.size) : Nat) : Int)))) 2 (by rw [be2_size]; rfl) (by omega) (w8 (cpy (upd (cpy (fun _ => 0) 12 (8 + s.size) (((aB false h0 l0) ++ (aB false h1 l1)) ++ s)) 0 69) 2 2 (be2 (cv .u64 ((((20 + s.size) : Nat) : Int)))))) (fun j _ => cpy_w8 _ _ _ _ j) (fun _ => by kernel_rfl) fun u12 M => ?_
 refine nT ?_
 refine wp_seq ?_
 refine rg_held M [⟨g1, .cells (av 9 (ls [.bool false, .int .u64 h0, .int .u64 l0, .bool false, .int .u64 h1, .int .u64 l1, .int .u8 p, .int .u8 t, .string s])) 26⟩, ⟨g3, .cells (av 7 (ls [.int .u8 69, .int .i64 20, .int .i64 2, .int .i64 8, .int .i64 9, .int .i64 12, .int .i64 0])) 60⟩] 11 rfl (by kernel_rfl) (by kernel_rfl) (fun _ _ d _ _ h => by cases d <;> exact h) fun u13 M => ?_
 refine qV (M.drop (.cons_cons _ (.cons _ (.cons_cons _ (.slnil))))) 0 40 (.pointer (some ⟨g3, 3, none⟩)) ?_
 refine hl_cell (M.drop (.cons_cons _ (.cons _ (.cons_cons _ (.slnil))))) 1 rfl (by decide) (by kernel_rfl) (by kernel_rfl) (want_no rfl) (some 41) rfl 3 _ rfl g3 3 (by kernel_rfl) (.int .i64 8) (fun _ => by kernel_rfl) (fun w M => M.cell 1 rfl (by decide) rfl) ?_
 refine qV (M.drop (.cons_cons _ (.cons _ (.cons_cons _ (.slnil))))) 2 42 (.pointer (some ⟨g3, 4, none⟩)) ?_
 refine hl_cell (M.drop (.cons_cons _ (.cons _ (.cons_cons _ (.slnil))))) 3 rfl (by decide) (by kernel_rfl) (by kernel_rfl) (want_no rfl) (some 43) rfl 3 _ rfl g3 4 (by kernel_rfl) (.int .i64 9) (fun _ => by kernel_rfl) (fun w M => M.cell 1 rfl (by decide) rfl) ?_
 refine qV (M.drop (.cons_cons _ (.cons _ (.cons_cons _ (.slnil))))) 4 44 (.pointer (some ⟨g1, 7, none⟩)) ?_
 refine hl_cell (M.drop (.cons_cons _ (.cons _ (.cons_cons _ (.slnil))))) 5 rfl (by decide) (by kernel_rfl) (by kernel_rfl) (want_no rfl) (some 45) rfl 5 _ rfl g1 7 (by kernel_rfl) (.int .u8 t) (fun _ => by kernel_rfl) (fun w M => M.cell 0 rfl (by decide) rfl) ?_
 refine qV (M.drop (.cons_cons _ (.cons _ (.cons_cons _ (.slnil))))) 6 46 (.pointer (some ⟨g1, 6, none⟩)) ?_
 refine hl_cell (M.drop (.cons_cons _ (.cons _ (.cons_cons _ (.slnil))))) 7 rfl (by decide) (by kernel_rfl) (by kernel_rfl) (want_no rfl) (some 47) rfl 5 _ rfl g1 6 (by kernel_rfl) (.int .u8 p) (fun _ => by kernel_rfl) (fun w M => M.cell 0 rfl (by decide) rfl) ?_
 refine qV (M.drop (.cons_cons _ (.cons _ (.cons_cons _ (.slnil))))) 8 48 (.pointer (some ⟨g2, 8, none⟩)) ?_
 refine hl_one 9 (by decide) (by kernel_rfl) rfl ?_
 refine pP M 1 rfl 8 (.int .u8 t) (w8 (upd (cpy (upd (cpy (fun _ => 0) 12 (8 + s.size) (((aB false h0 l0) ++ (aB false h1 l1)) ++ s)) 0 69) 2 2 (be2 (cv .u64 ((((20 + s.size) : Nat) : Int))))) 8 t)) (by decide) (fun j _ => put_w8 _ _ _ j) fun u14 M => ?_
 refine nT ?_
 refine ⟨(M.drop (.cons_cons _ (.cons _ (.cons_cons _ (.slnil))))), ?_⟩
 refine qV (M.drop (.cons_cons _ (.cons _ (.cons_cons _ (.slnil))))) 10 49 (.pointer (some ⟨g2, 9, none⟩)) ?_
 refine hl_end (by kernel_rfl) (by kernel_rfl) rfl ?_
 refine pP M 1 rfl 9 (.int .u8 p) (w8 (upd (upd (cpy (upd (cpy (fun _ => 0) 12 (8 + s.size) (((aB false h0 l0) ++ (aB false h1 l1)) ++ s)) 0 69) 2 2 (be2 (cv .u64 ((((20 + s.size) : Nat) : Int))))) 8 t) 9 p)) (by decide) (fun j _ => put_w8 _ _ _ j) fun u15 M => ?_
 refine nT ?_
 have hNBa := NB_f4a h0 l0 h1 l1 p t s hp ht
 refine au_then ?_
 refine wp_seq ?_
 refine sR ?_
 refine pV 50 (.pointer (some ⟨g1, 0, none⟩)) ?_
 refine pV 51 (.pointer (some ⟨g1, 0, none⟩)) ?_
 refine pEz M 52 g1 0 (.bool false) (fun w M => M.cell 0 rfl (by decide) rfl) ?_
 refine pV 53 (.bool true) ?_
 refine nT ?_
 refine wp_cond_true (by kernel_rfl) ?_
 refine rg_held M [⟨g1, .cells (av 9 (ls [.bool false, .int .u64 h0, .int .u64 l0, .bool false, .int .u64 h1, .int .u64 l1, .int .u8 p, .int .u8 t, .string s])) 26⟩, ⟨g3, .cells (av 7 (ls [.int .u8 69, .int .i64 20, .int .i64 2, .int .i64 8, .int .i64 9, .int .i64 12, .int .i64 0])) 60⟩] 7 rfl (by kernel_rfl) (by kernel_rfl) (fun _ _ d _ _ h => by cases d <;> exact h) fun u16 M => ?_
 refine qV (M.drop (.cons_cons _ (.cons _ (.cons_cons _ (.slnil))))) 0 54 (.slice (some ⟨g2, 10, none⟩) 1490 1490) ?_
 refine qV (M.drop (.cons_cons _ (.cons _ (.cons_cons _ (.slnil))))) 1 55 (.pointer (some ⟨g3, 1, none⟩)) ?_
 refine hl_cell (M.drop (.cons_cons _ (.cons _ (.cons_cons _ (.slnil))))) 2 rfl (by decide) (by kernel_rfl) (by kernel_rfl) (want_no rfl) (some 56) rfl 3 _ rfl g3 1 (by kernel_rfl) (.int .i64 20) (fun _ => by kernel_rfl) (fun w M => M.cell 1 rfl (by decide) rfl) ?_
 refine hl_val (M.drop (.cons_cons _ (.cons _ (.cons_cons _ (.slnil))))) 3 rfl (by decide) (by kernel_rfl) (by kernel_rfl) (want_no rfl) (some 57) rfl (.slice (some ⟨g2, 0, none⟩) 20 1500) (fun w _ => (run_slAH 80 1500 5 Tryz.underlying80 inz5 _ _ rfl g2 0 (by kernel_rfl) .i64 20 (by kernel_rfl) (by decide) (by decide)) w) ?_
 refine hl_one 4 (by decide) (by kernel_rfl) rfl ?_
 refine pl_back M (want_no rfl) (some 58) rfl _ rfl 1 g2 20 1500 (by kernel_rfl) _ rfl ((List.range 20).map (f4a h0 l0 h1 l1 p t s)) 1500 (sb_avk 1500 20 (by decide) (f4a h0 l0 h1 l1 p t s) 80) (by simp) (NB.l hNBa _) ?_
 refine nT ?_
 refine ⟨(M.drop (.cons_cons _ (.cons _ (.cons_cons _ (.slnil))))), ?_⟩
 refine hl_one 5 (by decide) (by kernel_rfl) rfl ?_
 refine pC M 59 14 #[.string (bs ((List.range 20).map (f4a h0 l0 h1 l1 p t s)))] (.int .u16 (sumS (bs ((List.range 20).map (f4a h0 l0 h1 l1 p t s))))) (fun w M => c_Sum (bs ((List.range 20).map (f4a h0 l0 h1 l1 p t s))) (by rw [bs_size]; simp) w M.laid) fun u17 M => ?_
 refine nT ?_
 refine ⟨(M.drop (.cons_cons _ (.cons _ (.cons_cons _ (.slnil))))), ?_⟩
 refine hl_one 6 (by decide) (by kernel_rfl) rfl ?_
 refine pC M 60 59 #[.int .u16 (sumS (bs ((List.range 20).map (f4a h0 l0 h1 l1 p t s))))] (.string (be2 (cv .u64 (sumS (bs ((List.range 20).map (f4a h0 l0 h1 l1 p t s))))))) (fun w M => c_U16 (sumS (bs ((List.range 20).map (f4a h0 l0 h1 l1 p t s)))) w M.laid) fun u18 M => ?_
 refine nT ?_
 refine ⟨(M.drop (.cons_cons _ (.cons _ (.cons_cons _ (.slnil))))), ?_⟩
 refine hl_end (by kernel_rfl) (by kernel_rfl) rfl ?_
 refine pl_copyS M (want_no rfl) (some 61) rfl 54 9 3 5 Tryz.underlying54 inz5 1 g2 1500 80 (w8 (f4a h0 l0 h1 l1 p t s)) rfl 10 1490 1490 (be2 (cv .u64 (sumS (bs ((List.range 20).map (f4a h0 l0 h1 l1 p t s)))))) 2 (by rw [be2_size]; rfl) (by omega) (w8 (cpy (f4a h0 l0 h1 l1 p t s) 10 2 (be2 (cv .u64 (sumS (bs ((List.range 20).map (f4a h0 l0 h1 l1 p t s)))))))) (fun j _ => cpy_w8 _ _ _ _ j) (fun _ => by kernel_rfl) fun u19 M => ?_
 refine nT ?_
 have hNBb : NB (f4b h0 l0 h1 l1 p t s) := hNBa.c _ _ _
 refine au_then ?_
 refine sR ?_
 refine pV 62 (.int .i64 ((20 + s.size : Nat) : Int)) ?_
 refine pH 63 (.slice (some ⟨g2, 0, none⟩) (20 + s.size) 1500) (run_slAH 80 1500 5 Tryz.underlying80 inz5 _ _ rfl g2 0 (by kernel_rfl) .i64 (20 + s.size) (by kernel_rfl) (by omega) (by decide)) ?_
 refine pl_back M (want_no rfl) (some 64) rfl _ rfl 1 g2 (20 + s.size) 1500 (by kernel_rfl) _ rfl ((List.range (20 + s.size)).map (f4b h0 l0 h1 l1 p t s)) 1500 (sb_avk 1500 (20 + s.size) (by omega) (f4b h0 l0 h1 l1 p t s) 80) (by simp) (NB.l hNBb _) ?_
 refine pV 2 (.string (bs ((List.range (20 + s.size)).map (f4b h0 l0 h1 l1 p t s)))) ?_
 refine nT ?_
 refine wp_ret ?_
 have e0 : (f4o h0 l0 h1 l1 p t s) = (bs ((List.range (20 + s.size)).map (f4b h0 l0 h1 l1 p t s))) := rfl
 exact bodyPost_ret (v := .string (bs ((List.range (20 + s.size)).map (f4b h0 l0 h1 l1 p t s)))) (results_tmp1 Tryz.results33 _ _ _ (by kernel_rfl)) (by kernel_rfl) ⟨by simp only [e0], below_grown M.old⟩
end Go.Proofs.YtndonmdgplojnaaGreatDoor

namespace Go.Proofs.YtndonmdgplojnaaGreatDoor
open Go.RowKit
section
variable {P : Program} {ops : Array Oper} {o o2 : Oper} {a : Act} {w : World} {Q : Exit → Act → World → Prop} {S : World → Prop} {n fuel : Nat} {listed : Array Bool}
end
theorem my_ok {v0 : Bool} {h0 l0 : Int} {v1 : Bool} {h1 l1 n : Int} (h : my v0 h0 l0 v1 h1 l1 n = 0) : v1 = v0 ∧ hdr v0 + n ≤ 1500 ∧ mA v0 h0 l0 = true ∧ mA v1 h1 l1 = true := by
 unfold my at h
 split at h
 ·rename_i e
  simp only [Bool.and_eq_true, decide_eq_true_eq] at e
  split at h
  ·cases h
  ·exact ⟨e.2.symm, by omega, e.1.1, e.1.2⟩
 ·cases h
def enB (v0 : Bool) (h0 l0 h1 l1 p t : Int) (s : ByteArray) : ByteArray := if v0 = true then f6o h0 l0 h1 l1 p t s else f4o h0 l0 h1 l1 p t s
def enS (v0 : Bool) (h0 l0 : Int) (v1 : Bool) (h1 l1 p t : Int) (s : ByteArray) : ByteArray := if my v0 h0 l0 v1 h1 l1 (s.size : Int) = 0 then enB v0 h0 l0 h1 l1 p t s else ⟨#[]⟩
theorem c_bytesOf (v0 : Bool) (h0 l0 : Int) (v1 : Bool) (h1 l1 p t : Int) (s : ByteArray) (hm : my v0 h0 l0 v1 h1 l1 (s.size : Int) = 0) (hp : 0 ≤ p ∧ p < 256) (ht : 0 ≤ t ∧ t < 256) (w : World) (hL : Laid w) :
  Calls Tryz.prog 33 #[.agg (av 9 (ls [.bool (v0), .int .u64 h0, .int .u64 l0, .bool (v1), .int .u64 h1, .int .u64 l1, .int .u8 p, .int .u8 t, .string s]))] w fun r w' => r = .returned (.string (enB v0 h0 l0 h1 l1 p t s)) ∧ Below w.heap.size w w' := by
 obtain ⟨e, hb, _⟩ := my_ok hm
 subst e
 cases v1
 ·exact c_bytesFour h0 l0 h1 l1 p t s (by have : hdr false = 20 := rfl; omega) hp ht w hL
 ·exact c_bytesSix h0 l0 h1 l1 p t s (by have : hdr true = 40 := rfl; omega) hp ht w hL
set_option maxRecDepth 100000 in
set_option maxHeartbeats 4000000 in
set_option linter.unusedSimpArgs false in
theorem c_Encode (v0 : Bool) (h0 l0 : Int) (v1 : Bool) (h1 l1 p t : Int) (s : ByteArray) (hs : s.size ≤ 200000) (hp : 0 ≤ p ∧ p < 256) (ht : 0 ≤ t ∧ t < 256) (w : World) (hL : Laid w)  :
  Calls Tryz.prog 10 #[.agg (av 9 (ls [.bool (v0), .int .u64 h0, .int .u64 l0, .bool (v1), .int .u64 h1, .int .u64 l1, .int .u8 p, .int .u8 t, .string s]))] w fun r w' => r = .returned (.tuple #[.string (enS v0 h0 l0 v1 h1 l1 p t s), .int .i64 (my v0 h0 l0 v1 h1 l1 (s.size : Int))]) ∧ Below w.heap.size w w' := by
 go_enter Tryz.func10, Tryz.ntmps10
 have M := Mem.start hL
 refine sR ?_
 refine pN M 1 (.cells (av 9 (ls [.bool (v0), .int .u64 h0, .int .u64 l0, .bool (v1), .int .u64 h1, .int .u64 l1, .int .u8 p, .int .u8 t, .string s])) 26) fun g1 u1 M => ?_
 refine pV 2 (.string ⟨#[]⟩) ?_
 refine pV 3 (.int .i64 0) ?_
 refine nT ?_
 refine wp_seq ?_
 refine sR ?_
 refine pAz M 5 0 9 (ls [.bool (v0), .int .u64 h0, .int .u64 l0, .bool (v1), .int .u64 h1, .int .u64 l1, .int .u8 p, .int .u8 t, .string s]) ?_
 refine pC M 6 12 #[.agg (av 9 (ls [.bool (v0), .int .u64 h0, .int .u64 l0, .bool (v1), .int .u64 h1, .int .u64 l1, .int .u8 p, .int .u8 t, .string s]))] (.int .i64 (my v0 h0 l0 v1 h1 l1 (s.size : Int))) (fun w M => c_May v0 h0 l0 v1 h1 l1 p t s (by omega) w M.laid) fun u2 M => ?_
 refine pV 4 (.int .i64 (my v0 h0 l0 v1 h1 l1 (s.size : Int))) ?_
 refine nT ?_
 refine sR ?_
 refine pV 7 (.int .i64 (my v0 h0 l0 v1 h1 l1 (s.size : Int))) ?_
 by_cases c0 : (my v0 h0 l0 v1 h1 l1 (s.size : Int)) = 0
 ·skip
  refine pH 8 (.bool false) (nF ((my v0 h0 l0 v1 h1 l1 (s.size : Int)) = 0) (c0)) ?_
  refine nT ?_
  refine wp_cond_false (by kernel_rfl) ?_
  refine wp_skip ?_
  refine au_then ?_
  refine sR ?_
  refine pAz M 10 0 9 (ls [.bool (v0), .int .u64 h0, .int .u64 l0, .bool (v1), .int .u64 h1, .int .u64 l1, .int .u8 p, .int .u8 t, .string s]) ?_
  refine pC M 11 33 #[.agg (av 9 (ls [.bool (v0), .int .u64 h0, .int .u64 l0, .bool (v1), .int .u64 h1, .int .u64 l1, .int .u8 p, .int .u8 t, .string s]))] (.string (enB v0 h0 l0 h1 l1 p t s)) (fun w M => c_bytesOf v0 h0 l0 v1 h1 l1 p t s c0 hp ht w M.laid) fun u3 M => ?_
  refine pV 2 (.string (enB v0 h0 l0 h1 l1 p t s)) ?_
  refine pV 3 (.int .i64 0) ?_
  refine nT ?_
  refine wp_ret ?_
  have e0 : (enS v0 h0 l0 v1 h1 l1 p t s) = (enB v0 h0 l0 h1 l1 p t s) := by unfold enS; rw [if_pos c0]
  have e1 : (my v0 h0 l0 v1 h1 l1 (s.size : Int)) = 0 := c0
  exact bodyPost_ret (v := .tuple #[.string (enB v0 h0 l0 h1 l1 p t s), .int .i64 0]) (results_tmp2 Tryz.results10 _ _ _ _ (by kernel_rfl) (by kernel_rfl)) (by kernel_rfl) ⟨by simp only [e0, e1], below_grown M.old⟩
 ·skip
  refine pH 8 (.bool true) (nU ((my v0 h0 l0 v1 h1 l1 (s.size : Int)) = 0) (c0)) ?_
  refine nT ?_
  refine wp_cond_true (by kernel_rfl) ?_
  refine sR ?_
  refine pV 9 (.int .i64 (my v0 h0 l0 v1 h1 l1 (s.size : Int))) ?_
  refine pV 2 (.string ⟨#[]⟩) ?_
  refine pV 3 (.int .i64 (my v0 h0 l0 v1 h1 l1 (s.size : Int))) ?_
  refine nT ?_
  refine wp_ret ?_
  refine au_then_ret ?_
  have e0 : (enS v0 h0 l0 v1 h1 l1 p t s) = ⟨#[]⟩ := by unfold enS; rw [if_neg c0]
  exact bodyPost_ret (v := .tuple #[.string ⟨#[]⟩, .int .i64 (my v0 h0 l0 v1 h1 l1 (s.size : Int))]) (results_tmp2 Tryz.results10 _ _ _ _ (by kernel_rfl) (by kernel_rfl)) (by kernel_rfl) ⟨by simp only [e0], below_grown M.old⟩
end Go.Proofs.YtndonmdgplojnaaGreatDoor
