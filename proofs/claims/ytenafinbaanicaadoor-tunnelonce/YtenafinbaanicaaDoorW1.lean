/- Marks: bits of words. -/
import Derived.Test.YtenafinbaanicaaDoorW0
namespace Go.Proofs.YtenafinbaanicaaDoor
open Go.RowKit
set_option maxRecDepth 100000

/-- The bit of a place within its word. -/
def bw (p : Nat) : Int := sl 1 (p % 64)
/-- Whether a place is marked. -/
def hb (m : Nat → Int) (p : Nat) : Bool := decide (¬ un (m (p / 64)) (bw p) = 0)
def stM (m : Nat → Int) (p : Nat) : Nat → Int := upd m (p / 64) (uo (m (p / 64)) (bw p))
def wpM (m : Nat → Int) (p : Nat) : Nat → Int := upd m (p / 64) (ud (m (p / 64)) (bw p))
set_option maxRecDepth 100000 in
set_option maxHeartbeats 4000000 in
set_option linter.unusedSimpArgs false in
theorem c_bit (p : Nat) (w : World) (hL : Laid w)  :
    Calls Tryd.prog 67 #[.int .u64 (p : Int)] w fun r w' => r = .returned (.int .u64 (bw p)) ∧ Below w.heap.size w w' := by
  go_enter Tryd.func67, Tryd.ntmps67
  have M := Mem.start hL
  refine wp_seq ?_
  refine rg_lit ?_
  refine pl_val (want_no rfl) (some 2) rfl (.int .u64 0) (fun _ => by kernel_rfl) ?_
  refine pl_nil ?_
  refine au_then ?_
  refine wp_seq ?_
  refine rg_lit ?_
  refine pl_val (want_no rfl) (some 3) rfl (.int .u64 (p : Int)) (fun _ => by kernel_rfl) ?_
  refine pl_val (want_no rfl) (some 4) rfl (.int .u64 ((p % 64 : Nat) : Int)) (run_remU 22 22 _ _ rfl p 64 (by kernel_rfl) (by kernel_rfl) (by decide)) ?_
  refine pl_val (want_no rfl) (some 5) rfl (.int .u64 (sl 1 (p % 64))) (run_shlX 22 22 _ _ rfl 1 .u64 (p % 64) (by kernel_rfl) (by kernel_rfl)) ?_
  refine pl_val (want_no rfl) (some 2) rfl (.int .u64 (sl 1 (p % 64))) (fun _ => by kernel_rfl) ?_
  refine pl_nil ?_
  refine au_then ?_
  refine wp_ret ?_
  have e0 : (bw p) = (sl 1 (p % 64)) := rfl
  exact bodyPost_ret (v := .int .u64 (sl 1 (p % 64))) (results_tmp1 Tryd.results67 _ _ _ (by kernel_rfl)) (by kernel_rfl) ⟨by rw [e0], below_grown M.old⟩

set_option maxRecDepth 100000 in
set_option maxHeartbeats 4000000 in
set_option linter.unusedSimpArgs false in
theorem c_has (k p n cap : Nat) (m : Nat → Int) (hp : p < 18446744073709551616) (hn : p / 64 < n) (hc : n ≤ cap) (w : World) (hL : Laid w)  (hT : There w [⟨k, .cells (av cap (w64 m)) 22⟩]) :
    Calls Tryd.prog 55 #[.slice (some ⟨k, 0, none⟩) n cap, .int .u64 (p : Int)] w fun r w' => r = .returned (.bool (hb m p)) ∧ Below w.heap.size w w' := by
  go_enter Tryd.func55, Tryd.ntmps55
  have M : Mem ⟨w, [k]⟩ [⟨k, .cells (av cap (w64 m)) 22⟩] w := Mem.startT hL hT
  refine wp_seq ?_
  refine rg_lit ?_
  refine pl_val (want_no rfl) (some 4) rfl (.bool false) (fun _ => by kernel_rfl) ?_
  refine pl_nil ?_
  refine au_then ?_
  refine wp_seq ?_
  refine rg_tail M 9 (by kernel_rfl) (by kernel_rfl) ?_
  simp only [List.take_succ_cons, List.take_zero]
  refine k_val (want_no rfl) (some 5) rfl (.slice (some ⟨k, 0, none⟩) n cap) (fun _ => by kernel_rfl) ?_
  refine k_val (want_no rfl) (some 6) rfl (.int .u64 (p : Int)) (fun _ => by kernel_rfl) ?_
  refine k_val (want_no rfl) (some 7) rfl (.int .u64 ((p / 64 : Nat) : Int)) (run_quoU 22 22 _ _ rfl p 64 (by kernel_rfl) (by kernel_rfl) (by decide) (by omega)) ?_
  refine k_val (want_no rfl) (some 8) rfl (.pointer (some ⟨k, ((p / 64)), none⟩)) (run_ix0 85 22 Tryd.underlying85 inz22 _ _ rfl k n cap (by kernel_rfl) .u64 ((p / 64)) (by kernel_rfl) (by omega)) ?_
  refine k_cell M (want_no rfl) (some 9) rfl 22 _ rfl k ((p / 64)) (by kernel_rfl) (.int .u64 (m ((p / 64)))) (fun _ => by kernel_rfl) (fun w M => M.cell 0 rfl (by omega) rfl) ?_
  refine k_val (want_no rfl) (some 10) rfl (.int .u64 (p : Int)) (fun _ => by kernel_rfl) ?_
  refine k_call M (want_no rfl) (some 11) rfl 67 #[.int .u64 (p : Int)] (.int .u64 (bw p)) (fun _ => by kernel_rfl) (fun w M => c_bit p w M.laid) ?_
  refine k_val (want_no rfl) (some 12) rfl (.int .u64 (un (m ((p / 64))) (bw p))) (fun _ => by kernel_rfl) ?_
  by_cases c0 : (un (m ((p / 64))) (bw p)) = 0
  · skip
    refine k_val (want_no rfl) (some 13) rfl (.bool false) (fun w => Eq.trans (b := .ok (.value (.bool (!(decide ((un (m ((p / 64))) (bw p)) = 0))))) w) (by kernel_rfl) (by rw [decide_eq_true (c0)]; rfl)) ?_
    refine kl_nil ?_
    intro u1 M
    replace M : Mem ⟨w, [k]⟩ [⟨k, .cells (av cap (w64 m)) 22⟩] u1 := M
    refine pl_val (want_no rfl) (some 4) rfl (.bool false) (fun _ => by kernel_rfl) ?_
    refine pl_nil ?_
    refine au_then ?_
    refine wp_ret ?_
    have e0 : hb m p = false := by first | (simp only [hb, if_pos c0]; done) | simp [hb, c0]
    exact bodyPost_ret (v := .bool false) (results_tmp1 Tryd.results55 _ _ _ (by kernel_rfl)) (by kernel_rfl) ⟨by rw [e0], ro_T hT M⟩
  · skip
    refine k_val (want_no rfl) (some 13) rfl (.bool true) (fun w => Eq.trans (b := .ok (.value (.bool (!(decide ((un (m ((p / 64))) (bw p)) = 0))))) w) (by kernel_rfl) (by rw [decide_eq_false (c0)]; rfl)) ?_
    refine kl_nil ?_
    intro u1 M
    replace M : Mem ⟨w, [k]⟩ [⟨k, .cells (av cap (w64 m)) 22⟩] u1 := M
    refine pl_val (want_no rfl) (some 4) rfl (.bool true) (fun _ => by kernel_rfl) ?_
    refine pl_nil ?_
    refine au_then ?_
    refine wp_ret ?_
    have e0 : hb m p = true := by first | (simp only [hb, if_neg c0]; done) | simp [hb, c0]
    exact bodyPost_ret (v := .bool true) (results_tmp1 Tryd.results55 _ _ _ (by kernel_rfl)) (by kernel_rfl) ⟨by rw [e0], ro_T hT M⟩

set_option maxRecDepth 100000 in
set_option maxHeartbeats 4000000 in
set_option linter.unusedSimpArgs false in
theorem c_set (k p n cap : Nat) (m : Nat → Int) (hp : p < 18446744073709551616) (hn : p / 64 < n) (hc : n ≤ cap) (w : World) (hL : Laid w)  (hT : There w [⟨k, .cells (av cap (w64 m)) 22⟩]) :
    Calls Tryd.prog 59 #[.slice (some ⟨k, 0, none⟩) n cap, .int .u64 (p : Int)] w fun r w' => r = .returned (.tuple #[]) ∧ Grw w w' [k] ∧ w'.heap[k]? = some (.cells (av cap (w64 (stM m p))) 22) := by
  go_enter Tryd.func59, Tryd.ntmps59
  have M : Mem ⟨w, [k]⟩ [⟨k, .cells (av cap (w64 m)) 22⟩] w := Mem.startT hL hT
  refine rg_tail M 9 (by kernel_rfl) (by kernel_rfl) ?_
  simp only [List.take_succ_cons, List.take_zero]
  refine k_val (want_no rfl) (some 4) rfl (.slice (some ⟨k, 0, none⟩) n cap) (fun _ => by kernel_rfl) ?_
  refine k_val (want_no rfl) (some 5) rfl (.int .u64 (p : Int)) (fun _ => by kernel_rfl) ?_
  refine k_val (want_no rfl) (some 6) rfl (.int .u64 ((p / 64 : Nat) : Int)) (run_quoU 22 22 _ _ rfl p 64 (by kernel_rfl) (by kernel_rfl) (by decide) (by omega)) ?_
  refine k_val (want_no rfl) (some 7) rfl (.pointer (some ⟨k, ((p / 64)), none⟩)) (run_ix0 85 22 Tryd.underlying85 inz22 _ _ rfl k n cap (by kernel_rfl) .u64 ((p / 64)) (by kernel_rfl) (by omega)) ?_
  refine k_cell M (want_no rfl) (some 8) rfl 22 _ rfl k ((p / 64)) (by kernel_rfl) (.int .u64 (m ((p / 64)))) (fun _ => by kernel_rfl) (fun w M => M.cell 0 rfl (by omega) rfl) ?_
  refine k_val (want_no rfl) (some 9) rfl (.int .u64 (p : Int)) (fun _ => by kernel_rfl) ?_
  refine k_call M (want_no rfl) (some 10) rfl 67 #[.int .u64 (p : Int)] (.int .u64 (bw p)) (fun _ => by kernel_rfl) (fun w M => c_bit p w M.laid) ?_
  refine k_val (want_no rfl) (some 11) rfl (.int .u64 (uo (m ((p / 64))) (bw p))) (fun _ => by kernel_rfl) ?_
  refine k_val (want_no rfl) (some 12) rfl (.pointer (some ⟨k, ((p / 64)), none⟩)) (run_ix0 85 22 Tryd.underlying85 inz22 _ _ rfl k n cap (by kernel_rfl) .u64 ((p / 64)) (by kernel_rfl) (by omega)) ?_
  refine kl_nil ?_
  intro u1 M
  replace M : Mem ⟨w, [k]⟩ [⟨k, .cells (av cap (w64 m)) 22⟩] u1 := M
  refine pl_put1 M (want_no rfl) rfl 22 _ _ rfl 0 k ((p / 64)) (by kernel_rfl) cap 22 (w64 m) rfl (.int .u64 (uo (m ((p / 64))) (bw p))) (w64 (upd m ((p / 64)) (uo (m ((p / 64))) (bw p)))) (by kernel_rfl) inz22 (by omega) rfl rfl (fun j _ => put_w64 _ _ _ j) ?_
  intro u2 M
  replace M : Mem ⟨w, [k]⟩ [⟨k, .cells (av cap (w64 (upd m ((p / 64)) (uo (m ((p / 64))) (bw p))))) 22⟩] u2 := M
  refine pl_nil ?_
  exact bodyPost_end (v := .tuple #[]) (results_none Tryd.results59 _ _) (by kernel_rfl) ⟨rfl, M.old, M.get 0 rfl⟩

set_option maxRecDepth 100000 in
set_option maxHeartbeats 4000000 in
set_option linter.unusedSimpArgs false in
theorem c_wipe (k p n cap : Nat) (m : Nat → Int) (hp : p < 18446744073709551616) (hn : p / 64 < n) (hc : n ≤ cap) (w : World) (hL : Laid w)  (hT : There w [⟨k, .cells (av cap (w64 m)) 22⟩]) :
    Calls Tryd.prog 68 #[.slice (some ⟨k, 0, none⟩) n cap, .int .u64 (p : Int)] w fun r w' => r = .returned (.tuple #[]) ∧ Grw w w' [k] ∧ w'.heap[k]? = some (.cells (av cap (w64 (wpM m p))) 22) := by
  go_enter Tryd.func68, Tryd.ntmps68
  have M : Mem ⟨w, [k]⟩ [⟨k, .cells (av cap (w64 m)) 22⟩] w := Mem.startT hL hT
  refine rg_tail M 9 (by kernel_rfl) (by kernel_rfl) ?_
  simp only [List.take_succ_cons, List.take_zero]
  refine k_val (want_no rfl) (some 4) rfl (.slice (some ⟨k, 0, none⟩) n cap) (fun _ => by kernel_rfl) ?_
  refine k_val (want_no rfl) (some 5) rfl (.int .u64 (p : Int)) (fun _ => by kernel_rfl) ?_
  refine k_val (want_no rfl) (some 6) rfl (.int .u64 ((p / 64 : Nat) : Int)) (run_quoU 22 22 _ _ rfl p 64 (by kernel_rfl) (by kernel_rfl) (by decide) (by omega)) ?_
  refine k_val (want_no rfl) (some 7) rfl (.pointer (some ⟨k, ((p / 64)), none⟩)) (run_ix0 85 22 Tryd.underlying85 inz22 _ _ rfl k n cap (by kernel_rfl) .u64 ((p / 64)) (by kernel_rfl) (by omega)) ?_
  refine k_cell M (want_no rfl) (some 8) rfl 22 _ rfl k ((p / 64)) (by kernel_rfl) (.int .u64 (m ((p / 64)))) (fun _ => by kernel_rfl) (fun w M => M.cell 0 rfl (by omega) rfl) ?_
  refine k_val (want_no rfl) (some 9) rfl (.int .u64 (p : Int)) (fun _ => by kernel_rfl) ?_
  refine k_call M (want_no rfl) (some 10) rfl 67 #[.int .u64 (p : Int)] (.int .u64 (bw p)) (fun _ => by kernel_rfl) (fun w M => c_bit p w M.laid) ?_
  refine k_val (want_no rfl) (some 11) rfl (.int .u64 (ud (m ((p / 64))) (bw p))) (fun _ => by kernel_rfl) ?_
  refine k_val (want_no rfl) (some 12) rfl (.pointer (some ⟨k, ((p / 64)), none⟩)) (run_ix0 85 22 Tryd.underlying85 inz22 _ _ rfl k n cap (by kernel_rfl) .u64 ((p / 64)) (by kernel_rfl) (by omega)) ?_
  refine kl_nil ?_
  intro u1 M
  replace M : Mem ⟨w, [k]⟩ [⟨k, .cells (av cap (w64 m)) 22⟩] u1 := M
  refine pl_put1 M (want_no rfl) rfl 22 _ _ rfl 0 k ((p / 64)) (by kernel_rfl) cap 22 (w64 m) rfl (.int .u64 (ud (m ((p / 64))) (bw p))) (w64 (upd m ((p / 64)) (ud (m ((p / 64))) (bw p)))) (by kernel_rfl) inz22 (by omega) rfl rfl (fun j _ => put_w64 _ _ _ j) ?_
  intro u2 M
  replace M : Mem ⟨w, [k]⟩ [⟨k, .cells (av cap (w64 (upd m ((p / 64)) (ud (m ((p / 64))) (bw p))))) 22⟩] u2 := M
  refine pl_nil ?_
  exact bodyPost_end (v := .tuple #[]) (results_none Tryd.results68 _ _) (by kernel_rfl) ⟨rfl, M.old, M.get 0 rfl⟩

set_option maxRecDepth 100000 in
set_option maxHeartbeats 4000000 in
set_option linter.unusedSimpArgs false in
theorem c_place (g k s h cap n : Nat) (hs : 1 ≤ s) (w : World) (hL : Laid w)  (hT : There w [⟨g, .cells (av 3 (ls [.int .u64 (s : Int), .int .u64 (h : Int), .slice (some ⟨k, 0, none⟩) (nW s) cap])) 88⟩]) :
    Calls Tryd.prog 56 #[.pointer (some ⟨g, 0, none⟩), .int .u64 (n : Int)] w fun r w' => r = .returned (.int .u64 ((n % s : Nat) : Int)) ∧ Below w.heap.size w w' := by
  go_enter Tryd.func56, Tryd.ntmps56
  have M : Mem ⟨w, [g]⟩ [⟨g, .cells (av 3 (ls [.int .u64 (s : Int), .int .u64 (h : Int), .slice (some ⟨k, 0, none⟩) (nW s) cap])) 88⟩] w := Mem.startT hL hT
  refine wp_seq ?_
  refine rg_lit ?_
  refine pl_val (want_no rfl) (some 4) rfl (.int .u64 0) (fun _ => by kernel_rfl) ?_
  refine pl_nil ?_
  refine au_then ?_
  refine wp_seq ?_
  refine rg_lit ?_
  refine pl_val (want_no rfl) (some 5) rfl (.int .u64 (n : Int)) (fun _ => by kernel_rfl) ?_
  refine pl_val (want_no rfl) (some 6) rfl (.pointer (some ⟨g, 0, none⟩)) (fun _ => by kernel_rfl) ?_
  refine pl_val (want_no rfl) (some 7) rfl (.pointer (some ⟨g, 0, none⟩)) (fun _ => by kernel_rfl) ?_
  refine pl_val (want_no rfl) (some 8) rfl (.pointer (some ⟨g, 0, none⟩)) (fun _ => by kernel_rfl) ?_
  refine pl_cell M (want_no rfl) (some 9) rfl 22 _ rfl g 0 (by kernel_rfl) (.int .u64 (s : Int)) (fun _ => by kernel_rfl) (fun w M => M.cell 0 rfl (by decide) rfl) ?_
  refine pl_val (want_no rfl) (some 10) rfl (.int .u64 ((n % s : Nat) : Int)) (run_remU 22 22 _ _ rfl n s (by kernel_rfl) (by kernel_rfl) (by omega)) ?_
  refine pl_val (want_no rfl) (some 4) rfl (.int .u64 ((n % s : Nat) : Int)) (fun _ => by kernel_rfl) ?_
  refine pl_nil ?_
  refine au_then ?_
  refine wp_ret ?_
  exact bodyPost_ret (v := .int .u64 ((n % s : Nat) : Int)) (results_tmp1 Tryd.results56 _ _ _ (by kernel_rfl)) (by kernel_rfl) ⟨rfl, ro_T hT M⟩

set_option maxRecDepth 100000 in
set_option maxHeartbeats 4000000 in
set_option linter.unusedSimpArgs false in
theorem c_made (g k s h cap : Nat) (hs : 1 ≤ s) (w : World) (hL : Laid w)  (hT : There w [⟨g, .cells (av 3 (ls [.int .u64 (s : Int), .int .u64 (h : Int), .slice (some ⟨k, 0, none⟩) (nW s) cap])) 88⟩]) :
    Calls Tryd.prog 54 #[.pointer (some ⟨g, 0, none⟩)] w fun r w' => r = .returned (.bool true) ∧ Below w.heap.size w w' := by
  go_enter Tryd.func54, Tryd.ntmps54
  have M : Mem ⟨w, [g]⟩ [⟨g, .cells (av 3 (ls [.int .u64 (s : Int), .int .u64 (h : Int), .slice (some ⟨k, 0, none⟩) (nW s) cap])) 88⟩] w := Mem.startT hL hT
  refine wp_seq ?_
  refine rg_lit ?_
  refine pl_val (want_no rfl) (some 2) rfl (.bool false) (fun _ => by kernel_rfl) ?_
  refine pl_nil ?_
  refine au_then ?_
  refine wp_seq ?_
  refine rg_lit ?_
  refine pl_val (want_no rfl) (some 3) rfl (.pointer (some ⟨g, 0, none⟩)) (fun _ => by kernel_rfl) ?_
  refine pl_val (want_no rfl) (some 4) rfl (.bool true) (fun _ => by kernel_rfl) ?_
  refine pl_val (want_no rfl) (some 5) rfl (.bool true) (fun _ => by kernel_rfl) ?_
  refine pl_val (want_on 2 true rfl 5 rfl (by kernel_rfl)) (some 6) rfl (.pointer (some ⟨g, 0, none⟩)) (fun _ => by kernel_rfl) ?_
  refine pl_val (want_on 2 true rfl 5 rfl (by kernel_rfl)) (some 7) rfl (.pointer (some ⟨g, 0, none⟩)) (fun _ => by kernel_rfl) ?_
  refine pl_val (want_on 2 true rfl 5 rfl (by kernel_rfl)) (some 8) rfl (.pointer (some ⟨g, 0, none⟩)) (fun _ => by kernel_rfl) ?_
  refine pl_cell M (want_on 2 true rfl 5 rfl (by kernel_rfl)) (some 9) rfl 22 _ rfl g 0 (by kernel_rfl) (.int .u64 (s : Int)) (fun _ => by kernel_rfl) (fun w M => M.cell 0 rfl (by decide) rfl) ?_
  by_cases c0 : 0 < (s : Int)
  · skip
    refine pl_val (want_on 2 true rfl 5 rfl (by kernel_rfl)) (some 10) rfl (.bool true) (fun w => Eq.trans (b := .ok (.value (.bool (decide (0 < (s : Int))))) w) (by kernel_rfl) (by rw [decide_eq_true (c0)])) ?_
    refine pl_val (want_no rfl) (some 11) rfl (.bool true) (fun _ => by kernel_rfl) ?_
    refine pl_val (want_no rfl) (some 2) rfl (.bool true) (fun _ => by kernel_rfl) ?_
    refine pl_nil ?_
    refine au_then ?_
    refine wp_ret ?_
    exact bodyPost_ret (v := .bool true) (results_tmp1 Tryd.results54 _ _ _ (by kernel_rfl)) (by kernel_rfl) ⟨rfl, ro_T hT M⟩
  · exfalso; omega

theorem quo_nW (s : Nat) (hs : s ≤ 4096) : IntKind.wrap .i64 (Int.tdiv ((s : Int) + 64 - 1) 64) = ((nW s : Nat) : Int) := by
  have e : ((s : Int) + 64 - 1) = ((s + 63 : Nat) : Int) := by omega
  rw [e]
  have e2 : Int.tdiv ((s + 63 : Nat) : Int) 64 = (((s + 63) / 64 : Nat) : Int) := rfl
  rw [e2, wrap64 (by omega) (by omega)]
  rfl
set_option maxRecDepth 100000 in
set_option maxHeartbeats 4000000 in
set_option linter.unusedSimpArgs false in
theorem c_room (s : Nat) (hs4 : s ≤ 4096) (w : World) (hL : Laid w)  :
    Calls Tryd.prog 38 #[.int .i64 (s : Int)] w fun r w' => ∃ k, r = .returned (.slice (some ⟨k, 0, none⟩) (nW s) (nW s)) ∧ w.heap.size ≤ k ∧ w'.heap[k]? = some (.cells (av (nW s) (w64 (fun _ => 0))) 22) ∧ Below w.heap.size w w' := by
  go_enter Tryd.func38, Tryd.ntmps38
  have M := Mem.start hL
  refine wp_seq ?_
  refine rg_lit ?_
  refine pl_val (want_no rfl) (some 2) rfl (.slice none 0 0) (fun _ => by kernel_rfl) ?_
  refine pl_nil ?_
  refine au_then ?_
  refine wp_seq ?_
  refine rg_lit ?_
  refine pl_val (want_no rfl) (some 3) rfl (.int .i64 (s : Int)) (fun _ => by kernel_rfl) ?_
  refine pl_val (want_no rfl) (some 4) rfl (.int .i64 ((s : Int) + 64)) (fun w => Eq.trans (b := .ok (.value (.int .i64 (IntKind.wrap .i64 ((s : Int) + 64)))) w) (by kernel_rfl) (by rw [wrap64 (by omega) (by omega)])) ?_
  refine pl_val (want_no rfl) (some 5) rfl (.int .i64 (((s : Int) + 64) - 1)) (fun w => Eq.trans (b := .ok (.value (.int .i64 (IntKind.wrap .i64 (((s : Int) + 64) - 1)))) w) (by kernel_rfl) (by rw [wrap64 (by omega) (by omega)])) ?_
  refine pl_val (want_no rfl) (some 6) rfl (.int .i64 ((nW s : Nat) : Int)) (fun w => Eq.trans (b := .ok (.value (.int .i64 (IntKind.wrap .i64 (Int.tdiv (((s : Int) + 64) - 1) 64)))) w) (by kernel_rfl) (by rw [quo_nW s hs4])) ?_
  refine pl_makeW M (want_no rfl) (some 7) rfl _ _ rfl ((nW s)) (by kernel_rfl) (by kernel_rfl) (by unfold nW; omega) ?_
  intro g1 u1 M
  replace M : Mem ⟨w, []⟩ [⟨g1, .cells (av (nW s) (w64 (fun _ => 0))) 22⟩] u1 := M
  refine pl_val (want_no rfl) (some 2) rfl (.slice (some ⟨g1, 0, none⟩) (nW s) (nW s)) (fun _ => by kernel_rfl) ?_
  refine pl_nil ?_
  refine au_then ?_
  refine wp_ret ?_
  exact bodyPost_ret (v := .slice (some ⟨g1, 0, none⟩) (nW s) (nW s)) (results_tmp1 Tryd.results38 _ _ _ (by kernel_rfl)) (by kernel_rfl) ⟨_, rfl, ((M.ge _ (List.mem_singleton.2 rfl)).resolve_right (by simp)), M.get 0 rfl, below_grown M.old⟩


end Go.Proofs.YtenafinbaanicaaDoor
