/- Parts of the proof of TunnelPlays: D1, D2, D3, D4. -/
import Derived.Test.YtenafinbaanicaaGreatDoorPa4
namespace Go.Proofs.YtenafinbaanicaaGreatDoor
open Go.RowKit
set_option maxRecDepth 100000

/-- Numbers as cells. -/
def vsU (l : List Nat) : List Value := l.map fun (n : Nat) => Value.int .u64 (n : Int)
theorem vsU_len (l : List Nat) : (vsU l).length = l.length := by simp [vsU]
theorem vsU_app (l : List Nat) (n : Nat) : vsU (l ++ [n]) = vsU l ++ [.int .u64 (n : Int)] := by simp [vsU]
theorem vsU_at (l : List Nat) (j : Nat) (h : j < l.length) : (vsU l)[j]? = some (.int .u64 ((l.getD j 0 : Nat) : Int)) := by
  simp [vsU, h]
theorem mx_step (l : List Nat) (j : Nat) (h : j < l.length) : max ((mx (l.take j) : Nat) : Int) ((l.getD j 0 : Nat) : Int) = ((mx (l.take (j + 1)) : Nat) : Int) := by
  have e : l.take (j + 1) = l.take j ++ [l.getD j 0] := by
    rw [List.take_add_one]
    simp [h]
  rw [e, mx_app]
  omega
theorem my_nil (s n : Nat) : my s [] n = 0 := by simp [my]
theorem mk_nil (s n : Nat) : mk s [] n = [n] := by simp [mk, my_nil]
theorem mk_yes {s n : Nat} {l : List Nat} (h : my s l n = 0) : mk s l n = l ++ [n] := if_pos h
theorem mk_no {s n : Nat} {l : List Nat} (h : ¬ my s l n = 0) : mk s l n = l := if_neg h
theorem my_old {s n : Nat} (l : List Nat) (h0 : 0 < l.length) (h1 : n < mx l) (h2 : s ≤ mx l - n) : my s l n = 170 := if_pos ⟨fun e => by subst e; simp at h0, h1, h2⟩
theorem my_there {s n : Nat} (l : List Nat) (j : Nat) (hj : j < l.length) (hn : ¬ (n < mx l ∧ s ≤ mx l - n)) (h : l.getD j 0 = n) : my s l n = 9 := by
  unfold my
  rw [if_neg (fun x => hn x.2), if_pos]
  rw [← h]
  simp [hj]
theorem my_free {s n : Nat} (l : List Nat) (hn : ¬ (n < mx l ∧ s ≤ mx l - n)) (h : ∀ i, i < l.length → l.getD i 0 ≠ n) : my s l n = 0 := by
  unfold my
  rw [if_neg (fun x => hn x.2), if_neg]
  intro hm
  obtain ⟨i, hi, e⟩ := List.mem_iff_getElem.1 hm
  exact h i hi (by simp [hi, e])
theorem ex_step {l : List Nat} {n j : Nat} (h : ∀ i, i < j → l.getD i 0 ≠ n) (hj : l.getD j 0 ≠ n) : ∀ i, i < j + 1 → l.getD i 0 ≠ n := by
  intro i hi
  by_cases e : i = j
  · subst e
    exact hj
  · exact h i (by omega)
set_option maxRecDepth 100000 in
set_option maxHeartbeats 4000000 in
set_option linter.unusedSimpArgs false in
theorem d_Highest0 {y : TS} {gn : Bool} {d : Nat} (hq : y.q = []) (w : World) (hL : Laid w)  (hT : There w [⟨d, .cells (av 14 (ls [.string y.sd, .string y.rv, .bool (y.fi), .int .u64 ((y.mt : Nat) : Int), .int .u64 ((y.rc : Nat) : Int), .int .u64 ((y.ct : Nat) : Int), .int .u64 ((y.rk : Nat) : Int), .int .u64 ((y.lf : Nat) : Int), .int .i64 ((y.sz : Nat) : Int), .int .u64 ((y.nx : Nat) : Int), .int .i64 ((y.sz : Nat) : Int), .slice none 0 0, .bool (y.su), .bool (gn)])) 51⟩]) :
    Calls Tryz.prog 73 #[.pointer (some ⟨d, 10, none⟩)] w fun r w' => r = .returned (.tuple #[.int .u64 ((mx y.q : Nat) : Int), .bool (decide (0 < y.q.length))]) ∧ Below w.heap.size w w' := by
  go_enter Tryz.func73, Tryz.ntmps73
  have M : Mem ⟨w, [d]⟩ [⟨d, .cells (av 14 (ls [.string y.sd, .string y.rv, .bool (y.fi), .int .u64 ((y.mt : Nat) : Int), .int .u64 ((y.rc : Nat) : Int), .int .u64 ((y.ct : Nat) : Int), .int .u64 ((y.rk : Nat) : Int), .int .u64 ((y.lf : Nat) : Int), .int .i64 ((y.sz : Nat) : Int), .int .u64 ((y.nx : Nat) : Int), .int .i64 ((y.sz : Nat) : Int), .slice none 0 0, .bool (y.su), .bool (gn)])) 51⟩] w := Mem.startT hL hT
  refine sq ?_
  refine sq ?_
  refine wp_seq ?_
  refine sq ?_
  refine wp_block ?_
  refine wp_loop_rounds 1 ?_
  refine rounds_go ?_
  refine wp_seq ?_
  refine sR ?_
  refine rV 4 ?_
  refine ZE M 10 0 11 ?_
  refine rV 2 ?_
  refine nT ?_
  refine wp_cond_false (by kernel_rfl) ?_
  refine wp_exit ?_
  refine au_then_exit ?_
  refine au_then_exit ?_
  refine au_block_exit ?_
  refine au_then ?_
  refine wp_seq ?_
  refine rg_held M [⟨d, .cells (av 14 (ls [.string y.sd, .string y.rv, .bool (y.fi), .int .u64 ((y.mt : Nat) : Int), .int .u64 ((y.rc : Nat) : Int), .int .u64 ((y.ct : Nat) : Int), .int .u64 ((y.rk : Nat) : Int), .int .u64 ((y.lf : Nat) : Int), .int .i64 ((y.sz : Nat) : Int), .int .u64 ((y.nx : Nat) : Int), .int .i64 ((y.sz : Nat) : Int), .slice none 0 0, .bool (y.su), .bool (gn)])) 51⟩] 8 rfl (by kernel_rfl) (by kernel_rfl) (fun _ _ d _ _ h => by cases d <;> exact h) fun u1 M => ?_
  replace M : Mem ⟨w, [d]⟩ [⟨d, .cells (av 14 (ls [.string y.sd, .string y.rv, .bool (y.fi), .int .u64 ((y.mt : Nat) : Int), .int .u64 ((y.rc : Nat) : Int), .int .u64 ((y.ct : Nat) : Int), .int .u64 ((y.rk : Nat) : Int), .int .u64 ((y.lf : Nat) : Int), .int .i64 ((y.sz : Nat) : Int), .int .u64 ((y.nx : Nat) : Int), .int .i64 ((y.sz : Nat) : Int), .slice none 0 0, .bool (y.su), .bool (gn)])) 51⟩] u1 := M
  refine qV M 0 24 (.int .u64 0) ?_
  refine qV M 1 25 (.pointer (some ⟨d, 10, none⟩)) ?_
  refine qV M 2 26 (.pointer (some ⟨d, 10, none⟩)) ?_
  refine qV M 3 27 (.pointer (some ⟨d, 11, none⟩)) ?_
  refine hl_cell M 4 rfl (by decide) (by kernel_rfl) (by kernel_rfl) (want_no rfl) (some 28) rfl 47 _ rfl d 11 (by kernel_rfl) (.slice none 0 0) (fun _ => by kernel_rfl) (fun w M => M.cell 0 rfl (by decide) rfl) ?_
  refine qV M 5 29 (.int .i64 0) ?_
  refine qV M 6 30 (.bool false) ?_
  refine qV M 7 2 (.int .u64 0) ?_
  refine hl_end (by kernel_rfl) (by kernel_rfl) rfl ?_
  refine rV 1 ?_
  refine nT ?_
  refine au_then ?_
  refine wp_ret ?_
  exact bodyPost_ret (v := .tuple #[.int .u64 0, .bool false]) (results_tmp2 Tryz.results73 _ _ _ _ (by kernel_rfl) (by kernel_rfl)) (by kernel_rfl) ⟨by rw [hq]; rfl, ro_T hT M⟩

set_option maxRecDepth 100000 in
set_option maxHeartbeats 4000000 in
set_option linter.unusedSimpArgs false in
theorem d_May0 {y : TS} {gn : Bool} {d : Nat} (hq : y.q = []) {n : Nat} (w : World) (hL : Laid w)  (hT : There w [⟨d, .cells (av 14 (ls [.string y.sd, .string y.rv, .bool (y.fi), .int .u64 ((y.mt : Nat) : Int), .int .u64 ((y.rc : Nat) : Int), .int .u64 ((y.ct : Nat) : Int), .int .u64 ((y.rk : Nat) : Int), .int .u64 ((y.lf : Nat) : Int), .int .i64 ((y.sz : Nat) : Int), .int .u64 ((y.nx : Nat) : Int), .int .i64 ((y.sz : Nat) : Int), .slice none 0 0, .bool (y.su), .bool (gn)])) 51⟩]) :
    Calls Tryz.prog 53 #[.pointer (some ⟨d, 10, none⟩), .int .u64 (n : Int)] w fun r w' => r = .returned (.int .i64 (my y.sz y.q n)) ∧ Below w.heap.size w w' := by
  go_enter Tryz.func53, Tryz.ntmps53
  have M : Mem ⟨w, [d]⟩ [⟨d, .cells (av 14 (ls [.string y.sd, .string y.rv, .bool (y.fi), .int .u64 ((y.mt : Nat) : Int), .int .u64 ((y.rc : Nat) : Int), .int .u64 ((y.ct : Nat) : Int), .int .u64 ((y.rk : Nat) : Int), .int .u64 ((y.lf : Nat) : Int), .int .i64 ((y.sz : Nat) : Int), .int .u64 ((y.nx : Nat) : Int), .int .i64 ((y.sz : Nat) : Int), .slice none 0 0, .bool (y.su), .bool (gn)])) 51⟩] w := Mem.startT hL hT
  refine sq ?_
  refine sR ?_
  refine rV 1 ?_
  refine pC M 10 73 #[.pointer (some ⟨d, 10, none⟩)] (.tuple #[.int .u64 0, .bool false]) (fun w M => call_val (d_Highest0 hq w M.laid (M.there (.cons_cons _ (List.nil_sublist _)))) (by rw [hq]; rfl)) fun u1 M => ?_
  refine rV 5 ?_
  refine nT ?_
  refine wp_seq ?_
  refine sq ?_
  refine wp_cond_false (by kernel_rfl) ?_
  refine wp_skip ?_
  refine au_then ?_
  refine wp_seq ?_
  refine sq ?_
  refine wp_block ?_
  refine wp_loop_rounds 1 ?_
  refine rounds_go ?_
  refine wp_seq ?_
  refine sR ?_
  refine rV 4 ?_
  refine ZE M 34 0 11 ?_
  refine rV 2 ?_
  refine nT ?_
  refine wp_cond_false (by kernel_rfl) ?_
  refine wp_exit ?_
  refine au_then_exit ?_
  refine au_then_exit ?_
  refine au_block_exit ?_
  refine au_then ?_
  refine sq ?_
  refine wp_ret ?_
  exact bodyPost_ret (v := .int .i64 0) (results_tmp1 Tryz.results53 _ _ _ (by kernel_rfl)) (by kernel_rfl) ⟨by rw [hq, my_nil], ro_T hT M⟩

set_option maxRecDepth 100000 in
set_option maxHeartbeats 4000000 in
set_option linter.unusedSimpArgs false in
theorem d_Highest1 {y : TS} {gn : Bool} {d : Nat} {k cap : Nat} {Z : Obj} (hZ : SB Z cap (vsU y.q)) (h0 : 0 < y.q.length) (hl : y.q.length < 1000000) (w : World) (hL : Laid w)  (hT : There w [⟨d, .cells (av 14 (ls [.string y.sd, .string y.rv, .bool (y.fi), .int .u64 ((y.mt : Nat) : Int), .int .u64 ((y.rc : Nat) : Int), .int .u64 ((y.ct : Nat) : Int), .int .u64 ((y.rk : Nat) : Int), .int .u64 ((y.lf : Nat) : Int), .int .i64 ((y.sz : Nat) : Int), .int .u64 ((y.nx : Nat) : Int), .int .i64 ((y.sz : Nat) : Int), .slice (some ⟨k, 0, none⟩) y.q.length cap, .bool (y.su), .bool (gn)])) 51⟩, ⟨k, Z⟩]) :
    Calls Tryz.prog 73 #[.pointer (some ⟨d, 10, none⟩)] w fun r w' => r = .returned (.tuple #[.int .u64 ((mx y.q : Nat) : Int), .bool (decide (0 < y.q.length))]) ∧ Below w.heap.size w w' := by
  go_enter Tryz.func73, Tryz.ntmps73
  have M : Mem ⟨w, [d, k]⟩ [⟨d, .cells (av 14 (ls [.string y.sd, .string y.rv, .bool (y.fi), .int .u64 ((y.mt : Nat) : Int), .int .u64 ((y.rc : Nat) : Int), .int .u64 ((y.ct : Nat) : Int), .int .u64 ((y.rk : Nat) : Int), .int .u64 ((y.lf : Nat) : Int), .int .i64 ((y.sz : Nat) : Int), .int .u64 ((y.nx : Nat) : Int), .int .i64 ((y.sz : Nat) : Int), .slice (some ⟨k, 0, none⟩) y.q.length cap, .bool (y.su), .bool (gn)])) 51⟩, ⟨k, Z⟩] w := Mem.startT hL hT
  refine sq ?_
  refine sq ?_
  refine wp_seq ?_
  refine sq ?_
  refine wp_block ?_
  refine au_loop (fun j a w' => ∃ v1 : Nat → Value, a = (fm ([.pointer (some ⟨d, 10, none⟩), undef, .int .u64 0, .bool false, .int .u64 ((mx (y.q.take j) : Nat) : Int), .int .i64 (j : Int)] ++ vr v1 6 18 ++ und 7)) ∧ Mem ⟨w, [d, k]⟩ [⟨d, .cells (av 14 (ls [.string y.sd, .string y.rv, .bool (y.fi), .int .u64 ((y.mt : Nat) : Int), .int .u64 ((y.rc : Nat) : Int), .int .u64 ((y.ct : Nat) : Int), .int .u64 ((y.rk : Nat) : Int), .int .u64 ((y.lf : Nat) : Int), .int .i64 ((y.sz : Nat) : Int), .int .u64 ((y.nx : Nat) : Int), .int .i64 ((y.sz : Nat) : Int), .slice (some ⟨k, 0, none⟩) y.q.length cap, .bool (y.su), .bool (gn)])) 51⟩, ⟨k, Z⟩] w') y.q.length (exS M) ?_ ?_
  · intro j a u0 hj hI
    obtain ⟨v1, rfl, M⟩ := hI
    refine wp_seq ?_
    refine sR ?_
    refine rV 4 ?_
    refine ZE M 10 0 11 ?_
    refine rV 1 ?_
    refine ZT 12 ((j : Int) < ((y.q.length : Nat) : Int)) ?_
    refine nT ?_
    refine wp_cond_true (by kernel_rfl) ?_
    refine wp_skip ?_
    refine au_then ?_
    refine wp_seq ?_
    refine wp_block ?_
    refine rg_lit ?_
    refine rV 4 ?_
    refine ZE M 19 0 11 ?_
    refine rV 1 ?_
    refine pH 21 (.pointer (some ⟨k, j, none⟩)) (run_ix0 47 24 Tryz.underlying47 inz24 _ _ rfl k y.q.length cap (by kernel_rfl) .i64 j (by kernel_rfl) (by omega)) ?_
    refine pE M 22 k j (.int .u64 ((y.q.getD j 0 : Nat) : Int)) (fun w M => hZ.cell (M.get 1 rfl) (vsU_at y.q j (by omega))) ?_
    refine pH 23 (.int .u64 ((mx (y.q.take (j + 1)) : Nat) : Int)) (fun w => Eq.trans (b := .ok (.value (.int .u64 (if ((y.q.getD j 0 : Nat) : Int) > ((mx (y.q.take j) : Nat) : Int) then ((y.q.getD j 0 : Nat) : Int) else ((mx (y.q.take j) : Nat) : Int)))) w) (by kernel_rfl) (by rw [if_max, mx_step y.q j hj])) ?_
    refine rV 1 ?_
    refine pl_nil ?_
    refine au_block ?_
    refine au_then ?_
    refine rg_lit ?_
    refine rV 1 ?_
    refine pH 14 (.int .i64 ((j + 1 : Nat) : Int)) (fun w => Eq.trans (b := .ok (.value (.int .i64 (IntKind.wrap .i64 ((j : Int) + 1)))) w) (by kernel_rfl) (by rw [wrap64 (by omega) (by omega)]; rfl)) ?_
    refine rV 1 ?_
    refine nT ?_
    exact exS M
  · intro a u0 hI
    obtain ⟨v1, rfl, M⟩ := hI
    refine wp_seq ?_
    refine sR ?_
    refine rV 4 ?_
    refine ZE M 10 0 11 ?_
    refine rV 1 ?_
    refine ZF 12 (((y.q.length : Nat) : Int) < ((y.q.length : Nat) : Int)) ?_
    refine nT ?_
    refine wp_cond_false (by kernel_rfl) ?_
    refine wp_exit ?_
    refine au_then_exit ?_
    refine au_then_exit ?_
    refine au_block_exit ?_
    refine au_then ?_
    refine wp_seq ?_
    refine rg_held M [⟨d, .cells (av 14 (ls [.string y.sd, .string y.rv, .bool (y.fi), .int .u64 ((y.mt : Nat) : Int), .int .u64 ((y.rc : Nat) : Int), .int .u64 ((y.ct : Nat) : Int), .int .u64 ((y.rk : Nat) : Int), .int .u64 ((y.lf : Nat) : Int), .int .i64 ((y.sz : Nat) : Int), .int .u64 ((y.nx : Nat) : Int), .int .i64 ((y.sz : Nat) : Int), .slice (some ⟨k, 0, none⟩) y.q.length cap, .bool (y.su), .bool (gn)])) 51⟩, ⟨k, Z⟩] 8 rfl (by kernel_rfl) (by kernel_rfl) (fun _ _ d _ _ h => by cases d <;> exact h) fun u1 M => ?_
    replace M : Mem ⟨w, [d, k]⟩ [⟨d, .cells (av 14 (ls [.string y.sd, .string y.rv, .bool (y.fi), .int .u64 ((y.mt : Nat) : Int), .int .u64 ((y.rc : Nat) : Int), .int .u64 ((y.ct : Nat) : Int), .int .u64 ((y.rk : Nat) : Int), .int .u64 ((y.lf : Nat) : Int), .int .i64 ((y.sz : Nat) : Int), .int .u64 ((y.nx : Nat) : Int), .int .i64 ((y.sz : Nat) : Int), .slice (some ⟨k, 0, none⟩) y.q.length cap, .bool (y.su), .bool (gn)])) 51⟩, ⟨k, Z⟩] u1 := M
    refine qV M 0 24 (.int .u64 ((mx (y.q.take y.q.length) : Nat) : Int)) ?_
    refine qV M 1 25 (.pointer (some ⟨d, 10, none⟩)) ?_
    refine qV M 2 26 (.pointer (some ⟨d, 10, none⟩)) ?_
    refine qV M 3 27 (.pointer (some ⟨d, 11, none⟩)) ?_
    refine hl_cell M 4 rfl (by decide) (by kernel_rfl) (by kernel_rfl) (want_no rfl) (some 28) rfl 47 _ rfl d 11 (by kernel_rfl) (.slice (some ⟨k, 0, none⟩) y.q.length cap) (fun _ => by kernel_rfl) (fun w M => M.cell 0 rfl (by decide) rfl) ?_
    refine qV M 5 29 (.int .i64 ((y.q.length : Nat) : Int)) ?_
    by_cases c0 : 0 < ((y.q.length : Nat) : Int)
    · skip
      refine hl_val M 6 rfl (by decide) (by kernel_rfl) (by kernel_rfl) (want_no rfl) (some 30) rfl (.bool true) (fun w _ => (fun w => Eq.trans (b := .ok (.value (.bool (decide (0 < ((y.q.length : Nat) : Int))))) w) (by kernel_rfl) (by rw [decide_eq_true (c0)])) w) ?_
      refine qV M 7 2 (.int .u64 ((mx (y.q.take y.q.length) : Nat) : Int)) ?_
      refine hl_end (by kernel_rfl) (by kernel_rfl) rfl ?_
      refine rV 1 ?_
      refine nT ?_
      refine au_then ?_
      refine wp_ret ?_
      exact bodyPost_ret (v := .tuple #[.int .u64 ((mx (y.q.take y.q.length) : Nat) : Int), .bool true]) (results_tmp2 Tryz.results73 _ _ _ _ (by kernel_rfl) (by kernel_rfl)) (by kernel_rfl) ⟨by rw [List.take_length, decide_eq_true h0], ro_T hT M⟩
    · exfalso; omega

set_option maxRecDepth 100000 in
set_option maxHeartbeats 4000000 in
set_option linter.unusedSimpArgs false in
theorem d_May1 {y : TS} {gn : Bool} {d : Nat} {k cap : Nat} {Z : Obj} (hZ : SB Z cap (vsU y.q)) (h0 : 0 < y.q.length) (hl : y.q.length < 1000000) {n : Nat} (hs : 1 ≤ y.sz) (hs4 : y.sz ≤ 4096) (hM : ∀ x ∈ y.q, x < 18446744073709551616) (w : World) (hL : Laid w)  (hT : There w [⟨d, .cells (av 14 (ls [.string y.sd, .string y.rv, .bool (y.fi), .int .u64 ((y.mt : Nat) : Int), .int .u64 ((y.rc : Nat) : Int), .int .u64 ((y.ct : Nat) : Int), .int .u64 ((y.rk : Nat) : Int), .int .u64 ((y.lf : Nat) : Int), .int .i64 ((y.sz : Nat) : Int), .int .u64 ((y.nx : Nat) : Int), .int .i64 ((y.sz : Nat) : Int), .slice (some ⟨k, 0, none⟩) y.q.length cap, .bool (y.su), .bool (gn)])) 51⟩, ⟨k, Z⟩]) :
    Calls Tryz.prog 53 #[.pointer (some ⟨d, 10, none⟩), .int .u64 (n : Int)] w fun r w' => r = .returned (.int .i64 (my y.sz y.q n)) ∧ Below w.heap.size w w' := by
  go_enter Tryz.func53, Tryz.ntmps53
  have M : Mem ⟨w, [d, k]⟩ [⟨d, .cells (av 14 (ls [.string y.sd, .string y.rv, .bool (y.fi), .int .u64 ((y.mt : Nat) : Int), .int .u64 ((y.rc : Nat) : Int), .int .u64 ((y.ct : Nat) : Int), .int .u64 ((y.rk : Nat) : Int), .int .u64 ((y.lf : Nat) : Int), .int .i64 ((y.sz : Nat) : Int), .int .u64 ((y.nx : Nat) : Int), .int .i64 ((y.sz : Nat) : Int), .slice (some ⟨k, 0, none⟩) y.q.length cap, .bool (y.su), .bool (gn)])) 51⟩, ⟨k, Z⟩] w := Mem.startT hL hT
  have hmx := mx_lt (by decide) hM
  refine sq ?_
  refine sR ?_
  refine rV 1 ?_
  refine pC M 10 73 #[.pointer (some ⟨d, 10, none⟩)] (.tuple #[.int .u64 ((mx y.q : Nat) : Int), .bool true]) (fun w M => call_val (d_Highest1 hZ h0 hl w M.laid (M.there (.cons_cons _ (.cons_cons _ (List.nil_sublist _))))) (by rw [decide_eq_true h0])) fun u1 M => ?_
  refine rV 5 ?_
  refine nT ?_
  refine wp_seq ?_
  refine sR ?_
  refine rV 4 ?_
  by_cases c0 : (n : Int) < ((mx y.q : Nat) : Int)
  · skip
    refine pl_val (want_on 1 true rfl 14 rfl (by kernel_rfl)) (some 17) rfl (.bool true) (fun w => Eq.trans (b := .ok (.value (.bool (decide ((n : Int) < ((mx y.q : Nat) : Int))))) w) (by kernel_rfl) (by rw [decide_eq_true (c0)])) ?_
    refine rV 4 ?_
    refine pl_val (want_on 6 true rfl 19 rfl (by kernel_rfl)) (some 22) rfl (.int .u64 ((mx y.q - n : Nat) : Int)) (fun w => Eq.trans (b := .ok (.value (.int .u64 (IntKind.wrap .u64 ((((mx y.q) : Nat) : Int) - ((n : Nat) : Int))))) w) (by kernel_rfl) (by rw [wrapU_sub (mx y.q) n (by omega) (by omega)])) ?_
    refine rV 3 ?_
    refine pl_cell M (want_on 6 true rfl 19 rfl (by kernel_rfl)) (some 26) rfl 3 _ rfl d 10 (by kernel_rfl) (.int .i64 ((y.sz : Nat) : Int)) (fun _ => by kernel_rfl) (fun w M => M.cell 0 rfl (by decide) rfl) ?_
    refine pl_val (want_on 6 true rfl 19 rfl (by kernel_rfl)) (some 27) rfl (.int .u64 ((y.sz : Nat) : Int)) (fun w => Eq.trans (b := .ok (.value (.int .u64 (cv .u64 ((y.sz : Nat) : Int)))) w) (by kernel_rfl) (by rw [cv_u64, Int.emod_eq_of_lt (by omega) (by omega)])) ?_
    by_cases c1 : ((mx y.q - n : Nat) : Int) < ((y.sz : Nat) : Int)
    · skip
      refine pl_val (want_on 6 true rfl 19 rfl (by kernel_rfl)) (some 28) rfl (.bool false) (fun w => Eq.trans (b := .ok (.value (.bool (decide (((y.sz : Nat) : Int) ≤ ((mx y.q - n : Nat) : Int))))) w) (by kernel_rfl) (by rw [decide_eq_false (by omega)])) ?_
      refine rV 1 ?_
      refine nT ?_
      refine wp_cond_false (by kernel_rfl) ?_
      refine wp_skip ?_
      refine au_then ?_
      refine wp_seq ?_
      refine sq ?_
      refine wp_block ?_
      refine au_loop (fun j a w' => ∃ v1 : Nat → Value, a = (fm ([.pointer (some ⟨d, 10, none⟩), .int .u64 (n : Int), undef, undef, v1 4, .int .u64 ((mx y.q : Nat) : Int), .bool true, .int .i64 (j : Int), .tuple #[.int .u64 ((mx y.q : Nat) : Int), .bool true], .pointer (some ⟨d, 10, none⟩), .tuple #[.int .u64 ((mx y.q : Nat) : Int), .bool true], .int .u64 ((mx y.q : Nat) : Int), .bool true, .bool true, .bool true, .int .u64 (n : Int), .int .u64 ((mx y.q : Nat) : Int), .bool true, .bool true, .bool true, .int .u64 ((mx y.q : Nat) : Int), .int .u64 (n : Int), .int .u64 ((mx y.q - n : Nat) : Int), .pointer (some ⟨d, 10, none⟩), .pointer (some ⟨d, 10, none⟩), .pointer (some ⟨d, 10, none⟩), .int .i64 ((y.sz : Nat) : Int), .int .u64 ((y.sz : Nat) : Int), .bool false, .bool false] ++ vr v1 30 18)) ∧ Mem ⟨w, [d, k]⟩ [⟨d, .cells (av 14 (ls [.string y.sd, .string y.rv, .bool (y.fi), .int .u64 ((y.mt : Nat) : Int), .int .u64 ((y.rc : Nat) : Int), .int .u64 ((y.ct : Nat) : Int), .int .u64 ((y.rk : Nat) : Int), .int .u64 ((y.lf : Nat) : Int), .int .i64 ((y.sz : Nat) : Int), .int .u64 ((y.nx : Nat) : Int), .int .i64 ((y.sz : Nat) : Int), .slice (some ⟨k, 0, none⟩) y.q.length cap, .bool (y.su), .bool (gn)])) 51⟩, ⟨k, Z⟩] w' ∧ (∀ i, i < j → y.q.getD i 0 ≠ n)) y.q.length ⟨fun k_ => ([.int .i64 0, undef, undef, undef, undef, undef, undef, undef, undef, undef, undef, undef, undef, undef, undef, undef, undef, undef, undef, undef, undef, undef, undef, undef, undef, undef, undef, undef, undef, undef, undef, undef, undef, undef, undef, undef, undef, undef, undef, undef, undef, undef, undef, undef] : List Value).getD (k_ - 4) undef, by kernel_rfl, M, fun i hi => absurd hi (Nat.not_lt_zero i)⟩ ?_ ?_
      · intro j a u0 hj hI
        obtain ⟨v1, rfl, M, hx⟩ := hI
        refine wp_seq ?_
        refine sR ?_
        refine rV 4 ?_
        refine ZE M 34 0 11 ?_
        refine rV 1 ?_
        refine ZT 36 ((j : Int) < ((y.q.length : Nat) : Int)) ?_
        refine nT ?_
        refine wp_cond_true (by kernel_rfl) ?_
        refine wp_skip ?_
        refine au_then ?_
        refine wp_seq ?_
        refine wp_block ?_
        refine sR ?_
        refine rV 3 ?_
        refine ZE M 42 0 11 ?_
        refine rV 1 ?_
        refine pH 44 (.pointer (some ⟨k, j, none⟩)) (run_ix0 47 24 Tryz.underlying47 inz24 _ _ rfl k y.q.length cap (by kernel_rfl) .i64 j (by kernel_rfl) (by omega)) ?_
        refine pE M 45 k j (.int .u64 ((y.q.getD j 0 : Nat) : Int)) (fun w M => hZ.cell (M.get 1 rfl) (vsU_at y.q j (by omega))) ?_
        refine rV 1 ?_
        by_cases c2 : ((y.q.getD j 0 : Nat) : Int) = (n : Int)
        · skip
          refine pH 47 (.bool true) (jT (((y.q.getD j 0 : Nat) : Int) = (n : Int)) (c2)) ?_
          refine nT ?_
          refine wp_cond_true (by kernel_rfl) ?_
          refine sq ?_
          refine wp_ret ?_
          refine au_block_ret ?_
          refine au_then_ret ?_
          refine au_then_ret ?_
          refine au_block_ret ?_
          refine au_then_ret ?_
          exact bodyPost_ret (v := .int .i64 9) (results_tmp1 Tryz.results53 _ _ _ (by kernel_rfl)) (by kernel_rfl) ⟨by rw [my_there y.q j hj (by omega) (by omega)], ro_T hT M⟩
        · skip
          refine pH 47 (.bool false) (jF (((y.q.getD j 0 : Nat) : Int) = (n : Int)) (c2)) ?_
          refine nT ?_
          refine wp_cond_false (by kernel_rfl) ?_
          refine wp_skip ?_
          refine au_block ?_
          refine au_then ?_
          refine rg_lit ?_
          refine rV 1 ?_
          refine pH 38 (.int .i64 ((j + 1 : Nat) : Int)) (fun w => Eq.trans (b := .ok (.value (.int .i64 (IntKind.wrap .i64 ((j : Int) + 1)))) w) (by kernel_rfl) (by rw [wrap64 (by omega) (by omega)]; rfl)) ?_
          refine rV 1 ?_
          refine nT ?_
          exact ⟨fun k_ => ([v1 4, undef, undef, undef, undef, undef, undef, undef, undef, undef, undef, undef, undef, undef, undef, undef, undef, undef, undef, undef, undef, undef, undef, undef, undef, undef, .int .i64 (j : Int), .pointer (some ⟨d, 10, none⟩), .pointer (some ⟨d, 10, none⟩), .pointer (some ⟨d, 11, none⟩), .slice (some ⟨k, 0, none⟩) y.q.length cap, .int .i64 ((y.q.length : Nat) : Int), .bool true, .int .i64 (j : Int), .int .i64 ((j + 1 : Nat) : Int), .pointer (some ⟨d, 10, none⟩), .pointer (some ⟨d, 10, none⟩), .pointer (some ⟨d, 11, none⟩), .slice (some ⟨k, 0, none⟩) y.q.length cap, .int .i64 (j : Int), .pointer (some ⟨k, j, none⟩), .int .u64 ((y.q.getD j 0 : Nat) : Int), .int .u64 (n : Int), .bool false] : List Value).getD (k_ - 4) undef, by kernel_rfl, M, ex_step hx (by omega)⟩
      · intro a u0 hI
        obtain ⟨v1, rfl, M, hx⟩ := hI
        refine wp_seq ?_
        refine sR ?_
        refine rV 4 ?_
        refine ZE M 34 0 11 ?_
        refine rV 1 ?_
        refine ZF 36 (((y.q.length : Nat) : Int) < ((y.q.length : Nat) : Int)) ?_
        refine nT ?_
        refine wp_cond_false (by kernel_rfl) ?_
        refine wp_exit ?_
        refine au_then_exit ?_
        refine au_then_exit ?_
        refine au_block_exit ?_
        refine au_then ?_
        refine sq ?_
        refine wp_ret ?_
        exact bodyPost_ret (v := .int .i64 0) (results_tmp1 Tryz.results53 _ _ _ (by kernel_rfl)) (by kernel_rfl) ⟨by rw [my_free y.q (by omega) hx], ro_T hT M⟩
    · skip
      refine pl_val (want_on 6 true rfl 19 rfl (by kernel_rfl)) (some 28) rfl (.bool true) (fun w => Eq.trans (b := .ok (.value (.bool (decide (((y.sz : Nat) : Int) ≤ ((mx y.q - n : Nat) : Int))))) w) (by kernel_rfl) (by rw [decide_eq_true (by omega)])) ?_
      refine rV 1 ?_
      refine nT ?_
      refine wp_cond_true (by kernel_rfl) ?_
      refine sq ?_
      refine wp_ret ?_
      refine au_then_ret ?_
      exact bodyPost_ret (v := .int .i64 170) (results_tmp1 Tryz.results53 _ _ _ (by kernel_rfl)) (by kernel_rfl) ⟨by rw [my_old y.q (by omega) (by omega) (by omega)], ro_T hT M⟩
  · skip
    refine pl_val (want_on 1 true rfl 14 rfl (by kernel_rfl)) (some 17) rfl (.bool false) (fun w => Eq.trans (b := .ok (.value (.bool (decide ((n : Int) < ((mx y.q : Nat) : Int))))) w) (by kernel_rfl) (by rw [decide_eq_false (c0)])) ?_
    refine rV 12 ?_
    refine nT ?_
    refine wp_cond_false (by kernel_rfl) ?_
    refine wp_skip ?_
    refine au_then ?_
    refine wp_seq ?_
    refine sq ?_
    refine wp_block ?_
    refine au_loop (fun j a w' => ∃ v1 : Nat → Value, a = (fm ([.pointer (some ⟨d, 10, none⟩), .int .u64 (n : Int), undef, undef, v1 4, .int .u64 ((mx y.q : Nat) : Int), .bool true, .int .i64 (j : Int), .tuple #[.int .u64 ((mx y.q : Nat) : Int), .bool true], .pointer (some ⟨d, 10, none⟩), .tuple #[.int .u64 ((mx y.q : Nat) : Int), .bool true], .int .u64 ((mx y.q : Nat) : Int), .bool true, .bool true, .bool true, .int .u64 (n : Int), .int .u64 ((mx y.q : Nat) : Int), .bool false, .bool false, .bool false] ++ und 9 ++ [.bool false] ++ vr v1 30 18)) ∧ Mem ⟨w, [d, k]⟩ [⟨d, .cells (av 14 (ls [.string y.sd, .string y.rv, .bool (y.fi), .int .u64 ((y.mt : Nat) : Int), .int .u64 ((y.rc : Nat) : Int), .int .u64 ((y.ct : Nat) : Int), .int .u64 ((y.rk : Nat) : Int), .int .u64 ((y.lf : Nat) : Int), .int .i64 ((y.sz : Nat) : Int), .int .u64 ((y.nx : Nat) : Int), .int .i64 ((y.sz : Nat) : Int), .slice (some ⟨k, 0, none⟩) y.q.length cap, .bool (y.su), .bool (gn)])) 51⟩, ⟨k, Z⟩] w' ∧ (∀ i, i < j → y.q.getD i 0 ≠ n)) y.q.length ⟨fun k_ => ([.int .i64 0, undef, undef, undef, undef, undef, undef, undef, undef, undef, undef, undef, undef, undef, undef, undef, undef, undef, undef, undef, undef, undef, undef, undef, undef, undef, undef, undef, undef, undef, undef, undef, undef, undef, undef, undef, undef, undef, undef, undef, undef, undef, undef, undef] : List Value).getD (k_ - 4) undef, by kernel_rfl, M, fun i hi => absurd hi (Nat.not_lt_zero i)⟩ ?_ ?_
    · intro j a u0 hj hI
      obtain ⟨v1, rfl, M, hx⟩ := hI
      refine wp_seq ?_
      refine sR ?_
      refine rV 4 ?_
      refine ZE M 34 0 11 ?_
      refine rV 1 ?_
      refine ZT 36 ((j : Int) < ((y.q.length : Nat) : Int)) ?_
      refine nT ?_
      refine wp_cond_true (by kernel_rfl) ?_
      refine wp_skip ?_
      refine au_then ?_
      refine wp_seq ?_
      refine wp_block ?_
      refine sR ?_
      refine rV 3 ?_
      refine ZE M 42 0 11 ?_
      refine rV 1 ?_
      refine pH 44 (.pointer (some ⟨k, j, none⟩)) (run_ix0 47 24 Tryz.underlying47 inz24 _ _ rfl k y.q.length cap (by kernel_rfl) .i64 j (by kernel_rfl) (by omega)) ?_
      refine pE M 45 k j (.int .u64 ((y.q.getD j 0 : Nat) : Int)) (fun w M => hZ.cell (M.get 1 rfl) (vsU_at y.q j (by omega))) ?_
      refine rV 1 ?_
      by_cases c1 : ((y.q.getD j 0 : Nat) : Int) = (n : Int)
      · skip
        refine pH 47 (.bool true) (jT (((y.q.getD j 0 : Nat) : Int) = (n : Int)) (c1)) ?_
        refine nT ?_
        refine wp_cond_true (by kernel_rfl) ?_
        refine sq ?_
        refine wp_ret ?_
        refine au_block_ret ?_
        refine au_then_ret ?_
        refine au_then_ret ?_
        refine au_block_ret ?_
        refine au_then_ret ?_
        exact bodyPost_ret (v := .int .i64 9) (results_tmp1 Tryz.results53 _ _ _ (by kernel_rfl)) (by kernel_rfl) ⟨by rw [my_there y.q j hj (by omega) (by omega)], ro_T hT M⟩
      · skip
        refine pH 47 (.bool false) (jF (((y.q.getD j 0 : Nat) : Int) = (n : Int)) (c1)) ?_
        refine nT ?_
        refine wp_cond_false (by kernel_rfl) ?_
        refine wp_skip ?_
        refine au_block ?_
        refine au_then ?_
        refine rg_lit ?_
        refine rV 1 ?_
        refine pH 38 (.int .i64 ((j + 1 : Nat) : Int)) (fun w => Eq.trans (b := .ok (.value (.int .i64 (IntKind.wrap .i64 ((j : Int) + 1)))) w) (by kernel_rfl) (by rw [wrap64 (by omega) (by omega)]; rfl)) ?_
        refine rV 1 ?_
        refine nT ?_
        exact ⟨fun k_ => ([v1 4, undef, undef, undef, undef, undef, undef, undef, undef, undef, undef, undef, undef, undef, undef, undef, undef, undef, undef, undef, undef, undef, undef, undef, undef, undef, .int .i64 (j : Int), .pointer (some ⟨d, 10, none⟩), .pointer (some ⟨d, 10, none⟩), .pointer (some ⟨d, 11, none⟩), .slice (some ⟨k, 0, none⟩) y.q.length cap, .int .i64 ((y.q.length : Nat) : Int), .bool true, .int .i64 (j : Int), .int .i64 ((j + 1 : Nat) : Int), .pointer (some ⟨d, 10, none⟩), .pointer (some ⟨d, 10, none⟩), .pointer (some ⟨d, 11, none⟩), .slice (some ⟨k, 0, none⟩) y.q.length cap, .int .i64 (j : Int), .pointer (some ⟨k, j, none⟩), .int .u64 ((y.q.getD j 0 : Nat) : Int), .int .u64 (n : Int), .bool false] : List Value).getD (k_ - 4) undef, by kernel_rfl, M, ex_step hx (by omega)⟩
    · intro a u0 hI
      obtain ⟨v1, rfl, M, hx⟩ := hI
      refine wp_seq ?_
      refine sR ?_
      refine rV 4 ?_
      refine ZE M 34 0 11 ?_
      refine rV 1 ?_
      refine ZF 36 (((y.q.length : Nat) : Int) < ((y.q.length : Nat) : Int)) ?_
      refine nT ?_
      refine wp_cond_false (by kernel_rfl) ?_
      refine wp_exit ?_
      refine au_then_exit ?_
      refine au_then_exit ?_
      refine au_block_exit ?_
      refine au_then ?_
      refine sq ?_
      refine wp_ret ?_
      exact bodyPost_ret (v := .int .i64 0) (results_tmp1 Tryz.results53 _ _ _ (by kernel_rfl)) (by kernel_rfl) ⟨by rw [my_free y.q (by omega) hx], ro_T hT M⟩

theorem sb1 {Z : Obj} {cap : Nat} {l : List Value} (h : SB Z (cap * 1) l) : SB Z cap l := by rwa [Nat.mul_one] at h
theorem e_May {y : TS} {gn : Bool} {d : Nat} {n : Nat} {sv : Value} {Ts : List Blk} (hS : SlV 1 (vsU y.q) y.q.length sv Ts) (hs : 1 ≤ y.sz) (hs4 : y.sz ≤ 4096) (hl : y.q.length < 1000000) (hM : ∀ x ∈ y.q, x < 18446744073709551616) (w : World) (hL : Laid w) (hT : There w (⟨d, .cells (av 14 (ls [.string y.sd, .string y.rv, .bool (y.fi), .int .u64 ((y.mt : Nat) : Int), .int .u64 ((y.rc : Nat) : Int), .int .u64 ((y.ct : Nat) : Int), .int .u64 ((y.rk : Nat) : Int), .int .u64 ((y.lf : Nat) : Int), .int .i64 ((y.sz : Nat) : Int), .int .u64 ((y.nx : Nat) : Int), .int .i64 ((y.sz : Nat) : Int), sv, .bool (y.su), .bool (gn)])) 51⟩ :: Ts)) :
    Calls Tryz.prog 53 #[.pointer (some ⟨d, 10, none⟩), .int .u64 (n : Int)] w fun r w' => r = .returned (.int .i64 (my y.sz y.q n)) ∧ Below w.heap.size w w' := by
  rcases hS.ex with ⟨h0, rfl, rfl⟩ | ⟨g, cap, Z, h0, rfl, hle, hZ, rfl⟩
  · exact d_May0 (List.length_eq_zero_iff.1 h0) w hL hT
  · exact d_May1 (sb1 hZ) h0 hl hs hs4 hM w hL hT
theorem infoU : InfoK Tryz.prog 24 1 (.int .u64 0) := infoK (b := 8) (by kernel_rfl) (by kernel_rfl) (by kernel_rfl) (by decide)
set_option maxRecDepth 100000 in
set_option maxHeartbeats 4000000 in
set_option linter.unusedSimpArgs false in
theorem e_Mark {y : TS} {gn : Bool} {d : Nat} {n : Nat} {sv : Value} {Ts : List Blk} (hS : SlV 1 (vsU y.q) y.q.length sv Ts) (hs : 1 ≤ y.sz) (hs4 : y.sz ≤ 4096) (hl : y.q.length < 1000000) (hM : ∀ x ∈ y.q, x < 18446744073709551616) (w : World) (hL : Laid w)  (hT : There w (⟨d, .cells (av 14 (ls [.string y.sd, .string y.rv, .bool (y.fi), .int .u64 ((y.mt : Nat) : Int), .int .u64 ((y.rc : Nat) : Int), .int .u64 ((y.ct : Nat) : Int), .int .u64 ((y.rk : Nat) : Int), .int .u64 ((y.lf : Nat) : Int), .int .i64 ((y.sz : Nat) : Int), .int .u64 ((y.nx : Nat) : Int), .int .i64 ((y.sz : Nat) : Int), sv, .bool (y.su), .bool (gn)])) 51⟩ :: Ts)) :
    Calls Tryz.prog 55 #[.pointer (some ⟨d, 10, none⟩), .int .u64 (n : Int)] w fun r w' => ∃ x : Value × List Blk, r = .returned (.int .i64 (my y.sz y.q n)) ∧ SlV 1 (vsU (mk y.sz y.q n)) (mk y.sz y.q n).length x.1 x.2 ∧ OkT w w' (⟨d, .cells (av 14 (ls [.string y.sd, .string y.rv, .bool (y.fi), .int .u64 ((y.mt : Nat) : Int), .int .u64 ((y.rc : Nat) : Int), .int .u64 ((y.ct : Nat) : Int), .int .u64 ((y.rk : Nat) : Int), .int .u64 ((y.lf : Nat) : Int), .int .i64 ((y.sz : Nat) : Int), .int .u64 ((y.nx : Nat) : Int), .int .i64 ((y.sz : Nat) : Int), sv, .bool (y.su), .bool (gn)])) 51⟩ :: Ts) (⟨d, .cells (av 14 (ls [.string y.sd, .string y.rv, .bool (y.fi), .int .u64 ((y.mt : Nat) : Int), .int .u64 ((y.rc : Nat) : Int), .int .u64 ((y.ct : Nat) : Int), .int .u64 ((y.rk : Nat) : Int), .int .u64 ((y.lf : Nat) : Int), .int .i64 ((y.sz : Nat) : Int), .int .u64 ((y.nx : Nat) : Int), .int .i64 ((y.sz : Nat) : Int), x.1, .bool (y.su), .bool (gn)])) 51⟩ :: x.2) := by
  go_enter Tryz.func55, Tryz.ntmps55
  have M : Mem ⟨w, (⟨d, .cells (av 14 (ls [.string y.sd, .string y.rv, .bool (y.fi), .int .u64 ((y.mt : Nat) : Int), .int .u64 ((y.rc : Nat) : Int), .int .u64 ((y.ct : Nat) : Int), .int .u64 ((y.rk : Nat) : Int), .int .u64 ((y.lf : Nat) : Int), .int .i64 ((y.sz : Nat) : Int), .int .u64 ((y.nx : Nat) : Int), .int .i64 ((y.sz : Nat) : Int), sv, .bool (y.su), .bool (gn)])) 51⟩ :: Ts).map Blk.g⟩ (⟨d, .cells (av 14 (ls [.string y.sd, .string y.rv, .bool (y.fi), .int .u64 ((y.mt : Nat) : Int), .int .u64 ((y.rc : Nat) : Int), .int .u64 ((y.ct : Nat) : Int), .int .u64 ((y.rk : Nat) : Int), .int .u64 ((y.lf : Nat) : Int), .int .i64 ((y.sz : Nat) : Int), .int .u64 ((y.nx : Nat) : Int), .int .i64 ((y.sz : Nat) : Int), sv, .bool (y.su), .bool (gn)])) 51⟩ :: Ts) w := Mem.startT hL hT
  refine sq ?_
  refine sR ?_
  refine rV 2 ?_
  refine pC M 8 53 #[.pointer (some ⟨d, 10, none⟩), .int .u64 (n : Int)] (.int .i64 (my y.sz y.q n)) (fun w M => e_May hS hs hs4 hl hM w M.laid (M.there (List.Sublist.refl _))) fun u1 M => ?_
  refine rV 1 ?_
  refine nT ?_
  refine wp_seq ?_
  refine sR ?_
  refine rV 1 ?_
  by_cases c0 : (my y.sz y.q n) = 0
  · skip
    refine pH 10 (.bool true) (jT ((my y.sz y.q n) = 0) (c0)) ?_
    refine nT ?_
    refine wp_cond_true (by kernel_rfl) ?_
    refine rg_lit ?_
    refine rV 4 ?_
    refine ZE M 15 0 11 ?_
    refine rV 1 ?_
    refine ZM M 17 (fun g1 => .slice (some ⟨g1, 0, none⟩) 1 1) (.cells (av 1 (ls [.int .u64 (n : Int)])) 24) fun g1 u2 M => ?_
    replace M := M.front
    replace M : Mem ⟨w, (⟨d, .cells (av 14 (ls [.string y.sd, .string y.rv, .bool (y.fi), .int .u64 ((y.mt : Nat) : Int), .int .u64 ((y.rc : Nat) : Int), .int .u64 ((y.ct : Nat) : Int), .int .u64 ((y.rk : Nat) : Int), .int .u64 ((y.lf : Nat) : Int), .int .i64 ((y.sz : Nat) : Int), .int .u64 ((y.nx : Nat) : Int), .int .i64 ((y.sz : Nat) : Int), sv, .bool (y.su), .bool (gn)])) 51⟩ :: Ts).map Blk.g⟩ (⟨g1, .cells (av 1 (ls [.int .u64 (n : Int)])) 24⟩ :: ⟨d, .cells (av 14 (ls [.string y.sd, .string y.rv, .bool (y.fi), .int .u64 ((y.mt : Nat) : Int), .int .u64 ((y.rc : Nat) : Int), .int .u64 ((y.ct : Nat) : Int), .int .u64 ((y.rk : Nat) : Int), .int .u64 ((y.lf : Nat) : Int), .int .i64 ((y.sz : Nat) : Int), .int .u64 ((y.nx : Nat) : Int), .int .i64 ((y.sz : Nat) : Int), sv, .bool (y.su), .bool (gn)])) 51⟩ :: Ts) u2 := M
    refine pl_appS M (want_no rfl) (some 18) rfl 47 47 24 1 (.int .u64 0) Tryz.underlying47 infoU rfl [⟨g1, .cells (av 1 (ls [.int .u64 (n : Int)])) 24⟩, ⟨d, .cells (av 14 (ls [.string y.sd, .string y.rv, .bool (y.fi), .int .u64 ((y.mt : Nat) : Int), .int .u64 ((y.rc : Nat) : Int), .int .u64 ((y.ct : Nat) : Int), .int .u64 ((y.rk : Nat) : Int), .int .u64 ((y.lf : Nat) : Int), .int .i64 ((y.sz : Nat) : Int), .int .u64 ((y.nx : Nat) : Int), .int .i64 ((y.sz : Nat) : Int), sv, .bool (y.su), .bool (gn)])) 51⟩] Ts [] (by simp only [List.append_assoc, List.cons_append, List.nil_append, List.append_nil]) sv y.q.length (vsU y.q) hS (by omega) 0 g1 24 (ls [.int .u64 (n : Int)]) rfl (one_ls _ rfl) (fun _ => by kernel_rfl) ?_
    intro sv2 T2 u3 hS2 M
    replace M : Mem ⟨w, (⟨d, .cells (av 14 (ls [.string y.sd, .string y.rv, .bool (y.fi), .int .u64 ((y.mt : Nat) : Int), .int .u64 ((y.rc : Nat) : Int), .int .u64 ((y.ct : Nat) : Int), .int .u64 ((y.rk : Nat) : Int), .int .u64 ((y.lf : Nat) : Int), .int .i64 ((y.sz : Nat) : Int), .int .u64 ((y.nx : Nat) : Int), .int .i64 ((y.sz : Nat) : Int), sv, .bool (y.su), .bool (gn)])) 51⟩ :: Ts).map Blk.g⟩ (⟨g1, .cells (av 1 (ls [.int .u64 (n : Int)])) 24⟩ :: ⟨d, .cells (av 14 (ls [.string y.sd, .string y.rv, .bool (y.fi), .int .u64 ((y.mt : Nat) : Int), .int .u64 ((y.rc : Nat) : Int), .int .u64 ((y.ct : Nat) : Int), .int .u64 ((y.rk : Nat) : Int), .int .u64 ((y.lf : Nat) : Int), .int .i64 ((y.sz : Nat) : Int), .int .u64 ((y.nx : Nat) : Int), .int .i64 ((y.sz : Nat) : Int), sv, .bool (y.su), .bool (gn)])) 51⟩ :: T2) u3 := by simpa only [List.append_assoc, List.cons_append, List.nil_append, List.append_nil] using M
    refine rV 2 ?_
    refine (pl_put1 M (want_no rfl) rfl 47 _ _ rfl 1 d 11 (by kernel_rfl) 14 51 (ls [.string y.sd, .string y.rv, .bool (y.fi), .int .u64 ((y.mt : Nat) : Int), .int .u64 ((y.rc : Nat) : Int), .int .u64 ((y.ct : Nat) : Int), .int .u64 ((y.rk : Nat) : Int), .int .u64 ((y.lf : Nat) : Int), .int .i64 ((y.sz : Nat) : Int), .int .u64 ((y.nx : Nat) : Int), .int .i64 ((y.sz : Nat) : Int), sv, .bool (y.su), .bool (gn)]) rfl (sv2) (ls [.string y.sd, .string y.rv, .bool (y.fi), .int .u64 ((y.mt : Nat) : Int), .int .u64 ((y.rc : Nat) : Int), .int .u64 ((y.ct : Nat) : Int), .int .u64 ((y.rk : Nat) : Int), .int .u64 ((y.lf : Nat) : Int), .int .i64 ((y.sz : Nat) : Int), .int .u64 ((y.nx : Nat) : Int), .int .i64 ((y.sz : Nat) : Int), sv2, .bool (y.su), .bool (gn)]) (by kernel_rfl) inz47 (by decide) (slv_one hS2) (slv_cells hS2) (put_ls _ 11 _ _ rfl) ?_)
    intro u4 M
    replace M : Mem ⟨w, (⟨d, .cells (av 14 (ls [.string y.sd, .string y.rv, .bool (y.fi), .int .u64 ((y.mt : Nat) : Int), .int .u64 ((y.rc : Nat) : Int), .int .u64 ((y.ct : Nat) : Int), .int .u64 ((y.rk : Nat) : Int), .int .u64 ((y.lf : Nat) : Int), .int .i64 ((y.sz : Nat) : Int), .int .u64 ((y.nx : Nat) : Int), .int .i64 ((y.sz : Nat) : Int), sv, .bool (y.su), .bool (gn)])) 51⟩ :: Ts).map Blk.g⟩ (⟨g1, .cells (av 1 (ls [.int .u64 (n : Int)])) 24⟩ :: ⟨d, .cells (av 14 (ls [.string y.sd, .string y.rv, .bool (y.fi), .int .u64 ((y.mt : Nat) : Int), .int .u64 ((y.rc : Nat) : Int), .int .u64 ((y.ct : Nat) : Int), .int .u64 ((y.rk : Nat) : Int), .int .u64 ((y.lf : Nat) : Int), .int .i64 ((y.sz : Nat) : Int), .int .u64 ((y.nx : Nat) : Int), .int .i64 ((y.sz : Nat) : Int), sv2, .bool (y.su), .bool (gn)])) 51⟩ :: T2) u4 := M
    refine nT ?_
    refine sq ?_
    refine wp_ret ?_
    exact bodyPost_ret (v := .int .i64 (my y.sz y.q n)) (results_tmp1 Tryz.results55 _ _ _ (by kernel_rfl)) (by kernel_rfl) ⟨(sv2, T2), by rw [c0], by rw [mk_yes c0, vsU_app, List.length_append]; exact hS2, (M.drop (.cons _ (.cons_cons _ (List.Sublist.refl _)))).okT0⟩
  · skip
    refine pH 10 (.bool false) (jF ((my y.sz y.q n) = 0) (c0)) ?_
    refine nT ?_
    refine wp_cond_false (by kernel_rfl) ?_
    refine wp_skip ?_
    refine au_then ?_
    refine sq ?_
    refine wp_ret ?_
    exact bodyPost_ret (v := .int .i64 (my y.sz y.q n)) (results_tmp1 Tryz.results55 _ _ _ (by kernel_rfl)) (by kernel_rfl) ⟨(sv, Ts), rfl, by rw [mk_no c0]; exact hS, M.okT0⟩


end Go.Proofs.YtenafinbaanicaaGreatDoor
namespace Go.Proofs.YtenafinbaanicaaGreatDoor
open Go.RowKit
set_option maxRecDepth 100000

def dov (y : TS) (gn : Bool) (n : Nat) : Bool := gn || decide (y.lf ≤ n - y.mt)
def dwn (y : TS) (gn : Bool) (n : Nat) : Bool := y.fi && (!dov y gn n && decide (y.rc ≤ y.nx ∨ y.rk ≤ n - y.mt))
def daF (y : TS) (gn : Bool) (n : Nat) : Int := if dov y gn n = true then 180 else if y.ct ≤ y.nx then 180 else if y.su = true then 0 else 3
def daN (y : TS) (gn : Bool) (n : Nat) : Nat := if daF y gn n = 0 then y.nx else 0
def daC (y : TS) (gn : Bool) (n : Nat) (s : ByteArray) : ByteArray := if daF y gn n = 0 then sealS y.sd (nS (y.nx : Int)) ⟨#[]⟩ s else ⟨#[]⟩
def daX (y : TS) (gn : Bool) (n : Nat) : Nat := if daF y gn n = 0 then y.nx + 1 else y.nx
def daO (y : TS) (gn : Bool) (n i : Nat) : Int := if dov y gn n = true then 180 else if y.ct ≤ i then 180 else my y.sz y.q i
def mdB (rc ct rk lf : Nat) (z : Int) : Bool := mbB rc ct rk lf && decide (1 ≤ z ∧ z ≤ 4096)
theorem wrapU_pre (a : Nat) (h : a + 1 < 18446744073709551616) : IntKind.wrap .u64 (((a + 1 : Nat) : Int) - 1) = ((a : Nat) : Int) := by
  rw [IntKind.wrap_u64]
  omega
theorem d_AOpen (rv : ByteArray) (i : Nat) (c : ByteArray) (hr : rv.size = 32) (hc : c.size ≤ 5000) (w : World) (hL : Laid w) : Calls Tryz.prog 54 #[.string rv, .string (nS (i : Int)), .string ⟨#[]⟩, .string c] w fun r w' => r = .returned (.tuple #[.string (opC rv i c), .int .i64 (opZ rv i c)]) ∧ Below w.heap.size w w' := by
  have hm : rv.size = 32 ∧ (nS (i : Int)).size = 12 := ⟨hr, nS_size _⟩
  have hz : (⟨#[]⟩ : ByteArray).size + c.size ≤ 5000 := by show 0 + c.size ≤ 5000; omega
  unfold opC
  by_cases h : c.size < 16
  · have e0 : sf rv (nS (i : Int)) ⟨#[]⟩ c 16 = 100 := by
      unfold sf
      rw [if_neg (by simp [hr, nS_size]), if_neg (by simp; omega), if_pos h]
    have e : opZ rv i c = 100 := by unfold opZ; rw [e0, if_neg (by decide)]
    rw [if_neg (by rw [e]; decide), e]
    exact d_OpenC _ _ _ _ hm hz h w hL
  · have e0 : sf rv (nS (i : Int)) ⟨#[]⟩ c 16 = 0 := sf_ok hm (Nat.zero_le _) (by omega) (by omega)
    by_cases h2 : tgX rv (nS (i : Int)) ⟨#[]⟩ c = c.extract (c.size - 16) c.size
    · have e : opZ rv i c = 0 := by unfold opZ; rw [if_pos e0, if_pos h2]
      rw [if_pos e, e]
      exact d_OpenA _ _ _ _ hm hz h h2 w hL
    · have e : opZ rv i c = 100 := by unfold opZ; rw [if_pos e0, if_neg h2]
      rw [if_neg (by rw [e]; decide), e]
      exact d_OpenB _ _ _ _ hm hz h h2 w hL
set_option maxRecDepth 100000 in
set_option maxHeartbeats 4000000 in
set_option linter.unusedSimpArgs false in
theorem c_dMay {rc ct rk lf : Nat} {z : Int} (w : World) (hL : Laid w)  :
    Calls Tryz.prog 26 #[.agg (av 5 (ls [.int .u64 (rc : Int), .int .u64 (ct : Int), .int .u64 (rk : Int), .int .u64 (lf : Int), .int .i64 z]))] w fun r w' => r = .returned (.bool (mdB rc ct rk lf z)) ∧ Below w.heap.size w w' := by
  go_enter Tryz.func26, Tryz.ntmps26
  have M := Mem.start hL
  refine sR ?_
  refine pN M 1 (.cells (av 5 (ls [.int .u64 (rc : Int), .int .u64 (ct : Int), .int .u64 (rk : Int), .int .u64 (lf : Int), .int .i64 z])) 26) fun g1 u1 M => ?_
  replace M : Mem ⟨w, []⟩ [⟨g1, .cells (av 5 (ls [.int .u64 (rc : Int), .int .u64 (ct : Int), .int .u64 (rk : Int), .int .u64 (lf : Int), .int .i64 z])) 26⟩] u1 := M
  refine rV 1 ?_
  refine nT ?_
  refine sR ?_
  refine rV 1 ?_
  refine ZE M 4 0 0 ?_
  by_cases c0 : (rc : Int) < 1
  · skip
    refine ZF 5 (1 ≤ (rc : Int)) ?_
    refine rV 40 ?_
    refine nT ?_
    refine wp_ret ?_
    have e0 : mdB rc ct rk lf z = false := by unfold mdB mbB; rw [← Bool.decide_and]; exact decide_eq_false (by omega)
    exact bodyPost_ret (v := .bool false) (results_tmp1 Tryz.results26 _ _ _ (by kernel_rfl)) (by kernel_rfl) ⟨by rw [e0], below_grown M.old⟩
  · skip
    refine ZT 5 (1 ≤ (rc : Int)) ?_
    refine rV 2 ?_
    refine pl_cell M (want_on 3 true rfl 6 rfl (by kernel_rfl)) (some 8) rfl 24 _ rfl g1 0 (by kernel_rfl) (.int .u64 (rc : Int)) (fun _ => by kernel_rfl) (fun w M => M.cell 0 rfl (by decide) rfl) ?_
    refine rV 1 ?_
    refine pl_cell M (want_on 3 true rfl 6 rfl (by kernel_rfl)) (some 10) rfl 24 _ rfl g1 1 (by kernel_rfl) (.int .u64 (ct : Int)) (fun _ => by kernel_rfl) (fun w M => M.cell 0 rfl (by decide) rfl) ?_
    by_cases c1 : (ct : Int) < (rc : Int)
    · skip
      refine pl_val (want_on 3 true rfl 6 rfl (by kernel_rfl)) (some 11) rfl (.bool false) (fun w => Eq.trans (b := .ok (.value (.bool (decide ((rc : Int) ≤ (ct : Int))))) w) (by kernel_rfl) (by rw [decide_eq_false (by omega)])) ?_
      refine rV 34 ?_
      refine nT ?_
      refine wp_ret ?_
      have e0 : mdB rc ct rk lf z = false := by unfold mdB mbB; rw [← Bool.decide_and]; exact decide_eq_false (by omega)
      exact bodyPost_ret (v := .bool false) (results_tmp1 Tryz.results26 _ _ _ (by kernel_rfl)) (by kernel_rfl) ⟨by rw [e0], below_grown M.old⟩
    · skip
      refine pl_val (want_on 3 true rfl 6 rfl (by kernel_rfl)) (some 11) rfl (.bool true) (fun w => Eq.trans (b := .ok (.value (.bool (decide ((rc : Int) ≤ (ct : Int))))) w) (by kernel_rfl) (by rw [decide_eq_true (by omega)])) ?_
      refine rV 3 ?_
      refine pl_cell M (want_on 10 true rfl 13 rfl (by kernel_rfl)) (some 15) rfl 24 _ rfl g1 1 (by kernel_rfl) (.int .u64 (ct : Int)) (fun _ => by kernel_rfl) (fun w M => M.cell 0 rfl (by decide) rfl) ?_
      by_cases c2 : 1152921504606846976 < (ct : Int)
      · skip
        refine pl_val (want_on 10 true rfl 13 rfl (by kernel_rfl)) (some 16) rfl (.bool false) (fun w => Eq.trans (b := .ok (.value (.bool (decide ((ct : Int) ≤ 1152921504606846976)))) w) (by kernel_rfl) (by rw [decide_eq_false (by omega)])) ?_
        refine rV 29 ?_
        refine nT ?_
        refine wp_ret ?_
        have e0 : mdB rc ct rk lf z = false := by unfold mdB mbB; rw [← Bool.decide_and]; exact decide_eq_false (by omega)
        exact bodyPost_ret (v := .bool false) (results_tmp1 Tryz.results26 _ _ _ (by kernel_rfl)) (by kernel_rfl) ⟨by rw [e0], below_grown M.old⟩
      · skip
        refine pl_val (want_on 10 true rfl 13 rfl (by kernel_rfl)) (some 16) rfl (.bool true) (fun w => Eq.trans (b := .ok (.value (.bool (decide ((ct : Int) ≤ 1152921504606846976)))) w) (by kernel_rfl) (by rw [decide_eq_true (by omega)])) ?_
        refine rV 3 ?_
        refine pl_cell M (want_on 15 true rfl 18 rfl (by kernel_rfl)) (some 20) rfl 24 _ rfl g1 2 (by kernel_rfl) (.int .u64 (rk : Int)) (fun _ => by kernel_rfl) (fun w M => M.cell 0 rfl (by decide) rfl) ?_
        by_cases c3 : (rk : Int) < 1
        · skip
          refine pl_val (want_on 15 true rfl 18 rfl (by kernel_rfl)) (some 21) rfl (.bool false) (fun w => Eq.trans (b := .ok (.value (.bool (decide (1 ≤ (rk : Int))))) w) (by kernel_rfl) (by rw [decide_eq_false (by omega)])) ?_
          refine rV 24 ?_
          refine nT ?_
          refine wp_ret ?_
          have e0 : mdB rc ct rk lf z = false := by unfold mdB mbB; rw [← Bool.decide_and]; exact decide_eq_false (by omega)
          exact bodyPost_ret (v := .bool false) (results_tmp1 Tryz.results26 _ _ _ (by kernel_rfl)) (by kernel_rfl) ⟨by rw [e0], below_grown M.old⟩
        · skip
          refine pl_val (want_on 15 true rfl 18 rfl (by kernel_rfl)) (some 21) rfl (.bool true) (fun w => Eq.trans (b := .ok (.value (.bool (decide (1 ≤ (rk : Int))))) w) (by kernel_rfl) (by rw [decide_eq_true (by omega)])) ?_
          refine rV 3 ?_
          refine pl_cell M (want_on 20 true rfl 23 rfl (by kernel_rfl)) (some 25) rfl 24 _ rfl g1 2 (by kernel_rfl) (.int .u64 (rk : Int)) (fun _ => by kernel_rfl) (fun w M => M.cell 0 rfl (by decide) rfl) ?_
          refine rV 1 ?_
          refine pl_cell M (want_on 20 true rfl 23 rfl (by kernel_rfl)) (some 27) rfl 24 _ rfl g1 3 (by kernel_rfl) (.int .u64 (lf : Int)) (fun _ => by kernel_rfl) (fun w M => M.cell 0 rfl (by decide) rfl) ?_
          by_cases c4 : (lf : Int) < (rk : Int)
          · skip
            refine pl_val (want_on 20 true rfl 23 rfl (by kernel_rfl)) (some 28) rfl (.bool false) (fun w => Eq.trans (b := .ok (.value (.bool (decide ((rk : Int) ≤ (lf : Int))))) w) (by kernel_rfl) (by rw [decide_eq_false (by omega)])) ?_
            refine rV 17 ?_
            refine nT ?_
            refine wp_ret ?_
            have e0 : mdB rc ct rk lf z = false := by unfold mdB mbB; rw [← Bool.decide_and]; exact decide_eq_false (by omega)
            exact bodyPost_ret (v := .bool false) (results_tmp1 Tryz.results26 _ _ _ (by kernel_rfl)) (by kernel_rfl) ⟨by rw [e0], below_grown M.old⟩
          · skip
            refine pl_val (want_on 20 true rfl 23 rfl (by kernel_rfl)) (some 28) rfl (.bool true) (fun w => Eq.trans (b := .ok (.value (.bool (decide ((rk : Int) ≤ (lf : Int))))) w) (by kernel_rfl) (by rw [decide_eq_true (by omega)])) ?_
            refine rV 3 ?_
            refine pl_cell M (want_on 27 true rfl 30 rfl (by kernel_rfl)) (some 32) rfl 24 _ rfl g1 3 (by kernel_rfl) (.int .u64 (lf : Int)) (fun _ => by kernel_rfl) (fun w M => M.cell 0 rfl (by decide) rfl) ?_
            by_cases c5 : 1152921504606846976 < (lf : Int)
            · skip
              refine pl_val (want_on 27 true rfl 30 rfl (by kernel_rfl)) (some 33) rfl (.bool false) (fun w => Eq.trans (b := .ok (.value (.bool (decide ((lf : Int) ≤ 1152921504606846976)))) w) (by kernel_rfl) (by rw [decide_eq_false (by omega)])) ?_
              refine rV 12 ?_
              refine nT ?_
              refine wp_ret ?_
              have e0 : mdB rc ct rk lf z = false := by unfold mdB mbB; rw [← Bool.decide_and]; exact decide_eq_false (by omega)
              exact bodyPost_ret (v := .bool false) (results_tmp1 Tryz.results26 _ _ _ (by kernel_rfl)) (by kernel_rfl) ⟨by rw [e0], below_grown M.old⟩
            · skip
              refine pl_val (want_on 27 true rfl 30 rfl (by kernel_rfl)) (some 33) rfl (.bool true) (fun w => Eq.trans (b := .ok (.value (.bool (decide ((lf : Int) ≤ 1152921504606846976)))) w) (by kernel_rfl) (by rw [decide_eq_true (by omega)])) ?_
              refine rV 3 ?_
              refine pl_cell M (want_on 32 true rfl 35 rfl (by kernel_rfl)) (some 37) rfl 3 _ rfl g1 4 (by kernel_rfl) (.int .i64 z) (fun _ => by kernel_rfl) (fun w M => M.cell 0 rfl (by decide) rfl) ?_
              by_cases c6 : z < 1
              · skip
                refine pl_val (want_on 32 true rfl 35 rfl (by kernel_rfl)) (some 38) rfl (.bool false) (fun w => Eq.trans (b := .ok (.value (.bool (decide (1 ≤ z)))) w) (by kernel_rfl) (by rw [decide_eq_false (by omega)])) ?_
                refine rV 7 ?_
                refine nT ?_
                refine wp_ret ?_
                have e0 : mdB rc ct rk lf z = false := by unfold mdB mbB; rw [← Bool.decide_and]; exact decide_eq_false (by omega)
                exact bodyPost_ret (v := .bool false) (results_tmp1 Tryz.results26 _ _ _ (by kernel_rfl)) (by kernel_rfl) ⟨by rw [e0], below_grown M.old⟩
              · skip
                refine pl_val (want_on 32 true rfl 35 rfl (by kernel_rfl)) (some 38) rfl (.bool true) (fun w => Eq.trans (b := .ok (.value (.bool (decide (1 ≤ z)))) w) (by kernel_rfl) (by rw [decide_eq_true (by omega)])) ?_
                refine rV 3 ?_
                refine pl_cell M (want_on 37 true rfl 40 rfl (by kernel_rfl)) (some 42) rfl 3 _ rfl g1 4 (by kernel_rfl) (.int .i64 z) (fun _ => by kernel_rfl) (fun w M => M.cell 0 rfl (by decide) rfl) ?_
                by_cases c7 : 4096 < z
                · skip
                  refine pl_val (want_on 37 true rfl 40 rfl (by kernel_rfl)) (some 43) rfl (.bool false) (fun w => Eq.trans (b := .ok (.value (.bool (decide (z ≤ 4096)))) w) (by kernel_rfl) (by rw [decide_eq_false (by omega)])) ?_
                  refine rV 2 ?_
                  refine nT ?_
                  refine wp_ret ?_
                  have e0 : mdB rc ct rk lf z = false := by unfold mdB mbB; rw [← Bool.decide_and]; exact decide_eq_false (by omega)
                  exact bodyPost_ret (v := .bool false) (results_tmp1 Tryz.results26 _ _ _ (by kernel_rfl)) (by kernel_rfl) ⟨by rw [e0], below_grown M.old⟩
                · skip
                  refine pl_val (want_on 37 true rfl 40 rfl (by kernel_rfl)) (some 43) rfl (.bool true) (fun w => Eq.trans (b := .ok (.value (.bool (decide (z ≤ 4096)))) w) (by kernel_rfl) (by rw [decide_eq_true (by omega)])) ?_
                  refine rV 2 ?_
                  refine nT ?_
                  refine wp_ret ?_
                  have e0 : mdB rc ct rk lf z = true := by unfold mdB mbB; rw [decide_eq_true (by omega), decide_eq_true (by omega)]; rfl
                  exact bodyPost_ret (v := .bool true) (results_tmp1 Tryz.results26 _ _ _ (by kernel_rfl)) (by kernel_rfl) ⟨by rw [e0], below_grown M.old⟩

set_option maxRecDepth 100000 in
set_option maxHeartbeats 4000000 in
set_option linter.unusedSimpArgs false in
theorem d_NewE {y0 y1 sd rv y4 : ByteArray} {fi : Bool} {mt rc ct rk lf : Nat} {z : Int} (hz : sd.size = 32 → rv.size = 32 → ¬ mdB rc ct rk lf z = true) (w : World) (hL : Laid w)  :
    Calls Tryz.prog 8 #[.agg (av 5 (ls [.string y0, .string y1, .string sd, .string rv, .string y4])), .bool (fi), .int .u64 (mt : Int), .agg (av 5 (ls [.int .u64 (rc : Int), .int .u64 (ct : Int), .int .u64 (rk : Int), .int .u64 (lf : Int), .int .i64 z]))] w fun r w' => r = .returned (.tuple #[.pointer none, .int .i64 2]) ∧ Below w.heap.size w w' := by
  go_enter Tryz.func8, Tryz.ntmps8
  have M := Mem.start hL
  refine sR ?_
  refine pN M 4 (.cells (av 5 (ls [.string y0, .string y1, .string sd, .string rv, .string y4])) 23) fun g1 u1 M => ?_
  replace M : Mem ⟨w, []⟩ [⟨g1, .cells (av 5 (ls [.string y0, .string y1, .string sd, .string rv, .string y4])) 23⟩] u1 := M
  refine pN M 7 (.cells (av 5 (ls [.int .u64 (rc : Int), .int .u64 (ct : Int), .int .u64 (rk : Int), .int .u64 (lf : Int), .int .i64 z])) 26) fun g2 u2 M => ?_
  replace M : Mem ⟨w, []⟩ [⟨g1, .cells (av 5 (ls [.string y0, .string y1, .string sd, .string rv, .string y4])) 23⟩, ⟨g2, .cells (av 5 (ls [.int .u64 (rc : Int), .int .u64 (ct : Int), .int .u64 (rk : Int), .int .u64 (lf : Int), .int .i64 z])) 26⟩] u2 := M
  refine rV 2 ?_
  refine nT ?_
  refine wp_seq ?_
  refine sR ?_
  refine rV 1 ?_
  refine ZE M 11 0 2 ?_
  refine rV 1 ?_
  by_cases c0 : (sd.size : Int) = 32
  · skip
    refine pH 13 (.bool false) (jD ((sd.size : Int) = 32) (c0)) ?_
    refine rV 2 ?_
    refine pl_cell M (want_on 4 false rfl 14 rfl (by kernel_rfl)) (some 16) rfl 9 _ rfl g1 3 (by kernel_rfl) (.string rv) (fun _ => by kernel_rfl) (fun w M => M.cell 0 rfl (by decide) rfl) ?_
    refine rV 1 ?_
    by_cases c1 : (rv.size : Int) = 32
    · skip
      refine pl_val (want_on 4 false rfl 14 rfl (by kernel_rfl)) (some 18) rfl (.bool false) (fun w => Eq.trans (b := .ok (.value (.bool (!(decide ((rv.size : Int) = 32))))) w) (by kernel_rfl) (by rw [decide_eq_true (c1)]; rfl)) ?_
      refine rV 2 ?_
      refine pl_load M (want_on 10 false rfl 20 rfl (by kernel_rfl)) (some 21) rfl 26 _ rfl 1 g2 0 (by kernel_rfl) 5 26 (ls [.int .u64 (rc : Int), .int .u64 (ct : Int), .int .u64 (rk : Int), .int .u64 (lf : Int), .int .i64 z]) rfl 5 (ls [.int .u64 (rc : Int), .int .u64 (ct : Int), .int .u64 (rk : Int), .int .u64 (lf : Int), .int .i64 z]) (fun j _ => by rw [Nat.zero_add]) (by decide) _ Tryz.underlying26 rfl inz26 ?_
      rcases Bool.eq_false_or_eq_true (mdB rc ct rk lf z) with c2 | c2
      · exfalso; exact hz (by omega) (by omega) c2
      · skip
        refine pl_call M (want_on 10 false rfl 20 rfl (by kernel_rfl)) (some 22) rfl 26 #[.agg (av 5 (ls [.int .u64 (rc : Int), .int .u64 (ct : Int), .int .u64 (rk : Int), .int .u64 (lf : Int), .int .i64 z]))] (.bool false) (fun _ => by kernel_rfl) (fun w M => call_val (c_dMay w M.laid) (congrArg Value.bool c2)) fun u3 M => ?_
        refine rV 2 ?_
        refine nT ?_
        refine wp_cond_true (by kernel_rfl) ?_
        refine sq ?_
        refine wp_ret ?_
        refine au_then_ret ?_
        exact b1 M
    · skip
      refine pl_val (want_on 4 false rfl 14 rfl (by kernel_rfl)) (some 18) rfl (.bool true) (fun w => Eq.trans (b := .ok (.value (.bool (!(decide ((rv.size : Int) = 32))))) w) (by kernel_rfl) (by rw [decide_eq_false (c1)]; rfl)) ?_
      refine rV 6 ?_
      refine nT ?_
      refine wp_cond_true (by kernel_rfl) ?_
      refine sq ?_
      refine wp_ret ?_
      refine au_then_ret ?_
      exact b1 M
  · skip
    refine pH 13 (.bool true) (jU ((sd.size : Int) = 32) (c0)) ?_
    refine rV 11 ?_
    refine nT ?_
    refine wp_cond_true (by kernel_rfl) ?_
    refine sq ?_
    refine wp_ret ?_
    refine au_then_ret ?_
    exact b1 M

/-- The blocks of the document's tunnel. -/
structure IsD (d : Nat) (y : TS) (gn : Bool) (D : List Blk) : Prop where
  out : ∃ sv Ts, D = ⟨d, .cells (av 14 (ls [.string y.sd, .string y.rv, .bool (y.fi), .int .u64 ((y.mt : Nat) : Int), .int .u64 ((y.rc : Nat) : Int), .int .u64 ((y.ct : Nat) : Int), .int .u64 ((y.rk : Nat) : Int), .int .u64 ((y.lf : Nat) : Int), .int .i64 ((y.sz : Nat) : Int), .int .u64 ((y.nx : Nat) : Int), .int .i64 ((y.sz : Nat) : Int), sv, .bool (y.su), .bool (gn)])) 51⟩ :: Ts ∧ SlV 1 (vsU y.q) y.q.length sv Ts
set_option maxRecDepth 100000 in
set_option maxHeartbeats 4000000 in
set_option linter.unusedSimpArgs false in
theorem d_New {y0 y1 sd rv y4 : ByteArray} {fi : Bool} {mt rc ct rk lf : Nat} {s : Nat} (h1 : sd.size = 32) (h2 : rv.size = 32) (h3 : mdB rc ct rk lf (s : Int) = true) (w : World) (hL : Laid w)  :
    Calls Tryz.prog 8 #[.agg (av 5 (ls [.string y0, .string y1, .string sd, .string rv, .string y4])), .bool (fi), .int .u64 (mt : Int), .agg (av 5 (ls [.int .u64 (rc : Int), .int .u64 (ct : Int), .int .u64 (rk : Int), .int .u64 (lf : Int), .int .i64 (s : Int)]))] w fun r w' => ∃ x : Nat × List Blk, r = .returned (.tuple #[.pointer (some ⟨x.1, 0, none⟩), .int .i64 0]) ∧ IsD x.1 ⟨rc, ct, rk, lf, s, 0, mt, sd, rv, fi, fi, []⟩ false x.2 ∧ OkT w w' [] x.2 := by
  go_enter Tryz.func8, Tryz.ntmps8
  have M := Mem.start hL
  refine sR ?_
  refine pN M 4 (.cells (av 5 (ls [.string y0, .string y1, .string sd, .string rv, .string y4])) 23) fun g1 u1 M => ?_
  replace M : Mem ⟨w, []⟩ [⟨g1, .cells (av 5 (ls [.string y0, .string y1, .string sd, .string rv, .string y4])) 23⟩] u1 := M
  refine pN M 7 (.cells (av 5 (ls [.int .u64 (rc : Int), .int .u64 (ct : Int), .int .u64 (rk : Int), .int .u64 (lf : Int), .int .i64 (s : Int)])) 26) fun g2 u2 M => ?_
  replace M : Mem ⟨w, []⟩ [⟨g1, .cells (av 5 (ls [.string y0, .string y1, .string sd, .string rv, .string y4])) 23⟩, ⟨g2, .cells (av 5 (ls [.int .u64 (rc : Int), .int .u64 (ct : Int), .int .u64 (rk : Int), .int .u64 (lf : Int), .int .i64 (s : Int)])) 26⟩] u2 := M
  refine rV 2 ?_
  refine nT ?_
  refine wp_seq ?_
  refine sR ?_
  refine rV 1 ?_
  refine ZE M 11 0 2 ?_
  refine rV 1 ?_
  by_cases c0 : (sd.size : Int) = 32
  · skip
    refine pH 13 (.bool false) (jD ((sd.size : Int) = 32) (c0)) ?_
    refine rV 2 ?_
    refine pl_cell M (want_on 4 false rfl 14 rfl (by kernel_rfl)) (some 16) rfl 9 _ rfl g1 3 (by kernel_rfl) (.string rv) (fun _ => by kernel_rfl) (fun w M => M.cell 0 rfl (by decide) rfl) ?_
    refine rV 1 ?_
    by_cases c1 : (rv.size : Int) = 32
    · skip
      refine pl_val (want_on 4 false rfl 14 rfl (by kernel_rfl)) (some 18) rfl (.bool false) (fun w => Eq.trans (b := .ok (.value (.bool (!(decide ((rv.size : Int) = 32))))) w) (by kernel_rfl) (by rw [decide_eq_true (c1)]; rfl)) ?_
      refine rV 2 ?_
      refine pl_load M (want_on 10 false rfl 20 rfl (by kernel_rfl)) (some 21) rfl 26 _ rfl 1 g2 0 (by kernel_rfl) 5 26 (ls [.int .u64 (rc : Int), .int .u64 (ct : Int), .int .u64 (rk : Int), .int .u64 (lf : Int), .int .i64 (s : Int)]) rfl 5 (ls [.int .u64 (rc : Int), .int .u64 (ct : Int), .int .u64 (rk : Int), .int .u64 (lf : Int), .int .i64 (s : Int)]) (fun j _ => by rw [Nat.zero_add]) (by decide) _ Tryz.underlying26 rfl inz26 ?_
      refine pl_call M (want_on 10 false rfl 20 rfl (by kernel_rfl)) (some 22) rfl 26 #[.agg (av 5 (ls [.int .u64 (rc : Int), .int .u64 (ct : Int), .int .u64 (rk : Int), .int .u64 (lf : Int), .int .i64 (s : Int)]))] (.bool true) (fun _ => by kernel_rfl) (fun w M => call_val (c_dMay w M.laid) (congrArg Value.bool h3)) fun u3 M => ?_
      refine rV 2 ?_
      refine nT ?_
      refine wp_cond_false (by kernel_rfl) ?_
      refine wp_skip ?_
      refine au_then ?_
      refine sR ?_
      refine rV 1 ?_
      refine ZE M 26 0 2 ?_
      refine rV 1 ?_
      refine ZE M 28 0 3 ?_
      refine rV 2 ?_
      refine pA M 31 1 5 (ls [.int .u64 (rc : Int), .int .u64 (ct : Int), .int .u64 (rk : Int), .int .u64 (lf : Int), .int .i64 (s : Int)]) ?_
      refine rV 1 ?_
      refine ZE M 33 1 4 ?_
      refine rV 3 ?_
      refine pN M 37 (.cells (av 14 (ls [.string sd, .string rv, .bool (fi), .int .u64 (mt : Int), .int .u64 (rc : Int), .int .u64 (ct : Int), .int .u64 (rk : Int), .int .u64 (lf : Int), .int .i64 (s : Int), .int .u64 0, .int .i64 (s : Int), .slice none 0 0, .bool (fi), .bool false])) 51) fun g3 u4 M => ?_
      replace M : Mem ⟨w, []⟩ [⟨g1, .cells (av 5 (ls [.string y0, .string y1, .string sd, .string rv, .string y4])) 23⟩, ⟨g2, .cells (av 5 (ls [.int .u64 (rc : Int), .int .u64 (ct : Int), .int .u64 (rk : Int), .int .u64 (lf : Int), .int .i64 (s : Int)])) 26⟩, ⟨g3, .cells (av 14 (ls [.string sd, .string rv, .bool (fi), .int .u64 (mt : Int), .int .u64 (rc : Int), .int .u64 (ct : Int), .int .u64 (rk : Int), .int .u64 (lf : Int), .int .i64 (s : Int), .int .u64 0, .int .i64 (s : Int), .slice none 0 0, .bool (fi), .bool false])) 51⟩] u4 := M
      refine rV 2 ?_
      refine nT ?_
      refine wp_ret ?_
      exact bodyPost_ret (v := .tuple #[.pointer (some ⟨g3, 0, none⟩), .int .i64 0]) (results_tmp2 Tryz.results8 _ _ _ _ (by kernel_rfl) (by kernel_rfl)) (by kernel_rfl) ⟨(_, _), rfl, ⟨_, _, rfl, slv_nil 1⟩, Mem.okT0 (T := []) (M.drop (.cons _ (.cons _ (List.Sublist.refl _))))⟩
    · exfalso; omega
  · exfalso; omega

set_option maxRecDepth 100000 in
set_option maxHeartbeats 4000000 in
set_option linter.unusedSimpArgs false in
theorem c_dage {y : TS} {gn : Bool} {d : Nat} {sv : Value} {n : Nat} (hn : n < 18446744073709551616) (w : World) (hL : Laid w) (hT : There w [⟨d, .cells (av 14 (ls [.string y.sd, .string y.rv, .bool (y.fi), .int .u64 ((y.mt : Nat) : Int), .int .u64 ((y.rc : Nat) : Int), .int .u64 ((y.ct : Nat) : Int), .int .u64 ((y.rk : Nat) : Int), .int .u64 ((y.lf : Nat) : Int), .int .i64 ((y.sz : Nat) : Int), .int .u64 ((y.nx : Nat) : Int), .int .i64 ((y.sz : Nat) : Int), sv, .bool (y.su), .bool (gn)])) 51⟩]) :
    Calls Tryz.prog 32 #[.pointer (some ⟨d, 0, none⟩), .int .u64 (n : Int)] w fun r w' => r = .returned (.int .u64 ((n - y.mt : Nat) : Int)) ∧ Below w.heap.size w w' := by
  go_enter Tryz.func32, Tryz.ntmps32
  have M : Mem ⟨w, [d]⟩ [⟨d, .cells (av 14 (ls [.string y.sd, .string y.rv, .bool (y.fi), .int .u64 ((y.mt : Nat) : Int), .int .u64 ((y.rc : Nat) : Int), .int .u64 ((y.ct : Nat) : Int), .int .u64 ((y.rk : Nat) : Int), .int .u64 ((y.lf : Nat) : Int), .int .i64 ((y.sz : Nat) : Int), .int .u64 ((y.nx : Nat) : Int), .int .i64 ((y.sz : Nat) : Int), sv, .bool (y.su), .bool (gn)])) 51⟩] w := Mem.startT hL hT
  refine sq ?_
  refine wp_seq ?_
  refine sR ?_
  refine rV 4 ?_
  refine ZE M 9 0 3 ?_
  by_cases c0 : (n : Int) < ((y.mt : Nat) : Int)
  · skip
    refine pH 10 (.bool true) (jT ((n : Int) < ((y.mt : Nat) : Int)) (c0)) ?_
    refine nT ?_
    refine wp_cond_true (by kernel_rfl) ?_
    refine sq ?_
    refine wp_ret ?_
    refine au_then_ret ?_
    have e0 : ((n - y.mt : Nat) : Int) = 0 := by omega
    exact bodyPost_ret (v := .int .u64 0) (results_tmp1 Tryz.results32 _ _ _ (by kernel_rfl)) (by kernel_rfl) ⟨by rw [e0], ro_T hT M⟩
  · skip
    refine pH 10 (.bool false) (jF ((n : Int) < ((y.mt : Nat) : Int)) (c0)) ?_
    refine nT ?_
    refine wp_cond_false (by kernel_rfl) ?_
    refine wp_skip ?_
    refine au_then ?_
    refine sR ?_
    refine rV 4 ?_
    refine ZE M 15 0 3 ?_
    refine pH 16 (.int .u64 ((n - y.mt : Nat) : Int)) (fun w => Eq.trans (b := .ok (.value (.int .u64 (IntKind.wrap .u64 (((n : Nat) : Int) - ((y.mt : Nat) : Int))))) w) (by kernel_rfl) (by rw [wrapU_sub n y.mt (by omega) (by omega)])) ?_
    refine rV 1 ?_
    refine nT ?_
    refine wp_ret ?_
    exact bodyPost_ret (v := .int .u64 ((n - y.mt : Nat) : Int)) (results_tmp1 Tryz.results32 _ _ _ (by kernel_rfl)) (by kernel_rfl) ⟨rfl, ro_T hT M⟩

set_option maxRecDepth 100000 in
set_option maxHeartbeats 4000000 in
set_option linter.unusedSimpArgs false in
theorem c_dOver {y : TS} {gn : Bool} {d : Nat} {sv : Value} {n : Nat} (hn : n < 18446744073709551616) (w : World) (hL : Laid w)  (hT : There w [⟨d, .cells (av 14 (ls [.string y.sd, .string y.rv, .bool (y.fi), .int .u64 ((y.mt : Nat) : Int), .int .u64 ((y.rc : Nat) : Int), .int .u64 ((y.ct : Nat) : Int), .int .u64 ((y.rk : Nat) : Int), .int .u64 ((y.lf : Nat) : Int), .int .i64 ((y.sz : Nat) : Int), .int .u64 ((y.nx : Nat) : Int), .int .i64 ((y.sz : Nat) : Int), sv, .bool (y.su), .bool (gn)])) 51⟩]) :
    Calls Tryz.prog 11 #[.pointer (some ⟨d, 0, none⟩), .int .u64 (n : Int)] w fun r w' => r = .returned (.bool (dov y gn n)) ∧ Below w.heap.size w w' := by
  go_enter Tryz.func11, Tryz.ntmps11
  have M : Mem ⟨w, [d]⟩ [⟨d, .cells (av 14 (ls [.string y.sd, .string y.rv, .bool (y.fi), .int .u64 ((y.mt : Nat) : Int), .int .u64 ((y.rc : Nat) : Int), .int .u64 ((y.ct : Nat) : Int), .int .u64 ((y.rk : Nat) : Int), .int .u64 ((y.lf : Nat) : Int), .int .i64 ((y.sz : Nat) : Int), .int .u64 ((y.nx : Nat) : Int), .int .i64 ((y.sz : Nat) : Int), sv, .bool (y.su), .bool (gn)])) 51⟩] w := Mem.startT hL hT
  refine sq ?_
  refine wp_seq ?_
  refine rg_held M [⟨d, .cells (av 14 (ls [.string y.sd, .string y.rv, .bool (y.fi), .int .u64 ((y.mt : Nat) : Int), .int .u64 ((y.rc : Nat) : Int), .int .u64 ((y.ct : Nat) : Int), .int .u64 ((y.rk : Nat) : Int), .int .u64 ((y.lf : Nat) : Int), .int .i64 ((y.sz : Nat) : Int), .int .u64 ((y.nx : Nat) : Int), .int .i64 ((y.sz : Nat) : Int), sv, .bool (y.su), .bool (gn)])) 51⟩] 15 rfl (by kernel_rfl) (by kernel_rfl) (fun _ _ d _ _ h => by cases d <;> exact h) fun u1 M => ?_
  replace M : Mem ⟨w, [d]⟩ [⟨d, .cells (av 14 (ls [.string y.sd, .string y.rv, .bool (y.fi), .int .u64 ((y.mt : Nat) : Int), .int .u64 ((y.rc : Nat) : Int), .int .u64 ((y.ct : Nat) : Int), .int .u64 ((y.rk : Nat) : Int), .int .u64 ((y.lf : Nat) : Int), .int .i64 ((y.sz : Nat) : Int), .int .u64 ((y.nx : Nat) : Int), .int .i64 ((y.sz : Nat) : Int), sv, .bool (y.su), .bool (gn)])) 51⟩] u1 := M
  refine qV M 0 5 (.pointer (some ⟨d, 0, none⟩)) ?_
  refine qV M 1 6 (.pointer (some ⟨d, 0, none⟩)) ?_
  refine qV M 2 7 (.pointer (some ⟨d, 13, none⟩)) ?_
  rcases Bool.eq_false_or_eq_true (gn) with c0 | c0
  · skip
    refine hl_cell M 3 rfl (by decide) (by kernel_rfl) (by kernel_rfl) (want_no rfl) (some 8) rfl 4 _ rfl d 13 (by kernel_rfl) (.bool true) (fun _ => by kernel_rfl) (fun w M => M.cell 0 rfl (by decide) (congrArg Value.bool c0)) ?_
    refine qV M 4 9 (.bool true) ?_
    refine hl_skip M 5 rfl (by decide) (by kernel_rfl) (by kernel_rfl) (want_off 4 false rfl 9 rfl (by kernel_rfl)) (some 10) rfl ?_
    refine hl_skip M 6 rfl (by decide) (by kernel_rfl) (by kernel_rfl) (want_off 4 false rfl 9 rfl (by kernel_rfl)) (some 11) rfl ?_
    refine hl_skip M 7 rfl (by decide) (by kernel_rfl) (by kernel_rfl) (want_off 4 false rfl 9 rfl (by kernel_rfl)) (some 12) rfl ?_
    refine hl_skip M 8 rfl (by decide) (by kernel_rfl) (by kernel_rfl) (want_off 4 false rfl 9 rfl (by kernel_rfl)) (some 13) rfl ?_
    refine hl_skip M 9 rfl (by decide) (by kernel_rfl) (by kernel_rfl) (want_off 4 false rfl 9 rfl (by kernel_rfl)) (some 14) rfl ?_
    refine hl_skip M 10 rfl (by decide) (by kernel_rfl) (by kernel_rfl) (want_off 4 false rfl 9 rfl (by kernel_rfl)) (some 15) rfl ?_
    refine hl_skip M 11 rfl (by decide) (by kernel_rfl) (by kernel_rfl) (want_off 4 false rfl 9 rfl (by kernel_rfl)) (some 16) rfl ?_
    refine hl_skip M 12 rfl (by decide) (by kernel_rfl) (by kernel_rfl) (want_off 4 false rfl 9 rfl (by kernel_rfl)) (some 17) rfl ?_
    refine hl_skip M 13 rfl (by decide) (by kernel_rfl) (by kernel_rfl) (want_off 4 false rfl 9 rfl (by kernel_rfl)) (some 18) rfl ?_
    refine qV M 14 19 (.bool true) ?_
    refine hl_end (by kernel_rfl) (by kernel_rfl) rfl ?_
    refine rV 1 ?_
    refine nT ?_
    refine au_then ?_
    refine wp_ret ?_
    have e0 : dov y gn n = true := by unfold dov; rw [c0]; rfl
    exact bodyPost_ret (v := .bool true) (results_tmp1 Tryz.results11 _ _ _ (by kernel_rfl)) (by kernel_rfl) ⟨by rw [e0], ro_T hT M⟩
  · skip
    refine hl_cell M 3 rfl (by decide) (by kernel_rfl) (by kernel_rfl) (want_no rfl) (some 8) rfl 4 _ rfl d 13 (by kernel_rfl) (.bool false) (fun _ => by kernel_rfl) (fun w M => M.cell 0 rfl (by decide) (congrArg Value.bool c0)) ?_
    refine qV M 4 9 (.bool false) ?_
    refine hl_val M 5 rfl (by decide) (by kernel_rfl) (by kernel_rfl) (want_on 4 false rfl 9 rfl (by kernel_rfl)) (some 10) rfl (.pointer (some ⟨d, 0, none⟩)) (fun _ _ => by kernel_rfl) ?_
    refine hl_val M 6 rfl (by decide) (by kernel_rfl) (by kernel_rfl) (want_on 4 false rfl 9 rfl (by kernel_rfl)) (some 11) rfl (.int .u64 (n : Int)) (fun _ _ => by kernel_rfl) ?_
    refine hl_val M 8 rfl (by decide) (by kernel_rfl) (by kernel_rfl) (want_on 4 false rfl 9 rfl (by kernel_rfl)) (some 13) rfl (.pointer (some ⟨d, 0, none⟩)) (fun _ _ => by kernel_rfl) ?_
    refine hl_val M 9 rfl (by decide) (by kernel_rfl) (by kernel_rfl) (want_on 4 false rfl 9 rfl (by kernel_rfl)) (some 14) rfl (.pointer (some ⟨d, 0, none⟩)) (fun _ _ => by kernel_rfl) ?_
    refine hl_val M 10 rfl (by decide) (by kernel_rfl) (by kernel_rfl) (want_on 4 false rfl 9 rfl (by kernel_rfl)) (some 15) rfl (.pointer (some ⟨d, 4, none⟩)) (fun _ _ => by kernel_rfl) ?_
    refine hl_val M 11 rfl (by decide) (by kernel_rfl) (by kernel_rfl) (want_on 4 false rfl 9 rfl (by kernel_rfl)) (some 16) rfl (.pointer (some ⟨d, 7, none⟩)) (fun _ _ => by kernel_rfl) ?_
    refine hl_cell M 12 rfl (by decide) (by kernel_rfl) (by kernel_rfl) (want_on 4 false rfl 9 rfl (by kernel_rfl)) (some 17) rfl 24 _ rfl d 7 (by kernel_rfl) (.int .u64 ((y.lf : Nat) : Int)) (fun _ => by kernel_rfl) (fun w M => M.cell 0 rfl (by decide) rfl) ?_
    refine hl_one 7 (by decide) (by kernel_rfl) rfl ?_
    refine pl_call M (want_on 4 false rfl 9 rfl (by kernel_rfl)) (some 12) rfl 32 #[.pointer (some ⟨d, 0, none⟩), .int .u64 (n : Int)] (.int .u64 ((n - y.mt : Nat) : Int)) (fun _ => by kernel_rfl) (fun w M => c_dage hn w M.laid (M.there (.cons_cons _ (List.nil_sublist _)))) fun u2 M => ?_
    refine nT ?_
    refine ⟨M, ?_⟩
    by_cases c1 : ((n - y.mt : Nat) : Int) < ((y.lf : Nat) : Int)
    · skip
      refine hl_val M 13 rfl (by decide) (by kernel_rfl) (by kernel_rfl) (want_on 4 false rfl 9 rfl (by kernel_rfl)) (some 18) rfl (.bool false) (fun w _ => (fun w => Eq.trans (b := .ok (.value (.bool (decide (((y.lf : Nat) : Int) ≤ ((n - y.mt : Nat) : Int))))) w) (by kernel_rfl) (by rw [decide_eq_false (by omega)])) w) ?_
      refine qV M 14 19 (.bool false) ?_
      refine hl_end (by kernel_rfl) (by kernel_rfl) rfl ?_
      refine rV 1 ?_
      refine nT ?_
      refine au_then ?_
      refine wp_ret ?_
      have e0 : dov y gn n = false := by unfold dov; rw [c0, decide_eq_false (by omega)]; rfl
      exact bodyPost_ret (v := .bool false) (results_tmp1 Tryz.results11 _ _ _ (by kernel_rfl)) (by kernel_rfl) ⟨by rw [e0], ro_T hT M⟩
    · skip
      refine hl_val M 13 rfl (by decide) (by kernel_rfl) (by kernel_rfl) (want_on 4 false rfl 9 rfl (by kernel_rfl)) (some 18) rfl (.bool true) (fun w _ => (fun w => Eq.trans (b := .ok (.value (.bool (decide (((y.lf : Nat) : Int) ≤ ((n - y.mt : Nat) : Int))))) w) (by kernel_rfl) (by rw [decide_eq_true (by omega)])) w) ?_
      refine qV M 14 19 (.bool true) ?_
      refine hl_end (by kernel_rfl) (by kernel_rfl) rfl ?_
      refine rV 1 ?_
      refine nT ?_
      refine au_then ?_
      refine wp_ret ?_
      have e0 : dov y gn n = true := by unfold dov; rw [c0, decide_eq_true (by omega)]; rfl
      exact bodyPost_ret (v := .bool true) (results_tmp1 Tryz.results11 _ _ _ (by kernel_rfl)) (by kernel_rfl) ⟨by rw [e0], ro_T hT M⟩

set_option maxRecDepth 100000 in
set_option maxHeartbeats 4000000 in
set_option linter.unusedSimpArgs false in
theorem c_dWants {y : TS} {gn : Bool} {d : Nat} {sv : Value} {n : Nat} (hn : n < 18446744073709551616) (w : World) (hL : Laid w)  (hT : There w [⟨d, .cells (av 14 (ls [.string y.sd, .string y.rv, .bool (y.fi), .int .u64 ((y.mt : Nat) : Int), .int .u64 ((y.rc : Nat) : Int), .int .u64 ((y.ct : Nat) : Int), .int .u64 ((y.rk : Nat) : Int), .int .u64 ((y.lf : Nat) : Int), .int .i64 ((y.sz : Nat) : Int), .int .u64 ((y.nx : Nat) : Int), .int .i64 ((y.sz : Nat) : Int), sv, .bool (y.su), .bool (gn)])) 51⟩]) :
    Calls Tryz.prog 13 #[.pointer (some ⟨d, 0, none⟩), .int .u64 (n : Int)] w fun r w' => r = .returned (.bool (dwn y gn n)) ∧ Below w.heap.size w w' := by
  go_enter Tryz.func13, Tryz.ntmps13
  have M : Mem ⟨w, [d]⟩ [⟨d, .cells (av 14 (ls [.string y.sd, .string y.rv, .bool (y.fi), .int .u64 ((y.mt : Nat) : Int), .int .u64 ((y.rc : Nat) : Int), .int .u64 ((y.ct : Nat) : Int), .int .u64 ((y.rk : Nat) : Int), .int .u64 ((y.lf : Nat) : Int), .int .i64 ((y.sz : Nat) : Int), .int .u64 ((y.nx : Nat) : Int), .int .i64 ((y.sz : Nat) : Int), sv, .bool (y.su), .bool (gn)])) 51⟩] w := Mem.startT hL hT
  refine sq ?_
  refine wp_seq ?_
  refine rg_held M [⟨d, .cells (av 14 (ls [.string y.sd, .string y.rv, .bool (y.fi), .int .u64 ((y.mt : Nat) : Int), .int .u64 ((y.rc : Nat) : Int), .int .u64 ((y.ct : Nat) : Int), .int .u64 ((y.rk : Nat) : Int), .int .u64 ((y.lf : Nat) : Int), .int .i64 ((y.sz : Nat) : Int), .int .u64 ((y.nx : Nat) : Int), .int .i64 ((y.sz : Nat) : Int), sv, .bool (y.su), .bool (gn)])) 51⟩] 33 rfl (by kernel_rfl) (by kernel_rfl) (fun _ _ d _ _ h => by cases d <;> exact h) fun u1 M => ?_
  replace M : Mem ⟨w, [d]⟩ [⟨d, .cells (av 14 (ls [.string y.sd, .string y.rv, .bool (y.fi), .int .u64 ((y.mt : Nat) : Int), .int .u64 ((y.rc : Nat) : Int), .int .u64 ((y.ct : Nat) : Int), .int .u64 ((y.rk : Nat) : Int), .int .u64 ((y.lf : Nat) : Int), .int .i64 ((y.sz : Nat) : Int), .int .u64 ((y.nx : Nat) : Int), .int .i64 ((y.sz : Nat) : Int), sv, .bool (y.su), .bool (gn)])) 51⟩] u1 := M
  refine qV M 0 5 (.pointer (some ⟨d, 0, none⟩)) ?_
  refine qV M 1 6 (.pointer (some ⟨d, 0, none⟩)) ?_
  refine qV M 2 7 (.pointer (some ⟨d, 2, none⟩)) ?_
  rcases Bool.eq_false_or_eq_true (y.fi) with c0 | c0
  · skip
    refine hl_cell M 3 rfl (by decide) (by kernel_rfl) (by kernel_rfl) (want_no rfl) (some 8) rfl 4 _ rfl d 2 (by kernel_rfl) (.bool true) (fun _ => by kernel_rfl) (fun w M => M.cell 0 rfl (by decide) (congrArg Value.bool c0)) ?_
    refine qV M 4 9 (.bool true) ?_
    refine hl_val M 5 rfl (by decide) (by kernel_rfl) (by kernel_rfl) (want_on 4 true rfl 9 rfl (by kernel_rfl)) (some 10) rfl (.pointer (some ⟨d, 0, none⟩)) (fun _ _ => by kernel_rfl) ?_
    refine hl_val M 6 rfl (by decide) (by kernel_rfl) (by kernel_rfl) (want_on 4 true rfl 9 rfl (by kernel_rfl)) (some 11) rfl (.int .u64 (n : Int)) (fun _ _ => by kernel_rfl) ?_
    refine hl_one 7 (by decide) (by kernel_rfl) rfl ?_
    rcases Bool.eq_false_or_eq_true (dov y gn n) with c1 | c1
    · skip
      refine pl_call M (want_on 4 true rfl 9 rfl (by kernel_rfl)) (some 12) rfl 11 #[.pointer (some ⟨d, 0, none⟩), .int .u64 (n : Int)] (.bool true) (fun _ => by kernel_rfl) (fun w M => call_val (c_dOver hn w M.laid (M.there (.cons_cons _ (List.nil_sublist _)))) (congrArg Value.bool c1)) fun u2 M => ?_
      refine nT ?_
      refine ⟨M, ?_⟩
      refine hl_val M 8 rfl (by decide) (by kernel_rfl) (by kernel_rfl) (want_on 4 true rfl 9 rfl (by kernel_rfl)) (some 13) rfl (.bool false) (fun _ _ => by kernel_rfl) ?_
      refine qV M 9 14 (.bool false) ?_
      refine qV M 10 15 (.bool false) ?_
      refine hl_skip M 11 rfl (by decide) (by kernel_rfl) (by kernel_rfl) (want_off 10 true rfl 15 rfl (by kernel_rfl)) (some 16) rfl ?_
      refine hl_skip M 12 rfl (by decide) (by kernel_rfl) (by kernel_rfl) (want_off 10 true rfl 15 rfl (by kernel_rfl)) (some 17) rfl ?_
      refine hl_skip M 13 rfl (by decide) (by kernel_rfl) (by kernel_rfl) (want_off 10 true rfl 15 rfl (by kernel_rfl)) (some 18) rfl ?_
      refine hl_skip M 14 rfl (by decide) (by kernel_rfl) (by kernel_rfl) (want_off 10 true rfl 15 rfl (by kernel_rfl)) (some 19) rfl ?_
      refine hl_skip M 15 rfl (by decide) (by kernel_rfl) (by kernel_rfl) (want_off 10 true rfl 15 rfl (by kernel_rfl)) (some 20) rfl ?_
      refine hl_skip M 16 rfl (by decide) (by kernel_rfl) (by kernel_rfl) (want_off 10 true rfl 15 rfl (by kernel_rfl)) (some 21) rfl ?_
      refine hl_skip M 17 rfl (by decide) (by kernel_rfl) (by kernel_rfl) (want_off 10 true rfl 15 rfl (by kernel_rfl)) (some 22) rfl ?_
      refine hl_skip M 18 rfl (by decide) (by kernel_rfl) (by kernel_rfl) (want_off 10 true rfl 15 rfl (by kernel_rfl)) (some 23) rfl ?_
      refine hl_skip M 19 rfl (by decide) (by kernel_rfl) (by kernel_rfl) (want_off 10 true rfl 15 rfl (by kernel_rfl)) (some 24) rfl ?_
      refine hl_skip M 20 rfl (by decide) (by kernel_rfl) (by kernel_rfl) (want_off 10 true rfl 15 rfl (by kernel_rfl)) (some 25) rfl ?_
      refine hl_skip M 21 rfl (by decide) (by kernel_rfl) (by kernel_rfl) (want_off 10 true rfl 15 rfl (by kernel_rfl)) (some 26) rfl ?_
      refine hl_skip M 22 rfl (by decide) (by kernel_rfl) (by kernel_rfl) (want_und 21 false rfl 26 rfl (by kernel_rfl)) (some 27) rfl ?_
      refine hl_skip M 23 rfl (by decide) (by kernel_rfl) (by kernel_rfl) (want_und 21 false rfl 26 rfl (by kernel_rfl)) (some 28) rfl ?_
      refine hl_skip M 24 rfl (by decide) (by kernel_rfl) (by kernel_rfl) (want_und 21 false rfl 26 rfl (by kernel_rfl)) (some 29) rfl ?_
      refine hl_skip M 25 rfl (by decide) (by kernel_rfl) (by kernel_rfl) (want_und 21 false rfl 26 rfl (by kernel_rfl)) (some 30) rfl ?_
      refine hl_skip M 26 rfl (by decide) (by kernel_rfl) (by kernel_rfl) (want_und 21 false rfl 26 rfl (by kernel_rfl)) (some 31) rfl ?_
      refine hl_skip M 27 rfl (by decide) (by kernel_rfl) (by kernel_rfl) (want_und 21 false rfl 26 rfl (by kernel_rfl)) (some 32) rfl ?_
      refine hl_skip M 28 rfl (by decide) (by kernel_rfl) (by kernel_rfl) (want_und 21 false rfl 26 rfl (by kernel_rfl)) (some 33) rfl ?_
      refine hl_skip M 29 rfl (by decide) (by kernel_rfl) (by kernel_rfl) (want_und 21 false rfl 26 rfl (by kernel_rfl)) (some 34) rfl ?_
      refine hl_skip M 30 rfl (by decide) (by kernel_rfl) (by kernel_rfl) (want_und 21 false rfl 26 rfl (by kernel_rfl)) (some 35) rfl ?_
      refine hl_skip M 31 rfl (by decide) (by kernel_rfl) (by kernel_rfl) (want_off 10 true rfl 15 rfl (by kernel_rfl)) (some 36) rfl ?_
      refine qV M 32 37 (.bool false) ?_
      refine hl_end (by kernel_rfl) (by kernel_rfl) rfl ?_
      refine rV 1 ?_
      refine nT ?_
      refine au_then ?_
      refine wp_ret ?_
      have e0 : dwn y gn n = false := by unfold dwn; simp only [c0, c1, Bool.false_and, Bool.true_and, Bool.not_true, Bool.not_false]
      exact bodyPost_ret (v := .bool false) (results_tmp1 Tryz.results13 _ _ _ (by kernel_rfl)) (by kernel_rfl) ⟨by rw [e0], ro_T hT M⟩
    · skip
      refine pl_call M (want_on 4 true rfl 9 rfl (by kernel_rfl)) (some 12) rfl 11 #[.pointer (some ⟨d, 0, none⟩), .int .u64 (n : Int)] (.bool false) (fun _ => by kernel_rfl) (fun w M => call_val (c_dOver hn w M.laid (M.there (.cons_cons _ (List.nil_sublist _)))) (congrArg Value.bool c1)) fun u2 M => ?_
      refine nT ?_
      refine ⟨M, ?_⟩
      refine hl_val M 8 rfl (by decide) (by kernel_rfl) (by kernel_rfl) (want_on 4 true rfl 9 rfl (by kernel_rfl)) (some 13) rfl (.bool true) (fun _ _ => by kernel_rfl) ?_
      refine qV M 9 14 (.bool true) ?_
      refine qV M 10 15 (.bool true) ?_
      refine hl_val M 11 rfl (by decide) (by kernel_rfl) (by kernel_rfl) (want_on 10 true rfl 15 rfl (by kernel_rfl)) (some 16) rfl (.pointer (some ⟨d, 0, none⟩)) (fun _ _ => by kernel_rfl) ?_
      refine hl_val M 12 rfl (by decide) (by kernel_rfl) (by kernel_rfl) (want_on 10 true rfl 15 rfl (by kernel_rfl)) (some 17) rfl (.pointer (some ⟨d, 0, none⟩)) (fun _ _ => by kernel_rfl) ?_
      refine hl_val M 13 rfl (by decide) (by kernel_rfl) (by kernel_rfl) (want_on 10 true rfl 15 rfl (by kernel_rfl)) (some 18) rfl (.pointer (some ⟨d, 9, none⟩)) (fun _ _ => by kernel_rfl) ?_
      refine hl_cell M 14 rfl (by decide) (by kernel_rfl) (by kernel_rfl) (want_on 10 true rfl 15 rfl (by kernel_rfl)) (some 19) rfl 24 _ rfl d 9 (by kernel_rfl) (.int .u64 ((y.nx : Nat) : Int)) (fun _ => by kernel_rfl) (fun w M => M.cell 0 rfl (by decide) rfl) ?_
      refine hl_val M 15 rfl (by decide) (by kernel_rfl) (by kernel_rfl) (want_on 10 true rfl 15 rfl (by kernel_rfl)) (some 20) rfl (.pointer (some ⟨d, 0, none⟩)) (fun _ _ => by kernel_rfl) ?_
      refine hl_val M 16 rfl (by decide) (by kernel_rfl) (by kernel_rfl) (want_on 10 true rfl 15 rfl (by kernel_rfl)) (some 21) rfl (.pointer (some ⟨d, 0, none⟩)) (fun _ _ => by kernel_rfl) ?_
      refine hl_val M 17 rfl (by decide) (by kernel_rfl) (by kernel_rfl) (want_on 10 true rfl 15 rfl (by kernel_rfl)) (some 22) rfl (.pointer (some ⟨d, 4, none⟩)) (fun _ _ => by kernel_rfl) ?_
      refine hl_val M 18 rfl (by decide) (by kernel_rfl) (by kernel_rfl) (want_on 10 true rfl 15 rfl (by kernel_rfl)) (some 23) rfl (.pointer (some ⟨d, 4, none⟩)) (fun _ _ => by kernel_rfl) ?_
      refine hl_cell M 19 rfl (by decide) (by kernel_rfl) (by kernel_rfl) (want_on 10 true rfl 15 rfl (by kernel_rfl)) (some 24) rfl 24 _ rfl d 4 (by kernel_rfl) (.int .u64 ((y.rc : Nat) : Int)) (fun _ => by kernel_rfl) (fun w M => M.cell 0 rfl (by decide) rfl) ?_
      by_cases c2 : ((y.nx : Nat) : Int) < ((y.rc : Nat) : Int)
      · skip
        refine hl_val M 20 rfl (by decide) (by kernel_rfl) (by kernel_rfl) (want_on 10 true rfl 15 rfl (by kernel_rfl)) (some 25) rfl (.bool false) (fun w _ => (fun w => Eq.trans (b := .ok (.value (.bool (decide (((y.rc : Nat) : Int) ≤ ((y.nx : Nat) : Int))))) w) (by kernel_rfl) (by rw [decide_eq_false (by omega)])) w) ?_
        refine hl_val M 21 rfl (by decide) (by kernel_rfl) (by kernel_rfl) (want_on 10 true rfl 15 rfl (by kernel_rfl)) (some 26) rfl (.bool false) (fun _ _ => by kernel_rfl) ?_
        refine hl_val M 22 rfl (by decide) (by kernel_rfl) (by kernel_rfl) (want_on 21 false rfl 26 rfl (by kernel_rfl)) (some 27) rfl (.pointer (some ⟨d, 0, none⟩)) (fun _ _ => by kernel_rfl) ?_
        refine hl_val M 23 rfl (by decide) (by kernel_rfl) (by kernel_rfl) (want_on 21 false rfl 26 rfl (by kernel_rfl)) (some 28) rfl (.int .u64 (n : Int)) (fun _ _ => by kernel_rfl) ?_
        refine hl_val M 25 rfl (by decide) (by kernel_rfl) (by kernel_rfl) (want_on 21 false rfl 26 rfl (by kernel_rfl)) (some 30) rfl (.pointer (some ⟨d, 0, none⟩)) (fun _ _ => by kernel_rfl) ?_
        refine hl_val M 26 rfl (by decide) (by kernel_rfl) (by kernel_rfl) (want_on 21 false rfl 26 rfl (by kernel_rfl)) (some 31) rfl (.pointer (some ⟨d, 0, none⟩)) (fun _ _ => by kernel_rfl) ?_
        refine hl_val M 27 rfl (by decide) (by kernel_rfl) (by kernel_rfl) (want_on 21 false rfl 26 rfl (by kernel_rfl)) (some 32) rfl (.pointer (some ⟨d, 4, none⟩)) (fun _ _ => by kernel_rfl) ?_
        refine hl_val M 28 rfl (by decide) (by kernel_rfl) (by kernel_rfl) (want_on 21 false rfl 26 rfl (by kernel_rfl)) (some 33) rfl (.pointer (some ⟨d, 6, none⟩)) (fun _ _ => by kernel_rfl) ?_
        refine hl_cell M 29 rfl (by decide) (by kernel_rfl) (by kernel_rfl) (want_on 21 false rfl 26 rfl (by kernel_rfl)) (some 34) rfl 24 _ rfl d 6 (by kernel_rfl) (.int .u64 ((y.rk : Nat) : Int)) (fun _ => by kernel_rfl) (fun w M => M.cell 0 rfl (by decide) rfl) ?_
        refine hl_one 24 (by decide) (by kernel_rfl) rfl ?_
        refine pl_call M (want_on 21 false rfl 26 rfl (by kernel_rfl)) (some 29) rfl 32 #[.pointer (some ⟨d, 0, none⟩), .int .u64 (n : Int)] (.int .u64 ((n - y.mt : Nat) : Int)) (fun _ => by kernel_rfl) (fun w M => c_dage hn w M.laid (M.there (.cons_cons _ (List.nil_sublist _)))) fun u3 M => ?_
        refine nT ?_
        refine ⟨M, ?_⟩
        by_cases c3 : ((n - y.mt : Nat) : Int) < ((y.rk : Nat) : Int)
        · skip
          refine hl_val M 30 rfl (by decide) (by kernel_rfl) (by kernel_rfl) (want_on 21 false rfl 26 rfl (by kernel_rfl)) (some 35) rfl (.bool false) (fun w _ => (fun w => Eq.trans (b := .ok (.value (.bool (decide (((y.rk : Nat) : Int) ≤ ((n - y.mt : Nat) : Int))))) w) (by kernel_rfl) (by rw [decide_eq_false (by omega)])) w) ?_
          refine hl_val M 31 rfl (by decide) (by kernel_rfl) (by kernel_rfl) (want_on 10 true rfl 15 rfl (by kernel_rfl)) (some 36) rfl (.bool false) (fun _ _ => by kernel_rfl) ?_
          refine qV M 32 37 (.bool false) ?_
          refine hl_end (by kernel_rfl) (by kernel_rfl) rfl ?_
          refine rV 1 ?_
          refine nT ?_
          refine au_then ?_
          refine wp_ret ?_
          have e0 : dwn y gn n = false := by unfold dwn; simp only [c0, c1, Bool.false_and, Bool.true_and, Bool.not_true, Bool.not_false]; exact decide_eq_false (by omega)
          exact bodyPost_ret (v := .bool false) (results_tmp1 Tryz.results13 _ _ _ (by kernel_rfl)) (by kernel_rfl) ⟨by rw [e0], ro_T hT M⟩
        · skip
          refine hl_val M 30 rfl (by decide) (by kernel_rfl) (by kernel_rfl) (want_on 21 false rfl 26 rfl (by kernel_rfl)) (some 35) rfl (.bool true) (fun w _ => (fun w => Eq.trans (b := .ok (.value (.bool (decide (((y.rk : Nat) : Int) ≤ ((n - y.mt : Nat) : Int))))) w) (by kernel_rfl) (by rw [decide_eq_true (by omega)])) w) ?_
          refine hl_val M 31 rfl (by decide) (by kernel_rfl) (by kernel_rfl) (want_on 10 true rfl 15 rfl (by kernel_rfl)) (some 36) rfl (.bool true) (fun _ _ => by kernel_rfl) ?_
          refine qV M 32 37 (.bool true) ?_
          refine hl_end (by kernel_rfl) (by kernel_rfl) rfl ?_
          refine rV 1 ?_
          refine nT ?_
          refine au_then ?_
          refine wp_ret ?_
          have e0 : dwn y gn n = true := by unfold dwn; simp only [c0, c1, Bool.false_and, Bool.true_and, Bool.not_true, Bool.not_false]; exact decide_eq_true (by omega)
          exact bodyPost_ret (v := .bool true) (results_tmp1 Tryz.results13 _ _ _ (by kernel_rfl)) (by kernel_rfl) ⟨by rw [e0], ro_T hT M⟩
      · skip
        refine hl_val M 20 rfl (by decide) (by kernel_rfl) (by kernel_rfl) (want_on 10 true rfl 15 rfl (by kernel_rfl)) (some 25) rfl (.bool true) (fun w _ => (fun w => Eq.trans (b := .ok (.value (.bool (decide (((y.rc : Nat) : Int) ≤ ((y.nx : Nat) : Int))))) w) (by kernel_rfl) (by rw [decide_eq_true (by omega)])) w) ?_
        refine hl_val M 21 rfl (by decide) (by kernel_rfl) (by kernel_rfl) (want_on 10 true rfl 15 rfl (by kernel_rfl)) (some 26) rfl (.bool true) (fun _ _ => by kernel_rfl) ?_
        refine hl_skip M 22 rfl (by decide) (by kernel_rfl) (by kernel_rfl) (want_off 21 false rfl 26 rfl (by kernel_rfl)) (some 27) rfl ?_
        refine hl_skip M 23 rfl (by decide) (by kernel_rfl) (by kernel_rfl) (want_off 21 false rfl 26 rfl (by kernel_rfl)) (some 28) rfl ?_
        refine hl_skip M 24 rfl (by decide) (by kernel_rfl) (by kernel_rfl) (want_off 21 false rfl 26 rfl (by kernel_rfl)) (some 29) rfl ?_
        refine hl_skip M 25 rfl (by decide) (by kernel_rfl) (by kernel_rfl) (want_off 21 false rfl 26 rfl (by kernel_rfl)) (some 30) rfl ?_
        refine hl_skip M 26 rfl (by decide) (by kernel_rfl) (by kernel_rfl) (want_off 21 false rfl 26 rfl (by kernel_rfl)) (some 31) rfl ?_
        refine hl_skip M 27 rfl (by decide) (by kernel_rfl) (by kernel_rfl) (want_off 21 false rfl 26 rfl (by kernel_rfl)) (some 32) rfl ?_
        refine hl_skip M 28 rfl (by decide) (by kernel_rfl) (by kernel_rfl) (want_off 21 false rfl 26 rfl (by kernel_rfl)) (some 33) rfl ?_
        refine hl_skip M 29 rfl (by decide) (by kernel_rfl) (by kernel_rfl) (want_off 21 false rfl 26 rfl (by kernel_rfl)) (some 34) rfl ?_
        refine hl_skip M 30 rfl (by decide) (by kernel_rfl) (by kernel_rfl) (want_off 21 false rfl 26 rfl (by kernel_rfl)) (some 35) rfl ?_
        refine hl_val M 31 rfl (by decide) (by kernel_rfl) (by kernel_rfl) (want_on 10 true rfl 15 rfl (by kernel_rfl)) (some 36) rfl (.bool true) (fun _ _ => by kernel_rfl) ?_
        refine qV M 32 37 (.bool true) ?_
        refine hl_end (by kernel_rfl) (by kernel_rfl) rfl ?_
        refine rV 1 ?_
        refine nT ?_
        refine au_then ?_
        refine wp_ret ?_
        have e0 : dwn y gn n = true := by unfold dwn; simp only [c0, c1, Bool.false_and, Bool.true_and, Bool.not_true, Bool.not_false]; exact decide_eq_true (by omega)
        exact bodyPost_ret (v := .bool true) (results_tmp1 Tryz.results13 _ _ _ (by kernel_rfl)) (by kernel_rfl) ⟨by rw [e0], ro_T hT M⟩
  · skip
    refine hl_cell M 3 rfl (by decide) (by kernel_rfl) (by kernel_rfl) (want_no rfl) (some 8) rfl 4 _ rfl d 2 (by kernel_rfl) (.bool false) (fun _ => by kernel_rfl) (fun w M => M.cell 0 rfl (by decide) (congrArg Value.bool c0)) ?_
    refine qV M 4 9 (.bool false) ?_
    refine hl_skip M 5 rfl (by decide) (by kernel_rfl) (by kernel_rfl) (want_off 4 true rfl 9 rfl (by kernel_rfl)) (some 10) rfl ?_
    refine hl_skip M 6 rfl (by decide) (by kernel_rfl) (by kernel_rfl) (want_off 4 true rfl 9 rfl (by kernel_rfl)) (some 11) rfl ?_
    refine hl_skip M 7 rfl (by decide) (by kernel_rfl) (by kernel_rfl) (want_off 4 true rfl 9 rfl (by kernel_rfl)) (some 12) rfl ?_
    refine hl_skip M 8 rfl (by decide) (by kernel_rfl) (by kernel_rfl) (want_off 4 true rfl 9 rfl (by kernel_rfl)) (some 13) rfl ?_
    refine qV M 9 14 (.bool false) ?_
    refine qV M 10 15 (.bool false) ?_
    refine hl_skip M 11 rfl (by decide) (by kernel_rfl) (by kernel_rfl) (want_off 10 true rfl 15 rfl (by kernel_rfl)) (some 16) rfl ?_
    refine hl_skip M 12 rfl (by decide) (by kernel_rfl) (by kernel_rfl) (want_off 10 true rfl 15 rfl (by kernel_rfl)) (some 17) rfl ?_
    refine hl_skip M 13 rfl (by decide) (by kernel_rfl) (by kernel_rfl) (want_off 10 true rfl 15 rfl (by kernel_rfl)) (some 18) rfl ?_
    refine hl_skip M 14 rfl (by decide) (by kernel_rfl) (by kernel_rfl) (want_off 10 true rfl 15 rfl (by kernel_rfl)) (some 19) rfl ?_
    refine hl_skip M 15 rfl (by decide) (by kernel_rfl) (by kernel_rfl) (want_off 10 true rfl 15 rfl (by kernel_rfl)) (some 20) rfl ?_
    refine hl_skip M 16 rfl (by decide) (by kernel_rfl) (by kernel_rfl) (want_off 10 true rfl 15 rfl (by kernel_rfl)) (some 21) rfl ?_
    refine hl_skip M 17 rfl (by decide) (by kernel_rfl) (by kernel_rfl) (want_off 10 true rfl 15 rfl (by kernel_rfl)) (some 22) rfl ?_
    refine hl_skip M 18 rfl (by decide) (by kernel_rfl) (by kernel_rfl) (want_off 10 true rfl 15 rfl (by kernel_rfl)) (some 23) rfl ?_
    refine hl_skip M 19 rfl (by decide) (by kernel_rfl) (by kernel_rfl) (want_off 10 true rfl 15 rfl (by kernel_rfl)) (some 24) rfl ?_
    refine hl_skip M 20 rfl (by decide) (by kernel_rfl) (by kernel_rfl) (want_off 10 true rfl 15 rfl (by kernel_rfl)) (some 25) rfl ?_
    refine hl_skip M 21 rfl (by decide) (by kernel_rfl) (by kernel_rfl) (want_off 10 true rfl 15 rfl (by kernel_rfl)) (some 26) rfl ?_
    refine hl_skip M 22 rfl (by decide) (by kernel_rfl) (by kernel_rfl) (want_und 21 false rfl 26 rfl (by kernel_rfl)) (some 27) rfl ?_
    refine hl_skip M 23 rfl (by decide) (by kernel_rfl) (by kernel_rfl) (want_und 21 false rfl 26 rfl (by kernel_rfl)) (some 28) rfl ?_
    refine hl_skip M 24 rfl (by decide) (by kernel_rfl) (by kernel_rfl) (want_und 21 false rfl 26 rfl (by kernel_rfl)) (some 29) rfl ?_
    refine hl_skip M 25 rfl (by decide) (by kernel_rfl) (by kernel_rfl) (want_und 21 false rfl 26 rfl (by kernel_rfl)) (some 30) rfl ?_
    refine hl_skip M 26 rfl (by decide) (by kernel_rfl) (by kernel_rfl) (want_und 21 false rfl 26 rfl (by kernel_rfl)) (some 31) rfl ?_
    refine hl_skip M 27 rfl (by decide) (by kernel_rfl) (by kernel_rfl) (want_und 21 false rfl 26 rfl (by kernel_rfl)) (some 32) rfl ?_
    refine hl_skip M 28 rfl (by decide) (by kernel_rfl) (by kernel_rfl) (want_und 21 false rfl 26 rfl (by kernel_rfl)) (some 33) rfl ?_
    refine hl_skip M 29 rfl (by decide) (by kernel_rfl) (by kernel_rfl) (want_und 21 false rfl 26 rfl (by kernel_rfl)) (some 34) rfl ?_
    refine hl_skip M 30 rfl (by decide) (by kernel_rfl) (by kernel_rfl) (want_und 21 false rfl 26 rfl (by kernel_rfl)) (some 35) rfl ?_
    refine hl_skip M 31 rfl (by decide) (by kernel_rfl) (by kernel_rfl) (want_off 10 true rfl 15 rfl (by kernel_rfl)) (some 36) rfl ?_
    refine qV M 32 37 (.bool false) ?_
    refine hl_end (by kernel_rfl) (by kernel_rfl) rfl ?_
    refine rV 1 ?_
    refine nT ?_
    refine au_then ?_
    refine wp_ret ?_
    have e0 : dwn y gn n = false := by unfold dwn; simp only [c0, Bool.false_and, Bool.true_and, Bool.not_true, Bool.not_false]
    exact bodyPost_ret (v := .bool false) (results_tmp1 Tryz.results13 _ _ _ (by kernel_rfl)) (by kernel_rfl) ⟨by rw [e0], ro_T hT M⟩

set_option maxRecDepth 100000 in
set_option maxHeartbeats 4000000 in
set_option linter.unusedSimpArgs false in
theorem c_dSeal {y : TS} {gn : Bool} {d : Nat} {sv : Value} {n : Nat} {s : ByteArray} (hn : n < 18446744073709551616) (h32 : y.sd.size = 32) (hz : s.size ≤ 5000) (hx : y.nx + 1 < 18446744073709551616) (w : World) (hL : Laid w)  (hT : There w [⟨d, .cells (av 14 (ls [.string y.sd, .string y.rv, .bool (y.fi), .int .u64 ((y.mt : Nat) : Int), .int .u64 ((y.rc : Nat) : Int), .int .u64 ((y.ct : Nat) : Int), .int .u64 ((y.rk : Nat) : Int), .int .u64 ((y.lf : Nat) : Int), .int .i64 ((y.sz : Nat) : Int), .int .u64 ((y.nx : Nat) : Int), .int .i64 ((y.sz : Nat) : Int), sv, .bool (y.su), .bool (gn)])) 51⟩]) :
    Calls Tryz.prog 27 #[.pointer (some ⟨d, 0, none⟩), .int .u64 (n : Int), .string s] w fun r w' => r = .returned (.tuple #[.int .u64 ((daN y gn n : Nat) : Int), .string (daC y gn n s), .int .i64 (daF y gn n)]) ∧ Grw w w' [d] ∧ w'.heap[d]? = some (.cells (av 14 (ls [.string y.sd, .string y.rv, .bool (y.fi), .int .u64 ((y.mt : Nat) : Int), .int .u64 ((y.rc : Nat) : Int), .int .u64 ((y.ct : Nat) : Int), .int .u64 ((y.rk : Nat) : Int), .int .u64 ((y.lf : Nat) : Int), .int .i64 ((y.sz : Nat) : Int), .int .u64 ((daX y gn n : Nat) : Int), .int .i64 ((y.sz : Nat) : Int), sv, .bool (y.su), .bool (gn)])) 51) := by
  go_enter Tryz.func27, Tryz.ntmps27
  have M : Mem ⟨w, [d]⟩ [⟨d, .cells (av 14 (ls [.string y.sd, .string y.rv, .bool (y.fi), .int .u64 ((y.mt : Nat) : Int), .int .u64 ((y.rc : Nat) : Int), .int .u64 ((y.ct : Nat) : Int), .int .u64 ((y.rk : Nat) : Int), .int .u64 ((y.lf : Nat) : Int), .int .i64 ((y.sz : Nat) : Int), .int .u64 ((y.nx : Nat) : Int), .int .i64 ((y.sz : Nat) : Int), sv, .bool (y.su), .bool (gn)])) 51⟩] w := Mem.startT hL hT
  refine sq ?_
  refine wp_seq ?_
  refine wp_seq ?_
  refine rg_held M [⟨d, .cells (av 14 (ls [.string y.sd, .string y.rv, .bool (y.fi), .int .u64 ((y.mt : Nat) : Int), .int .u64 ((y.rc : Nat) : Int), .int .u64 ((y.ct : Nat) : Int), .int .u64 ((y.rk : Nat) : Int), .int .u64 ((y.lf : Nat) : Int), .int .i64 ((y.sz : Nat) : Int), .int .u64 ((y.nx : Nat) : Int), .int .i64 ((y.sz : Nat) : Int), sv, .bool (y.su), .bool (gn)])) 51⟩] 14 rfl (by kernel_rfl) (by kernel_rfl) (fun _ _ d _ _ h => by cases d <;> exact h) fun u1 M => ?_
  replace M : Mem ⟨w, [d]⟩ [⟨d, .cells (av 14 (ls [.string y.sd, .string y.rv, .bool (y.fi), .int .u64 ((y.mt : Nat) : Int), .int .u64 ((y.rc : Nat) : Int), .int .u64 ((y.ct : Nat) : Int), .int .u64 ((y.rk : Nat) : Int), .int .u64 ((y.lf : Nat) : Int), .int .i64 ((y.sz : Nat) : Int), .int .u64 ((y.nx : Nat) : Int), .int .i64 ((y.sz : Nat) : Int), sv, .bool (y.su), .bool (gn)])) 51⟩] u1 := M
  refine qV M 0 11 (.pointer (some ⟨d, 0, none⟩)) ?_
  refine qV M 1 12 (.int .u64 (n : Int)) ?_
  refine hl_one 2 (by decide) (by kernel_rfl) rfl ?_
  rcases Bool.eq_false_or_eq_true (dov y gn n) with c0 | c0
  · skip
    refine pC M 13 11 #[.pointer (some ⟨d, 0, none⟩), .int .u64 (n : Int)] (.bool true) (fun w M => call_val (c_dOver hn w M.laid (M.there (.cons_cons _ (List.nil_sublist _)))) (congrArg Value.bool c0)) fun u2 M => ?_
    refine nT ?_
    refine ⟨M, ?_⟩
    refine qV M 3 14 (.bool true) ?_
    refine hl_skip M 4 rfl (by decide) (by kernel_rfl) (by kernel_rfl) (want_off 3 false rfl 14 rfl (by kernel_rfl)) (some 15) rfl ?_
    refine hl_skip M 5 rfl (by decide) (by kernel_rfl) (by kernel_rfl) (want_off 3 false rfl 14 rfl (by kernel_rfl)) (some 16) rfl ?_
    refine hl_skip M 6 rfl (by decide) (by kernel_rfl) (by kernel_rfl) (want_off 3 false rfl 14 rfl (by kernel_rfl)) (some 17) rfl ?_
    refine hl_skip M 7 rfl (by decide) (by kernel_rfl) (by kernel_rfl) (want_off 3 false rfl 14 rfl (by kernel_rfl)) (some 18) rfl ?_
    refine hl_skip M 8 rfl (by decide) (by kernel_rfl) (by kernel_rfl) (want_off 3 false rfl 14 rfl (by kernel_rfl)) (some 19) rfl ?_
    refine hl_skip M 9 rfl (by decide) (by kernel_rfl) (by kernel_rfl) (want_off 3 false rfl 14 rfl (by kernel_rfl)) (some 20) rfl ?_
    refine hl_skip M 10 rfl (by decide) (by kernel_rfl) (by kernel_rfl) (want_off 3 false rfl 14 rfl (by kernel_rfl)) (some 21) rfl ?_
    refine hl_skip M 11 rfl (by decide) (by kernel_rfl) (by kernel_rfl) (want_off 3 false rfl 14 rfl (by kernel_rfl)) (some 22) rfl ?_
    refine hl_skip M 12 rfl (by decide) (by kernel_rfl) (by kernel_rfl) (want_off 3 false rfl 14 rfl (by kernel_rfl)) (some 23) rfl ?_
    refine hl_skip M 13 rfl (by decide) (by kernel_rfl) (by kernel_rfl) (want_off 3 false rfl 14 rfl (by kernel_rfl)) (some 24) rfl ?_
    refine hl_end (by kernel_rfl) (by kernel_rfl) rfl ?_
    refine rV 1 ?_
    refine nT ?_
    refine au_then ?_
    refine wp_cond_true (by kernel_rfl) ?_
    refine sq ?_
    refine wp_ret ?_
    refine au_then_ret ?_
    have e0 : daF y gn n = 180 := by unfold daF; rw [if_pos c0]
    exact bodyPost_ret (v := .tuple #[.int .u64 0, .string ⟨#[]⟩, .int .i64 180]) (results_t3 Tryz.results27 _ _ _ _ _ (by kernel_rfl) (by kernel_rfl) (by kernel_rfl)) (by kernel_rfl) ⟨by unfold daN daC; rw [e0, if_neg (by decide), if_neg (by decide)]; rfl, M.old, by unfold daX; rw [e0, if_neg (by decide)]; exact M.get 0 rfl⟩
  · skip
    refine pC M 13 11 #[.pointer (some ⟨d, 0, none⟩), .int .u64 (n : Int)] (.bool false) (fun w M => call_val (c_dOver hn w M.laid (M.there (.cons_cons _ (List.nil_sublist _)))) (congrArg Value.bool c0)) fun u2 M => ?_
    refine nT ?_
    refine ⟨M, ?_⟩
    refine qV M 3 14 (.bool false) ?_
    refine hl_val M 4 rfl (by decide) (by kernel_rfl) (by kernel_rfl) (want_on 3 false rfl 14 rfl (by kernel_rfl)) (some 15) rfl (.pointer (some ⟨d, 0, none⟩)) (fun _ _ => by kernel_rfl) ?_
    refine hl_val M 5 rfl (by decide) (by kernel_rfl) (by kernel_rfl) (want_on 3 false rfl 14 rfl (by kernel_rfl)) (some 16) rfl (.pointer (some ⟨d, 0, none⟩)) (fun _ _ => by kernel_rfl) ?_
    refine hl_val M 6 rfl (by decide) (by kernel_rfl) (by kernel_rfl) (want_on 3 false rfl 14 rfl (by kernel_rfl)) (some 17) rfl (.pointer (some ⟨d, 9, none⟩)) (fun _ _ => by kernel_rfl) ?_
    refine hl_cell M 7 rfl (by decide) (by kernel_rfl) (by kernel_rfl) (want_on 3 false rfl 14 rfl (by kernel_rfl)) (some 18) rfl 24 _ rfl d 9 (by kernel_rfl) (.int .u64 ((y.nx : Nat) : Int)) (fun _ => by kernel_rfl) (fun w M => M.cell 0 rfl (by decide) rfl) ?_
    refine hl_val M 8 rfl (by decide) (by kernel_rfl) (by kernel_rfl) (want_on 3 false rfl 14 rfl (by kernel_rfl)) (some 19) rfl (.pointer (some ⟨d, 0, none⟩)) (fun _ _ => by kernel_rfl) ?_
    refine hl_val M 9 rfl (by decide) (by kernel_rfl) (by kernel_rfl) (want_on 3 false rfl 14 rfl (by kernel_rfl)) (some 20) rfl (.pointer (some ⟨d, 0, none⟩)) (fun _ _ => by kernel_rfl) ?_
    refine hl_val M 10 rfl (by decide) (by kernel_rfl) (by kernel_rfl) (want_on 3 false rfl 14 rfl (by kernel_rfl)) (some 21) rfl (.pointer (some ⟨d, 4, none⟩)) (fun _ _ => by kernel_rfl) ?_
    refine hl_val M 11 rfl (by decide) (by kernel_rfl) (by kernel_rfl) (want_on 3 false rfl 14 rfl (by kernel_rfl)) (some 22) rfl (.pointer (some ⟨d, 5, none⟩)) (fun _ _ => by kernel_rfl) ?_
    refine hl_cell M 12 rfl (by decide) (by kernel_rfl) (by kernel_rfl) (want_on 3 false rfl 14 rfl (by kernel_rfl)) (some 23) rfl 24 _ rfl d 5 (by kernel_rfl) (.int .u64 ((y.ct : Nat) : Int)) (fun _ => by kernel_rfl) (fun w M => M.cell 0 rfl (by decide) rfl) ?_
    by_cases c1 : ((y.nx : Nat) : Int) < ((y.ct : Nat) : Int)
    · skip
      refine hl_val M 13 rfl (by decide) (by kernel_rfl) (by kernel_rfl) (want_on 3 false rfl 14 rfl (by kernel_rfl)) (some 24) rfl (.bool false) (fun w _ => (fun w => Eq.trans (b := .ok (.value (.bool (decide (((y.ct : Nat) : Int) ≤ ((y.nx : Nat) : Int))))) w) (by kernel_rfl) (by rw [decide_eq_false (by omega)])) w) ?_
      refine hl_end (by kernel_rfl) (by kernel_rfl) rfl ?_
      refine rV 1 ?_
      refine nT ?_
      refine au_then ?_
      refine wp_cond_false (by kernel_rfl) ?_
      refine wp_skip ?_
      refine au_then ?_
      refine wp_seq ?_
      refine sR ?_
      refine rV 3 ?_
      rcases Bool.eq_false_or_eq_true (y.su) with c2 | c2
      · skip
        refine pE M 29 d 12 (.bool true) (fun w M => M.cell 0 rfl (by decide) (congrArg Value.bool c2)) ?_
        refine rV 1 ?_
        refine nT ?_
        refine wp_cond_false (by kernel_rfl) ?_
        refine wp_skip ?_
        refine au_then ?_
        refine wp_seq ?_
        refine rg_held M [⟨d, .cells (av 14 (ls [.string y.sd, .string y.rv, .bool (y.fi), .int .u64 ((y.mt : Nat) : Int), .int .u64 ((y.rc : Nat) : Int), .int .u64 ((y.ct : Nat) : Int), .int .u64 ((y.rk : Nat) : Int), .int .u64 ((y.lf : Nat) : Int), .int .i64 ((y.sz : Nat) : Int), .int .u64 ((y.nx : Nat) : Int), .int .i64 ((y.sz : Nat) : Int), sv, .bool (y.su), .bool (gn)])) 51⟩] 15 rfl (by kernel_rfl) (by kernel_rfl) (fun _ _ d _ _ h => by cases d <;> exact h) fun u3 M => ?_
        replace M : Mem ⟨w, [d]⟩ [⟨d, .cells (av 14 (ls [.string y.sd, .string y.rv, .bool (y.fi), .int .u64 ((y.mt : Nat) : Int), .int .u64 ((y.rc : Nat) : Int), .int .u64 ((y.ct : Nat) : Int), .int .u64 ((y.rk : Nat) : Int), .int .u64 ((y.lf : Nat) : Int), .int .i64 ((y.sz : Nat) : Int), .int .u64 ((y.nx : Nat) : Int), .int .i64 ((y.sz : Nat) : Int), sv, .bool (y.su), .bool (gn)])) 51⟩] u3 := M
        refine qV M 0 32 (.pointer (some ⟨d, 0, none⟩)) ?_
        refine qV M 1 33 (.pointer (some ⟨d, 0, none⟩)) ?_
        refine qV M 2 34 (.pointer (some ⟨d, 0, none⟩)) ?_
        refine hl_cell M 3 rfl (by decide) (by kernel_rfl) (by kernel_rfl) (want_no rfl) (some 35) rfl 9 _ rfl d 0 (by kernel_rfl) (.string y.sd) (fun _ => by kernel_rfl) (fun w M => M.cell 0 rfl (by decide) rfl) ?_
        refine qV M 4 36 (.pointer (some ⟨d, 0, none⟩)) ?_
        refine qV M 5 37 (.pointer (some ⟨d, 0, none⟩)) ?_
        refine qV M 6 38 (.pointer (some ⟨d, 9, none⟩)) ?_
        refine hl_cell M 7 rfl (by decide) (by kernel_rfl) (by kernel_rfl) (want_no rfl) (some 39) rfl 24 _ rfl d 9 (by kernel_rfl) (.int .u64 ((y.nx : Nat) : Int)) (fun _ => by kernel_rfl) (fun w M => M.cell 0 rfl (by decide) rfl) ?_
        refine qV M 9 41 (.string s) ?_
        refine hl_one 8 (by decide) (by kernel_rfl) rfl ?_
        refine ZC M 40 (fun w M => d_Nonce ((y.nx : Nat) : Int) w M.laid) fun u4 M => ?_
        refine nT ?_
        refine ⟨M, ?_⟩
        refine hl_one 10 (by decide) (by kernel_rfl) rfl ?_
        refine pC M 42 50 #[.string y.sd, .string (nS ((y.nx : Nat) : Int)), .string ⟨#[]⟩, .string s] (.tuple #[.string (sealS y.sd (nS ((y.nx : Nat) : Int)) ⟨#[]⟩ s), .int .i64 0]) (fun w M => d_SealA y.sd _ ⟨#[]⟩ s ⟨h32, nS_size _⟩ (show 0 + s.size ≤ 5000 by omega) w M.laid) fun u5 M => ?_
        refine nT ?_
        refine ⟨M, ?_⟩
        refine qV M 11 31 (.tuple #[.string (sealS y.sd (nS ((y.nx : Nat) : Int)) ⟨#[]⟩ s), .int .i64 0]) ?_
        refine qV M 12 43 (.string (sealS y.sd (nS ((y.nx : Nat) : Int)) ⟨#[]⟩ s)) ?_
        refine qV M 13 44 (.int .i64 0) ?_
        refine qV M 14 9 (.string (sealS y.sd (nS ((y.nx : Nat) : Int)) ⟨#[]⟩ s)) ?_
        refine hl_end (by kernel_rfl) (by kernel_rfl) rfl ?_
        refine rV 1 ?_
        refine nT ?_
        refine au_then ?_
        refine wp_seq ?_
        refine sq ?_
        refine wp_cond_false (by kernel_rfl) ?_
        refine wp_skip ?_
        refine au_then ?_
        refine sR ?_
        refine rV 3 ?_
        refine ZE M 51 0 9 ?_
        refine pH 52 (.int .u64 ((y.nx + 1 : Nat) : Int)) (fun w => Eq.trans (b := .ok (.value (.int .u64 (IntKind.wrap .u64 (((y.nx : Nat) : Int) + 1)))) w) (by kernel_rfl) (by rw [wrapU_suc y.nx (by omega)])) ?_
        refine rV 2 ?_
        refine pP M 0 rfl 9 (.int .u64 ((y.nx + 1 : Nat) : Int)) (ls [.string y.sd, .string y.rv, .bool (y.fi), .int .u64 ((y.mt : Nat) : Int), .int .u64 ((y.rc : Nat) : Int), .int .u64 ((y.ct : Nat) : Int), .int .u64 ((y.rk : Nat) : Int), .int .u64 ((y.lf : Nat) : Int), .int .i64 ((y.sz : Nat) : Int), .int .u64 ((y.nx + 1 : Nat) : Int), .int .i64 ((y.sz : Nat) : Int), sv, .bool (y.su), .bool (gn)]) (by decide) (put_ls _ 9 _ _ rfl) fun u6 M => ?_
        replace M : Mem ⟨w, [d]⟩ [⟨d, .cells (av 14 (ls [.string y.sd, .string y.rv, .bool (y.fi), .int .u64 ((y.mt : Nat) : Int), .int .u64 ((y.rc : Nat) : Int), .int .u64 ((y.ct : Nat) : Int), .int .u64 ((y.rk : Nat) : Int), .int .u64 ((y.lf : Nat) : Int), .int .i64 ((y.sz : Nat) : Int), .int .u64 ((y.nx + 1 : Nat) : Int), .int .i64 ((y.sz : Nat) : Int), sv, .bool (y.su), .bool (gn)])) 51⟩] u6 := M
        refine nT ?_
        refine sR ?_
        refine rV 3 ?_
        refine ZE M 58 0 9 ?_
        refine pH 59 (.int .u64 ((y.nx : Nat) : Int)) (fun w => Eq.trans (b := .ok (.value (.int .u64 (IntKind.wrap .u64 (((y.nx + 1 : Nat) : Int) - 1)))) w) (by kernel_rfl) (by rw [wrapU_pre y.nx (by omega)])) ?_
        refine rV 4 ?_
        refine nT ?_
        refine wp_ret ?_
        have e0 : daF y gn n = 0 := by unfold daF; rw [if_neg (Bool.eq_false_iff.1 c0), if_neg (by omega), if_pos c2]
        exact bodyPost_ret (v := .tuple #[.int .u64 ((y.nx : Nat) : Int), .string (sealS y.sd (nS ((y.nx : Nat) : Int)) ⟨#[]⟩ s), .int .i64 0]) (results_t3 Tryz.results27 _ _ _ _ _ (by kernel_rfl) (by kernel_rfl) (by kernel_rfl)) (by kernel_rfl) ⟨by unfold daN daC; rw [e0, if_pos rfl, if_pos rfl], M.old, by unfold daX; rw [e0, if_pos rfl]; exact M.get 0 rfl⟩
      · skip
        refine pE M 29 d 12 (.bool false) (fun w M => M.cell 0 rfl (by decide) (congrArg Value.bool c2)) ?_
        refine rV 1 ?_
        refine nT ?_
        refine wp_cond_true (by kernel_rfl) ?_
        refine sq ?_
        refine wp_ret ?_
        refine au_then_ret ?_
        have e0 : daF y gn n = 3 := by unfold daF; rw [if_neg (Bool.eq_false_iff.1 c0), if_neg (by omega), if_neg (Bool.eq_false_iff.1 c2)]
        exact bodyPost_ret (v := .tuple #[.int .u64 0, .string ⟨#[]⟩, .int .i64 3]) (results_t3 Tryz.results27 _ _ _ _ _ (by kernel_rfl) (by kernel_rfl) (by kernel_rfl)) (by kernel_rfl) ⟨by unfold daN daC; rw [e0, if_neg (by decide), if_neg (by decide)]; rfl, M.old, by unfold daX; rw [e0, if_neg (by decide)]; exact M.get 0 rfl⟩
    · skip
      refine hl_val M 13 rfl (by decide) (by kernel_rfl) (by kernel_rfl) (want_on 3 false rfl 14 rfl (by kernel_rfl)) (some 24) rfl (.bool true) (fun w _ => (fun w => Eq.trans (b := .ok (.value (.bool (decide (((y.ct : Nat) : Int) ≤ ((y.nx : Nat) : Int))))) w) (by kernel_rfl) (by rw [decide_eq_true (by omega)])) w) ?_
      refine hl_end (by kernel_rfl) (by kernel_rfl) rfl ?_
      refine rV 1 ?_
      refine nT ?_
      refine au_then ?_
      refine wp_cond_true (by kernel_rfl) ?_
      refine sq ?_
      refine wp_ret ?_
      refine au_then_ret ?_
      have e0 : daF y gn n = 180 := by unfold daF; rw [if_neg (Bool.eq_false_iff.1 c0), if_pos (by omega)]
      exact bodyPost_ret (v := .tuple #[.int .u64 0, .string ⟨#[]⟩, .int .i64 180]) (results_t3 Tryz.results27 _ _ _ _ _ (by kernel_rfl) (by kernel_rfl) (by kernel_rfl)) (by kernel_rfl) ⟨by unfold daN daC; rw [e0, if_neg (by decide), if_neg (by decide)]; rfl, M.old, by unfold daX; rw [e0, if_neg (by decide)]; exact M.get 0 rfl⟩

set_option maxRecDepth 100000 in
set_option maxHeartbeats 4000000 in
set_option linter.unusedSimpArgs false in
theorem c_dOpen {y : TS} {gn : Bool} {d : Nat} {sv : Value} {n : Nat} {i : Nat} {c : ByteArray} {Ts : List Blk} (hS : SlV 1 (vsU y.q) y.q.length sv Ts) (hs : 1 ≤ y.sz) (hs4 : y.sz ≤ 4096) (hl : y.q.length < 1000000) (hM : ∀ x ∈ y.q, x < 18446744073709551616) (hn : n < 18446744073709551616) (h32 : y.rv.size = 32) (hz : c.size ≤ 5000) (w : World) (hL : Laid w)  (hT : There w (⟨d, .cells (av 14 (ls [.string y.sd, .string y.rv, .bool (y.fi), .int .u64 ((y.mt : Nat) : Int), .int .u64 ((y.rc : Nat) : Int), .int .u64 ((y.ct : Nat) : Int), .int .u64 ((y.rk : Nat) : Int), .int .u64 ((y.lf : Nat) : Int), .int .i64 ((y.sz : Nat) : Int), .int .u64 ((y.nx : Nat) : Int), .int .i64 ((y.sz : Nat) : Int), sv, .bool (y.su), .bool (gn)])) 51⟩ :: Ts)) :
    Calls Tryz.prog 29 #[.pointer (some ⟨d, 0, none⟩), .int .u64 (n : Int), .int .u64 (i : Int), .string c] w fun r w' => ∃ x : Value × List Blk, r = .returned (.tuple #[.string (if daO y gn n i = 0 then opC y.rv i c else ⟨#[]⟩), .int .i64 (if daO y gn n i = 0 then opZ y.rv i c else daO y gn n i)]) ∧ SlV 1 (vsU (if daO y gn n i = 0 then opQ y.sz y.q y.rv i c else y.q)) (if daO y gn n i = 0 then opQ y.sz y.q y.rv i c else y.q).length x.1 x.2 ∧ OkT w w' (⟨d, .cells (av 14 (ls [.string y.sd, .string y.rv, .bool (y.fi), .int .u64 ((y.mt : Nat) : Int), .int .u64 ((y.rc : Nat) : Int), .int .u64 ((y.ct : Nat) : Int), .int .u64 ((y.rk : Nat) : Int), .int .u64 ((y.lf : Nat) : Int), .int .i64 ((y.sz : Nat) : Int), .int .u64 ((y.nx : Nat) : Int), .int .i64 ((y.sz : Nat) : Int), sv, .bool (y.su), .bool (gn)])) 51⟩ :: Ts) (⟨d, .cells (av 14 (ls [.string y.sd, .string y.rv, .bool (y.fi), .int .u64 ((y.mt : Nat) : Int), .int .u64 ((y.rc : Nat) : Int), .int .u64 ((y.ct : Nat) : Int), .int .u64 ((y.rk : Nat) : Int), .int .u64 ((y.lf : Nat) : Int), .int .i64 ((y.sz : Nat) : Int), .int .u64 ((y.nx : Nat) : Int), .int .i64 ((y.sz : Nat) : Int), x.1, .bool ((if daO y gn n i = 0 then opU y.su y.rv i c else y.su)), .bool (gn)])) 51⟩ :: x.2) := by
  go_enter Tryz.func29, Tryz.ntmps29
  have M : Mem ⟨w, (⟨d, .cells (av 14 (ls [.string y.sd, .string y.rv, .bool (y.fi), .int .u64 ((y.mt : Nat) : Int), .int .u64 ((y.rc : Nat) : Int), .int .u64 ((y.ct : Nat) : Int), .int .u64 ((y.rk : Nat) : Int), .int .u64 ((y.lf : Nat) : Int), .int .i64 ((y.sz : Nat) : Int), .int .u64 ((y.nx : Nat) : Int), .int .i64 ((y.sz : Nat) : Int), sv, .bool (y.su), .bool (gn)])) 51⟩ :: Ts).map Blk.g⟩ (⟨d, .cells (av 14 (ls [.string y.sd, .string y.rv, .bool (y.fi), .int .u64 ((y.mt : Nat) : Int), .int .u64 ((y.rc : Nat) : Int), .int .u64 ((y.ct : Nat) : Int), .int .u64 ((y.rk : Nat) : Int), .int .u64 ((y.lf : Nat) : Int), .int .i64 ((y.sz : Nat) : Int), .int .u64 ((y.nx : Nat) : Int), .int .i64 ((y.sz : Nat) : Int), sv, .bool (y.su), .bool (gn)])) 51⟩ :: Ts) w := Mem.startT hL hT
  refine sq ?_
  refine wp_seq ?_
  refine sR ?_
  refine rV 2 ?_
  rcases Bool.eq_false_or_eq_true (dov y gn n) with c0 | c0
  · skip
    refine pC M 14 11 #[.pointer (some ⟨d, 0, none⟩), .int .u64 (n : Int)] (.bool true) (fun w M => call_val (c_dOver hn w M.laid (M.there (.cons_cons _ (List.nil_sublist _)))) (congrArg Value.bool c0)) fun u1 M => ?_
    refine rV 9 ?_
    refine nT ?_
    refine wp_cond_true (by kernel_rfl) ?_
    refine sq ?_
    refine wp_ret ?_
    refine au_then_ret ?_
    have e0 : daO y gn n i = 180 := by unfold daO; rw [if_pos c0]
    exact bodyPost_ret (v := .tuple #[.string ⟨#[]⟩, .int .i64 180]) (results_tmp2 Tryz.results29 _ _ _ _ (by kernel_rfl) (by kernel_rfl)) (by kernel_rfl) ⟨(sv, Ts), by rw [if_neg (by rw [e0]; decide)]; rw [if_neg (by rw [e0]; decide)]; rw [e0], by rw [if_neg (by rw [e0]; decide)]; exact hS, by rw [if_neg (by rw [e0]; decide)]; exact M.okT0⟩
  · skip
    refine pC M 14 11 #[.pointer (some ⟨d, 0, none⟩), .int .u64 (n : Int)] (.bool false) (fun w M => call_val (c_dOver hn w M.laid (M.there (.cons_cons _ (List.nil_sublist _)))) (congrArg Value.bool c0)) fun u1 M => ?_
    refine rV 6 ?_
    refine pl_cell M (want_on 3 false rfl 15 rfl (by kernel_rfl)) (some 21) rfl 24 _ rfl d 5 (by kernel_rfl) (.int .u64 ((y.ct : Nat) : Int)) (fun _ => by kernel_rfl) (fun w M => M.cell 0 rfl (by decide) rfl) ?_
    by_cases c1 : (i : Int) < ((y.ct : Nat) : Int)
    · skip
      refine pl_val (want_on 3 false rfl 15 rfl (by kernel_rfl)) (some 22) rfl (.bool false) (fun w => Eq.trans (b := .ok (.value (.bool (decide (((y.ct : Nat) : Int) ≤ (i : Int))))) w) (by kernel_rfl) (by rw [decide_eq_false (by omega)])) ?_
      refine rV 1 ?_
      refine nT ?_
      refine wp_cond_false (by kernel_rfl) ?_
      refine wp_skip ?_
      refine au_then ?_
      refine sR ?_
      refine rV 4 ?_
      refine pC M 28 53 #[.pointer (some ⟨d, 10, none⟩), .int .u64 (i : Int)] (.int .i64 (my y.sz y.q i)) (fun w M => e_May hS hs hs4 hl hM w M.laid (M.there (List.Sublist.refl _))) fun u2 M => ?_
      refine rV 1 ?_
      refine nT ?_
      refine wp_seq ?_
      refine sR ?_
      refine rV 1 ?_
      by_cases c2 : (my y.sz y.q i) = 0
      · skip
        refine pH 30 (.bool false) (jD ((my y.sz y.q i) = 0) (c2)) ?_
        refine nT ?_
        refine wp_cond_false (by kernel_rfl) ?_
        refine wp_skip ?_
        refine au_then ?_
        refine wp_seq ?_
        refine rg_held M [⟨d, .cells (av 14 (ls [.string y.sd, .string y.rv, .bool (y.fi), .int .u64 ((y.mt : Nat) : Int), .int .u64 ((y.rc : Nat) : Int), .int .u64 ((y.ct : Nat) : Int), .int .u64 ((y.rk : Nat) : Int), .int .u64 ((y.lf : Nat) : Int), .int .i64 ((y.sz : Nat) : Int), .int .u64 ((y.nx : Nat) : Int), .int .i64 ((y.sz : Nat) : Int), sv, .bool (y.su), .bool (gn)])) 51⟩] 12 rfl (by kernel_rfl) (by kernel_rfl) (fun _ _ d _ _ h => by cases d <;> exact h) fun u3 M => ?_
        replace M : Mem ⟨w, (⟨d, .cells (av 14 (ls [.string y.sd, .string y.rv, .bool (y.fi), .int .u64 ((y.mt : Nat) : Int), .int .u64 ((y.rc : Nat) : Int), .int .u64 ((y.ct : Nat) : Int), .int .u64 ((y.rk : Nat) : Int), .int .u64 ((y.lf : Nat) : Int), .int .i64 ((y.sz : Nat) : Int), .int .u64 ((y.nx : Nat) : Int), .int .i64 ((y.sz : Nat) : Int), sv, .bool (y.su), .bool (gn)])) 51⟩ :: Ts).map Blk.g⟩ (⟨d, .cells (av 14 (ls [.string y.sd, .string y.rv, .bool (y.fi), .int .u64 ((y.mt : Nat) : Int), .int .u64 ((y.rc : Nat) : Int), .int .u64 ((y.ct : Nat) : Int), .int .u64 ((y.rk : Nat) : Int), .int .u64 ((y.lf : Nat) : Int), .int .i64 ((y.sz : Nat) : Int), .int .u64 ((y.nx : Nat) : Int), .int .i64 ((y.sz : Nat) : Int), sv, .bool (y.su), .bool (gn)])) 51⟩ :: Ts) u3 := M
        refine qV (M.drop (.cons_cons _ (List.nil_sublist _))) 0 33 (.pointer (some ⟨d, 0, none⟩)) ?_
        refine qV (M.drop (.cons_cons _ (List.nil_sublist _))) 1 34 (.pointer (some ⟨d, 0, none⟩)) ?_
        refine qV (M.drop (.cons_cons _ (List.nil_sublist _))) 2 35 (.pointer (some ⟨d, 1, none⟩)) ?_
        refine hl_cell (M.drop (.cons_cons _ (List.nil_sublist _))) 3 rfl (by decide) (by kernel_rfl) (by kernel_rfl) (want_no rfl) (some 36) rfl 9 _ rfl d 1 (by kernel_rfl) (.string y.rv) (fun _ => by kernel_rfl) (fun w M => M.cell 0 rfl (by decide) rfl) ?_
        refine qV (M.drop (.cons_cons _ (List.nil_sublist _))) 4 37 (.int .u64 (i : Int)) ?_
        refine qV (M.drop (.cons_cons _ (List.nil_sublist _))) 6 39 (.string c) ?_
        refine hl_one 5 (by decide) (by kernel_rfl) rfl ?_
        refine ZC M 38 (fun w M => d_Nonce (i : Int) w M.laid) fun u4 M => ?_
        refine nT ?_
        refine ⟨(M.drop (.cons_cons _ (List.nil_sublist _))), ?_⟩
        refine hl_one 7 (by decide) (by kernel_rfl) rfl ?_
        refine ZC M 40 (fun w M => d_AOpen y.rv i c h32 hz w M.laid) fun u5 M => ?_
        refine nT ?_
        refine ⟨(M.drop (.cons_cons _ (List.nil_sublist _))), ?_⟩
        refine qV (M.drop (.cons_cons _ (List.nil_sublist _))) 8 32 (.tuple #[.string (opC y.rv i c), .int .i64 (opZ y.rv i c)]) ?_
        refine qV (M.drop (.cons_cons _ (List.nil_sublist _))) 9 41 (.string (opC y.rv i c)) ?_
        refine qV (M.drop (.cons_cons _ (List.nil_sublist _))) 10 42 (.int .i64 (opZ y.rv i c)) ?_
        refine qV (M.drop (.cons_cons _ (List.nil_sublist _))) 11 11 (.string (opC y.rv i c)) ?_
        refine hl_end (by kernel_rfl) (by kernel_rfl) rfl ?_
        refine rV 1 ?_
        refine nT ?_
        refine au_then ?_
        refine wp_seq ?_
        refine sR ?_
        refine rV 1 ?_
        by_cases c3 : (opZ y.rv i c) = 0
        · skip
          refine pH 44 (.bool false) (jD ((opZ y.rv i c) = 0) (c3)) ?_
          refine nT ?_
          refine wp_cond_false (by kernel_rfl) ?_
          refine wp_skip ?_
          refine au_then ?_
          refine sR ?_
          refine rV 4 ?_
          refine pl_callM M (want_no rfl) (some 50) rfl 55 #[.pointer (some ⟨d, 10, none⟩), .int .u64 (i : Int)] [] (⟨d, .cells (av 14 (ls [.string y.sd, .string y.rv, .bool (y.fi), .int .u64 ((y.mt : Nat) : Int), .int .u64 ((y.rc : Nat) : Int), .int .u64 ((y.ct : Nat) : Int), .int .u64 ((y.rk : Nat) : Int), .int .u64 ((y.lf : Nat) : Int), .int .i64 ((y.sz : Nat) : Int), .int .u64 ((y.nx : Nat) : Int), .int .i64 ((y.sz : Nat) : Int), sv, .bool (y.su), .bool (gn)])) 51⟩ :: Ts) [] (by simp only [List.append_assoc, List.cons_append, List.nil_append, List.append_nil]) (fun x : Value × List Blk => .int .i64 (my y.sz y.q i)) (fun x : Value × List Blk => ⟨d, .cells (av 14 (ls [.string y.sd, .string y.rv, .bool (y.fi), .int .u64 ((y.mt : Nat) : Int), .int .u64 ((y.rc : Nat) : Int), .int .u64 ((y.ct : Nat) : Int), .int .u64 ((y.rk : Nat) : Int), .int .u64 ((y.lf : Nat) : Int), .int .i64 ((y.sz : Nat) : Int), .int .u64 ((y.nx : Nat) : Int), .int .i64 ((y.sz : Nat) : Int), x.1, .bool (y.su), .bool (gn)])) 51⟩ :: x.2) (fun x : Value × List Blk => SlV 1 (vsU (mk y.sz y.q i)) (mk y.sz y.q i).length x.1 x.2) (fun _ => by kernel_rfl) (fun w hL hT => e_Mark hS hs hs4 hl hM w hL hT) ?_
          rintro ⟨sv2, T2⟩ u6 hS2 M
          replace M : Mem ⟨w, (⟨d, .cells (av 14 (ls [.string y.sd, .string y.rv, .bool (y.fi), .int .u64 ((y.mt : Nat) : Int), .int .u64 ((y.rc : Nat) : Int), .int .u64 ((y.ct : Nat) : Int), .int .u64 ((y.rk : Nat) : Int), .int .u64 ((y.lf : Nat) : Int), .int .i64 ((y.sz : Nat) : Int), .int .u64 ((y.nx : Nat) : Int), .int .i64 ((y.sz : Nat) : Int), sv, .bool (y.su), .bool (gn)])) 51⟩ :: Ts).map Blk.g⟩ (⟨d, .cells (av 14 (ls [.string y.sd, .string y.rv, .bool (y.fi), .int .u64 ((y.mt : Nat) : Int), .int .u64 ((y.rc : Nat) : Int), .int .u64 ((y.ct : Nat) : Int), .int .u64 ((y.rk : Nat) : Int), .int .u64 ((y.lf : Nat) : Int), .int .i64 ((y.sz : Nat) : Int), .int .u64 ((y.nx : Nat) : Int), .int .i64 ((y.sz : Nat) : Int), sv2, .bool (y.su), .bool (gn)])) 51⟩ :: T2) u6 := by simpa only [List.append_assoc, List.cons_append, List.nil_append, List.append_nil] using M
          refine nT ?_
          refine sR ?_
          refine rV 3 ?_
          refine pP M 0 rfl 12 (.bool true) (ls [.string y.sd, .string y.rv, .bool (y.fi), .int .u64 ((y.mt : Nat) : Int), .int .u64 ((y.rc : Nat) : Int), .int .u64 ((y.ct : Nat) : Int), .int .u64 ((y.rk : Nat) : Int), .int .u64 ((y.lf : Nat) : Int), .int .i64 ((y.sz : Nat) : Int), .int .u64 ((y.nx : Nat) : Int), .int .i64 ((y.sz : Nat) : Int), sv2, .bool true, .bool (gn)]) (by decide) (put_ls _ 12 _ _ rfl) fun u7 M => ?_
          replace M : Mem ⟨w, (⟨d, .cells (av 14 (ls [.string y.sd, .string y.rv, .bool (y.fi), .int .u64 ((y.mt : Nat) : Int), .int .u64 ((y.rc : Nat) : Int), .int .u64 ((y.ct : Nat) : Int), .int .u64 ((y.rk : Nat) : Int), .int .u64 ((y.lf : Nat) : Int), .int .i64 ((y.sz : Nat) : Int), .int .u64 ((y.nx : Nat) : Int), .int .i64 ((y.sz : Nat) : Int), sv, .bool (y.su), .bool (gn)])) 51⟩ :: Ts).map Blk.g⟩ (⟨d, .cells (av 14 (ls [.string y.sd, .string y.rv, .bool (y.fi), .int .u64 ((y.mt : Nat) : Int), .int .u64 ((y.rc : Nat) : Int), .int .u64 ((y.ct : Nat) : Int), .int .u64 ((y.rk : Nat) : Int), .int .u64 ((y.lf : Nat) : Int), .int .i64 ((y.sz : Nat) : Int), .int .u64 ((y.nx : Nat) : Int), .int .i64 ((y.sz : Nat) : Int), sv2, .bool true, .bool (gn)])) 51⟩ :: T2) u7 := M
          refine nT ?_
          refine sq ?_
          refine wp_ret ?_
          have e0 : daO y gn n i = my y.sz y.q i := by unfold daO; rw [if_neg (Bool.eq_false_iff.1 c0), if_neg (by omega)]
          have e9 : daO y gn n i = 0 := e0.trans c2
          have e1 : opU y.su y.rv i c = true := by unfold opU; rw [if_pos c3]
          have e2 : opQ y.sz y.q y.rv i c = mk y.sz y.q i := by unfold opQ; rw [if_pos c3]
          exact bodyPost_ret (v := .tuple #[.string (opC y.rv i c), .int .i64 0]) (results_tmp2 Tryz.results29 _ _ _ _ (by kernel_rfl) (by kernel_rfl)) (by kernel_rfl) ⟨(sv2, T2), by rw [if_pos e9]; rw [if_pos e9]; rw [c3], by rw [if_pos e9]; rw [e2]; exact hS2, by rw [if_pos e9]; rw [e1]; exact M.okT0⟩
        · skip
          refine pH 44 (.bool true) (jU ((opZ y.rv i c) = 0) (c3)) ?_
          refine nT ?_
          refine wp_cond_true (by kernel_rfl) ?_
          refine sq ?_
          refine wp_ret ?_
          refine au_then_ret ?_
          have e0 : daO y gn n i = my y.sz y.q i := by unfold daO; rw [if_neg (Bool.eq_false_iff.1 c0), if_neg (by omega)]
          have e9 : daO y gn n i = 0 := e0.trans c2
          have e1 : opU y.su y.rv i c = y.su := by unfold opU; rw [if_neg c3]
          have e2 : opQ y.sz y.q y.rv i c = y.q := by unfold opQ; rw [if_neg c3]
          have e3 : opC y.rv i c = ⟨#[]⟩ := by unfold opC; rw [if_neg c3]
          exact bodyPost_ret (v := .tuple #[.string ⟨#[]⟩, .int .i64 (opZ y.rv i c)]) (results_tmp2 Tryz.results29 _ _ _ _ (by kernel_rfl) (by kernel_rfl)) (by kernel_rfl) ⟨(sv, Ts), by rw [if_pos e9]; rw [if_pos e9]; rw [e3], by rw [if_pos e9]; rw [e2]; exact hS, by rw [if_pos e9]; rw [e1]; exact M.okT0⟩
      · skip
        refine pH 30 (.bool true) (jU ((my y.sz y.q i) = 0) (c2)) ?_
        refine nT ?_
        refine wp_cond_true (by kernel_rfl) ?_
        refine sq ?_
        refine wp_ret ?_
        refine au_then_ret ?_
        have e0 : daO y gn n i = my y.sz y.q i := by unfold daO; rw [if_neg (Bool.eq_false_iff.1 c0), if_neg (by omega)]
        exact bodyPost_ret (v := .tuple #[.string ⟨#[]⟩, .int .i64 (my y.sz y.q i)]) (results_tmp2 Tryz.results29 _ _ _ _ (by kernel_rfl) (by kernel_rfl)) (by kernel_rfl) ⟨(sv, Ts), by rw [if_neg (by rw [e0]; exact c2)]; rw [if_neg (by rw [e0]; exact c2)]; rw [e0], by rw [if_neg (by rw [e0]; exact c2)]; exact hS, by rw [if_neg (by rw [e0]; exact c2)]; exact M.okT0⟩
    · skip
      refine pl_val (want_on 3 false rfl 15 rfl (by kernel_rfl)) (some 22) rfl (.bool true) (fun w => Eq.trans (b := .ok (.value (.bool (decide (((y.ct : Nat) : Int) ≤ (i : Int))))) w) (by kernel_rfl) (by rw [decide_eq_true (by omega)])) ?_
      refine rV 1 ?_
      refine nT ?_
      refine wp_cond_true (by kernel_rfl) ?_
      refine sq ?_
      refine wp_ret ?_
      refine au_then_ret ?_
      have e0 : daO y gn n i = 180 := by unfold daO; rw [if_neg (Bool.eq_false_iff.1 c0), if_pos (by omega)]
      exact bodyPost_ret (v := .tuple #[.string ⟨#[]⟩, .int .i64 180]) (results_tmp2 Tryz.results29 _ _ _ _ (by kernel_rfl) (by kernel_rfl)) (by kernel_rfl) ⟨(sv, Ts), by rw [if_neg (by rw [e0]; decide)]; rw [if_neg (by rw [e0]; decide)]; rw [e0], by rw [if_neg (by rw [e0]; decide)]; exact hS, by rw [if_neg (by rw [e0]; decide)]; exact M.okT0⟩


end Go.Proofs.YtenafinbaanicaaGreatDoor
namespace Go.Proofs.YtenafinbaanicaaGreatDoor
open Go.RowKit
set_option maxRecDepth 100000

/-- What the program's end has, where the document's has y, and is gone or not. -/
def pX (y : TS) (gn : Bool) : TS := if gn then y.wX else y
def jS (y : TS) (gn : Bool) (n : Nat) (s : ByteArray) : TS := if gn then y else y.sX n s
def jO (y : TS) (gn : Bool) (n i : Nat) (c : ByteArray) : TS := if gn then y else y.oX n i c
theorem pX_ov {y : TS} {gn : Bool} {n : Nat} (h : y.sd.size = 32) : (pX y gn).ov n = dov y gn n := by
  unfold pX dov
  cases gn
  · unfold TS.ov ovB
    simp only [Bool.false_or, Bool.false_eq_true, if_false]
    have := ne_empty h (by decide)
    simp [this]
  · simp only [if_true, Bool.true_or]
    unfold TS.ov ovB
    exact decide_eq_true (Or.inl rfl)
theorem pX_wn {y : TS} {gn : Bool} {n : Nat} (h : y.sd.size = 32) : (pX y gn).wn n = dwn y gn n := by
  have h2 := pX_ov (gn := gn) (n := n) h
  unfold TS.ov at h2
  unfold TS.wn wnB dwn
  rw [h2]
  cases gn <;> rfl
theorem pX_su (y : TS) (gn : Bool) : (pX y gn).su = y.su ∧ (pX y gn).nx = y.nx ∧ (pX y gn).ct = y.ct ∧ (pX y gn).q = y.q ∧ (pX y gn).sz = y.sz := by
  unfold pX
  cases gn <;> exact ⟨rfl, rfl, rfl, rfl, rfl⟩
theorem pX_ok {y : TS} {gn : Bool} (h : y.Ok) : (pX y gn).Ok := by
  unfold pX
  cases gn
  · exact h
  · exact h.wipe
theorem pX_sF {y : TS} {gn : Bool} {n : Nat} (h : y.sd.size = 32) : (pX y gn).sF n = daF y gn n := by
  have h2 := pX_ov (gn := gn) (n := n) h
  unfold TS.ov at h2
  obtain ⟨e1, e2, e3, _⟩ := pX_su y gn
  unfold TS.sF slF daF
  rw [h2, e1, e2, e3]
theorem pX_oF {y : TS} {gn : Bool} {n i : Nat} (h : y.sd.size = 32) : (pX y gn).oF n i = daO y gn n i := by
  have h2 := pX_ov (gn := gn) (n := n) h
  unfold TS.ov at h2
  obtain ⟨e1, e2, e3, e4, e5⟩ := pX_su y gn
  unfold TS.oF opF daO
  rw [h2, e3, e4, e5]
theorem daF_gone {y : TS} {n : Nat} : daF y true n = 180 := rfl
theorem daO_gone {y : TS} {n i : Nat} : daO y true n i = 180 := rfl
theorem pX_sX {y : TS} {gn : Bool} {n : Nat} {s : ByteArray} (h : y.sd.size = 32) : (pX y gn).sX n s = pX (jS y gn n s) gn := by
  cases gn
  · rfl
  · have h1 := pX_sF (gn := true) (n := n) h
    rw [daF_gone] at h1
    unfold TS.sX
    rw [h1, if_neg (by decide)]
    rfl
theorem pX_oX {y : TS} {gn : Bool} {n i : Nat} {c : ByteArray} (h : y.sd.size = 32) : (pX y gn).oX n i c = pX (jO y gn n i c) gn := by
  cases gn
  · rfl
  · have h1 := pX_oF (gn := true) (n := n) (i := i) h
    rw [daO_gone] at h1
    unfold TS.oX
    rw [h1, if_neg (by decide)]
    rfl
theorem pX_sV {y : TS} {gn : Bool} {n : Nat} {s : ByteArray} (h : y.sd.size = 32) (hs : s.size ≤ 65536) : (pX y gn).sN n s = daN y gn n ∧ (pX y gn).sC n s = daC y gn n s ∧ (pX y gn).sE n s = daF y gn n := by
  unfold TS.sN TS.sC TS.sE daN daC
  rw [pX_sF h]
  cases gn
  · have e1 := slZ_ok (nx := y.nx) h hs
    unfold pX slN slC
    simp only [Bool.false_eq_true, if_false, e1, if_true]
    refine ⟨trivial, trivial, ?_⟩
    split
    · exact Eq.symm (by assumption)
    · rfl
  · rw [daF_gone]
    exact ⟨rfl, rfl, rfl⟩
theorem jS_daX {y : TS} {gn : Bool} {n : Nat} {s : ByteArray} (h : y.sd.size = 32) (hs : s.size ≤ 65536) : jS y gn n s = { y with nx := daX y gn n } := by
  cases gn
  · have e1 := slZ_ok (nx := y.nx) h hs
    have e0 : y.sF n = daF y false n := pX_sF (gn := false) h
    show y.sX n s = _
    unfold TS.sX daX slX
    rw [e0, if_pos e1]
    split <;> rfl
  · unfold daX
    rw [daF_gone]
    rfl
theorem oV {y : TS} {gn : Bool} {n i : Nat} {c : ByteArray} (h : y.sd.size = 32) : (pX y gn).oC n i c = (if daO y gn n i = 0 then opC y.rv i c else ⟨#[]⟩) ∧ (pX y gn).oE n i c = (if daO y gn n i = 0 then opZ y.rv i c else daO y gn n i) := by
  unfold TS.oC TS.oE
  rw [pX_oF h]
  cases gn
  · exact ⟨rfl, rfl⟩
  · rw [daO_gone]
    exact ⟨rfl, rfl⟩
theorem jO_eq {y : TS} {gn : Bool} {n i : Nat} {c : ByteArray} (h : y.sd.size = 32) : jO y gn n i c = { y with su := (if daO y gn n i = 0 then opU y.su y.rv i c else y.su), q := (if daO y gn n i = 0 then opQ y.sz y.q y.rv i c else y.q) } := by
  cases gn
  · have e0 : y.oF n i = daO y false n i := pX_oF (gn := false) h
    show y.oX n i c = _
    unfold TS.oX
    rw [e0]
    split <;> rfl
  · rw [daO_gone]
    rfl
/-- A part that is not called upon stays. -/
theorem OkT.frame {w w' : World} {T T' R : List Blk} (h : OkT w w' T T') (hT : There w (T ++ R)) : OkT w w' (T ++ R) (T' ++ R) := by
  have hn := hT.nodup
  rw [List.map_append, List.nodup_append] at hn
  have hlt : ∀ b ∈ R, b.g < w.heap.size := fun b hb => (Array.getElem?_eq_some_iff.1 (hT.at_ b (List.mem_append_right _ hb))).1
  refine ⟨⟨h.grw.os, h.grw.tape, h.grw.output, h.grw.size, fun k hk hr => h.grw.block k hk fun e => hr (by rw [List.map_append]; exact List.mem_append_left _ e)⟩, fun b hb => ?_, ?_, fun b hb => ?_⟩
  · rcases List.mem_append.1 hb with hb | hb
    · exact h.at_ b hb
    · rw [h.grw.block _ (hlt b hb) fun e => hn.2.2 _ e _ (List.mem_map_of_mem hb) rfl]
      exact hT.at_ b (List.mem_append_right _ hb)
  · rw [List.map_append, List.nodup_append]
    refine ⟨h.nodup, hn.2.1, fun x hx y hy e => ?_⟩
    obtain ⟨b, hb, rfl⟩ := List.mem_map.1 hx
    obtain ⟨c, hc, rfl⟩ := List.mem_map.1 hy
    rcases h.ge b hb with h1 | h1
    · exact hn.2.2 _ h1 _ (List.mem_map_of_mem hc) e
    · have := hlt c hc
      omega
  · rcases List.mem_append.1 hb with hb | hb
    · rcases h.ge b hb with h1 | h1
      · exact .inl (by rw [List.map_append]; exact List.mem_append_left _ h1)
      · exact .inr h1
    · exact .inl (by rw [List.map_append]; exact List.mem_append_right _ (List.mem_map_of_mem hb))
/-- What is asked of a tunnel of the document. -/
structure TS.Dk (y : TS) : Prop extends y.Ok where
  k1 : y.sd.size = 32
  k2 : y.rv.size = 32
  ql : y.q.length < 1000000
  qm : ∀ x ∈ y.q, x < 18446744073709551616
section
variable {d : Nat} {y : TS} {gn : Bool} {D : List Blk} {n : Nat}
theorem e_Over (hI : IsD d y gn D) (hy : y.sd.size = 32) (hn : n < 18446744073709551616) (w : World) (hL : Laid w) (hT : There w D) : Calls Tryz.prog 11 #[.pointer (some ⟨d, 0, none⟩), .int .u64 (n : Int)] w fun r w' => r = .returned (.bool ((pX y gn).ov n)) ∧ Below w.heap.size w w' := by
  obtain ⟨sv, Ts, rfl, hS⟩ := hI.out
  rw [pX_ov hy]
  exact c_dOver hn w hL (hT.sub (.cons_cons _ (List.nil_sublist _)))
theorem e_Wants (hI : IsD d y gn D) (hy : y.sd.size = 32) (hn : n < 18446744073709551616) (w : World) (hL : Laid w) (hT : There w D) : Calls Tryz.prog 13 #[.pointer (some ⟨d, 0, none⟩), .int .u64 (n : Int)] w fun r w' => r = .returned (.bool ((pX y gn).wn n)) ∧ Below w.heap.size w w' := by
  obtain ⟨sv, Ts, rfl, hS⟩ := hI.out
  rw [pX_wn hy]
  exact c_dWants hn w hL (hT.sub (.cons_cons _ (List.nil_sublist _)))
theorem e_Seal {s : ByteArray} (hI : IsD d y gn D) (ok : y.Dk) (hn : n < 18446744073709551616) (hs : s.size ≤ 5000) (w : World) (hL : Laid w) (hT : There w D) : Calls Tryz.prog 27 #[.pointer (some ⟨d, 0, none⟩), .int .u64 (n : Int), .string s] w fun r w' => ∃ D', r = .returned (.tuple #[.int .u64 (((pX y gn).sN n s : Nat) : Int), .string ((pX y gn).sC n s), .int .i64 ((pX y gn).sE n s)]) ∧ IsD d (jS y gn n s) gn D' ∧ OkT w w' D D' := by
  obtain ⟨sv, Ts, rfl, hS⟩ := hI.out
  have h1 := ok.n
  have h2 := ok.c
  obtain ⟨e1, e2, e3⟩ := pX_sV (gn := gn) (n := n) ok.k1 (show s.size ≤ 65536 by omega)
  rw [e1, e2, e3, jS_daX ok.k1 (show s.size ≤ 65536 by omega)]
  have hT1 := hT.sub (.cons_cons _ (List.nil_sublist _))
  exact (c_dSeal hn ok.k1 hs (by omega) w hL hT1).mono fun _ _ ⟨he, hg, hz⟩ => ⟨_, he, ⟨sv, Ts, rfl, hS⟩, (OkT.frame (T := [_]) (T' := [_]) ⟨hg, by simpa using hz, by simp, by simp⟩ hT)⟩
theorem e_Open {i : Nat} {c : ByteArray} (hI : IsD d y gn D) (ok : y.Dk) (hn : n < 18446744073709551616) (hc : c.size ≤ 5000) (w : World) (hL : Laid w) (hT : There w D) : Calls Tryz.prog 29 #[.pointer (some ⟨d, 0, none⟩), .int .u64 (n : Int), .int .u64 (i : Int), .string c] w fun r w' => ∃ D', r = .returned (.tuple #[.string ((pX y gn).oC n i c), .int .i64 ((pX y gn).oE n i c)]) ∧ IsD d (jO y gn n i c) gn D' ∧ OkT w w' D D' := by
  obtain ⟨sv, Ts, rfl, hS⟩ := hI.out
  obtain ⟨e1, e2⟩ := oV (gn := gn) (n := n) (i := i) (c := c) ok.k1
  rw [e1, e2, jO_eq ok.k1]
  exact (c_dOpen hS ok.s1 ok.s2 ok.ql ok.qm hn ok.k2 hc w hL hT).mono fun _ _ ⟨x, he, h1, hk⟩ => ⟨_, he, ⟨x.1, x.2, rfl, h1⟩, hk⟩
end
theorem jS_dk {y : TS} {gn : Bool} {n : Nat} {s : ByteArray} (h : y.Dk) : (jS y gn n s).Dk ∧ (jS y gn n s).q = y.q := by
  unfold jS
  cases gn
  · have h1 := h.toOk.seal n s
    unfold TS.sX at h1 ⊢
    simp only [Bool.false_eq_true, if_false]
    split at h1
    · rename_i hh
      rw [if_pos hh]
      exact ⟨⟨h1, h.k1, h.k2, h.ql, h.qm⟩, rfl⟩
    · rename_i hh
      rw [if_neg hh]
      exact ⟨h, rfl⟩
  · exact ⟨h, rfl⟩
theorem jO_dk {y : TS} {gn : Bool} {n i : Nat} {c : ByteArray} (h : y.Dk) (hi : i < 18446744073709551616) (hl : y.q.length + 1 < 1000000) : (jO y gn n i c).Dk ∧ (jO y gn n i c).q.length ≤ y.q.length + 1 := by
  rw [jO_eq h.k1]
  have hq : (∀ x ∈ (if daO y gn n i = 0 then opQ y.sz y.q y.rv i c else y.q), x < 18446744073709551616) ∧ (if daO y gn n i = 0 then opQ y.sz y.q y.rv i c else y.q).length ≤ y.q.length + 1 := by
    unfold opQ
    split
    · split
      · exact ⟨mk_lt h.qm hi, mk_len _ _ _⟩
      · exact ⟨h.qm, by omega⟩
    · exact ⟨h.qm, by omega⟩
  exact ⟨⟨⟨h.s1, h.s2, h.c, h.n⟩, h.k1, h.k2, Nat.lt_of_le_of_lt hq.2 hl, hq.1⟩, hq.2⟩

end Go.Proofs.YtenafinbaanicaaGreatDoor
namespace Go.Proofs.YtenafinbaanicaaGreatDoor
open Go.RowKit
set_option maxRecDepth 100000

theorem run_ixK {P : Program} {a : Act} {o : Oper} (t elem K : TypeId) (hu : P.underlying t = some (.slice elem)) (hs : (P.info? elem).map (·.size) = some K) (x ix : Operand) (ho : o.op = .indexAddr t x ix) (l : Option Addr) (g off len cap : Nat) (hx : a.eval x = .slice l len cap) (hl : l = some ⟨g, off, none⟩) (k : IntKind) (i : Nat) (hi : a.eval ix = .int k (i : Int)) (hlt : i < len) (w : World) :
    (execOp a.eval o).run P w = .ok (.value (.pointer (some ⟨g, off + i * K, none⟩))) w := by
  subst hl
  cases hq : P.info? elem with
  | none => simp [hq] at hs
  | some info =>
    have hsz : info.size = K := by simpa [hq] using hs
    unfold execOp
    simp [ho, hx, hi, Instr.indexAt, asIntOf, run_underlying hu, sizeOf, typeInfo, hq, hsz, add_at, hlt]

theorem run_remN {P : Program} {a : Act} {o : Oper} (t rt : TypeId) (x y : Operand) (ho : o.op = .binOp .rem t x y rt) (m d : Nat) (hx : a.eval x = .int .i64 (m : Int)) (hy : a.eval y = .int .i64 (d : Int)) (hd : 0 < d) (w : World) :
    (execOp a.eval o).run P w = .ok (.value (.int .i64 ((m % d : Nat) : Int))) w := by
  have h0 : ¬ d = 0 := by omega
  have e : Int.tmod (m : Int) (d : Int) = (m : Int) % (d : Int) := rfl
  unfold execOp
  simp [ho, hx, hy, eqGuard, binOp, Op.intDiv, h0, e]
section
variable {P : Program} {ops : Array Oper} {rest : List Oper} {o : Oper} {a : Act} {w : World} {c : Ctx} {L : List Blk} {Q : Exit → Act → World → Prop}
theorem pl_loadO (M : Mem c L w) (hw : Region.wanted o (yielded ops a.tmps) = true) (d : Option Tmp) (hd : o.dst = d) (ty : TypeId) (x : Operand) (ho : o.op = .load ty x) (g off : Nat) (hx : a.eval x = .pointer (some ⟨g, off, none⟩)) (k : Nat) (F : Nat → Value) (hp : ∀ w, Mem c L w → ∀ j, j < k → w.cell? ⟨g, off + j, none⟩ = some (F j)) (t : TypeDesc) (hu : P.underlying ty = some t) (ht : t.isRow = true) (hz : (P.info? ty).map (·.size) = some k)
    (h : PL P ops Q rest (a.put d (.agg (av k F))) w) : PL P ops Q (o :: rest) a w := by
  refine pl_to hw d hd (.agg (av k F)) w ?_ h
  unfold execOp
  have hl := run_loadAt_mid (P := P) w g off ty (av k F).toList t (fun j v hv => by
    obtain ⟨hj, rfl⟩ := av_toList_get k F j v hv
    exact hp w M j hj) hu ht (by rw [hz]; simp [av_size])
  simp only [ho, hx, Sem.run_bind, hl, Result.andThen_ok, Sem.run_pure, Array.toArray_toList]
end
theorem okT_of {w W : World} {T T' : List Blk} {R : List Nat} (hR : R = T.map Blk.g) (M : Mem ⟨w, R⟩ T' W) : OkT w W T T' := by
  subst hR
  exact M.okT0
/-- Pairs of a number and a text, as cells. -/
def prs (L : List (Nat × ByteArray)) : List Value := L.flatMap fun x => [.int .u64 (x.1 : Int), .string x.2]
theorem prs_app (L : List (Nat × ByteArray)) (n : Nat) (c : ByteArray) : prs (L ++ [(n, c)]) = prs L ++ [.int .u64 (n : Int), .string c] := by simp [prs]
theorem prs_get : ∀ (L : List (Nat × ByteArray)) (r : Nat), r < L.length → ∃ n c, (n, c) ∈ L ∧ (prs L)[r * 2]? = some (.int .u64 (n : Int)) ∧ (prs L)[r * 2 + 1]? = some (.string c)
  | [], r, h => absurd h (Nat.not_lt_zero r)
  | (n, c) :: L, 0, _ => ⟨n, c, by simp, rfl, rfl⟩
  | x :: L, r + 1, h => by
    obtain ⟨n, c, h1, h2, h3⟩ := prs_get L r (by simpa using h)
    refine ⟨n, c, List.mem_cons_of_mem _ h1, ?_, ?_⟩
    · rw [show (r + 1) * 2 = r * 2 + 2 by omega]
      exact h2
    · rw [show (r + 1) * 2 + 1 = r * 2 + 1 + 2 by omega]
      exact h3
structure Lk (L : List (Nat × ByteArray)) (c : Nat) : Prop where
  len : L.length ≤ c
  all : ∀ x ∈ L, x.1 < 18446744073709551616 ∧ x.2.size ≤ 4200
theorem Lk.up {L : List (Nat × ByteArray)} {c : Nat} (h : Lk L c) : Lk L (c + 1) := ⟨by have := h.len; omega, h.all⟩
theorem Lk.app {L : List (Nat × ByteArray)} {c n : Nat} {s : ByteArray} (h : Lk L c) (hn : n < 18446744073709551616) (hs : s.size ≤ 4200) : Lk (L ++ [(n, s)]) (c + 1) := ⟨by simp; exact h.len, fun x hx => by
  rcases List.mem_append.1 hx with h1 | h1
  · exact h.all x h1
  · rw [List.mem_singleton.1 h1]
    exact ⟨hn, hs⟩⟩
def lw (c : Int) : Int := IntKind.wrap .i64 (BitVec.ofInt 64 c &&& BitVec.ofInt 64 65535).toNat
theorem lw_nat (c : Int) : ∃ m : Nat, lw c = (m : Int) := by
  have h : (BitVec.ofInt 64 c &&& BitVec.ofInt 64 65535).toNat ≤ 65535 := by
    rw [BitVec.toNat_and]
    exact Nat.le_trans Nat.and_le_right (by decide)
  exact ⟨_, wrap64 (by omega) (by omega)⟩
/-- A byte is the next one. -/
def tz (A : ByteArray) (k : Nat) : ByteArray := bs ((sb A).set k (IntKind.wrap .u8 (bt A k + 1)))
theorem tz_size (A : ByteArray) (k : Nat) : (tz A k).size = A.size := by
  unfold tz
  rw [bs_size, List.length_set, sb_length]
theorem wr8 (x : Int) : 0 ≤ IntKind.wrap .u8 x ∧ IntKind.wrap .u8 x < 256 := by
  simp [IntKind.wrap, IntKind.signed, IntKind.bits]
  omega
theorem vs8_set (l : List Int) (k : Nat) (x : Int) : (vs8 l).set k (.int .u8 x) = vs8 (l.set k x) := by
  unfold vs8
  rw [List.map_set]
theorem vs8_sb (s : ByteArray) (k : Nat) (h : k < s.size) : (vs8 (sb s))[k]? = some (.int .u8 (bt s k)) := by
  unfold vs8
  rw [List.getElem?_map, sb_get _ _ h]
  rfl
theorem cv_nat (x : Int) : ∃ u : Nat, cv .u64 x = (u : Int) ∧ u < 18446744073709551616 := by
  rw [cv_u64]
  exact ⟨(x % 18446744073709551616).toNat, by omega, by omega⟩
theorem par8 : ∀ a : Nat, a < 256 → Pol.nb8 (a : Int) 1 = ((a % 2 : Nat) : Int) := by decide +kernel
theorem pX_wX (y : TS) (gn : Bool) : (pX y gn).wX = pX y true := by cases gn <;> rfl
theorem sC_size {y : TS} {gn : Bool} {n : Nat} {s : ByteArray} (h : y.sd.size = 32) (hs : s.size ≤ 4096) : ((pX y gn).sC n s).size ≤ 4200 := by
  rw [(pX_sV h (by omega)).2.1]
  unfold daC
  split
  · rw [sealS_size]
    omega
  · exact Nat.zero_le _
theorem sN_lt {y : TS} {gn : Bool} {n : Nat} {s : ByteArray} (h : y.Dk) (hs : s.size ≤ 4096) : (pX y gn).sN n s < 18446744073709551616 := by
  rw [(pX_sV h.k1 (by omega)).1]
  unfold daN
  have h1 := h.n
  have h2 := h.c
  split <;> omega
theorem Mem.unfetch {c : Ctx} {L pre suf : List Blk} {b : Blk} {W : World} (M : Mem c (b :: (pre ++ suf)) W) (hp : L = pre ++ ([b] ++ suf)) : Mem c L W := by
  subst hp
  exact M.perm List.perm_middle.symm
theorem infoS : InfoK Tryz.prog 96 2 (.agg #[.int .u64 0, .string ⟨#[]⟩]) := infoK (b := 24) (by kernel_rfl) (by kernel_rfl) (by kernel_rfl) (by decide)
/-- The blocks of a pair, behind at most c steps. -/
structure Pr (p c : Nat) (B : List Blk) : Prop where
  out : ∃ p0 p1 d0 d1 y0 y1 b0 b1 s0 s1 L0 L1 T0 T1 D0 D1 S0 S1, B = ⟨p, .cells (av 6 (ls [.pointer (some ⟨p0, 0, none⟩), .pointer (some ⟨p1, 0, none⟩), .pointer (some ⟨d0, 0, none⟩), .pointer (some ⟨d1, 0, none⟩), s0, s1])) 37⟩ :: (T0 ++ (T1 ++ (D0 ++ (D1 ++ (S0 ++ S1))))) ∧ IsT p0 (pX y0 b0) T0 ∧ IsT p1 (pX y1 b1) T1 ∧ IsD d0 y0 b0 D0 ∧ IsD d1 y1 b1 D1 ∧ y0.Dk ∧ y1.Dk ∧ y0.q.length ≤ c ∧ y1.q.length ≤ c ∧ SlV 2 (prs L0) L0.length s0 S0 ∧ SlV 2 (prs L1) L1.length s1 S1 ∧ Lk L0 c ∧ Lk L1 c
set_option maxRecDepth 100000 in
set_option maxHeartbeats 4000000 in
set_option linter.unusedSimpArgs false in
theorem c_does0 {p c p0 p1 d0 d1 : Nat} {y0 y1 : TS} {b0 b1 : Bool} {s0 s1 : Value} {L0 L1 : List (Nat × ByteArray)} {T0 T1 D0 D1 S0 S1 : List Blk} (H0 : IsT p0 (pX y0 b0) T0) (H1 : IsT p1 (pX y1 b1) T1) (E0 : IsD d0 y0 b0 D0) (E1 : IsD d1 y1 b1 D1) (k0 : y0.Dk) (k1 : y1.Dk) (q0 : y0.q.length ≤ c) (q1 : y1.q.length ≤ c) (hS0 : SlV 2 (prs L0) L0.length s0 S0) (hS1 : SlV 2 (prs L1) L1.length s1 S1) (w0 : Lk L0 c) (w1 : Lk L1 c) (hc : c < 10000) {dd wh nn : Int} {at_ nw : Nat} {ss : ByteArray} (hat : at_ < 256) (hpar : at_ % 2 = 0) (hss : ss.size ≤ 4096) (hnw : nw < 18446744073709551616) (w : World) (hL : Laid w)  (hT : There w (⟨p, .cells (av 6 (ls [.pointer (some ⟨p0, 0, none⟩), .pointer (some ⟨p1, 0, none⟩), .pointer (some ⟨d0, 0, none⟩), .pointer (some ⟨d1, 0, none⟩), s0, s1])) 37⟩ :: (T0 ++ (T1 ++ (D0 ++ (D1 ++ (S0 ++ S1))))))) :
    Calls Tryz.prog 9 #[.pointer (some ⟨p, 0, none⟩), .agg (av 6 (ls [.int .i64 dd, .int .u8 ((at_ : Nat) : Int), .string ss, .int .i64 wh, .int .i64 nn, .int .u64 (nw : Int)]))] w fun r w' => ∃ B, r = .returned (.bool true) ∧ Pr p (c + 1) B ∧ OkT w w' (⟨p, .cells (av 6 (ls [.pointer (some ⟨p0, 0, none⟩), .pointer (some ⟨p1, 0, none⟩), .pointer (some ⟨d0, 0, none⟩), .pointer (some ⟨d1, 0, none⟩), s0, s1])) 37⟩ :: (T0 ++ (T1 ++ (D0 ++ (D1 ++ (S0 ++ S1)))))) B := by
  go_enter Tryz.func9, Tryz.ntmps9
  obtain ⟨R_, hR_⟩ : ∃ R_, R_ = (⟨p, .cells (av 6 (ls [.pointer (some ⟨p0, 0, none⟩), .pointer (some ⟨p1, 0, none⟩), .pointer (some ⟨d0, 0, none⟩), .pointer (some ⟨d1, 0, none⟩), s0, s1])) 37⟩ :: (T0 ++ (T1 ++ (D0 ++ (D1 ++ (S0 ++ S1)))))).map Blk.g := ⟨_, rfl⟩
  have M : Mem ⟨w, R_⟩ (⟨p, .cells (av 6 (ls [.pointer (some ⟨p0, 0, none⟩), .pointer (some ⟨p1, 0, none⟩), .pointer (some ⟨d0, 0, none⟩), .pointer (some ⟨d1, 0, none⟩), s0, s1])) 37⟩ :: (T0 ++ (T1 ++ (D0 ++ (D1 ++ (S0 ++ S1)))))) w := hR_ ▸ Mem.startT hL hT
  obtain ⟨u, hu, hu2⟩ := cv_nat nn
  have hw0 := w0.len
  have hw1 := w1.len
  refine sR ?_
  refine pN M 3 (.cells (av 6 (ls [.int .i64 dd, .int .u8 ((at_ : Nat) : Int), .string ss, .int .i64 wh, .int .i64 nn, .int .u64 (nw : Int)])) 45) fun g1 u1 M => ?_
  replace M := M.front
  replace M : Mem ⟨w, R_⟩ (⟨g1, .cells (av 6 (ls [.int .i64 dd, .int .u8 ((at_ : Nat) : Int), .string ss, .int .i64 wh, .int .i64 nn, .int .u64 (nw : Int)])) 45⟩ :: ⟨p, .cells (av 6 (ls [.pointer (some ⟨p0, 0, none⟩), .pointer (some ⟨p1, 0, none⟩), .pointer (some ⟨d0, 0, none⟩), .pointer (some ⟨d1, 0, none⟩), s0, s1])) 37⟩ :: (T0 ++ (T1 ++ (D0 ++ (D1 ++ (S0 ++ S1)))))) u1 := M
  refine rV 1 ?_
  refine nT ?_
  refine sR ?_
  refine rV 1 ?_
  refine ZE M 22 0 1 ?_
  refine pH 23 (.int .u8 0) (fun w => Eq.trans (b := .ok (.value (.int .u8 (Pol.nb8 ((at_ : Nat) : Int) 1))) w) (by kernel_rfl) (by rw [par8 at_ hat, hpar]; rfl)) ?_
  refine rV 2 ?_
  refine nT ?_
  refine sR ?_
  refine rV 5 ?_
  refine ZE M 30 1 0 ?_
  refine rV 1 ?_
  refine nT ?_
  refine sR ?_
  refine rV 5 ?_
  refine ZE M 36 1 2 ?_
  refine rV 1 ?_
  refine nT ?_
  refine wp_seq ?_
  refine sR ?_
  refine rV 1 ?_
  refine ZE M 38 0 0 ?_
  refine nT ?_
  refine wp_block ?_
  refine sR ?_
  by_cases c0 : dd = 0
  · skip
    refine pH 40 (.bool true) (jT (dd = 0) (c0)) ?_
    refine rV 1 ?_
    refine nT ?_
    refine wp_cond_true (by kernel_rfl) ?_
    refine sR ?_
    refine rV 2 ?_
    refine ZE M 44 0 5 ?_
    refine rV 1 ?_
    refine ZE M 46 0 2 ?_
    refine pl_callM M (want_no rfl) (some 47) rfl 21 #[.pointer (some ⟨p0, 0, none⟩), .int .u64 (nw : Int), .string ss] [⟨g1, .cells (av 6 (ls [.int .i64 dd, .int .u8 ((at_ : Nat) : Int), .string ss, .int .i64 wh, .int .i64 nn, .int .u64 (nw : Int)])) 45⟩, ⟨p, .cells (av 6 (ls [.pointer (some ⟨p0, 0, none⟩), .pointer (some ⟨p1, 0, none⟩), .pointer (some ⟨d0, 0, none⟩), .pointer (some ⟨d1, 0, none⟩), s0, s1])) 37⟩] (T0) ((T1 ++ (D0 ++ (D1 ++ (S0 ++ S1))))) (by simp only [List.append_assoc, List.cons_append, List.nil_append, List.append_nil]) (fun T0 => .tuple #[.int .u64 (((pX y0 b0).sN nw ss : Nat) : Int), .string ((pX y0 b0).sC nw ss), .int .i64 ((pX y0 b0).sE nw ss)]) (fun T0 => T0) (fun T0 => IsT p0 ((pX y0 b0).sX nw ss) T0) (fun _ => by kernel_rfl) (fun w hL hT => a_Seal H0 (pX_ok k0.toOk) hnw w hL hT) ?_
    rintro TA u2 HA M
    replace M : Mem ⟨w, R_⟩ (⟨g1, .cells (av 6 (ls [.int .i64 dd, .int .u8 ((at_ : Nat) : Int), .string ss, .int .i64 wh, .int .i64 nn, .int .u64 (nw : Int)])) 45⟩ :: ⟨p, .cells (av 6 (ls [.pointer (some ⟨p0, 0, none⟩), .pointer (some ⟨p1, 0, none⟩), .pointer (some ⟨d0, 0, none⟩), .pointer (some ⟨d1, 0, none⟩), s0, s1])) 37⟩ :: (TA ++ (T1 ++ (D0 ++ (D1 ++ (S0 ++ S1)))))) u2 := by simpa only [List.append_assoc, List.cons_append, List.nil_append, List.append_nil] using M
    refine rV 7 ?_
    refine nT ?_
    refine sR ?_
    refine rV 2 ?_
    refine ZE M 54 0 5 ?_
    refine rV 1 ?_
    refine ZE M 56 0 2 ?_
    refine pl_callM M (want_no rfl) (some 57) rfl 27 #[.pointer (some ⟨d0, 0, none⟩), .int .u64 (nw : Int), .string ss] (⟨g1, .cells (av 6 (ls [.int .i64 dd, .int .u8 ((at_ : Nat) : Int), .string ss, .int .i64 wh, .int .i64 nn, .int .u64 (nw : Int)])) 45⟩ :: ⟨p, .cells (av 6 (ls [.pointer (some ⟨p0, 0, none⟩), .pointer (some ⟨p1, 0, none⟩), .pointer (some ⟨d0, 0, none⟩), .pointer (some ⟨d1, 0, none⟩), s0, s1])) 37⟩ :: (TA ++ T1)) (D0) ((D1 ++ (S0 ++ S1))) (by simp only [List.append_assoc, List.cons_append, List.nil_append, List.append_nil]) (fun T0 => .tuple #[.int .u64 (((pX y0 b0).sN nw ss : Nat) : Int), .string ((pX y0 b0).sC nw ss), .int .i64 ((pX y0 b0).sE nw ss)]) (fun T0 => T0) (fun T0 => IsD d0 (jS y0 b0 nw ss) b0 T0) (fun _ => by kernel_rfl) (fun w hL hT => e_Seal E0 k0 hnw (by omega) w hL hT) ?_
    rintro TB u3 HB M
    replace M : Mem ⟨w, R_⟩ (⟨g1, .cells (av 6 (ls [.int .i64 dd, .int .u8 ((at_ : Nat) : Int), .string ss, .int .i64 wh, .int .i64 nn, .int .u64 (nw : Int)])) 45⟩ :: ⟨p, .cells (av 6 (ls [.pointer (some ⟨p0, 0, none⟩), .pointer (some ⟨p1, 0, none⟩), .pointer (some ⟨d0, 0, none⟩), .pointer (some ⟨d1, 0, none⟩), s0, s1])) 37⟩ :: (TA ++ (T1 ++ (TB ++ (D1 ++ (S0 ++ S1)))))) u3 := by simpa only [List.append_assoc, List.cons_append, List.nil_append, List.append_nil] using M
    refine rV 7 ?_
    refine nT ?_
    refine wp_seq ?_
    refine sR ?_
    refine rV 1 ?_
    by_cases c1 : ((pX y0 b0).sE nw ss) = 0
    · skip
      refine pH 62 (.bool true) (jT (((pX y0 b0).sE nw ss) = 0) (c1)) ?_
      refine nT ?_
      refine wp_cond_true (by kernel_rfl) ?_
      refine rg_held M [⟨g1, .cells (av 6 (ls [.int .i64 dd, .int .u8 ((at_ : Nat) : Int), .string ss, .int .i64 wh, .int .i64 nn, .int .u64 (nw : Int)])) 45⟩, ⟨p, .cells (av 6 (ls [.pointer (some ⟨p0, 0, none⟩), .pointer (some ⟨p1, 0, none⟩), .pointer (some ⟨d0, 0, none⟩), .pointer (some ⟨d1, 0, none⟩), s0, s1])) 37⟩] 16 rfl (by kernel_rfl) (by kernel_rfl) (fun _ _ d _ _ h => by cases d <;> exact h) fun u4 M => ?_
      replace M : Mem ⟨w, R_⟩ (⟨g1, .cells (av 6 (ls [.int .i64 dd, .int .u8 ((at_ : Nat) : Int), .string ss, .int .i64 wh, .int .i64 nn, .int .u64 (nw : Int)])) 45⟩ :: ⟨p, .cells (av 6 (ls [.pointer (some ⟨p0, 0, none⟩), .pointer (some ⟨p1, 0, none⟩), .pointer (some ⟨d0, 0, none⟩), .pointer (some ⟨d1, 0, none⟩), s0, s1])) 37⟩ :: (TA ++ (T1 ++ (TB ++ (D1 ++ (S0 ++ S1)))))) u4 := M
      refine qV (M.drop (.cons_cons _ (.cons_cons _ (List.nil_sublist _)))) 0 63 (.pointer (some ⟨p, 0, none⟩)) ?_
      refine qV (M.drop (.cons_cons _ (.cons_cons _ (List.nil_sublist _)))) 1 64 (.int .i64 0) ?_
      refine qV (M.drop (.cons_cons _ (.cons_cons _ (List.nil_sublist _)))) 2 65 (.pointer (some ⟨p, 0, none⟩)) ?_
      refine qV (M.drop (.cons_cons _ (.cons_cons _ (List.nil_sublist _)))) 3 66 (.int .i64 0) ?_
      refine qV (M.drop (.cons_cons _ (.cons_cons _ (List.nil_sublist _)))) 4 67 (.pointer (some ⟨p, 0, none⟩)) ?_
      refine qV (M.drop (.cons_cons _ (.cons_cons _ (List.nil_sublist _)))) 5 68 (.pointer (some ⟨p, 4, none⟩)) ?_
      refine qV (M.drop (.cons_cons _ (.cons_cons _ (List.nil_sublist _)))) 6 69 (.pointer (some ⟨p, 4, none⟩)) ?_
      refine hl_cell (M.drop (.cons_cons _ (.cons_cons _ (List.nil_sublist _)))) 7 rfl (by decide) (by kernel_rfl) (by kernel_rfl) (want_no rfl) (some 70) rfl 34 _ rfl p 4 (by kernel_rfl) (s0) (fun _ => by kernel_rfl) (fun w M => M.cell 1 rfl (by decide) rfl) ?_
      refine qV (M.drop (.cons_cons _ (.cons_cons _ (List.nil_sublist _)))) 8 71 (.int .u64 (((pX y0 b0).sN nw ss : Nat) : Int)) ?_
      refine qV (M.drop (.cons_cons _ (.cons_cons _ (List.nil_sublist _)))) 9 72 (.string ((pX y0 b0).sC nw ss)) ?_
      refine qV (M.drop (.cons_cons _ (.cons_cons _ (List.nil_sublist _)))) 10 73 (.agg (av 2 (ls [.int .u64 (((pX y0 b0).sN nw ss : Nat) : Int), .string ((pX y0 b0).sC nw ss)]))) ?_
      refine qV (M.drop (.cons_cons _ (.cons_cons _ (List.nil_sublist _)))) 13 76 (.pointer (some ⟨p, 0, none⟩)) ?_
      refine qV (M.drop (.cons_cons _ (.cons_cons _ (List.nil_sublist _)))) 14 77 (.pointer (some ⟨p, 4, none⟩)) ?_
      refine hl_one 11 (by decide) (by kernel_rfl) rfl ?_
      refine ZM M 74 (fun g2 => .slice (some ⟨g2, 0, none⟩) 1 1) (.cells (av 2 (ls [.int .u64 (((pX y0 b0).sN nw ss : Nat) : Int), .string ((pX y0 b0).sC nw ss)])) 96) fun g2 u5 M => ?_
      replace M := M.front
      replace M : Mem ⟨w, R_⟩ (⟨g2, .cells (av 2 (ls [.int .u64 (((pX y0 b0).sN nw ss : Nat) : Int), .string ((pX y0 b0).sC nw ss)])) 96⟩ :: ⟨g1, .cells (av 6 (ls [.int .i64 dd, .int .u8 ((at_ : Nat) : Int), .string ss, .int .i64 wh, .int .i64 nn, .int .u64 (nw : Int)])) 45⟩ :: ⟨p, .cells (av 6 (ls [.pointer (some ⟨p0, 0, none⟩), .pointer (some ⟨p1, 0, none⟩), .pointer (some ⟨d0, 0, none⟩), .pointer (some ⟨d1, 0, none⟩), s0, s1])) 37⟩ :: (TA ++ (T1 ++ (TB ++ (D1 ++ (S0 ++ S1)))))) u5 := M
      refine nT ?_
      refine ⟨(M.drop (.cons _ (.cons_cons _ (.cons_cons _ (List.nil_sublist _))))), ?_⟩
      refine hl_one 12 (by decide) (by kernel_rfl) rfl ?_
      refine pl_appS M (want_no rfl) (some 75) rfl 34 34 96 2 (.agg #[.int .u64 0, .string ⟨#[]⟩]) Tryz.underlying34 infoS rfl (⟨g2, .cells (av 2 (ls [.int .u64 (((pX y0 b0).sN nw ss : Nat) : Int), .string ((pX y0 b0).sC nw ss)])) 96⟩ :: ⟨g1, .cells (av 6 (ls [.int .i64 dd, .int .u8 ((at_ : Nat) : Int), .string ss, .int .i64 wh, .int .i64 nn, .int .u64 (nw : Int)])) 45⟩ :: ⟨p, .cells (av 6 (ls [.pointer (some ⟨p0, 0, none⟩), .pointer (some ⟨p1, 0, none⟩), .pointer (some ⟨d0, 0, none⟩), .pointer (some ⟨d1, 0, none⟩), s0, s1])) 37⟩ :: (TA ++ (T1 ++ (TB ++ D1)))) S0 S1 (by simp only [List.append_assoc, List.cons_append, List.nil_append, List.append_nil]) s0 L0.length (prs L0) hS0 (by omega) 0 g2 96 (ls [.int .u64 (((pX y0 b0).sN nw ss : Nat) : Int), .string ((pX y0 b0).sC nw ss)]) rfl (one_ls _ rfl) (fun _ => by kernel_rfl) ?_
      intro sA TC u6 hSA M
      replace M : Mem ⟨w, R_⟩ (⟨g2, .cells (av 2 (ls [.int .u64 (((pX y0 b0).sN nw ss : Nat) : Int), .string ((pX y0 b0).sC nw ss)])) 96⟩ :: ⟨g1, .cells (av 6 (ls [.int .i64 dd, .int .u8 ((at_ : Nat) : Int), .string ss, .int .i64 wh, .int .i64 nn, .int .u64 (nw : Int)])) 45⟩ :: ⟨p, .cells (av 6 (ls [.pointer (some ⟨p0, 0, none⟩), .pointer (some ⟨p1, 0, none⟩), .pointer (some ⟨d0, 0, none⟩), .pointer (some ⟨d1, 0, none⟩), s0, s1])) 37⟩ :: (TA ++ (T1 ++ (TB ++ (D1 ++ (TC ++ S1)))))) u6 := by simpa only [List.append_assoc, List.cons_append, List.nil_append, List.append_nil] using M
      refine nT ?_
      refine ⟨(M.drop (.cons _ (.cons_cons _ (.cons_cons _ (List.nil_sublist _))))), ?_⟩
      refine qV (M.drop (.cons _ (.cons_cons _ (.cons_cons _ (List.nil_sublist _))))) 15 78 (.pointer (some ⟨p, 4, none⟩)) ?_
      refine hl_end (by kernel_rfl) (by kernel_rfl) rfl ?_
      refine (pl_put1 M (want_no rfl) rfl 34 _ _ rfl 2 p 4 (by kernel_rfl) 6 37 (ls [.pointer (some ⟨p0, 0, none⟩), .pointer (some ⟨p1, 0, none⟩), .pointer (some ⟨d0, 0, none⟩), .pointer (some ⟨d1, 0, none⟩), s0, s1]) rfl (sA) (ls [.pointer (some ⟨p0, 0, none⟩), .pointer (some ⟨p1, 0, none⟩), .pointer (some ⟨d0, 0, none⟩), .pointer (some ⟨d1, 0, none⟩), sA, s1]) (by kernel_rfl) inz34 (by decide) (slv_one hSA) (slv_cells hSA) (put_ls _ 4 _ _ rfl) ?_)
      intro u7 M
      replace M : Mem ⟨w, R_⟩ (⟨g2, .cells (av 2 (ls [.int .u64 (((pX y0 b0).sN nw ss : Nat) : Int), .string ((pX y0 b0).sC nw ss)])) 96⟩ :: ⟨g1, .cells (av 6 (ls [.int .i64 dd, .int .u8 ((at_ : Nat) : Int), .string ss, .int .i64 wh, .int .i64 nn, .int .u64 (nw : Int)])) 45⟩ :: ⟨p, .cells (av 6 (ls [.pointer (some ⟨p0, 0, none⟩), .pointer (some ⟨p1, 0, none⟩), .pointer (some ⟨d0, 0, none⟩), .pointer (some ⟨d1, 0, none⟩), sA, s1])) 37⟩ :: (TA ++ (T1 ++ (TB ++ (D1 ++ (TC ++ S1)))))) u7 := M
      refine nT ?_
      refine au_then ?_
      refine sR ?_
      refine rV 2 ?_
      refine ZT 81 ((((pX y0 b0).sN nw ss : Nat) : Int) = (((pX y0 b0).sN nw ss : Nat) : Int)) ?_
      refine rV 3 ?_
      refine pl_val (want_on 3 true rfl 82 rfl (by kernel_rfl)) (some 85) rfl (.bool true) (fun w => Eq.trans (b := .ok (.value (.bool (((pX y0 b0).sC nw ss).toList == ((pX y0 b0).sC nw ss).toList))) w) (by kernel_rfl) (by rw [beq_self_eq_true])) ?_
      refine rV 4 ?_
      refine pl_val (want_on 8 true rfl 87 rfl (by kernel_rfl)) (some 90) rfl (.bool true) (fun w => Eq.trans (b := .ok (.value (.bool (decide (((pX y0 b0).sE nw ss) = ((pX y0 b0).sE nw ss))))) w) (by kernel_rfl) (by rw [decide_eq_true (by omega)])) ?_
      refine rV 2 ?_
      refine nT ?_
      refine wp_ret ?_
      refine au_block_ret ?_
      refine au_then_ret ?_
      exact bodyPost_ret (v := .bool true) (results_tmp1 Tryz.results9 _ _ _ (by kernel_rfl)) (by kernel_rfl) ⟨_, rfl, ⟨p0, p1, d0, d1, (jS y0 b0 nw ss), y1, b0, b1, sA, s1, L0 ++ [((pX y0 b0).sN nw ss, (pX y0 b0).sC nw ss)], L1, TA, T1, TB, D1, TC, S1, rfl, by rw [← pX_sX k0.k1]; exact HA, H1, HB, E1, (jS_dk k0).1, k1, by rw [(jS_dk k0).2]; omega, Nat.le_succ_of_le q1, by rw [prs_app, List.length_append]; exact hSA, hS1, w0.app (sN_lt k0 hss) (sC_size k0.k1 hss), w1.up⟩, (okT_of hR_ (M.drop (.cons _ (.cons _ (.cons_cons _ (List.Sublist.refl _))))))⟩
    · skip
      refine pH 62 (.bool false) (jF (((pX y0 b0).sE nw ss) = 0) (c1)) ?_
      refine nT ?_
      refine wp_cond_false (by kernel_rfl) ?_
      refine wp_skip ?_
      refine au_then ?_
      refine sR ?_
      refine rV 2 ?_
      refine ZT 81 ((((pX y0 b0).sN nw ss : Nat) : Int) = (((pX y0 b0).sN nw ss : Nat) : Int)) ?_
      refine rV 3 ?_
      refine pl_val (want_on 3 true rfl 82 rfl (by kernel_rfl)) (some 85) rfl (.bool true) (fun w => Eq.trans (b := .ok (.value (.bool (((pX y0 b0).sC nw ss).toList == ((pX y0 b0).sC nw ss).toList))) w) (by kernel_rfl) (by rw [beq_self_eq_true])) ?_
      refine rV 4 ?_
      refine pl_val (want_on 8 true rfl 87 rfl (by kernel_rfl)) (some 90) rfl (.bool true) (fun w => Eq.trans (b := .ok (.value (.bool (decide (((pX y0 b0).sE nw ss) = ((pX y0 b0).sE nw ss))))) w) (by kernel_rfl) (by rw [decide_eq_true (by omega)])) ?_
      refine rV 2 ?_
      refine nT ?_
      refine wp_ret ?_
      refine au_block_ret ?_
      refine au_then_ret ?_
      exact bodyPost_ret (v := .bool true) (results_tmp1 Tryz.results9 _ _ _ (by kernel_rfl)) (by kernel_rfl) ⟨_, rfl, ⟨p0, p1, d0, d1, (jS y0 b0 nw ss), y1, b0, b1, s0, s1, L0, L1, TA, T1, TB, D1, S0, S1, rfl, by rw [← pX_sX k0.k1]; exact HA, H1, HB, E1, (jS_dk k0).1, k1, by rw [(jS_dk k0).2]; omega, Nat.le_succ_of_le q1, hS0, hS1, w0.up, w1.up⟩, (okT_of hR_ (M.drop (.cons _ (.cons_cons _ (List.Sublist.refl _)))))⟩
  · skip
    refine pH 40 (.bool false) (jF (dd = 0) (c0)) ?_
    refine rV 1 ?_
    refine nT ?_
    refine wp_cond_false (by kernel_rfl) ?_
    refine sR ?_
    by_cases c1 : dd = 4
    · skip
      refine pH 93 (.bool true) (jT (dd = 4) (c1)) ?_
      refine rV 1 ?_
      refine nT ?_
      refine wp_cond_true (by kernel_rfl) ?_
      refine sq ?_
      refine wp_ret ?_
      refine au_block_ret ?_
      refine au_then_ret ?_
      exact bodyPost_ret (v := .bool true) (results_tmp1 Tryz.results9 _ _ _ (by kernel_rfl)) (by kernel_rfl) ⟨_, rfl, ⟨p0, p1, d0, d1, y0, y1, b0, b1, s0, s1, L0, L1, T0, T1, D0, D1, S0, S1, rfl, H0, H1, E0, E1, k0, k1, Nat.le_succ_of_le q0, Nat.le_succ_of_le q1, hS0, hS1, w0.up, w1.up⟩, (okT_of hR_ (M.drop (.cons _ (.cons_cons _ (List.Sublist.refl _)))))⟩
    · skip
      refine pH 93 (.bool false) (jF (dd = 4) (c1)) ?_
      refine rV 1 ?_
      refine nT ?_
      refine wp_cond_false (by kernel_rfl) ?_
      refine sR ?_
      by_cases c2 : dd = 5
      · skip
        refine pH 95 (.bool true) (jT (dd = 5) (c2)) ?_
        refine rV 1 ?_
        refine nT ?_
        refine wp_cond_true (by kernel_rfl) ?_
        refine sR ?_
        refine rV 1 ?_
        refine pl_callM M (want_no rfl) (some 97) rfl 28 #[.pointer (some ⟨p0, 0, none⟩)] [⟨g1, .cells (av 6 (ls [.int .i64 dd, .int .u8 ((at_ : Nat) : Int), .string ss, .int .i64 wh, .int .i64 nn, .int .u64 (nw : Int)])) 45⟩, ⟨p, .cells (av 6 (ls [.pointer (some ⟨p0, 0, none⟩), .pointer (some ⟨p1, 0, none⟩), .pointer (some ⟨d0, 0, none⟩), .pointer (some ⟨d1, 0, none⟩), s0, s1])) 37⟩] (T0) ((T1 ++ (D0 ++ (D1 ++ (S0 ++ S1))))) (by simp only [List.append_assoc, List.cons_append, List.nil_append, List.append_nil]) (fun T0 => .tuple #[]) (fun T0 => T0) (fun T0 => IsT p0 (pX y0 b0).wX T0) (fun _ => by kernel_rfl) (fun w hL hT => a_Wipe H0 w hL hT) ?_
        rintro TA u2 HA M
        replace M : Mem ⟨w, R_⟩ (⟨g1, .cells (av 6 (ls [.int .i64 dd, .int .u8 ((at_ : Nat) : Int), .string ss, .int .i64 wh, .int .i64 nn, .int .u64 (nw : Int)])) 45⟩ :: ⟨p, .cells (av 6 (ls [.pointer (some ⟨p0, 0, none⟩), .pointer (some ⟨p1, 0, none⟩), .pointer (some ⟨d0, 0, none⟩), .pointer (some ⟨d1, 0, none⟩), s0, s1])) 37⟩ :: (TA ++ (T1 ++ (D0 ++ (D1 ++ (S0 ++ S1)))))) u2 := by simpa only [List.append_assoc, List.cons_append, List.nil_append, List.append_nil] using M
        refine pl_nil ?_
        obtain ⟨svd, Tsd, rfl, hSd⟩ := E0.out
        replace M := M.fetch (pre := (⟨g1, .cells (av 6 (ls [.int .i64 dd, .int .u8 ((at_ : Nat) : Int), .string ss, .int .i64 wh, .int .i64 nn, .int .u64 (nw : Int)])) 45⟩ :: ⟨p, .cells (av 6 (ls [.pointer (some ⟨p0, 0, none⟩), .pointer (some ⟨p1, 0, none⟩), .pointer (some ⟨d0, 0, none⟩), .pointer (some ⟨d1, 0, none⟩), s0, s1])) 37⟩ :: (TA ++ T1))) (b := ⟨d0, .cells (av 14 (ls [.string y0.sd, .string y0.rv, .bool (y0.fi), .int .u64 ((y0.mt : Nat) : Int), .int .u64 ((y0.rc : Nat) : Int), .int .u64 ((y0.ct : Nat) : Int), .int .u64 ((y0.rk : Nat) : Int), .int .u64 ((y0.lf : Nat) : Int), .int .i64 ((y0.sz : Nat) : Int), .int .u64 ((y0.nx : Nat) : Int), .int .i64 ((y0.sz : Nat) : Int), svd, .bool (y0.su), .bool (b0)])) 51⟩) (suf := (Tsd ++ (D1 ++ (S0 ++ S1)))) (by simp only [List.append_assoc, List.cons_append, List.nil_append, List.append_nil])
        replace M : Mem ⟨w, R_⟩ (⟨d0, .cells (av 14 (ls [.string y0.sd, .string y0.rv, .bool (y0.fi), .int .u64 ((y0.mt : Nat) : Int), .int .u64 ((y0.rc : Nat) : Int), .int .u64 ((y0.ct : Nat) : Int), .int .u64 ((y0.rk : Nat) : Int), .int .u64 ((y0.lf : Nat) : Int), .int .i64 ((y0.sz : Nat) : Int), .int .u64 ((y0.nx : Nat) : Int), .int .i64 ((y0.sz : Nat) : Int), svd, .bool (y0.su), .bool (b0)])) 51⟩ :: ⟨g1, .cells (av 6 (ls [.int .i64 dd, .int .u8 ((at_ : Nat) : Int), .string ss, .int .i64 wh, .int .i64 nn, .int .u64 (nw : Int)])) 45⟩ :: ⟨p, .cells (av 6 (ls [.pointer (some ⟨p0, 0, none⟩), .pointer (some ⟨p1, 0, none⟩), .pointer (some ⟨d0, 0, none⟩), .pointer (some ⟨d1, 0, none⟩), s0, s1])) 37⟩ :: (TA ++ (T1 ++ (Tsd ++ (D1 ++ (S0 ++ S1)))))) u2 := by simpa only [List.append_assoc, List.cons_append, List.nil_append, List.append_nil] using M
        refine au_then ?_
        refine sR ?_
        refine rV 3 ?_
        refine pP M 0 rfl 13 (.bool true) (ls [.string y0.sd, .string y0.rv, .bool (y0.fi), .int .u64 ((y0.mt : Nat) : Int), .int .u64 ((y0.rc : Nat) : Int), .int .u64 ((y0.ct : Nat) : Int), .int .u64 ((y0.rk : Nat) : Int), .int .u64 ((y0.lf : Nat) : Int), .int .i64 ((y0.sz : Nat) : Int), .int .u64 ((y0.nx : Nat) : Int), .int .i64 ((y0.sz : Nat) : Int), svd, .bool (y0.su), .bool true]) (by decide) (put_ls _ 13 _ _ rfl) fun u3 M => ?_
        replace M : Mem ⟨w, R_⟩ (⟨d0, .cells (av 14 (ls [.string y0.sd, .string y0.rv, .bool (y0.fi), .int .u64 ((y0.mt : Nat) : Int), .int .u64 ((y0.rc : Nat) : Int), .int .u64 ((y0.ct : Nat) : Int), .int .u64 ((y0.rk : Nat) : Int), .int .u64 ((y0.lf : Nat) : Int), .int .i64 ((y0.sz : Nat) : Int), .int .u64 ((y0.nx : Nat) : Int), .int .i64 ((y0.sz : Nat) : Int), svd, .bool (y0.su), .bool true])) 51⟩ :: ⟨g1, .cells (av 6 (ls [.int .i64 dd, .int .u8 ((at_ : Nat) : Int), .string ss, .int .i64 wh, .int .i64 nn, .int .u64 (nw : Int)])) 45⟩ :: ⟨p, .cells (av 6 (ls [.pointer (some ⟨p0, 0, none⟩), .pointer (some ⟨p1, 0, none⟩), .pointer (some ⟨d0, 0, none⟩), .pointer (some ⟨d1, 0, none⟩), s0, s1])) 37⟩ :: (TA ++ (T1 ++ (Tsd ++ (D1 ++ (S0 ++ S1)))))) u3 := M
        refine pl_nil ?_
        replace M : Mem ⟨w, R_⟩ (⟨g1, .cells (av 6 (ls [.int .i64 dd, .int .u8 ((at_ : Nat) : Int), .string ss, .int .i64 wh, .int .i64 nn, .int .u64 (nw : Int)])) 45⟩ :: ⟨p, .cells (av 6 (ls [.pointer (some ⟨p0, 0, none⟩), .pointer (some ⟨p1, 0, none⟩), .pointer (some ⟨d0, 0, none⟩), .pointer (some ⟨d1, 0, none⟩), s0, s1])) 37⟩ :: (TA ++ (T1 ++ ((⟨d0, .cells (av 14 (ls [.string y0.sd, .string y0.rv, .bool (y0.fi), .int .u64 ((y0.mt : Nat) : Int), .int .u64 ((y0.rc : Nat) : Int), .int .u64 ((y0.ct : Nat) : Int), .int .u64 ((y0.rk : Nat) : Int), .int .u64 ((y0.lf : Nat) : Int), .int .i64 ((y0.sz : Nat) : Int), .int .u64 ((y0.nx : Nat) : Int), .int .i64 ((y0.sz : Nat) : Int), svd, .bool (y0.su), .bool true])) 51⟩ :: Tsd) ++ (D1 ++ (S0 ++ S1)))))) u3 := Mem.unfetch (pre := (⟨g1, .cells (av 6 (ls [.int .i64 dd, .int .u8 ((at_ : Nat) : Int), .string ss, .int .i64 wh, .int .i64 nn, .int .u64 (nw : Int)])) 45⟩ :: ⟨p, .cells (av 6 (ls [.pointer (some ⟨p0, 0, none⟩), .pointer (some ⟨p1, 0, none⟩), .pointer (some ⟨d0, 0, none⟩), .pointer (some ⟨d1, 0, none⟩), s0, s1])) 37⟩ :: (TA ++ T1))) (suf := (Tsd ++ (D1 ++ (S0 ++ S1)))) (by simpa only [List.append_assoc, List.cons_append, List.nil_append, List.append_nil] using M) (by simp only [List.append_assoc, List.cons_append, List.nil_append, List.append_nil])
        refine au_then ?_
        refine sq ?_
        refine wp_ret ?_
        refine au_block_ret ?_
        refine au_then_ret ?_
        exact bodyPost_ret (v := .bool true) (results_tmp1 Tryz.results9 _ _ _ (by kernel_rfl)) (by kernel_rfl) ⟨_, rfl, ⟨p0, p1, d0, d1, y0, y1, true, b1, s0, s1, L0, L1, TA, T1, (⟨d0, .cells (av 14 (ls [.string y0.sd, .string y0.rv, .bool (y0.fi), .int .u64 ((y0.mt : Nat) : Int), .int .u64 ((y0.rc : Nat) : Int), .int .u64 ((y0.ct : Nat) : Int), .int .u64 ((y0.rk : Nat) : Int), .int .u64 ((y0.lf : Nat) : Int), .int .i64 ((y0.sz : Nat) : Int), .int .u64 ((y0.nx : Nat) : Int), .int .i64 ((y0.sz : Nat) : Int), svd, .bool (y0.su), .bool true])) 51⟩ :: Tsd), D1, S0, S1, rfl, by rw [← pX_wX]; exact HA, H1, ⟨svd, Tsd, rfl, hSd⟩, E1, k0, k1, Nat.le_succ_of_le q0, Nat.le_succ_of_le q1, hS0, hS1, w0.up, w1.up⟩, (okT_of hR_ (M.drop (.cons _ (.cons_cons _ (List.Sublist.refl _)))))⟩
      · skip
        refine pH 95 (.bool false) (jF (dd = 5) (c2)) ?_
        refine rV 1 ?_
        refine nT ?_
        refine wp_cond_false (by kernel_rfl) ?_
        refine wp_skip ?_
        refine au_block ?_
        refine au_then ?_
        refine sR ?_
        refine rV 1 ?_
        refine ZE M 102 0 4 ?_
        refine pH 103 (.int .u64 (u : Int)) (fun w => Eq.trans (b := .ok (.value (.int .u64 (cv .u64 nn))) w) (by kernel_rfl) (by rw [hu])) ?_
        refine rV 1 ?_
        refine ZE M 105 0 2 ?_
        refine rV 1 ?_
        refine pN M 14 (.cells (av 2 (ls [.int .u64 0, .string ⟨#[]⟩])) 96) fun g2 u2 M => ?_
        replace M := M.front
        replace M : Mem ⟨w, R_⟩ (⟨g2, .cells (av 2 (ls [.int .u64 0, .string ⟨#[]⟩])) 96⟩ :: ⟨g1, .cells (av 6 (ls [.int .i64 dd, .int .u8 ((at_ : Nat) : Int), .string ss, .int .i64 wh, .int .i64 nn, .int .u64 (nw : Int)])) 45⟩ :: ⟨p, .cells (av 6 (ls [.pointer (some ⟨p0, 0, none⟩), .pointer (some ⟨p1, 0, none⟩), .pointer (some ⟨d0, 0, none⟩), .pointer (some ⟨d1, 0, none⟩), s0, s1])) 37⟩ :: (T0 ++ (T1 ++ (D0 ++ (D1 ++ (S0 ++ S1)))))) u2 := M
        refine pl_put M (want_no rfl) rfl 96 _ _ rfl 0 g2 0 (by kernel_rfl) 2 96 (ls [.int .u64 0, .string ⟨#[]⟩]) rfl 2 (ls [.int .u64 (u : Int), .string ss]) (ls [.int .u64 (u : Int), .string ss]) (by kernel_rfl) inz96 (by decide) (one_ls _ rfl) (fun j hj => by rw [if_pos (by omega), Nat.sub_zero]) fun u3 M => ?_
        replace M : Mem ⟨w, R_⟩ (⟨g2, .cells (av 2 (ls [.int .u64 (u : Int), .string ss])) 96⟩ :: ⟨g1, .cells (av 6 (ls [.int .i64 dd, .int .u8 ((at_ : Nat) : Int), .string ss, .int .i64 wh, .int .i64 nn, .int .u64 (nw : Int)])) 45⟩ :: ⟨p, .cells (av 6 (ls [.pointer (some ⟨p0, 0, none⟩), .pointer (some ⟨p1, 0, none⟩), .pointer (some ⟨d0, 0, none⟩), .pointer (some ⟨d1, 0, none⟩), s0, s1])) 37⟩ :: (T0 ++ (T1 ++ (D0 ++ (D1 ++ (S0 ++ S1)))))) u3 := M
        refine nT ?_
        refine sR ?_
        refine rV 6 ?_
        refine ZE M 113 2 5 ?_
        refine rV 1 ?_
        refine nT ?_
        refine wp_seq ?_
        refine sR ?_
        refine rV 1 ?_
        refine ZE M 115 1 0 ?_
        by_cases c3 : dd < 6
        · skip
          refine pH 116 (.bool true) (jT (dd < 6) (c3)) ?_
          refine rV 2 ?_
          refine pl_val (want_on 3 true rfl 117 rfl (by kernel_rfl)) (some 119) rfl (.int .i64 ((L1.length : Nat) : Int)) (fun w => by rcases hS1.ex with ⟨hn_, rfl, _⟩ | ⟨_, _, _, _, rfl, _⟩; (rw [hn_]; kernel_rfl); kernel_rfl) ?_
          by_cases c4 : 0 < ((L1.length : Nat) : Int)
          · skip
            refine pl_val (want_on 3 true rfl 117 rfl (by kernel_rfl)) (some 120) rfl (.bool true) (fun w => Eq.trans (b := .ok (.value (.bool (decide (0 < ((L1.length : Nat) : Int))))) w) (by kernel_rfl) (by rw [decide_eq_true (c4)])) ?_
            refine rV 1 ?_
            refine pl_nil ?_
            obtain ⟨ww, hww⟩ := lw_nat wh
            have hr := Nat.mod_lt ww (show 0 < L1.length by omega)
            obtain ⟨en, ec, hin, hc0, hc1⟩ := prs_get L1 _ hr
            obtain ⟨hen, hec⟩ := w1.all _ hin
            simp only at hen hec
            have hSk := hS1
            rcases hS1.ex with ⟨h0_, -, -⟩ | ⟨g9, cap9, Z9, hn_g9, rfl, hle_g9, hZ9, rfl⟩
            · exfalso; omega
            refine au_then ?_
            refine wp_cond_true (by kernel_rfl) ?_
            refine sR ?_
            refine rV 2 ?_
            refine ZE M 124 1 3 ?_
            refine pH 125 (.int .i64 (ww : Int)) (fun w => Eq.trans (b := .ok (.value (.int .i64 (lw wh))) w) (by kernel_rfl) (by rw [hww])) ?_
            refine rV 2 ?_
            refine pH 128 (.int .i64 ((ww % L1.length : Nat) : Int)) (run_remN 3 3 _ _ rfl ww L1.length (by kernel_rfl) (by kernel_rfl) (by omega)) ?_
            refine pH 129 (.pointer (some ⟨g9, (0 + (ww % L1.length) * 2), none⟩)) (run_ixK 34 96 2 Tryz.underlying34 inz96 _ _ rfl (some ⟨g9, 0, none⟩) g9 0 L1.length cap9 (by kernel_rfl) rfl .i64 (ww % L1.length) (by kernel_rfl) hr) ?_
            refine pl_loadO M (want_no rfl) (some 130) rfl 96 _ rfl g9 (0 + (ww % L1.length) * 2) (by kernel_rfl) 2 (ls [.int .u64 (en : Int), .string ec]) (fun w M k hk => ?_) _ Tryz.underlying96 rfl inz96 ?_
            · have hz9 : w.heap[g9]? = some Z9 := (M.thereM (pre := (⟨g2, .cells (av 2 (ls [.int .u64 (u : Int), .string ss])) 96⟩ :: ⟨g1, .cells (av 6 (ls [.int .i64 dd, .int .u8 ((at_ : Nat) : Int), .string ss, .int .i64 wh, .int .i64 nn, .int .u64 (nw : Int)])) 45⟩ :: ⟨p, .cells (av 6 (ls [.pointer (some ⟨p0, 0, none⟩), .pointer (some ⟨p1, 0, none⟩), .pointer (some ⟨d0, 0, none⟩), .pointer (some ⟨d1, 0, none⟩), s0, .slice (some ⟨g9, 0, none⟩) L1.length cap9])) 37⟩ :: (T0 ++ (T1 ++ (D0 ++ (D1 ++ S0)))))) (T := [⟨g9, Z9⟩]) (suf := []) (by simp only [List.append_assoc, List.cons_append, List.nil_append, List.append_nil])).at_ ⟨g9, Z9⟩ (by simp)
              match k, hk with
              | 0, _ => exact hZ9.cell hz9 (by rw [show 0 + (ww % L1.length) * 2 + 0 = (ww % L1.length) * 2 by omega]; exact hc0)
              | 1, _ => exact hZ9.cell hz9 (by rw [show 0 + (ww % L1.length) * 2 + 1 = (ww % L1.length) * 2 + 1 by omega]; exact hc1)
            refine pl_put M (want_no rfl) rfl 96 _ _ rfl 0 g2 0 (by kernel_rfl) 2 96 (ls [.int .u64 (u : Int), .string ss]) rfl 2 (ls [.int .u64 (en : Int), .string ec]) (ls [.int .u64 (en : Int), .string ec]) (by kernel_rfl) inz96 (by decide) (one_ls _ rfl) (fun j hj => by rw [if_pos (by omega), Nat.sub_zero]) fun u4 M => ?_
            replace M : Mem ⟨w, R_⟩ (⟨g2, .cells (av 2 (ls [.int .u64 (en : Int), .string ec])) 96⟩ :: ⟨g1, .cells (av 6 (ls [.int .i64 dd, .int .u8 ((at_ : Nat) : Int), .string ss, .int .i64 wh, .int .i64 nn, .int .u64 (nw : Int)])) 45⟩ :: ⟨p, .cells (av 6 (ls [.pointer (some ⟨p0, 0, none⟩), .pointer (some ⟨p1, 0, none⟩), .pointer (some ⟨d0, 0, none⟩), .pointer (some ⟨d1, 0, none⟩), s0, .slice (some ⟨g9, 0, none⟩) L1.length cap9])) 37⟩ :: (T0 ++ (T1 ++ (D0 ++ (D1 ++ (S0 ++ [⟨g9, Z9⟩])))))) u4 := M
            refine nT ?_
            refine wp_seq ?_
            refine sR ?_
            refine rV 1 ?_
            refine ZE M 132 1 0 ?_
            by_cases c5 : dd = 2
            · skip
              refine pH 133 (.bool true) (jT (dd = 2) (c5)) ?_
              refine rV 2 ?_
              refine pl_cell M (want_on 3 true rfl 134 rfl (by kernel_rfl)) (some 136) rfl 9 _ rfl g2 1 (by kernel_rfl) (.string ec) (fun _ => by kernel_rfl) (fun w M => M.cell 0 rfl (by decide) rfl) ?_
              refine rV 1 ?_
              by_cases c6 : 0 < (ec.size : Int)
              · skip
                refine pl_val (want_on 3 true rfl 134 rfl (by kernel_rfl)) (some 138) rfl (.bool true) (fun w => Eq.trans (b := .ok (.value (.bool (decide (0 < (ec.size : Int))))) w) (by kernel_rfl) (by rw [decide_eq_true (c6)])) ?_
                refine rV 1 ?_
                refine nT ?_
                refine wp_cond_true (by kernel_rfl) ?_
                refine sR ?_
                refine rV 1 ?_
                refine ZE M 141 0 1 ?_
                refine pl_conv M (want_no rfl) (some 142) rfl _ rfl ec (by kernel_rfl) ?_
                intro g3 cp8 Z8 u5 hZ8 M
                replace M := M.front
                replace M : Mem ⟨w, R_⟩ (⟨g3, Z8⟩ :: ⟨g2, .cells (av 2 (ls [.int .u64 (en : Int), .string ec])) 96⟩ :: ⟨g1, .cells (av 6 (ls [.int .i64 dd, .int .u8 ((at_ : Nat) : Int), .string ss, .int .i64 wh, .int .i64 nn, .int .u64 (nw : Int)])) 45⟩ :: ⟨p, .cells (av 6 (ls [.pointer (some ⟨p0, 0, none⟩), .pointer (some ⟨p1, 0, none⟩), .pointer (some ⟨d0, 0, none⟩), .pointer (some ⟨d1, 0, none⟩), s0, .slice (some ⟨g9, 0, none⟩) L1.length cap9])) 37⟩ :: (T0 ++ (T1 ++ (D0 ++ (D1 ++ (S0 ++ [⟨g9, Z9⟩])))))) u5 := M
                refine rV 1 ?_
                refine pl_nil ?_
                obtain ⟨m2, hm2⟩ := lw_nat nn
                have hK := Nat.mod_lt m2 (show 0 < ec.size by omega)
                refine au_then ?_
                refine sR ?_
                refine rV 2 ?_
                refine ZE M 145 2 4 ?_
                refine pH 146 (.int .i64 (m2 : Int)) (fun w => Eq.trans (b := .ok (.value (.int .i64 (lw nn))) w) (by kernel_rfl) (by rw [hm2])) ?_
                refine rV 2 ?_
                refine pH 149 (.int .i64 ((m2 % ec.size : Nat) : Int)) (run_remN 3 3 _ _ rfl m2 ec.size (by kernel_rfl) (by kernel_rfl) (by omega)) ?_
                refine pH 150 (.pointer (some ⟨g3, (m2 % ec.size), none⟩)) (run_ix0 97 5 Tryz.underlying97 inz5 _ _ rfl g3 ec.size cp8 (by kernel_rfl) .i64 (m2 % ec.size) (by kernel_rfl) hK) ?_
                refine pE M 151 g3 (m2 % ec.size) (.int .u8 (bt ec (m2 % ec.size))) (fun w M => hZ8.cell (M.get 0 rfl) (vs8_sb _ _ hK)) ?_
                refine rV 1 ?_
                refine pH 153 (.pointer (some ⟨g3, (m2 % ec.size), none⟩)) (run_ix0 97 5 Tryz.underlying97 inz5 _ _ rfl g3 ec.size cp8 (by kernel_rfl) .i64 (m2 % ec.size) (by kernel_rfl) hK) ?_
                refine pl_putS M (want_no rfl) rfl 5 _ _ rfl 0 g3 (m2 % ec.size) (by kernel_rfl) _ rfl cp8 _ hZ8 (by rw [vs8_length, sb_length]; exact hK) (.int .u8 (IntKind.wrap .u8 (bt ec (m2 % ec.size) + 1))) (by kernel_rfl) inz5 rfl rfl ?_
                intro ZA u6 hZA M
                rw [vs8_set] at hZA
                replace M : Mem ⟨w, R_⟩ (⟨g3, ZA⟩ :: ⟨g2, .cells (av 2 (ls [.int .u64 (en : Int), .string ec])) 96⟩ :: ⟨g1, .cells (av 6 (ls [.int .i64 dd, .int .u8 ((at_ : Nat) : Int), .string ss, .int .i64 wh, .int .i64 nn, .int .u64 (nw : Int)])) 45⟩ :: ⟨p, .cells (av 6 (ls [.pointer (some ⟨p0, 0, none⟩), .pointer (some ⟨p1, 0, none⟩), .pointer (some ⟨d0, 0, none⟩), .pointer (some ⟨d1, 0, none⟩), s0, .slice (some ⟨g9, 0, none⟩) L1.length cap9])) 37⟩ :: (T0 ++ (T1 ++ (D0 ++ (D1 ++ (S0 ++ [⟨g9, Z9⟩])))))) u6 := M
                refine nT ?_
                refine rg_lit ?_
                refine rV 1 ?_
                refine pl_back M (want_no rfl) (some 155) rfl _ rfl 0 g3 ec.size cp8 (by kernel_rfl) _ rfl ((sb ec).set (m2 % ec.size) (IntKind.wrap .u8 (bt ec (m2 % ec.size) + 1))) cp8 hZA (by rw [List.length_set, sb_length]) (fun y hy => (List.mem_or_eq_of_mem_set hy).elim (fun h => sb_nn _ y h) (fun h => by rw [h]; exact wr8 _)) ?_
                refine rV 1 ?_
                refine pP M 1 rfl 1 (.string (tz ec (m2 % ec.size))) (ls [.int .u64 (en : Int), .string (tz ec (m2 % ec.size))]) (by decide) (put_ls _ 1 _ _ rfl) fun u7 M => ?_
                replace M : Mem ⟨w, R_⟩ (⟨g3, ZA⟩ :: ⟨g2, .cells (av 2 (ls [.int .u64 (en : Int), .string (tz ec (m2 % ec.size))])) 96⟩ :: ⟨g1, .cells (av 6 (ls [.int .i64 dd, .int .u8 ((at_ : Nat) : Int), .string ss, .int .i64 wh, .int .i64 nn, .int .u64 (nw : Int)])) 45⟩ :: ⟨p, .cells (av 6 (ls [.pointer (some ⟨p0, 0, none⟩), .pointer (some ⟨p1, 0, none⟩), .pointer (some ⟨d0, 0, none⟩), .pointer (some ⟨d1, 0, none⟩), s0, .slice (some ⟨g9, 0, none⟩) L1.length cap9])) 37⟩ :: (T0 ++ (T1 ++ (D0 ++ (D1 ++ (S0 ++ [⟨g9, Z9⟩])))))) u7 := M
                refine nT ?_
                refine sR ?_
                refine rV 1 ?_
                refine ZE M 158 2 0 ?_
                by_cases c7 : dd = 3
                · skip
                  refine pH 159 (.bool true) (jT (dd = 3) (c7)) ?_
                  refine nT ?_
                  refine wp_cond_true (by kernel_rfl) ?_
                  refine rg_lit ?_
                  refine rV 1 ?_
                  refine ZE M 161 2 4 ?_
                  refine pH 162 (.int .u64 (u : Int)) (fun w => Eq.trans (b := .ok (.value (.int .u64 (cv .u64 nn))) w) (by kernel_rfl) (by rw [hu])) ?_
                  refine rV 1 ?_
                  refine pP M 1 rfl 0 (.int .u64 (u : Int)) (ls [.int .u64 (u : Int), .string (tz ec (m2 % ec.size))]) (by decide) (put_ls _ 0 _ _ rfl) fun u8 M => ?_
                  replace M : Mem ⟨w, R_⟩ (⟨g3, ZA⟩ :: ⟨g2, .cells (av 2 (ls [.int .u64 (u : Int), .string (tz ec (m2 % ec.size))])) 96⟩ :: ⟨g1, .cells (av 6 (ls [.int .i64 dd, .int .u8 ((at_ : Nat) : Int), .string ss, .int .i64 wh, .int .i64 nn, .int .u64 (nw : Int)])) 45⟩ :: ⟨p, .cells (av 6 (ls [.pointer (some ⟨p0, 0, none⟩), .pointer (some ⟨p1, 0, none⟩), .pointer (some ⟨d0, 0, none⟩), .pointer (some ⟨d1, 0, none⟩), s0, .slice (some ⟨g9, 0, none⟩) L1.length cap9])) 37⟩ :: (T0 ++ (T1 ++ (D0 ++ (D1 ++ (S0 ++ [⟨g9, Z9⟩])))))) u8 := M
                  refine nT ?_
                  refine sR ?_
                  refine rV 2 ?_
                  refine ZE M 167 2 5 ?_
                  refine rV 1 ?_
                  refine ZE M 169 1 0 ?_
                  refine rV 1 ?_
                  refine ZE M 171 1 1 ?_
                  refine pl_callM M (want_no rfl) (some 172) rfl 22 #[.pointer (some ⟨p0, 0, none⟩), .int .u64 (nw : Int), .int .u64 (u : Int), .string (tz ec (m2 % ec.size))] [⟨g3, ZA⟩, ⟨g2, .cells (av 2 (ls [.int .u64 (u : Int), .string (tz ec (m2 % ec.size))])) 96⟩, ⟨g1, .cells (av 6 (ls [.int .i64 dd, .int .u8 ((at_ : Nat) : Int), .string ss, .int .i64 wh, .int .i64 nn, .int .u64 (nw : Int)])) 45⟩, ⟨p, .cells (av 6 (ls [.pointer (some ⟨p0, 0, none⟩), .pointer (some ⟨p1, 0, none⟩), .pointer (some ⟨d0, 0, none⟩), .pointer (some ⟨d1, 0, none⟩), s0, .slice (some ⟨g9, 0, none⟩) L1.length cap9])) 37⟩] (T0) ((T1 ++ (D0 ++ (D1 ++ (S0 ++ [⟨g9, Z9⟩]))))) (by simp only [List.append_assoc, List.cons_append, List.nil_append, List.append_nil]) (fun T0 => .tuple #[.string ((pX y0 b0).oC nw u (tz ec (m2 % ec.size))), .int .i64 ((pX y0 b0).oE nw u (tz ec (m2 % ec.size)))]) (fun T0 => T0) (fun T0 => IsT p0 ((pX y0 b0).oX nw u (tz ec (m2 % ec.size))) T0) (fun _ => by kernel_rfl) (fun w hL hT => a_Open H0 (pX_ok k0.toOk) hnw (by omega) w hL hT) ?_
                  rintro TA u9 HA M
                  replace M : Mem ⟨w, R_⟩ (⟨g3, ZA⟩ :: ⟨g2, .cells (av 2 (ls [.int .u64 (u : Int), .string (tz ec (m2 % ec.size))])) 96⟩ :: ⟨g1, .cells (av 6 (ls [.int .i64 dd, .int .u8 ((at_ : Nat) : Int), .string ss, .int .i64 wh, .int .i64 nn, .int .u64 (nw : Int)])) 45⟩ :: ⟨p, .cells (av 6 (ls [.pointer (some ⟨p0, 0, none⟩), .pointer (some ⟨p1, 0, none⟩), .pointer (some ⟨d0, 0, none⟩), .pointer (some ⟨d1, 0, none⟩), s0, .slice (some ⟨g9, 0, none⟩) L1.length cap9])) 37⟩ :: (TA ++ (T1 ++ (D0 ++ (D1 ++ (S0 ++ [⟨g9, Z9⟩])))))) u9 := by simpa only [List.append_assoc, List.cons_append, List.nil_append, List.append_nil] using M
                  refine rV 5 ?_
                  refine nT ?_
                  refine sR ?_
                  refine rV 2 ?_
                  refine ZE M 178 2 5 ?_
                  refine rV 1 ?_
                  refine ZE M 180 1 0 ?_
                  refine rV 1 ?_
                  refine ZE M 182 1 1 ?_
                  refine pl_callM M (want_no rfl) (some 183) rfl 29 #[.pointer (some ⟨d0, 0, none⟩), .int .u64 (nw : Int), .int .u64 (u : Int), .string (tz ec (m2 % ec.size))] (⟨g3, ZA⟩ :: ⟨g2, .cells (av 2 (ls [.int .u64 (u : Int), .string (tz ec (m2 % ec.size))])) 96⟩ :: ⟨g1, .cells (av 6 (ls [.int .i64 dd, .int .u8 ((at_ : Nat) : Int), .string ss, .int .i64 wh, .int .i64 nn, .int .u64 (nw : Int)])) 45⟩ :: ⟨p, .cells (av 6 (ls [.pointer (some ⟨p0, 0, none⟩), .pointer (some ⟨p1, 0, none⟩), .pointer (some ⟨d0, 0, none⟩), .pointer (some ⟨d1, 0, none⟩), s0, .slice (some ⟨g9, 0, none⟩) L1.length cap9])) 37⟩ :: (TA ++ T1)) (D0) ((D1 ++ (S0 ++ [⟨g9, Z9⟩]))) (by simp only [List.append_assoc, List.cons_append, List.nil_append, List.append_nil]) (fun T0 => .tuple #[.string ((pX y0 b0).oC nw u (tz ec (m2 % ec.size))), .int .i64 ((pX y0 b0).oE nw u (tz ec (m2 % ec.size)))]) (fun T0 => T0) (fun T0 => IsD d0 (jO y0 b0 nw u (tz ec (m2 % ec.size))) b0 T0) (fun _ => by kernel_rfl) (fun w hL hT => e_Open E0 k0 hnw (by first | omega | (rw [tz_size]; omega)) w hL hT) ?_
                  rintro TB u10 HB M
                  replace M : Mem ⟨w, R_⟩ (⟨g3, ZA⟩ :: ⟨g2, .cells (av 2 (ls [.int .u64 (u : Int), .string (tz ec (m2 % ec.size))])) 96⟩ :: ⟨g1, .cells (av 6 (ls [.int .i64 dd, .int .u8 ((at_ : Nat) : Int), .string ss, .int .i64 wh, .int .i64 nn, .int .u64 (nw : Int)])) 45⟩ :: ⟨p, .cells (av 6 (ls [.pointer (some ⟨p0, 0, none⟩), .pointer (some ⟨p1, 0, none⟩), .pointer (some ⟨d0, 0, none⟩), .pointer (some ⟨d1, 0, none⟩), s0, .slice (some ⟨g9, 0, none⟩) L1.length cap9])) 37⟩ :: (TA ++ (T1 ++ (TB ++ (D1 ++ (S0 ++ [⟨g9, Z9⟩])))))) u10 := by simpa only [List.append_assoc, List.cons_append, List.nil_append, List.append_nil] using M
                  refine rV 5 ?_
                  refine nT ?_
                  refine sR ?_
                  refine rV 2 ?_
                  refine pH 188 (.bool true) (fun w => Eq.trans (b := .ok (.value (.bool (((pX y0 b0).oC nw u (tz ec (m2 % ec.size))).toList == ((pX y0 b0).oC nw u (tz ec (m2 % ec.size))).toList))) w) (by kernel_rfl) (by rw [beq_self_eq_true])) ?_
                  refine rV 3 ?_
                  refine pl_val (want_on 3 true rfl 189 rfl (by kernel_rfl)) (some 192) rfl (.bool true) (fun w => Eq.trans (b := .ok (.value (.bool (decide (((pX y0 b0).oE nw u (tz ec (m2 % ec.size))) = ((pX y0 b0).oE nw u (tz ec (m2 % ec.size))))))) w) (by kernel_rfl) (by rw [decide_eq_true (by omega)])) ?_
                  refine rV 2 ?_
                  refine nT ?_
                  refine wp_ret ?_
                  exact bodyPost_ret (v := .bool true) (results_tmp1 Tryz.results9 _ _ _ (by kernel_rfl)) (by kernel_rfl) ⟨_, rfl, ⟨p0, p1, d0, d1, (jO y0 b0 nw u (tz ec (m2 % ec.size))), y1, b0, b1, s0, .slice (some ⟨g9, 0, none⟩) L1.length cap9, L0, L1, TA, T1, TB, D1, S0, [⟨g9, Z9⟩], rfl, by rw [← pX_oX k0.k1]; exact HA, H1, HB, E1, (jO_dk k0 (by omega) (by omega)).1, k1, by have := (jO_dk (gn := b0) (n := nw) (i := u) (c := (tz ec (m2 % ec.size))) k0 (by omega) (by omega)).2; omega, Nat.le_succ_of_le q1, hS0, hSk, w0.up, w1.up⟩, (okT_of hR_ (M.drop (.cons _ (.cons _ (.cons _ (.cons_cons _ (List.Sublist.refl _)))))))⟩
                · skip
                  refine pH 159 (.bool false) (jF (dd = 3) (c7)) ?_
                  refine nT ?_
                  refine wp_cond_false (by kernel_rfl) ?_
                  refine wp_skip ?_
                  refine au_then ?_
                  refine sR ?_
                  refine rV 2 ?_
                  refine ZE M 167 2 5 ?_
                  refine rV 1 ?_
                  refine ZE M 169 1 0 ?_
                  refine rV 1 ?_
                  refine ZE M 171 1 1 ?_
                  refine pl_callM M (want_no rfl) (some 172) rfl 22 #[.pointer (some ⟨p0, 0, none⟩), .int .u64 (nw : Int), .int .u64 (en : Int), .string (tz ec (m2 % ec.size))] [⟨g3, ZA⟩, ⟨g2, .cells (av 2 (ls [.int .u64 (en : Int), .string (tz ec (m2 % ec.size))])) 96⟩, ⟨g1, .cells (av 6 (ls [.int .i64 dd, .int .u8 ((at_ : Nat) : Int), .string ss, .int .i64 wh, .int .i64 nn, .int .u64 (nw : Int)])) 45⟩, ⟨p, .cells (av 6 (ls [.pointer (some ⟨p0, 0, none⟩), .pointer (some ⟨p1, 0, none⟩), .pointer (some ⟨d0, 0, none⟩), .pointer (some ⟨d1, 0, none⟩), s0, .slice (some ⟨g9, 0, none⟩) L1.length cap9])) 37⟩] (T0) ((T1 ++ (D0 ++ (D1 ++ (S0 ++ [⟨g9, Z9⟩]))))) (by simp only [List.append_assoc, List.cons_append, List.nil_append, List.append_nil]) (fun T0 => .tuple #[.string ((pX y0 b0).oC nw en (tz ec (m2 % ec.size))), .int .i64 ((pX y0 b0).oE nw en (tz ec (m2 % ec.size)))]) (fun T0 => T0) (fun T0 => IsT p0 ((pX y0 b0).oX nw en (tz ec (m2 % ec.size))) T0) (fun _ => by kernel_rfl) (fun w hL hT => a_Open H0 (pX_ok k0.toOk) hnw (by omega) w hL hT) ?_
                  rintro TA u8 HA M
                  replace M : Mem ⟨w, R_⟩ (⟨g3, ZA⟩ :: ⟨g2, .cells (av 2 (ls [.int .u64 (en : Int), .string (tz ec (m2 % ec.size))])) 96⟩ :: ⟨g1, .cells (av 6 (ls [.int .i64 dd, .int .u8 ((at_ : Nat) : Int), .string ss, .int .i64 wh, .int .i64 nn, .int .u64 (nw : Int)])) 45⟩ :: ⟨p, .cells (av 6 (ls [.pointer (some ⟨p0, 0, none⟩), .pointer (some ⟨p1, 0, none⟩), .pointer (some ⟨d0, 0, none⟩), .pointer (some ⟨d1, 0, none⟩), s0, .slice (some ⟨g9, 0, none⟩) L1.length cap9])) 37⟩ :: (TA ++ (T1 ++ (D0 ++ (D1 ++ (S0 ++ [⟨g9, Z9⟩])))))) u8 := by simpa only [List.append_assoc, List.cons_append, List.nil_append, List.append_nil] using M
                  refine rV 5 ?_
                  refine nT ?_
                  refine sR ?_
                  refine rV 2 ?_
                  refine ZE M 178 2 5 ?_
                  refine rV 1 ?_
                  refine ZE M 180 1 0 ?_
                  refine rV 1 ?_
                  refine ZE M 182 1 1 ?_
                  refine pl_callM M (want_no rfl) (some 183) rfl 29 #[.pointer (some ⟨d0, 0, none⟩), .int .u64 (nw : Int), .int .u64 (en : Int), .string (tz ec (m2 % ec.size))] (⟨g3, ZA⟩ :: ⟨g2, .cells (av 2 (ls [.int .u64 (en : Int), .string (tz ec (m2 % ec.size))])) 96⟩ :: ⟨g1, .cells (av 6 (ls [.int .i64 dd, .int .u8 ((at_ : Nat) : Int), .string ss, .int .i64 wh, .int .i64 nn, .int .u64 (nw : Int)])) 45⟩ :: ⟨p, .cells (av 6 (ls [.pointer (some ⟨p0, 0, none⟩), .pointer (some ⟨p1, 0, none⟩), .pointer (some ⟨d0, 0, none⟩), .pointer (some ⟨d1, 0, none⟩), s0, .slice (some ⟨g9, 0, none⟩) L1.length cap9])) 37⟩ :: (TA ++ T1)) (D0) ((D1 ++ (S0 ++ [⟨g9, Z9⟩]))) (by simp only [List.append_assoc, List.cons_append, List.nil_append, List.append_nil]) (fun T0 => .tuple #[.string ((pX y0 b0).oC nw en (tz ec (m2 % ec.size))), .int .i64 ((pX y0 b0).oE nw en (tz ec (m2 % ec.size)))]) (fun T0 => T0) (fun T0 => IsD d0 (jO y0 b0 nw en (tz ec (m2 % ec.size))) b0 T0) (fun _ => by kernel_rfl) (fun w hL hT => e_Open E0 k0 hnw (by first | omega | (rw [tz_size]; omega)) w hL hT) ?_
                  rintro TB u9 HB M
                  replace M : Mem ⟨w, R_⟩ (⟨g3, ZA⟩ :: ⟨g2, .cells (av 2 (ls [.int .u64 (en : Int), .string (tz ec (m2 % ec.size))])) 96⟩ :: ⟨g1, .cells (av 6 (ls [.int .i64 dd, .int .u8 ((at_ : Nat) : Int), .string ss, .int .i64 wh, .int .i64 nn, .int .u64 (nw : Int)])) 45⟩ :: ⟨p, .cells (av 6 (ls [.pointer (some ⟨p0, 0, none⟩), .pointer (some ⟨p1, 0, none⟩), .pointer (some ⟨d0, 0, none⟩), .pointer (some ⟨d1, 0, none⟩), s0, .slice (some ⟨g9, 0, none⟩) L1.length cap9])) 37⟩ :: (TA ++ (T1 ++ (TB ++ (D1 ++ (S0 ++ [⟨g9, Z9⟩])))))) u9 := by simpa only [List.append_assoc, List.cons_append, List.nil_append, List.append_nil] using M
                  refine rV 5 ?_
                  refine nT ?_
                  refine sR ?_
                  refine rV 2 ?_
                  refine pH 188 (.bool true) (fun w => Eq.trans (b := .ok (.value (.bool (((pX y0 b0).oC nw en (tz ec (m2 % ec.size))).toList == ((pX y0 b0).oC nw en (tz ec (m2 % ec.size))).toList))) w) (by kernel_rfl) (by rw [beq_self_eq_true])) ?_
                  refine rV 3 ?_
                  refine pl_val (want_on 3 true rfl 189 rfl (by kernel_rfl)) (some 192) rfl (.bool true) (fun w => Eq.trans (b := .ok (.value (.bool (decide (((pX y0 b0).oE nw en (tz ec (m2 % ec.size))) = ((pX y0 b0).oE nw en (tz ec (m2 % ec.size))))))) w) (by kernel_rfl) (by rw [decide_eq_true (by omega)])) ?_
                  refine rV 2 ?_
                  refine nT ?_
                  refine wp_ret ?_
                  exact bodyPost_ret (v := .bool true) (results_tmp1 Tryz.results9 _ _ _ (by kernel_rfl)) (by kernel_rfl) ⟨_, rfl, ⟨p0, p1, d0, d1, (jO y0 b0 nw en (tz ec (m2 % ec.size))), y1, b0, b1, s0, .slice (some ⟨g9, 0, none⟩) L1.length cap9, L0, L1, TA, T1, TB, D1, S0, [⟨g9, Z9⟩], rfl, by rw [← pX_oX k0.k1]; exact HA, H1, HB, E1, (jO_dk k0 (by omega) (by omega)).1, k1, by have := (jO_dk (gn := b0) (n := nw) (i := en) (c := (tz ec (m2 % ec.size))) k0 (by omega) (by omega)).2; omega, Nat.le_succ_of_le q1, hS0, hSk, w0.up, w1.up⟩, (okT_of hR_ (M.drop (.cons _ (.cons _ (.cons _ (.cons_cons _ (List.Sublist.refl _)))))))⟩
              · skip
                refine pl_val (want_on 3 true rfl 134 rfl (by kernel_rfl)) (some 138) rfl (.bool false) (fun w => Eq.trans (b := .ok (.value (.bool (decide (0 < (ec.size : Int))))) w) (by kernel_rfl) (by rw [decide_eq_false (c6)])) ?_
                refine rV 1 ?_
                refine nT ?_
                refine wp_cond_false (by kernel_rfl) ?_
                refine wp_skip ?_
                refine au_then ?_
                refine sR ?_
                refine rV 1 ?_
                refine ZE M 158 1 0 ?_
                by_cases c7 : dd = 3
                · skip
                  refine pH 159 (.bool true) (jT (dd = 3) (c7)) ?_
                  refine nT ?_
                  refine wp_cond_true (by kernel_rfl) ?_
                  refine rg_lit ?_
                  refine rV 1 ?_
                  refine ZE M 161 1 4 ?_
                  refine pH 162 (.int .u64 (u : Int)) (fun w => Eq.trans (b := .ok (.value (.int .u64 (cv .u64 nn))) w) (by kernel_rfl) (by rw [hu])) ?_
                  refine rV 1 ?_
                  refine pP M 0 rfl 0 (.int .u64 (u : Int)) (ls [.int .u64 (u : Int), .string ec]) (by decide) (put_ls _ 0 _ _ rfl) fun u5 M => ?_
                  replace M : Mem ⟨w, R_⟩ (⟨g2, .cells (av 2 (ls [.int .u64 (u : Int), .string ec])) 96⟩ :: ⟨g1, .cells (av 6 (ls [.int .i64 dd, .int .u8 ((at_ : Nat) : Int), .string ss, .int .i64 wh, .int .i64 nn, .int .u64 (nw : Int)])) 45⟩ :: ⟨p, .cells (av 6 (ls [.pointer (some ⟨p0, 0, none⟩), .pointer (some ⟨p1, 0, none⟩), .pointer (some ⟨d0, 0, none⟩), .pointer (some ⟨d1, 0, none⟩), s0, .slice (some ⟨g9, 0, none⟩) L1.length cap9])) 37⟩ :: (T0 ++ (T1 ++ (D0 ++ (D1 ++ (S0 ++ [⟨g9, Z9⟩])))))) u5 := M
                  refine nT ?_
                  refine sR ?_
                  refine rV 2 ?_
                  refine ZE M 167 1 5 ?_
                  refine rV 1 ?_
                  refine ZE M 169 0 0 ?_
                  refine rV 1 ?_
                  refine ZE M 171 0 1 ?_
                  refine pl_callM M (want_no rfl) (some 172) rfl 22 #[.pointer (some ⟨p0, 0, none⟩), .int .u64 (nw : Int), .int .u64 (u : Int), .string ec] [⟨g2, .cells (av 2 (ls [.int .u64 (u : Int), .string ec])) 96⟩, ⟨g1, .cells (av 6 (ls [.int .i64 dd, .int .u8 ((at_ : Nat) : Int), .string ss, .int .i64 wh, .int .i64 nn, .int .u64 (nw : Int)])) 45⟩, ⟨p, .cells (av 6 (ls [.pointer (some ⟨p0, 0, none⟩), .pointer (some ⟨p1, 0, none⟩), .pointer (some ⟨d0, 0, none⟩), .pointer (some ⟨d1, 0, none⟩), s0, .slice (some ⟨g9, 0, none⟩) L1.length cap9])) 37⟩] (T0) ((T1 ++ (D0 ++ (D1 ++ (S0 ++ [⟨g9, Z9⟩]))))) (by simp only [List.append_assoc, List.cons_append, List.nil_append, List.append_nil]) (fun T0 => .tuple #[.string ((pX y0 b0).oC nw u ec), .int .i64 ((pX y0 b0).oE nw u ec)]) (fun T0 => T0) (fun T0 => IsT p0 ((pX y0 b0).oX nw u ec) T0) (fun _ => by kernel_rfl) (fun w hL hT => a_Open H0 (pX_ok k0.toOk) hnw (by omega) w hL hT) ?_
                  rintro TA u6 HA M
                  replace M : Mem ⟨w, R_⟩ (⟨g2, .cells (av 2 (ls [.int .u64 (u : Int), .string ec])) 96⟩ :: ⟨g1, .cells (av 6 (ls [.int .i64 dd, .int .u8 ((at_ : Nat) : Int), .string ss, .int .i64 wh, .int .i64 nn, .int .u64 (nw : Int)])) 45⟩ :: ⟨p, .cells (av 6 (ls [.pointer (some ⟨p0, 0, none⟩), .pointer (some ⟨p1, 0, none⟩), .pointer (some ⟨d0, 0, none⟩), .pointer (some ⟨d1, 0, none⟩), s0, .slice (some ⟨g9, 0, none⟩) L1.length cap9])) 37⟩ :: (TA ++ (T1 ++ (D0 ++ (D1 ++ (S0 ++ [⟨g9, Z9⟩])))))) u6 := by simpa only [List.append_assoc, List.cons_append, List.nil_append, List.append_nil] using M
                  refine rV 5 ?_
                  refine nT ?_
                  refine sR ?_
                  refine rV 2 ?_
                  refine ZE M 178 1 5 ?_
                  refine rV 1 ?_
                  refine ZE M 180 0 0 ?_
                  refine rV 1 ?_
                  refine ZE M 182 0 1 ?_
                  refine pl_callM M (want_no rfl) (some 183) rfl 29 #[.pointer (some ⟨d0, 0, none⟩), .int .u64 (nw : Int), .int .u64 (u : Int), .string ec] (⟨g2, .cells (av 2 (ls [.int .u64 (u : Int), .string ec])) 96⟩ :: ⟨g1, .cells (av 6 (ls [.int .i64 dd, .int .u8 ((at_ : Nat) : Int), .string ss, .int .i64 wh, .int .i64 nn, .int .u64 (nw : Int)])) 45⟩ :: ⟨p, .cells (av 6 (ls [.pointer (some ⟨p0, 0, none⟩), .pointer (some ⟨p1, 0, none⟩), .pointer (some ⟨d0, 0, none⟩), .pointer (some ⟨d1, 0, none⟩), s0, .slice (some ⟨g9, 0, none⟩) L1.length cap9])) 37⟩ :: (TA ++ T1)) (D0) ((D1 ++ (S0 ++ [⟨g9, Z9⟩]))) (by simp only [List.append_assoc, List.cons_append, List.nil_append, List.append_nil]) (fun T0 => .tuple #[.string ((pX y0 b0).oC nw u ec), .int .i64 ((pX y0 b0).oE nw u ec)]) (fun T0 => T0) (fun T0 => IsD d0 (jO y0 b0 nw u ec) b0 T0) (fun _ => by kernel_rfl) (fun w hL hT => e_Open E0 k0 hnw (by first | omega | (rw [tz_size]; omega)) w hL hT) ?_
                  rintro TB u7 HB M
                  replace M : Mem ⟨w, R_⟩ (⟨g2, .cells (av 2 (ls [.int .u64 (u : Int), .string ec])) 96⟩ :: ⟨g1, .cells (av 6 (ls [.int .i64 dd, .int .u8 ((at_ : Nat) : Int), .string ss, .int .i64 wh, .int .i64 nn, .int .u64 (nw : Int)])) 45⟩ :: ⟨p, .cells (av 6 (ls [.pointer (some ⟨p0, 0, none⟩), .pointer (some ⟨p1, 0, none⟩), .pointer (some ⟨d0, 0, none⟩), .pointer (some ⟨d1, 0, none⟩), s0, .slice (some ⟨g9, 0, none⟩) L1.length cap9])) 37⟩ :: (TA ++ (T1 ++ (TB ++ (D1 ++ (S0 ++ [⟨g9, Z9⟩])))))) u7 := by simpa only [List.append_assoc, List.cons_append, List.nil_append, List.append_nil] using M
                  refine rV 5 ?_
                  refine nT ?_
                  refine sR ?_
                  refine rV 2 ?_
                  refine pH 188 (.bool true) (fun w => Eq.trans (b := .ok (.value (.bool (((pX y0 b0).oC nw u ec).toList == ((pX y0 b0).oC nw u ec).toList))) w) (by kernel_rfl) (by rw [beq_self_eq_true])) ?_
                  refine rV 3 ?_
                  refine pl_val (want_on 3 true rfl 189 rfl (by kernel_rfl)) (some 192) rfl (.bool true) (fun w => Eq.trans (b := .ok (.value (.bool (decide (((pX y0 b0).oE nw u ec) = ((pX y0 b0).oE nw u ec))))) w) (by kernel_rfl) (by rw [decide_eq_true (by omega)])) ?_
                  refine rV 2 ?_
                  refine nT ?_
                  refine wp_ret ?_
                  exact bodyPost_ret (v := .bool true) (results_tmp1 Tryz.results9 _ _ _ (by kernel_rfl)) (by kernel_rfl) ⟨_, rfl, ⟨p0, p1, d0, d1, (jO y0 b0 nw u ec), y1, b0, b1, s0, .slice (some ⟨g9, 0, none⟩) L1.length cap9, L0, L1, TA, T1, TB, D1, S0, [⟨g9, Z9⟩], rfl, by rw [← pX_oX k0.k1]; exact HA, H1, HB, E1, (jO_dk k0 (by omega) (by omega)).1, k1, by have := (jO_dk (gn := b0) (n := nw) (i := u) (c := ec) k0 (by omega) (by omega)).2; omega, Nat.le_succ_of_le q1, hS0, hSk, w0.up, w1.up⟩, (okT_of hR_ (M.drop (.cons _ (.cons _ (.cons_cons _ (List.Sublist.refl _))))))⟩
                · skip
                  refine pH 159 (.bool false) (jF (dd = 3) (c7)) ?_
                  refine nT ?_
                  refine wp_cond_false (by kernel_rfl) ?_
                  refine wp_skip ?_
                  refine au_then ?_
                  refine sR ?_
                  refine rV 2 ?_
                  refine ZE M 167 1 5 ?_
                  refine rV 1 ?_
                  refine ZE M 169 0 0 ?_
                  refine rV 1 ?_
                  refine ZE M 171 0 1 ?_
                  refine pl_callM M (want_no rfl) (some 172) rfl 22 #[.pointer (some ⟨p0, 0, none⟩), .int .u64 (nw : Int), .int .u64 (en : Int), .string ec] [⟨g2, .cells (av 2 (ls [.int .u64 (en : Int), .string ec])) 96⟩, ⟨g1, .cells (av 6 (ls [.int .i64 dd, .int .u8 ((at_ : Nat) : Int), .string ss, .int .i64 wh, .int .i64 nn, .int .u64 (nw : Int)])) 45⟩, ⟨p, .cells (av 6 (ls [.pointer (some ⟨p0, 0, none⟩), .pointer (some ⟨p1, 0, none⟩), .pointer (some ⟨d0, 0, none⟩), .pointer (some ⟨d1, 0, none⟩), s0, .slice (some ⟨g9, 0, none⟩) L1.length cap9])) 37⟩] (T0) ((T1 ++ (D0 ++ (D1 ++ (S0 ++ [⟨g9, Z9⟩]))))) (by simp only [List.append_assoc, List.cons_append, List.nil_append, List.append_nil]) (fun T0 => .tuple #[.string ((pX y0 b0).oC nw en ec), .int .i64 ((pX y0 b0).oE nw en ec)]) (fun T0 => T0) (fun T0 => IsT p0 ((pX y0 b0).oX nw en ec) T0) (fun _ => by kernel_rfl) (fun w hL hT => a_Open H0 (pX_ok k0.toOk) hnw (by omega) w hL hT) ?_
                  rintro TA u5 HA M
                  replace M : Mem ⟨w, R_⟩ (⟨g2, .cells (av 2 (ls [.int .u64 (en : Int), .string ec])) 96⟩ :: ⟨g1, .cells (av 6 (ls [.int .i64 dd, .int .u8 ((at_ : Nat) : Int), .string ss, .int .i64 wh, .int .i64 nn, .int .u64 (nw : Int)])) 45⟩ :: ⟨p, .cells (av 6 (ls [.pointer (some ⟨p0, 0, none⟩), .pointer (some ⟨p1, 0, none⟩), .pointer (some ⟨d0, 0, none⟩), .pointer (some ⟨d1, 0, none⟩), s0, .slice (some ⟨g9, 0, none⟩) L1.length cap9])) 37⟩ :: (TA ++ (T1 ++ (D0 ++ (D1 ++ (S0 ++ [⟨g9, Z9⟩])))))) u5 := by simpa only [List.append_assoc, List.cons_append, List.nil_append, List.append_nil] using M
                  refine rV 5 ?_
                  refine nT ?_
                  refine sR ?_
                  refine rV 2 ?_
                  refine ZE M 178 1 5 ?_
                  refine rV 1 ?_
                  refine ZE M 180 0 0 ?_
                  refine rV 1 ?_
                  refine ZE M 182 0 1 ?_
                  refine pl_callM M (want_no rfl) (some 183) rfl 29 #[.pointer (some ⟨d0, 0, none⟩), .int .u64 (nw : Int), .int .u64 (en : Int), .string ec] (⟨g2, .cells (av 2 (ls [.int .u64 (en : Int), .string ec])) 96⟩ :: ⟨g1, .cells (av 6 (ls [.int .i64 dd, .int .u8 ((at_ : Nat) : Int), .string ss, .int .i64 wh, .int .i64 nn, .int .u64 (nw : Int)])) 45⟩ :: ⟨p, .cells (av 6 (ls [.pointer (some ⟨p0, 0, none⟩), .pointer (some ⟨p1, 0, none⟩), .pointer (some ⟨d0, 0, none⟩), .pointer (some ⟨d1, 0, none⟩), s0, .slice (some ⟨g9, 0, none⟩) L1.length cap9])) 37⟩ :: (TA ++ T1)) (D0) ((D1 ++ (S0 ++ [⟨g9, Z9⟩]))) (by simp only [List.append_assoc, List.cons_append, List.nil_append, List.append_nil]) (fun T0 => .tuple #[.string ((pX y0 b0).oC nw en ec), .int .i64 ((pX y0 b0).oE nw en ec)]) (fun T0 => T0) (fun T0 => IsD d0 (jO y0 b0 nw en ec) b0 T0) (fun _ => by kernel_rfl) (fun w hL hT => e_Open E0 k0 hnw (by first | omega | (rw [tz_size]; omega)) w hL hT) ?_
                  rintro TB u6 HB M
                  replace M : Mem ⟨w, R_⟩ (⟨g2, .cells (av 2 (ls [.int .u64 (en : Int), .string ec])) 96⟩ :: ⟨g1, .cells (av 6 (ls [.int .i64 dd, .int .u8 ((at_ : Nat) : Int), .string ss, .int .i64 wh, .int .i64 nn, .int .u64 (nw : Int)])) 45⟩ :: ⟨p, .cells (av 6 (ls [.pointer (some ⟨p0, 0, none⟩), .pointer (some ⟨p1, 0, none⟩), .pointer (some ⟨d0, 0, none⟩), .pointer (some ⟨d1, 0, none⟩), s0, .slice (some ⟨g9, 0, none⟩) L1.length cap9])) 37⟩ :: (TA ++ (T1 ++ (TB ++ (D1 ++ (S0 ++ [⟨g9, Z9⟩])))))) u6 := by simpa only [List.append_assoc, List.cons_append, List.nil_append, List.append_nil] using M
                  refine rV 5 ?_
                  refine nT ?_
                  refine sR ?_
                  refine rV 2 ?_
                  refine pH 188 (.bool true) (fun w => Eq.trans (b := .ok (.value (.bool (((pX y0 b0).oC nw en ec).toList == ((pX y0 b0).oC nw en ec).toList))) w) (by kernel_rfl) (by rw [beq_self_eq_true])) ?_
                  refine rV 3 ?_
                  refine pl_val (want_on 3 true rfl 189 rfl (by kernel_rfl)) (some 192) rfl (.bool true) (fun w => Eq.trans (b := .ok (.value (.bool (decide (((pX y0 b0).oE nw en ec) = ((pX y0 b0).oE nw en ec))))) w) (by kernel_rfl) (by rw [decide_eq_true (by omega)])) ?_
                  refine rV 2 ?_
                  refine nT ?_
                  refine wp_ret ?_
                  exact bodyPost_ret (v := .bool true) (results_tmp1 Tryz.results9 _ _ _ (by kernel_rfl)) (by kernel_rfl) ⟨_, rfl, ⟨p0, p1, d0, d1, (jO y0 b0 nw en ec), y1, b0, b1, s0, .slice (some ⟨g9, 0, none⟩) L1.length cap9, L0, L1, TA, T1, TB, D1, S0, [⟨g9, Z9⟩], rfl, by rw [← pX_oX k0.k1]; exact HA, H1, HB, E1, (jO_dk k0 (by omega) (by omega)).1, k1, by have := (jO_dk (gn := b0) (n := nw) (i := en) (c := ec) k0 (by omega) (by omega)).2; omega, Nat.le_succ_of_le q1, hS0, hSk, w0.up, w1.up⟩, (okT_of hR_ (M.drop (.cons _ (.cons _ (.cons_cons _ (List.Sublist.refl _))))))⟩
            · skip
              refine pH 133 (.bool false) (jF (dd = 2) (c5)) ?_
              refine rV 6 ?_
              refine nT ?_
              refine wp_cond_false (by kernel_rfl) ?_
              refine wp_skip ?_
              refine au_then ?_
              refine sR ?_
              refine rV 1 ?_
              refine ZE M 158 1 0 ?_
              by_cases c6 : dd = 3
              · skip
                refine pH 159 (.bool true) (jT (dd = 3) (c6)) ?_
                refine nT ?_
                refine wp_cond_true (by kernel_rfl) ?_
                refine rg_lit ?_
                refine rV 1 ?_
                refine ZE M 161 1 4 ?_
                refine pH 162 (.int .u64 (u : Int)) (fun w => Eq.trans (b := .ok (.value (.int .u64 (cv .u64 nn))) w) (by kernel_rfl) (by rw [hu])) ?_
                refine rV 1 ?_
                refine pP M 0 rfl 0 (.int .u64 (u : Int)) (ls [.int .u64 (u : Int), .string ec]) (by decide) (put_ls _ 0 _ _ rfl) fun u5 M => ?_
                replace M : Mem ⟨w, R_⟩ (⟨g2, .cells (av 2 (ls [.int .u64 (u : Int), .string ec])) 96⟩ :: ⟨g1, .cells (av 6 (ls [.int .i64 dd, .int .u8 ((at_ : Nat) : Int), .string ss, .int .i64 wh, .int .i64 nn, .int .u64 (nw : Int)])) 45⟩ :: ⟨p, .cells (av 6 (ls [.pointer (some ⟨p0, 0, none⟩), .pointer (some ⟨p1, 0, none⟩), .pointer (some ⟨d0, 0, none⟩), .pointer (some ⟨d1, 0, none⟩), s0, .slice (some ⟨g9, 0, none⟩) L1.length cap9])) 37⟩ :: (T0 ++ (T1 ++ (D0 ++ (D1 ++ (S0 ++ [⟨g9, Z9⟩])))))) u5 := M
                refine nT ?_
                refine sR ?_
                refine rV 2 ?_
                refine ZE M 167 1 5 ?_
                refine rV 1 ?_
                refine ZE M 169 0 0 ?_
                refine rV 1 ?_
                refine ZE M 171 0 1 ?_
                refine pl_callM M (want_no rfl) (some 172) rfl 22 #[.pointer (some ⟨p0, 0, none⟩), .int .u64 (nw : Int), .int .u64 (u : Int), .string ec] [⟨g2, .cells (av 2 (ls [.int .u64 (u : Int), .string ec])) 96⟩, ⟨g1, .cells (av 6 (ls [.int .i64 dd, .int .u8 ((at_ : Nat) : Int), .string ss, .int .i64 wh, .int .i64 nn, .int .u64 (nw : Int)])) 45⟩, ⟨p, .cells (av 6 (ls [.pointer (some ⟨p0, 0, none⟩), .pointer (some ⟨p1, 0, none⟩), .pointer (some ⟨d0, 0, none⟩), .pointer (some ⟨d1, 0, none⟩), s0, .slice (some ⟨g9, 0, none⟩) L1.length cap9])) 37⟩] (T0) ((T1 ++ (D0 ++ (D1 ++ (S0 ++ [⟨g9, Z9⟩]))))) (by simp only [List.append_assoc, List.cons_append, List.nil_append, List.append_nil]) (fun T0 => .tuple #[.string ((pX y0 b0).oC nw u ec), .int .i64 ((pX y0 b0).oE nw u ec)]) (fun T0 => T0) (fun T0 => IsT p0 ((pX y0 b0).oX nw u ec) T0) (fun _ => by kernel_rfl) (fun w hL hT => a_Open H0 (pX_ok k0.toOk) hnw (by omega) w hL hT) ?_
                rintro TA u6 HA M
                replace M : Mem ⟨w, R_⟩ (⟨g2, .cells (av 2 (ls [.int .u64 (u : Int), .string ec])) 96⟩ :: ⟨g1, .cells (av 6 (ls [.int .i64 dd, .int .u8 ((at_ : Nat) : Int), .string ss, .int .i64 wh, .int .i64 nn, .int .u64 (nw : Int)])) 45⟩ :: ⟨p, .cells (av 6 (ls [.pointer (some ⟨p0, 0, none⟩), .pointer (some ⟨p1, 0, none⟩), .pointer (some ⟨d0, 0, none⟩), .pointer (some ⟨d1, 0, none⟩), s0, .slice (some ⟨g9, 0, none⟩) L1.length cap9])) 37⟩ :: (TA ++ (T1 ++ (D0 ++ (D1 ++ (S0 ++ [⟨g9, Z9⟩])))))) u6 := by simpa only [List.append_assoc, List.cons_append, List.nil_append, List.append_nil] using M
                refine rV 5 ?_
                refine nT ?_
                refine sR ?_
                refine rV 2 ?_
                refine ZE M 178 1 5 ?_
                refine rV 1 ?_
                refine ZE M 180 0 0 ?_
                refine rV 1 ?_
                refine ZE M 182 0 1 ?_
                refine pl_callM M (want_no rfl) (some 183) rfl 29 #[.pointer (some ⟨d0, 0, none⟩), .int .u64 (nw : Int), .int .u64 (u : Int), .string ec] (⟨g2, .cells (av 2 (ls [.int .u64 (u : Int), .string ec])) 96⟩ :: ⟨g1, .cells (av 6 (ls [.int .i64 dd, .int .u8 ((at_ : Nat) : Int), .string ss, .int .i64 wh, .int .i64 nn, .int .u64 (nw : Int)])) 45⟩ :: ⟨p, .cells (av 6 (ls [.pointer (some ⟨p0, 0, none⟩), .pointer (some ⟨p1, 0, none⟩), .pointer (some ⟨d0, 0, none⟩), .pointer (some ⟨d1, 0, none⟩), s0, .slice (some ⟨g9, 0, none⟩) L1.length cap9])) 37⟩ :: (TA ++ T1)) (D0) ((D1 ++ (S0 ++ [⟨g9, Z9⟩]))) (by simp only [List.append_assoc, List.cons_append, List.nil_append, List.append_nil]) (fun T0 => .tuple #[.string ((pX y0 b0).oC nw u ec), .int .i64 ((pX y0 b0).oE nw u ec)]) (fun T0 => T0) (fun T0 => IsD d0 (jO y0 b0 nw u ec) b0 T0) (fun _ => by kernel_rfl) (fun w hL hT => e_Open E0 k0 hnw (by first | omega | (rw [tz_size]; omega)) w hL hT) ?_
                rintro TB u7 HB M
                replace M : Mem ⟨w, R_⟩ (⟨g2, .cells (av 2 (ls [.int .u64 (u : Int), .string ec])) 96⟩ :: ⟨g1, .cells (av 6 (ls [.int .i64 dd, .int .u8 ((at_ : Nat) : Int), .string ss, .int .i64 wh, .int .i64 nn, .int .u64 (nw : Int)])) 45⟩ :: ⟨p, .cells (av 6 (ls [.pointer (some ⟨p0, 0, none⟩), .pointer (some ⟨p1, 0, none⟩), .pointer (some ⟨d0, 0, none⟩), .pointer (some ⟨d1, 0, none⟩), s0, .slice (some ⟨g9, 0, none⟩) L1.length cap9])) 37⟩ :: (TA ++ (T1 ++ (TB ++ (D1 ++ (S0 ++ [⟨g9, Z9⟩])))))) u7 := by simpa only [List.append_assoc, List.cons_append, List.nil_append, List.append_nil] using M
                refine rV 5 ?_
                refine nT ?_
                refine sR ?_
                refine rV 2 ?_
                refine pH 188 (.bool true) (fun w => Eq.trans (b := .ok (.value (.bool (((pX y0 b0).oC nw u ec).toList == ((pX y0 b0).oC nw u ec).toList))) w) (by kernel_rfl) (by rw [beq_self_eq_true])) ?_
                refine rV 3 ?_
                refine pl_val (want_on 3 true rfl 189 rfl (by kernel_rfl)) (some 192) rfl (.bool true) (fun w => Eq.trans (b := .ok (.value (.bool (decide (((pX y0 b0).oE nw u ec) = ((pX y0 b0).oE nw u ec))))) w) (by kernel_rfl) (by rw [decide_eq_true (by omega)])) ?_
                refine rV 2 ?_
                refine nT ?_
                refine wp_ret ?_
                exact bodyPost_ret (v := .bool true) (results_tmp1 Tryz.results9 _ _ _ (by kernel_rfl)) (by kernel_rfl) ⟨_, rfl, ⟨p0, p1, d0, d1, (jO y0 b0 nw u ec), y1, b0, b1, s0, .slice (some ⟨g9, 0, none⟩) L1.length cap9, L0, L1, TA, T1, TB, D1, S0, [⟨g9, Z9⟩], rfl, by rw [← pX_oX k0.k1]; exact HA, H1, HB, E1, (jO_dk k0 (by omega) (by omega)).1, k1, by have := (jO_dk (gn := b0) (n := nw) (i := u) (c := ec) k0 (by omega) (by omega)).2; omega, Nat.le_succ_of_le q1, hS0, hSk, w0.up, w1.up⟩, (okT_of hR_ (M.drop (.cons _ (.cons _ (.cons_cons _ (List.Sublist.refl _))))))⟩
              · skip
                refine pH 159 (.bool false) (jF (dd = 3) (c6)) ?_
                refine nT ?_
                refine wp_cond_false (by kernel_rfl) ?_
                refine wp_skip ?_
                refine au_then ?_
                refine sR ?_
                refine rV 2 ?_
                refine ZE M 167 1 5 ?_
                refine rV 1 ?_
                refine ZE M 169 0 0 ?_
                refine rV 1 ?_
                refine ZE M 171 0 1 ?_
                refine pl_callM M (want_no rfl) (some 172) rfl 22 #[.pointer (some ⟨p0, 0, none⟩), .int .u64 (nw : Int), .int .u64 (en : Int), .string ec] [⟨g2, .cells (av 2 (ls [.int .u64 (en : Int), .string ec])) 96⟩, ⟨g1, .cells (av 6 (ls [.int .i64 dd, .int .u8 ((at_ : Nat) : Int), .string ss, .int .i64 wh, .int .i64 nn, .int .u64 (nw : Int)])) 45⟩, ⟨p, .cells (av 6 (ls [.pointer (some ⟨p0, 0, none⟩), .pointer (some ⟨p1, 0, none⟩), .pointer (some ⟨d0, 0, none⟩), .pointer (some ⟨d1, 0, none⟩), s0, .slice (some ⟨g9, 0, none⟩) L1.length cap9])) 37⟩] (T0) ((T1 ++ (D0 ++ (D1 ++ (S0 ++ [⟨g9, Z9⟩]))))) (by simp only [List.append_assoc, List.cons_append, List.nil_append, List.append_nil]) (fun T0 => .tuple #[.string ((pX y0 b0).oC nw en ec), .int .i64 ((pX y0 b0).oE nw en ec)]) (fun T0 => T0) (fun T0 => IsT p0 ((pX y0 b0).oX nw en ec) T0) (fun _ => by kernel_rfl) (fun w hL hT => a_Open H0 (pX_ok k0.toOk) hnw (by omega) w hL hT) ?_
                rintro TA u5 HA M
                replace M : Mem ⟨w, R_⟩ (⟨g2, .cells (av 2 (ls [.int .u64 (en : Int), .string ec])) 96⟩ :: ⟨g1, .cells (av 6 (ls [.int .i64 dd, .int .u8 ((at_ : Nat) : Int), .string ss, .int .i64 wh, .int .i64 nn, .int .u64 (nw : Int)])) 45⟩ :: ⟨p, .cells (av 6 (ls [.pointer (some ⟨p0, 0, none⟩), .pointer (some ⟨p1, 0, none⟩), .pointer (some ⟨d0, 0, none⟩), .pointer (some ⟨d1, 0, none⟩), s0, .slice (some ⟨g9, 0, none⟩) L1.length cap9])) 37⟩ :: (TA ++ (T1 ++ (D0 ++ (D1 ++ (S0 ++ [⟨g9, Z9⟩])))))) u5 := by simpa only [List.append_assoc, List.cons_append, List.nil_append, List.append_nil] using M
                refine rV 5 ?_
                refine nT ?_
                refine sR ?_
                refine rV 2 ?_
                refine ZE M 178 1 5 ?_
                refine rV 1 ?_
                refine ZE M 180 0 0 ?_
                refine rV 1 ?_
                refine ZE M 182 0 1 ?_
                refine pl_callM M (want_no rfl) (some 183) rfl 29 #[.pointer (some ⟨d0, 0, none⟩), .int .u64 (nw : Int), .int .u64 (en : Int), .string ec] (⟨g2, .cells (av 2 (ls [.int .u64 (en : Int), .string ec])) 96⟩ :: ⟨g1, .cells (av 6 (ls [.int .i64 dd, .int .u8 ((at_ : Nat) : Int), .string ss, .int .i64 wh, .int .i64 nn, .int .u64 (nw : Int)])) 45⟩ :: ⟨p, .cells (av 6 (ls [.pointer (some ⟨p0, 0, none⟩), .pointer (some ⟨p1, 0, none⟩), .pointer (some ⟨d0, 0, none⟩), .pointer (some ⟨d1, 0, none⟩), s0, .slice (some ⟨g9, 0, none⟩) L1.length cap9])) 37⟩ :: (TA ++ T1)) (D0) ((D1 ++ (S0 ++ [⟨g9, Z9⟩]))) (by simp only [List.append_assoc, List.cons_append, List.nil_append, List.append_nil]) (fun T0 => .tuple #[.string ((pX y0 b0).oC nw en ec), .int .i64 ((pX y0 b0).oE nw en ec)]) (fun T0 => T0) (fun T0 => IsD d0 (jO y0 b0 nw en ec) b0 T0) (fun _ => by kernel_rfl) (fun w hL hT => e_Open E0 k0 hnw (by first | omega | (rw [tz_size]; omega)) w hL hT) ?_
                rintro TB u6 HB M
                replace M : Mem ⟨w, R_⟩ (⟨g2, .cells (av 2 (ls [.int .u64 (en : Int), .string ec])) 96⟩ :: ⟨g1, .cells (av 6 (ls [.int .i64 dd, .int .u8 ((at_ : Nat) : Int), .string ss, .int .i64 wh, .int .i64 nn, .int .u64 (nw : Int)])) 45⟩ :: ⟨p, .cells (av 6 (ls [.pointer (some ⟨p0, 0, none⟩), .pointer (some ⟨p1, 0, none⟩), .pointer (some ⟨d0, 0, none⟩), .pointer (some ⟨d1, 0, none⟩), s0, .slice (some ⟨g9, 0, none⟩) L1.length cap9])) 37⟩ :: (TA ++ (T1 ++ (TB ++ (D1 ++ (S0 ++ [⟨g9, Z9⟩])))))) u6 := by simpa only [List.append_assoc, List.cons_append, List.nil_append, List.append_nil] using M
                refine rV 5 ?_
                refine nT ?_
                refine sR ?_
                refine rV 2 ?_
                refine pH 188 (.bool true) (fun w => Eq.trans (b := .ok (.value (.bool (((pX y0 b0).oC nw en ec).toList == ((pX y0 b0).oC nw en ec).toList))) w) (by kernel_rfl) (by rw [beq_self_eq_true])) ?_
                refine rV 3 ?_
                refine pl_val (want_on 3 true rfl 189 rfl (by kernel_rfl)) (some 192) rfl (.bool true) (fun w => Eq.trans (b := .ok (.value (.bool (decide (((pX y0 b0).oE nw en ec) = ((pX y0 b0).oE nw en ec))))) w) (by kernel_rfl) (by rw [decide_eq_true (by omega)])) ?_
                refine rV 2 ?_
                refine nT ?_
                refine wp_ret ?_
                exact bodyPost_ret (v := .bool true) (results_tmp1 Tryz.results9 _ _ _ (by kernel_rfl)) (by kernel_rfl) ⟨_, rfl, ⟨p0, p1, d0, d1, (jO y0 b0 nw en ec), y1, b0, b1, s0, .slice (some ⟨g9, 0, none⟩) L1.length cap9, L0, L1, TA, T1, TB, D1, S0, [⟨g9, Z9⟩], rfl, by rw [← pX_oX k0.k1]; exact HA, H1, HB, E1, (jO_dk k0 (by omega) (by omega)).1, k1, by have := (jO_dk (gn := b0) (n := nw) (i := en) (c := ec) k0 (by omega) (by omega)).2; omega, Nat.le_succ_of_le q1, hS0, hSk, w0.up, w1.up⟩, (okT_of hR_ (M.drop (.cons _ (.cons _ (.cons_cons _ (List.Sublist.refl _))))))⟩
          · skip
            refine pl_val (want_on 3 true rfl 117 rfl (by kernel_rfl)) (some 120) rfl (.bool false) (fun w => Eq.trans (b := .ok (.value (.bool (decide (0 < ((L1.length : Nat) : Int))))) w) (by kernel_rfl) (by rw [decide_eq_false (c4)])) ?_
            refine rV 1 ?_
            refine nT ?_
            refine wp_cond_false (by kernel_rfl) ?_
            refine wp_skip ?_
            refine au_then ?_
            refine sR ?_
            refine rV 2 ?_
            refine ZE M 167 1 5 ?_
            refine rV 1 ?_
            refine ZE M 169 0 0 ?_
            refine rV 1 ?_
            refine ZE M 171 0 1 ?_
            refine pl_callM M (want_no rfl) (some 172) rfl 22 #[.pointer (some ⟨p0, 0, none⟩), .int .u64 (nw : Int), .int .u64 (u : Int), .string ss] [⟨g2, .cells (av 2 (ls [.int .u64 (u : Int), .string ss])) 96⟩, ⟨g1, .cells (av 6 (ls [.int .i64 dd, .int .u8 ((at_ : Nat) : Int), .string ss, .int .i64 wh, .int .i64 nn, .int .u64 (nw : Int)])) 45⟩, ⟨p, .cells (av 6 (ls [.pointer (some ⟨p0, 0, none⟩), .pointer (some ⟨p1, 0, none⟩), .pointer (some ⟨d0, 0, none⟩), .pointer (some ⟨d1, 0, none⟩), s0, s1])) 37⟩] (T0) ((T1 ++ (D0 ++ (D1 ++ (S0 ++ S1))))) (by simp only [List.append_assoc, List.cons_append, List.nil_append, List.append_nil]) (fun T0 => .tuple #[.string ((pX y0 b0).oC nw u ss), .int .i64 ((pX y0 b0).oE nw u ss)]) (fun T0 => T0) (fun T0 => IsT p0 ((pX y0 b0).oX nw u ss) T0) (fun _ => by kernel_rfl) (fun w hL hT => a_Open H0 (pX_ok k0.toOk) hnw (by omega) w hL hT) ?_
            rintro TA u4 HA M
            replace M : Mem ⟨w, R_⟩ (⟨g2, .cells (av 2 (ls [.int .u64 (u : Int), .string ss])) 96⟩ :: ⟨g1, .cells (av 6 (ls [.int .i64 dd, .int .u8 ((at_ : Nat) : Int), .string ss, .int .i64 wh, .int .i64 nn, .int .u64 (nw : Int)])) 45⟩ :: ⟨p, .cells (av 6 (ls [.pointer (some ⟨p0, 0, none⟩), .pointer (some ⟨p1, 0, none⟩), .pointer (some ⟨d0, 0, none⟩), .pointer (some ⟨d1, 0, none⟩), s0, s1])) 37⟩ :: (TA ++ (T1 ++ (D0 ++ (D1 ++ (S0 ++ S1)))))) u4 := by simpa only [List.append_assoc, List.cons_append, List.nil_append, List.append_nil] using M
            refine rV 5 ?_
            refine nT ?_
            refine sR ?_
            refine rV 2 ?_
            refine ZE M 178 1 5 ?_
            refine rV 1 ?_
            refine ZE M 180 0 0 ?_
            refine rV 1 ?_
            refine ZE M 182 0 1 ?_
            refine pl_callM M (want_no rfl) (some 183) rfl 29 #[.pointer (some ⟨d0, 0, none⟩), .int .u64 (nw : Int), .int .u64 (u : Int), .string ss] (⟨g2, .cells (av 2 (ls [.int .u64 (u : Int), .string ss])) 96⟩ :: ⟨g1, .cells (av 6 (ls [.int .i64 dd, .int .u8 ((at_ : Nat) : Int), .string ss, .int .i64 wh, .int .i64 nn, .int .u64 (nw : Int)])) 45⟩ :: ⟨p, .cells (av 6 (ls [.pointer (some ⟨p0, 0, none⟩), .pointer (some ⟨p1, 0, none⟩), .pointer (some ⟨d0, 0, none⟩), .pointer (some ⟨d1, 0, none⟩), s0, s1])) 37⟩ :: (TA ++ T1)) (D0) ((D1 ++ (S0 ++ S1))) (by simp only [List.append_assoc, List.cons_append, List.nil_append, List.append_nil]) (fun T0 => .tuple #[.string ((pX y0 b0).oC nw u ss), .int .i64 ((pX y0 b0).oE nw u ss)]) (fun T0 => T0) (fun T0 => IsD d0 (jO y0 b0 nw u ss) b0 T0) (fun _ => by kernel_rfl) (fun w hL hT => e_Open E0 k0 hnw (by first | omega | (rw [tz_size]; omega)) w hL hT) ?_
            rintro TB u5 HB M
            replace M : Mem ⟨w, R_⟩ (⟨g2, .cells (av 2 (ls [.int .u64 (u : Int), .string ss])) 96⟩ :: ⟨g1, .cells (av 6 (ls [.int .i64 dd, .int .u8 ((at_ : Nat) : Int), .string ss, .int .i64 wh, .int .i64 nn, .int .u64 (nw : Int)])) 45⟩ :: ⟨p, .cells (av 6 (ls [.pointer (some ⟨p0, 0, none⟩), .pointer (some ⟨p1, 0, none⟩), .pointer (some ⟨d0, 0, none⟩), .pointer (some ⟨d1, 0, none⟩), s0, s1])) 37⟩ :: (TA ++ (T1 ++ (TB ++ (D1 ++ (S0 ++ S1)))))) u5 := by simpa only [List.append_assoc, List.cons_append, List.nil_append, List.append_nil] using M
            refine rV 5 ?_
            refine nT ?_
            refine sR ?_
            refine rV 2 ?_
            refine pH 188 (.bool true) (fun w => Eq.trans (b := .ok (.value (.bool (((pX y0 b0).oC nw u ss).toList == ((pX y0 b0).oC nw u ss).toList))) w) (by kernel_rfl) (by rw [beq_self_eq_true])) ?_
            refine rV 3 ?_
            refine pl_val (want_on 3 true rfl 189 rfl (by kernel_rfl)) (some 192) rfl (.bool true) (fun w => Eq.trans (b := .ok (.value (.bool (decide (((pX y0 b0).oE nw u ss) = ((pX y0 b0).oE nw u ss))))) w) (by kernel_rfl) (by rw [decide_eq_true (by omega)])) ?_
            refine rV 2 ?_
            refine nT ?_
            refine wp_ret ?_
            exact bodyPost_ret (v := .bool true) (results_tmp1 Tryz.results9 _ _ _ (by kernel_rfl)) (by kernel_rfl) ⟨_, rfl, ⟨p0, p1, d0, d1, (jO y0 b0 nw u ss), y1, b0, b1, s0, s1, L0, L1, TA, T1, TB, D1, S0, S1, rfl, by rw [← pX_oX k0.k1]; exact HA, H1, HB, E1, (jO_dk k0 (by omega) (by omega)).1, k1, by have := (jO_dk (gn := b0) (n := nw) (i := u) (c := ss) k0 (by omega) (by omega)).2; omega, Nat.le_succ_of_le q1, hS0, hS1, w0.up, w1.up⟩, (okT_of hR_ (M.drop (.cons _ (.cons _ (.cons_cons _ (List.Sublist.refl _))))))⟩
        · skip
          refine pH 116 (.bool false) (jF (dd < 6) (c3)) ?_
          refine rV 5 ?_
          refine nT ?_
          refine wp_cond_false (by kernel_rfl) ?_
          refine wp_skip ?_
          refine au_then ?_
          refine sR ?_
          refine rV 2 ?_
          refine ZE M 167 1 5 ?_
          refine rV 1 ?_
          refine ZE M 169 0 0 ?_
          refine rV 1 ?_
          refine ZE M 171 0 1 ?_
          refine pl_callM M (want_no rfl) (some 172) rfl 22 #[.pointer (some ⟨p0, 0, none⟩), .int .u64 (nw : Int), .int .u64 (u : Int), .string ss] [⟨g2, .cells (av 2 (ls [.int .u64 (u : Int), .string ss])) 96⟩, ⟨g1, .cells (av 6 (ls [.int .i64 dd, .int .u8 ((at_ : Nat) : Int), .string ss, .int .i64 wh, .int .i64 nn, .int .u64 (nw : Int)])) 45⟩, ⟨p, .cells (av 6 (ls [.pointer (some ⟨p0, 0, none⟩), .pointer (some ⟨p1, 0, none⟩), .pointer (some ⟨d0, 0, none⟩), .pointer (some ⟨d1, 0, none⟩), s0, s1])) 37⟩] (T0) ((T1 ++ (D0 ++ (D1 ++ (S0 ++ S1))))) (by simp only [List.append_assoc, List.cons_append, List.nil_append, List.append_nil]) (fun T0 => .tuple #[.string ((pX y0 b0).oC nw u ss), .int .i64 ((pX y0 b0).oE nw u ss)]) (fun T0 => T0) (fun T0 => IsT p0 ((pX y0 b0).oX nw u ss) T0) (fun _ => by kernel_rfl) (fun w hL hT => a_Open H0 (pX_ok k0.toOk) hnw (by omega) w hL hT) ?_
          rintro TA u4 HA M
          replace M : Mem ⟨w, R_⟩ (⟨g2, .cells (av 2 (ls [.int .u64 (u : Int), .string ss])) 96⟩ :: ⟨g1, .cells (av 6 (ls [.int .i64 dd, .int .u8 ((at_ : Nat) : Int), .string ss, .int .i64 wh, .int .i64 nn, .int .u64 (nw : Int)])) 45⟩ :: ⟨p, .cells (av 6 (ls [.pointer (some ⟨p0, 0, none⟩), .pointer (some ⟨p1, 0, none⟩), .pointer (some ⟨d0, 0, none⟩), .pointer (some ⟨d1, 0, none⟩), s0, s1])) 37⟩ :: (TA ++ (T1 ++ (D0 ++ (D1 ++ (S0 ++ S1)))))) u4 := by simpa only [List.append_assoc, List.cons_append, List.nil_append, List.append_nil] using M
          refine rV 5 ?_
          refine nT ?_
          refine sR ?_
          refine rV 2 ?_
          refine ZE M 178 1 5 ?_
          refine rV 1 ?_
          refine ZE M 180 0 0 ?_
          refine rV 1 ?_
          refine ZE M 182 0 1 ?_
          refine pl_callM M (want_no rfl) (some 183) rfl 29 #[.pointer (some ⟨d0, 0, none⟩), .int .u64 (nw : Int), .int .u64 (u : Int), .string ss] (⟨g2, .cells (av 2 (ls [.int .u64 (u : Int), .string ss])) 96⟩ :: ⟨g1, .cells (av 6 (ls [.int .i64 dd, .int .u8 ((at_ : Nat) : Int), .string ss, .int .i64 wh, .int .i64 nn, .int .u64 (nw : Int)])) 45⟩ :: ⟨p, .cells (av 6 (ls [.pointer (some ⟨p0, 0, none⟩), .pointer (some ⟨p1, 0, none⟩), .pointer (some ⟨d0, 0, none⟩), .pointer (some ⟨d1, 0, none⟩), s0, s1])) 37⟩ :: (TA ++ T1)) (D0) ((D1 ++ (S0 ++ S1))) (by simp only [List.append_assoc, List.cons_append, List.nil_append, List.append_nil]) (fun T0 => .tuple #[.string ((pX y0 b0).oC nw u ss), .int .i64 ((pX y0 b0).oE nw u ss)]) (fun T0 => T0) (fun T0 => IsD d0 (jO y0 b0 nw u ss) b0 T0) (fun _ => by kernel_rfl) (fun w hL hT => e_Open E0 k0 hnw (by first | omega | (rw [tz_size]; omega)) w hL hT) ?_
          rintro TB u5 HB M
          replace M : Mem ⟨w, R_⟩ (⟨g2, .cells (av 2 (ls [.int .u64 (u : Int), .string ss])) 96⟩ :: ⟨g1, .cells (av 6 (ls [.int .i64 dd, .int .u8 ((at_ : Nat) : Int), .string ss, .int .i64 wh, .int .i64 nn, .int .u64 (nw : Int)])) 45⟩ :: ⟨p, .cells (av 6 (ls [.pointer (some ⟨p0, 0, none⟩), .pointer (some ⟨p1, 0, none⟩), .pointer (some ⟨d0, 0, none⟩), .pointer (some ⟨d1, 0, none⟩), s0, s1])) 37⟩ :: (TA ++ (T1 ++ (TB ++ (D1 ++ (S0 ++ S1)))))) u5 := by simpa only [List.append_assoc, List.cons_append, List.nil_append, List.append_nil] using M
          refine rV 5 ?_
          refine nT ?_
          refine sR ?_
          refine rV 2 ?_
          refine pH 188 (.bool true) (fun w => Eq.trans (b := .ok (.value (.bool (((pX y0 b0).oC nw u ss).toList == ((pX y0 b0).oC nw u ss).toList))) w) (by kernel_rfl) (by rw [beq_self_eq_true])) ?_
          refine rV 3 ?_
          refine pl_val (want_on 3 true rfl 189 rfl (by kernel_rfl)) (some 192) rfl (.bool true) (fun w => Eq.trans (b := .ok (.value (.bool (decide (((pX y0 b0).oE nw u ss) = ((pX y0 b0).oE nw u ss))))) w) (by kernel_rfl) (by rw [decide_eq_true (by omega)])) ?_
          refine rV 2 ?_
          refine nT ?_
          refine wp_ret ?_
          exact bodyPost_ret (v := .bool true) (results_tmp1 Tryz.results9 _ _ _ (by kernel_rfl)) (by kernel_rfl) ⟨_, rfl, ⟨p0, p1, d0, d1, (jO y0 b0 nw u ss), y1, b0, b1, s0, s1, L0, L1, TA, T1, TB, D1, S0, S1, rfl, by rw [← pX_oX k0.k1]; exact HA, H1, HB, E1, (jO_dk k0 (by omega) (by omega)).1, k1, by have := (jO_dk (gn := b0) (n := nw) (i := u) (c := ss) k0 (by omega) (by omega)).2; omega, Nat.le_succ_of_le q1, hS0, hS1, w0.up, w1.up⟩, (okT_of hR_ (M.drop (.cons _ (.cons _ (.cons_cons _ (List.Sublist.refl _))))))⟩


end Go.Proofs.YtenafinbaanicaaGreatDoor
