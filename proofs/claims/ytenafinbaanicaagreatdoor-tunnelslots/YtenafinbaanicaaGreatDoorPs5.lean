/- Part 5 of the walks and facts. -/
import Derived.Test.YtenafinbaanicaaGreatDoorPs4
import Derived.LaidEqlPtr
set_option maxHeartbeats 16000000
set_option maxRecDepth 100000
set_option linter.unusedSimpArgs false
set_option linter.unusedVariables false
namespace Go.Proofs.YtenafinbaanicaaGreatDoor
open Go.RowKit
theorem Mem.oldh {c : Ctx} {L : List Blk} {W : World} (M : Mem c L W) {g : Nat} {Z : Obj} (h : c.w.heap[g]? = some Z) (hr : g ∉ c.r) : W.heap[g]? = some Z := (M.old.block g (Array.getElem?_eq_some_iff.1 h).1 hr).trans h
theorem run_eqP1 {P : Program} {a : Act} {o : Oper} (t te rt : TypeId) (x y : Operand) (ho : o.op = .binOp .eql t x y rt) (g : Nat) (hx : a.eval x = .pointer (some ⟨g, 0, none⟩)) (hy : a.eval y = .pointer (some ⟨g, 0, none⟩)) (hp : P.underlying t = some (.pointer te)) {K : Nat} (hz : (P.info? te).map (·.size) = some K) (w : World) : (execOp a.eval o).run P w = .ok (.value (.bool true)) w := by
 cases e : P.info? te with
 | none => rw [e] at hz; cases hz
 | some j =>
  have h := run_eql_ptr_same (P := P) w ⟨g, 0, none⟩ hp e
  unfold execOp
  simp [ho, hx, hy, eqGuard, h]
theorem run_eqP0 {P : Program} {a : Act} {o : Oper} (t te rt : TypeId) (x y : Operand) (ho : o.op = .binOp .eql t x y rt) (g q : Nat) (hx : a.eval x = .pointer (some ⟨g, 0, none⟩)) (hy : a.eval y = .pointer (some ⟨q, 0, none⟩)) (hp : P.underlying t = some (.pointer te)) {K : Nat} (hz : (P.info? te).map (·.size) = some (K + 1)) (hne : ¬ g = q) (w : World) (ha : ∃ cs T, w.heap[g]? = some (.cells cs T (0, 0))) (hb : ∃ cs T, w.heap[q]? = some (.cells cs T (0, 0))) : (execOp a.eval o).run P w = .ok (.value (.bool false)) w := by
 obtain ⟨ca, ta, ha⟩ := ha
 obtain ⟨cb, tb, hb⟩ := hb
 cases e : P.info? te with
 | none => rw [e] at hz; cases hz
 | some j =>
  rw [e] at hz
  have hj : j.size = K + 1 := by simpa using hz
  have h := run_eql_ptr_other (P := P) w (a := ⟨g, 0, none⟩) (b := ⟨q, 0, none⟩) hp e (by omega) (fun h => hne (by injection h)) ha hb
  unfold execOp
  simp [ho, hx, hy, eqGuard, h]
theorem c_at {l l2 : Option Addr} {p b o1 n k b2 o2 k2 i : Nat} {X Y : Nat → Nat} (hl : 0 < n → l = some ⟨b, o1, none⟩) (hl2 : 0 < n → l2 = some ⟨b2, o2, none⟩) (hn : n < 1000000) (hi : i < n) (hne : ∀ j, j < i → ¬ X j = X i) (w : World) (hL : Laid w) (h2 : w.cell? ⟨p, 2, none⟩ = some (.slice l2 n k2)) (h3 : w.cell? ⟨p, 3, none⟩ = some (.slice l n k)) (hX : ∀ j, j < n → w.cell? ⟨b, o1 + j * 1, none⟩ = some (.pointer (some ⟨X j, 0, none⟩))) (hY : ∀ j, j < n → w.cell? ⟨b2, o2 + j * 1, none⟩ = some (.pointer (some ⟨Y j, 0, none⟩))) (hZ : ∀ j, j < n → ∃ cs T, w.heap[X j]? = some (.cells cs T (0, 0))) : Cs 36 #[.pointer (some ⟨p, 0, none⟩), .pointer (some ⟨(Y i), 0, none⟩), .pointer (some ⟨(X i), 0, none⟩)] w (.bool true) := by
 go_enter Tryz.func36, Tryz.ntmps36
 have M := Mem.start hL
 refine sq <| wp_seq <| sq <| wp_block ?_
 refine au_loop (fun j a w' => ∃ (v1 : NV) , a = (fm ([.pointer (some ⟨p, 0, none⟩), .pointer (some ⟨(Y i), 0, none⟩), .pointer (some ⟨(X i), 0, none⟩)] ++ und 3 ++ [v1 6, .int .i64 (j : Int)] ++ vr v1 8 27)) ∧ Mem ⟨w, []⟩ [] w') i ⟨fun k_ => ([.bool false, undef, undef, undef, undef, undef, undef, undef, undef, undef, undef, undef, undef, undef, undef, undef, undef, undef, undef, undef, undef, undef, undef, undef, undef, undef, undef, undef, undef] : List Value).getD (k_ - 6) undef, by kernel_rfl, by simpa only [List.append_assoc, List.cons_append, List.nil_append, List.append_nil] using M⟩ ?_ ?_
 ·intro j a u0 hj hI
  obtain ⟨v1, rfl, M⟩ := hI
  refine wp_seq <| sR <| rV 4 <| pE M 12 p 3 (.slice l n k) (fun w M => M.oldc h3 (by simp)) <| rV 1 <| ZT 14 ((j : Int) < (n : Int)) <| nT <| cT <| wp_skip <| au_then <| wp_seq <| wp_block <| sR <| rV 3 <| pE M 20 p 3 (.slice l n k) (fun w M => M.oldc h3 (by simp)) <| rV 1 ?_
  refine pH 22 (.pointer (some ⟨b, (o1 + j * 1), none⟩)) (run_ixK 63 32 1 Tryz.underlying63 inz32 _ _ rfl l b o1 n k (by kernel_rfl) (hl (by omega)) .i64 j (by kernel_rfl) (by omega)) <| pE M 23 b (o1 + j * 1) (.pointer (some ⟨(X j), 0, none⟩)) (fun w M => M.oldc (hX j (by omega)) (by simp)) <| rV 1 <| pl_to (want_no rfl) (some 25) rfl (.bool false) _ (run_eqP0 32 51 _ _ _ rfl (X j) (X i) (by kernel_rfl) (by kernel_rfl) Tryz.underlying32 inz51 (hne j hj) _ ((hZ j (by omega)).imp fun _ h => h.imp fun _ h => M.oldh h (by simp)) ((hZ i hi).imp fun _ h => h.imp fun _ h => M.oldh h (by simp))) <| nT <| cF <| wp_skip <| au_block <| au_then <| rg_lit <| rV 1 ?_
  refine pH 16 (.int .i64 ((j + 1 : Nat) : Int)) (fun w => Eq.trans (b := .ok (.value (.int .i64 (IntKind.wrap .i64 ((j : Int) + 1)))) w) (by kernel_rfl) (by rw [wrap64 (by omega) (by omega)]; rfl)) ?_
  refine rV 1 <| nT ?_
  exact exS M
 ·intro a u0 hI
  obtain ⟨v1, rfl, M⟩ := hI
  refine wp_seq <| sR <| rV 4 <| pE M 12 p 3 (.slice l n k) (fun w M => M.oldc h3 (by simp)) <| rV 1 <| ZT 14 ((i : Int) < (n : Int)) <| nT <| cT <| wp_skip <| au_then <| wp_seq <| wp_block <| sR <| rV 3 <| pE M 20 p 3 (.slice l n k) (fun w M => M.oldc h3 (by simp)) <| rV 1 ?_
  refine pH 22 (.pointer (some ⟨b, (o1 + i * 1), none⟩)) (run_ixK 63 32 1 Tryz.underlying63 inz32 _ _ rfl l b o1 n k (by kernel_rfl) (hl (by omega)) .i64 i (by kernel_rfl) (by omega)) <| pE M 23 b (o1 + i * 1) (.pointer (some ⟨(X i), 0, none⟩)) (fun w M => M.oldc (hX i (by omega)) (by simp)) <| rV 1 <| pH 25 (.bool true) (fun w => run_eqP1 32 51 _ _ _ rfl (X i) (by kernel_rfl) (by kernel_rfl) Tryz.underlying32 inz51 w) <| nT <| cT <| sR <| rV 3 <| pE M 29 p 2 (.slice l2 n k2) (fun w M => M.oldc h2 (by simp)) <| rV 1 <| pH 31 (.pointer (some ⟨b2, (o2 + i * 1), none⟩)) (run_ixK 62 30 1 Tryz.underlying62 inz30 _ _ rfl l2 b2 o2 n k2 (by kernel_rfl) (hl2 (by omega)) .i64 i (by kernel_rfl) (by omega)) <| pE M 32 b2 (o2 + i * 1) (.pointer (some ⟨(Y i), 0, none⟩)) (fun w M => M.oldc (hY i (by omega)) (by simp)) <| rV 1 <| pH 34 (.bool true) (fun w => run_eqP1 30 91 _ _ _ rfl (Y i) (by kernel_rfl) (by kernel_rfl) Tryz.underlying30 inz91 w) <| rV 1 <| nT ?_
  refine wp_ret <| au_block_ret <| au_then_ret <| au_then_ret <| au_block_ret <| au_then_ret ?_
  exact b1 M
theorem c_dBest {p : Nat} {l : Option Addr} {b o1 n k : Nat} {J : Nat → Nat} (hl : 0 < n → l = some ⟨b, o1, none⟩) (hn : n < 1000000) {su ov : Nat → Bool} {nx ct : Nat → Nat} {t : Nat} (w : World) (hL : Laid w) (hJ : ∀ j, j < n → w.cell? ⟨b, o1 + j * 2 + 1, none⟩ = some (.pointer (some ⟨J j, 0, none⟩))) (hs : w.cell? ⟨p, 0, none⟩ = some (.slice l n k)) (hSu : ∀ j, j < n → w.cell? ⟨J j, 12, none⟩ = some (.bool (su j))) (hNx : ∀ j, j < n → w.cell? ⟨J j, 9, none⟩ = some (.int .u64 ((nx j : Nat) : Int))) (hCt : ∀ j, j < n → w.cell? ⟨J j, 5, none⟩ = some (.int .u64 ((ct j : Nat) : Int))) (hO : ∀ j, j < n → ∀ w', Below w.heap.size w w' → Laid w' → Calls Tryz.prog 11 #[.pointer (some ⟨J j, 0, none⟩), .int .u64 (t : Int)] w' fun r w'' => r = .returned (.bool (ov j)) ∧ Below w'.heap.size w' w'') : Cs 38 #[.pointer (some ⟨p, 0, none⟩), .int .u64 (t : Int)] w (.int .i64 (lx (fun j => su j && (!ov j && decide (nx j < ct j))) n)) := by
 go_enter Tryz.func38, Tryz.ntmps38
 have M := Mem.start hL
 refine sq <| wp_seq <| sR <| rV 3 <| pE M 10 p 0 (.slice l n k) (fun w M => M.oldc hs (by simp)) <| rV 1 <| pH 12 (.int .i64 ((n : Int) - 1 - ((0 : Nat) : Int))) (fun w => Eq.trans (b := .ok (.value (.int .i64 (IntKind.wrap .i64 ((n : Int) - 1)))) w) (by kernel_rfl) (by rw [wrap64 (by omega) (by omega), show ((n : Int) - 1 - ((0 : Nat) : Int)) = (n : Int) - 1 by omega])) <| rV 1 <| nT <| wp_block ?_
 refine au_loop (fun j a w' => ∃ (v1 : NV) , a = (fm ([.pointer (some ⟨p, 0, none⟩), .int .u64 (t : Int), undef, undef, v1 4, .int .i64 ((n : Int) - 1 - (j : Int)), v1 6, .pointer (some ⟨p, 0, none⟩), .pointer (some ⟨p, 0, none⟩), .pointer (some ⟨p, 0, none⟩), .slice l n k, .int .i64 (n : Int), .int .i64 ((n : Int) - 1 - ((0 : Nat) : Int))] ++ vr v1 13 35)) ∧ Mem ⟨w, []⟩ [] w' ∧ (∀ i, i < j → (fun j => su j && (!ov j && decide (nx j < ct j))) (n - 1 - i) = false)) n ⟨fun k_ => ([.int .i64 0, undef, undef, undef, undef, undef, undef, undef, undef, undef, undef, undef, undef, undef, undef, undef, undef, undef, undef, undef, undef, undef, undef, undef, undef, undef, undef, undef, undef, undef, undef, undef, undef, undef, undef, undef, undef, undef, undef, undef, undef, undef, undef, undef] : List Value).getD (k_ - 4) undef, by kernel_rfl, by simpa only [List.append_assoc, List.cons_append, List.nil_append, List.append_nil] using M, fun _ h => absurd h (by omega)⟩ ?_ ?_
 ·intro j a u0 hj hI
  obtain ⟨v1, rfl, M, hh⟩ := hI
  obtain ⟨i, hi⟩ : ∃ i, i + j + 1 = n := ⟨n - 1 - j, by omega⟩
  rw [show ((n : Int) - 1 - (j : Int)) = (i : Int) by omega]
  refine wp_seq <| sR <| rV 1 <| ZT 14 (0 ≤ (i : Int)) <| nT <| cT <| wp_skip <| au_then <| wp_seq <| wp_block <| sR <| rV 3 <| pE M 20 p 0 (.slice l n k) (fun w M => M.oldc hs (by simp)) <| rV 1 <| pH 22 (.pointer (some ⟨b, (o1 + i * 2), none⟩)) (run_ixK 59 72 2 Tryz.underlying59 inz72 _ _ rfl l b o1 n k (by kernel_rfl) (hl (by omega)) .i64 i (by kernel_rfl) (by omega)) <| rV 1 ?_
  refine pE M 24 b ((o1 + i * 2) + 1) (.pointer (some ⟨(J i), 0, none⟩)) (fun w M => M.oldc (hJ i (by omega)) (by simp)) <| rV 1 <| nT <| wp_seq <| rg_held M [] 21 rfl (by kernel_rfl) (by kernel_rfl) (fun _ _ d _ _ h => by cases d <;> exact h) fun u1 M => ?_
  replace M : Mem ⟨w, []⟩ [] u1 := M
  refine qV M 0 25 (.pointer (some ⟨(J i), 0, none⟩)) <| qV M 1 26 (.pointer (some ⟨(J i), 0, none⟩)) <| qV M 2 27 (.pointer (some ⟨(J i), 12, none⟩)) ?_
  rcases Bool.eq_false_or_eq_true (su i) with c0 | c0
  ·refine hl_cell M 3 rfl (by decide) (by kernel_rfl) (by kernel_rfl) (want_no rfl) (some 28) rfl 4 _ rfl (J i) 12 (by kernel_rfl) (.bool true) (fun _ => by kernel_rfl) (fun w M => (c0 ▸ M.oldc (hSu i (by omega)) (by simp))) <| qV M 4 29 (.bool true) <| hl_val M 5 rfl (by decide) (by kernel_rfl) (by kernel_rfl) (want_on 4 true rfl 29 rfl (by kernel_rfl)) (some 30) rfl (.pointer (some ⟨(J i), 0, none⟩)) (fun _ _ => by kernel_rfl) <| hl_val M 6 rfl (by decide) (by kernel_rfl) (by kernel_rfl) (want_on 4 true rfl 29 rfl (by kernel_rfl)) (some 31) rfl (.int .u64 (t : Int)) (fun _ _ => by kernel_rfl) <| hl_one 7 (by decide) (by kernel_rfl) rfl ?_
   rcases Bool.eq_false_or_eq_true (ov i) with c1 | c1
   ·refine pl_call M (want_on 4 true rfl 29 rfl (by kernel_rfl)) (some 32) rfl 11 #[.pointer (some ⟨(J i), 0, none⟩), .int .u64 (t : Int)] (.bool true) (fun _ => by kernel_rfl) (fun w M => call_val (hO i (by omega) w (below_grown M.old) M.laid) (by rw [c1])) fun u2 M => nT ?_
    refine ⟨M, ?_⟩
    refine hl_val M 8 rfl (by decide) (by kernel_rfl) (by kernel_rfl) (want_on 4 true rfl 29 rfl (by kernel_rfl)) (some 33) rfl (.bool false) (fun _ _ => by kernel_rfl) <| qV M 9 34 (.bool false) <| qV M 10 35 (.bool false) <| hl_skip M 11 rfl (by decide) (by kernel_rfl) (by kernel_rfl) (want_off 10 true rfl 35 rfl (by kernel_rfl)) (some 36) rfl <| hl_skip M 12 rfl (by decide) (by kernel_rfl) (by kernel_rfl) (want_off 10 true rfl 35 rfl (by kernel_rfl)) (some 37) rfl <| hl_skip M 13 rfl (by decide) (by kernel_rfl) (by kernel_rfl) (want_off 10 true rfl 35 rfl (by kernel_rfl)) (some 38) rfl <| hl_skip M 14 rfl (by decide) (by kernel_rfl) (by kernel_rfl) (want_off 10 true rfl 35 rfl (by kernel_rfl)) (some 39) rfl <| hl_skip M 15 rfl (by decide) (by kernel_rfl) (by kernel_rfl) (want_off 10 true rfl 35 rfl (by kernel_rfl)) (some 40) rfl <| hl_skip M 16 rfl (by decide) (by kernel_rfl) (by kernel_rfl) (want_off 10 true rfl 35 rfl (by kernel_rfl)) (some 41) rfl <| hl_skip M 17 rfl (by decide) (by kernel_rfl) (by kernel_rfl) (want_off 10 true rfl 35 rfl (by kernel_rfl)) (some 42) rfl <| hl_skip M 18 rfl (by decide) (by kernel_rfl) (by kernel_rfl) (want_off 10 true rfl 35 rfl (by kernel_rfl)) (some 43) rfl <| hl_skip M 19 rfl (by decide) (by kernel_rfl) (by kernel_rfl) (want_off 10 true rfl 35 rfl (by kernel_rfl)) (some 44) rfl <| hl_skip M 20 rfl (by decide) (by kernel_rfl) (by kernel_rfl) (want_off 10 true rfl 35 rfl (by kernel_rfl)) (some 45) rfl <| hl_end (by kernel_rfl) (by kernel_rfl) rfl <| rV 1 <| nT ?_
    refine au_then <| cF <| wp_skip <| au_block <| au_then <| rg_lit <| rV 1 <| pH 16 (.int .i64 ((n : Int) - 1 - ((j + 1 : Nat) : Int))) (fun w => Eq.trans (b := .ok (.value (.int .i64 (IntKind.wrap .i64 ((i : Int) - 1)))) w) (by kernel_rfl) (by rw [wrap64 (by omega) (by omega), show ((n : Int) - 1 - ((j + 1 : Nat) : Int)) = (i : Int) - 1 by omega])) <| rV 1 <| nT ?_
    exact ⟨fun k_ => ([v1 4, undef, .pointer (some ⟨(J i), 0, none⟩), undef, undef, undef, undef, undef, undef, .int .i64 (i : Int), .bool true, .int .i64 (i : Int), .int .i64 ((n : Int) - 1 - ((j + 1 : Nat) : Int)), .pointer (some ⟨p, 0, none⟩), .pointer (some ⟨p, 0, none⟩), .pointer (some ⟨p, 0, none⟩), .slice l n k, .int .i64 (i : Int), .pointer (some ⟨b, (o1 + i * 2), none⟩), .pointer (some ⟨b, ((o1 + i * 2) + 1), none⟩), .pointer (some ⟨(J i), 0, none⟩), .pointer (some ⟨(J i), 0, none⟩), .pointer (some ⟨(J i), 0, none⟩), .pointer (some ⟨(J i), 12, none⟩), .bool true, .bool true, .pointer (some ⟨(J i), 0, none⟩), .int .u64 (t : Int), .bool true, .bool false, .bool false, .bool false, undef, undef, undef, undef, undef, undef, undef, undef, undef, undef, .bool false, v1 47] : List Value).getD (k_ - 4) undef, by kernel_rfl, M, step_no (g := fun i => (fun j => su j && (!ov j && decide (nx j < ct j))) (n - 1 - i)) hh (by show (fun j => su j && (!ov j && decide (nx j < ct j))) (n - 1 - j) = false; rw [show n - 1 - j = i by omega]; simp only [Bool.false_and, Bool.and_false, Bool.true_and, Bool.not_true, Bool.not_false, c0, c1])⟩
   ·refine pl_call M (want_on 4 true rfl 29 rfl (by kernel_rfl)) (some 32) rfl 11 #[.pointer (some ⟨(J i), 0, none⟩), .int .u64 (t : Int)] (.bool false) (fun _ => by kernel_rfl) (fun w M => call_val (hO i (by omega) w (below_grown M.old) M.laid) (by rw [c1])) fun u2 M => nT ?_
    refine ⟨M, ?_⟩
    refine hl_val M 8 rfl (by decide) (by kernel_rfl) (by kernel_rfl) (want_on 4 true rfl 29 rfl (by kernel_rfl)) (some 33) rfl (.bool true) (fun _ _ => by kernel_rfl) <| qV M 9 34 (.bool true) <| qV M 10 35 (.bool true) <| hl_val M 11 rfl (by decide) (by kernel_rfl) (by kernel_rfl) (want_on 10 true rfl 35 rfl (by kernel_rfl)) (some 36) rfl (.pointer (some ⟨(J i), 0, none⟩)) (fun _ _ => by kernel_rfl) <| hl_val M 12 rfl (by decide) (by kernel_rfl) (by kernel_rfl) (want_on 10 true rfl 35 rfl (by kernel_rfl)) (some 37) rfl (.pointer (some ⟨(J i), 0, none⟩)) (fun _ _ => by kernel_rfl) <| hl_val M 13 rfl (by decide) (by kernel_rfl) (by kernel_rfl) (want_on 10 true rfl 35 rfl (by kernel_rfl)) (some 38) rfl (.pointer (some ⟨(J i), 9, none⟩)) (fun _ _ => by kernel_rfl) <| hl_cell M 14 rfl (by decide) (by kernel_rfl) (by kernel_rfl) (want_on 10 true rfl 35 rfl (by kernel_rfl)) (some 39) rfl 24 _ rfl (J i) 9 (by kernel_rfl) (.int .u64 ((nx i : Nat) : Int)) (fun _ => by kernel_rfl) (fun w M => M.oldc (hNx i (by omega)) (by simp)) <| hl_val M 15 rfl (by decide) (by kernel_rfl) (by kernel_rfl) (want_on 10 true rfl 35 rfl (by kernel_rfl)) (some 40) rfl (.pointer (some ⟨(J i), 0, none⟩)) (fun _ _ => by kernel_rfl) <| hl_val M 16 rfl (by decide) (by kernel_rfl) (by kernel_rfl) (want_on 10 true rfl 35 rfl (by kernel_rfl)) (some 41) rfl (.pointer (some ⟨(J i), 0, none⟩)) (fun _ _ => by kernel_rfl) <| hl_val M 17 rfl (by decide) (by kernel_rfl) (by kernel_rfl) (want_on 10 true rfl 35 rfl (by kernel_rfl)) (some 42) rfl (.pointer (some ⟨(J i), 4, none⟩)) (fun _ _ => by kernel_rfl) <| hl_val M 18 rfl (by decide) (by kernel_rfl) (by kernel_rfl) (want_on 10 true rfl 35 rfl (by kernel_rfl)) (some 43) rfl (.pointer (some ⟨(J i), 5, none⟩)) (fun _ _ => by kernel_rfl) <| hl_cell M 19 rfl (by decide) (by kernel_rfl) (by kernel_rfl) (want_on 10 true rfl 35 rfl (by kernel_rfl)) (some 44) rfl 24 _ rfl (J i) 5 (by kernel_rfl) (.int .u64 ((ct i : Nat) : Int)) (fun _ => by kernel_rfl) (fun w M => M.oldc (hCt i (by omega)) (by simp)) ?_
    by_cases c2 : ((nx i : Nat) : Int) < ((ct i : Nat) : Int)
    ·refine hl_val M 20 rfl (by decide) (by kernel_rfl) (by kernel_rfl) (want_on 10 true rfl 35 rfl (by kernel_rfl)) (some 45) rfl (.bool true) (fun w _ => (fun w => Eq.trans (b := .ok (.value (.bool (decide (((nx i : Nat) : Int) < ((ct i : Nat) : Int))))) w) (by kernel_rfl) (by rw [decide_eq_true (c2)])) w) <| hl_end (by kernel_rfl) (by kernel_rfl) rfl <| rV 1 <| nT <| au_then <| cT <| sq <| wp_ret <| au_block_ret <| au_then_ret <| au_then_ret <| au_block_ret <| au_then_ret ?_
     have e0 : (lx (fun j => su j && (!ov j && decide (nx j < ct j))) n) = (i : Int) := lx_at (g := (fun j => su j && (!ov j && decide (nx j < ct j)))) hi (by simp only [Bool.false_and, Bool.and_false, Bool.true_and, Bool.not_true, Bool.not_false, c0, c1, decide_eq_true (show nx i < ct i by omega)]) hh
     exact bodyPost_ret (v := .int .i64 (i : Int)) (results_tmp1 Tryz.results38 _ _ _ (by kernel_rfl)) (by kernel_rfl) ⟨by rw [e0], below_grown M.old⟩
    ·refine hl_val M 20 rfl (by decide) (by kernel_rfl) (by kernel_rfl) (want_on 10 true rfl 35 rfl (by kernel_rfl)) (some 45) rfl (.bool false) (fun w _ => (fun w => Eq.trans (b := .ok (.value (.bool (decide (((nx i : Nat) : Int) < ((ct i : Nat) : Int))))) w) (by kernel_rfl) (by rw [decide_eq_false (c2)])) w) <| hl_end (by kernel_rfl) (by kernel_rfl) rfl <| rV 1 <| nT <| au_then <| cF <| wp_skip <| au_block <| au_then <| rg_lit <| rV 1 <| pH 16 (.int .i64 ((n : Int) - 1 - ((j + 1 : Nat) : Int))) (fun w => Eq.trans (b := .ok (.value (.int .i64 (IntKind.wrap .i64 ((i : Int) - 1)))) w) (by kernel_rfl) (by rw [wrap64 (by omega) (by omega), show ((n : Int) - 1 - ((j + 1 : Nat) : Int)) = (i : Int) - 1 by omega])) <| rV 1 <| nT ?_
     exact ⟨fun k_ => ([v1 4, undef, .pointer (some ⟨(J i), 0, none⟩), undef, undef, undef, undef, undef, undef, .int .i64 (i : Int), .bool true, .int .i64 (i : Int), .int .i64 ((n : Int) - 1 - ((j + 1 : Nat) : Int)), .pointer (some ⟨p, 0, none⟩), .pointer (some ⟨p, 0, none⟩), .pointer (some ⟨p, 0, none⟩), .slice l n k, .int .i64 (i : Int), .pointer (some ⟨b, (o1 + i * 2), none⟩), .pointer (some ⟨b, ((o1 + i * 2) + 1), none⟩), .pointer (some ⟨(J i), 0, none⟩), .pointer (some ⟨(J i), 0, none⟩), .pointer (some ⟨(J i), 0, none⟩), .pointer (some ⟨(J i), 12, none⟩), .bool true, .bool true, .pointer (some ⟨(J i), 0, none⟩), .int .u64 (t : Int), .bool false, .bool true, .bool true, .bool true, .pointer (some ⟨(J i), 0, none⟩), .pointer (some ⟨(J i), 0, none⟩), .pointer (some ⟨(J i), 9, none⟩), .int .u64 ((nx i : Nat) : Int), .pointer (some ⟨(J i), 0, none⟩), .pointer (some ⟨(J i), 0, none⟩), .pointer (some ⟨(J i), 4, none⟩), .pointer (some ⟨(J i), 5, none⟩), .int .u64 ((ct i : Nat) : Int), .bool false, .bool false, v1 47] : List Value).getD (k_ - 4) undef, by kernel_rfl, M, step_no (g := fun i => (fun j => su j && (!ov j && decide (nx j < ct j))) (n - 1 - i)) hh (by show (fun j => su j && (!ov j && decide (nx j < ct j))) (n - 1 - j) = false; rw [show n - 1 - j = i by omega]; simp only [Bool.false_and, Bool.and_false, Bool.true_and, Bool.not_true, Bool.not_false, c0, c1, decide_eq_false (show ¬ nx i < ct i by omega)])⟩
  ·refine hl_cell M 3 rfl (by decide) (by kernel_rfl) (by kernel_rfl) (want_no rfl) (some 28) rfl 4 _ rfl (J i) 12 (by kernel_rfl) (.bool false) (fun _ => by kernel_rfl) (fun w M => (c0 ▸ M.oldc (hSu i (by omega)) (by simp))) <| qV M 4 29 (.bool false) <| hl_skip M 5 rfl (by decide) (by kernel_rfl) (by kernel_rfl) (want_off 4 true rfl 29 rfl (by kernel_rfl)) (some 30) rfl <| hl_skip M 6 rfl (by decide) (by kernel_rfl) (by kernel_rfl) (want_off 4 true rfl 29 rfl (by kernel_rfl)) (some 31) rfl <| hl_skip M 7 rfl (by decide) (by kernel_rfl) (by kernel_rfl) (want_off 4 true rfl 29 rfl (by kernel_rfl)) (some 32) rfl <| hl_skip M 8 rfl (by decide) (by kernel_rfl) (by kernel_rfl) (want_off 4 true rfl 29 rfl (by kernel_rfl)) (some 33) rfl <| qV M 9 34 (.bool false) <| qV M 10 35 (.bool false) <| hl_skip M 11 rfl (by decide) (by kernel_rfl) (by kernel_rfl) (want_off 10 true rfl 35 rfl (by kernel_rfl)) (some 36) rfl <| hl_skip M 12 rfl (by decide) (by kernel_rfl) (by kernel_rfl) (want_off 10 true rfl 35 rfl (by kernel_rfl)) (some 37) rfl <| hl_skip M 13 rfl (by decide) (by kernel_rfl) (by kernel_rfl) (want_off 10 true rfl 35 rfl (by kernel_rfl)) (some 38) rfl <| hl_skip M 14 rfl (by decide) (by kernel_rfl) (by kernel_rfl) (want_off 10 true rfl 35 rfl (by kernel_rfl)) (some 39) rfl <| hl_skip M 15 rfl (by decide) (by kernel_rfl) (by kernel_rfl) (want_off 10 true rfl 35 rfl (by kernel_rfl)) (some 40) rfl <| hl_skip M 16 rfl (by decide) (by kernel_rfl) (by kernel_rfl) (want_off 10 true rfl 35 rfl (by kernel_rfl)) (some 41) rfl <| hl_skip M 17 rfl (by decide) (by kernel_rfl) (by kernel_rfl) (want_off 10 true rfl 35 rfl (by kernel_rfl)) (some 42) rfl <| hl_skip M 18 rfl (by decide) (by kernel_rfl) (by kernel_rfl) (want_off 10 true rfl 35 rfl (by kernel_rfl)) (some 43) rfl ?_
   refine hl_skip M 19 rfl (by decide) (by kernel_rfl) (by kernel_rfl) (want_off 10 true rfl 35 rfl (by kernel_rfl)) (some 44) rfl <| hl_skip M 20 rfl (by decide) (by kernel_rfl) (by kernel_rfl) (want_off 10 true rfl 35 rfl (by kernel_rfl)) (some 45) rfl <| hl_end (by kernel_rfl) (by kernel_rfl) rfl <| rV 1 <| nT <| au_then <| cF <| wp_skip <| au_block <| au_then <| rg_lit <| rV 1 <| pH 16 (.int .i64 ((n : Int) - 1 - ((j + 1 : Nat) : Int))) (fun w => Eq.trans (b := .ok (.value (.int .i64 (IntKind.wrap .i64 ((i : Int) - 1)))) w) (by kernel_rfl) (by rw [wrap64 (by omega) (by omega), show ((n : Int) - 1 - ((j + 1 : Nat) : Int)) = (i : Int) - 1 by omega])) <| rV 1 <| nT ?_
   exact ⟨fun k_ => ([v1 4, undef, .pointer (some ⟨(J i), 0, none⟩), undef, undef, undef, undef, undef, undef, .int .i64 (i : Int), .bool true, .int .i64 (i : Int), .int .i64 ((n : Int) - 1 - ((j + 1 : Nat) : Int)), .pointer (some ⟨p, 0, none⟩), .pointer (some ⟨p, 0, none⟩), .pointer (some ⟨p, 0, none⟩), .slice l n k, .int .i64 (i : Int), .pointer (some ⟨b, (o1 + i * 2), none⟩), .pointer (some ⟨b, ((o1 + i * 2) + 1), none⟩), .pointer (some ⟨(J i), 0, none⟩), .pointer (some ⟨(J i), 0, none⟩), .pointer (some ⟨(J i), 0, none⟩), .pointer (some ⟨(J i), 12, none⟩), .bool false, .bool false, undef, undef, undef, undef, .bool false, .bool false, undef, undef, undef, undef, undef, undef, undef, undef, undef, undef, .bool false, v1 47] : List Value).getD (k_ - 4) undef, by kernel_rfl, M, step_no (g := fun i => (fun j => su j && (!ov j && decide (nx j < ct j))) (n - 1 - i)) hh (by show (fun j => su j && (!ov j && decide (nx j < ct j))) (n - 1 - j) = false; rw [show n - 1 - j = i by omega]; simp only [Bool.false_and, Bool.and_false, Bool.true_and, Bool.not_true, Bool.not_false, c0])⟩
 ·intro a u0 hI
  obtain ⟨v1, rfl, M, hh⟩ := hI
  refine wp_seq <| sR <| rV 1 <| ZF 14 (0 ≤ ((n : Int) - 1 - (n : Int))) <| nT <| cF <| wp_exit <| au_then_exit <| au_then_exit <| au_block_exit <| au_then <| sq <| wp_ret ?_
  have e0 : (lx (fun j => su j && (!ov j && decide (nx j < ct j))) n) = -1 := lx_no (g := (fun j => su j && (!ov j && decide (nx j < ct j)))) hh
  exact bodyPost_ret (v := .int .i64 (-1)) (results_tmp1 Tryz.results38 _ _ _ (by kernel_rfl)) (by kernel_rfl) ⟨by rw [e0], below_grown M.old⟩
open Go.RowKit
structure Sl where
 id : Nat
 t : Nat
def vS : List Sl → List Value
 | [] => []
 | s :: S => .int .u32 ((s.id : Nat) : Int) :: .pointer (some ⟨s.t, 0, none⟩) :: vS S
def sI (S : List Sl) (j : Nat) : Nat := (S.getD j ⟨0, 0⟩).id
def sJ (S : List Sl) (j : Nat) : Nat := (S.getD j ⟨0, 0⟩).t
theorem vS_len : ∀ S : List Sl, (vS S).length = S.length * 2
 | [] => rfl
 | s :: S => by simp only [vS, List.length_cons, vS_len S]; omega
theorem vS_app : ∀ (S R : List Sl), vS (S ++ R) = vS S ++ vS R
 | [], _ => rfl
 | s :: S, R => by simp only [List.cons_append, vS, vS_app S R]
theorem vS_take : ∀ (S : List Sl) (i : Nat), vS (S.take i) = (vS S).take (i * 2)
 | [], i => by simp [vS]
 | s :: S, 0 => by simp [vS]
 | s :: S, i + 1 => by rw [List.take_succ_cons, show (i + 1) * 2 = i * 2 + 1 + 1 by omega]; simp only [vS, List.take_succ_cons, vS_take S i]
theorem vS_drop : ∀ (S : List Sl) (i : Nat), vS (S.drop i) = (vS S).drop (i * 2)
 | [], i => by simp [vS]
 | s :: S, 0 => by simp [vS]
 | s :: S, i + 1 => by rw [List.drop_succ_cons, show (i + 1) * 2 = i * 2 + 1 + 1 by omega]; simp only [vS, List.drop_succ_cons, vS_drop S i]
theorem vS_at : ∀ (S : List Sl) (j : Nat), j < S.length → (vS S)[j * 2 + 0]? = some (.int .u32 ((sI S j : Nat) : Int)) ∧ (vS S)[j * 2 + 1]? = some (.pointer (some ⟨sJ S j, 0, none⟩))
 | [], j, h => absurd h (Nat.not_lt_zero j)
 | s :: S, 0, h => ⟨rfl, rfl⟩
 | s :: S, j + 1, h => by
  have := vS_at S j (by simpa using h)
  rw [show (j + 1) * 2 = j * 2 + 1 + 1 by omega]
  exact this
theorem at_mem {S : List Sl} {j : Nat} (h : j < S.length) : S[j]? = some ⟨sI S j, sJ S j⟩ := by
 unfold sI sJ
 rw [List.getElem?_eq_getElem h, List.getD_eq_getElem?_getD, List.getElem?_eq_getElem h]
 rfl
theorem sI_of {S : List Sl} {j : Nat} {s : Sl} (h : S[j]? = some s) : sI S j = s.id ∧ sJ S j = s.t := by
 unfold sI sJ
 rw [List.getD_eq_getElem?_getD, h]
 exact ⟨rfl, rfl⟩
theorem SB.putV {Z : Obj} {cap : Nat} {l : List Value} (h : SB Z cap l) (i : Nat) (vs : List Value) (hr : i + vs.length ≤ l.length) {W : World} {g : Nat} (hz : W.heap[g]? = some Z) : ∃ Z', (W.setCells g i vs).heap[g]? = some Z' ∧ SB Z' cap (l.take i ++ (vs ++ l.drop (i + vs.length))) := by
 obtain ⟨cs, T, fr, rfl, h1, h2, h3, h4⟩ := h.ex
 obtain ⟨ds, e1, e2, e3⟩ := setCells_block g T fr vs W cs i hz
 have hlen : (l.take i ++ (vs ++ l.drop (i + vs.length))).length = l.length := by simp; omega
 refine ⟨_, e1, ⟨ds, T, fr, rfl, by omega, by omega, fun k hk => ?_, h4⟩⟩
 rw [hlen] at hk
 rw [e3 k]
 have t1 : (l.take i).length = i := by simp; omega
 by_cases c1 : k < i
 ·rw [if_neg (by omega), List.getElem?_append_left (by omega), List.getElem?_take, if_pos c1, h3 k hk]
 ·rw [List.getElem?_append_right (by omega), t1]
  by_cases c2 : k < i + vs.length
  ·rw [if_pos ⟨by omega, c2, by omega⟩, List.getElem?_append_left (by omega)]
  ·rw [if_neg (by omega), List.getElem?_append_right (by omega), List.getElem?_drop, h3 k hk]
   congr 1
   omega
theorem SB.cut {Z : Obj} {cap : Nat} {l : List Value} (h : SB Z cap l) (i : Nat) (vs : List Value) (hi : i ≤ l.length) {W : World} {g : Nat} (hz : W.heap[g]? = some Z) : ∃ Z', (W.setCells g i vs).heap[g]? = some Z' ∧ SB Z' cap (l.take i) := by
 obtain ⟨cs, T, fr, rfl, h1, h2, h3, h4⟩ := h.ex
 obtain ⟨ds, e1, e2, e3⟩ := setCells_block g T fr vs W cs i hz
 have t1 : (l.take i).length = i := by simp; omega
 refine ⟨_, e1, ⟨ds, T, fr, rfl, by omega, by omega, fun k hk => ?_, h4⟩⟩
 rw [t1] at hk
 rw [e3 k, if_neg (by omega), List.getElem?_take, if_pos hk, h3 k (by omega)]
theorem SB.there {Z : Obj} {cap : Nat} {l : List Value} (h : SB Z cap l) {W : World} {g : Nat} (hz : W.heap[g]? = some Z) (o k : Nat) (hk : o + k ≤ cap) : W.there g o k := fun j hj => by
 obtain ⟨cs, T, fr, rfl, h1, h2, h3, h4⟩ := h.ex
 refine ⟨?_, ?_⟩
 ·unfold World.cell?
  rw [hz]
  simp
  omega
 ·unfold World.frozen?
  rw [hz]
  exact h4 _ (by show o + j < cap; omega)
section
variable {P : Program} {ops : Array Oper} {rest : List Oper} {o : Oper} {a : Act} {w : World} {c : Ctx} {L : List Blk} {Q : Exit → Act → World → Prop}
theorem pl_putSV (M : Mem c L w) (hw : Region.wanted o (yielded ops a.tmps) = true) (hd : o.dst = none) (ty : TypeId) (x y : Operand) (ho : o.op = .store ty x y) (i g off : Nat) (hx : a.eval x = .pointer (some ⟨g, off, none⟩)) (Z : Obj) (cap : Nat) (l : List Value) (hi : L[i]? = some ⟨g, Z⟩) (hs : SB Z cap l) (k : Nat) (F' : NV)
  (hy : a.eval y = .agg (av k F')) (hz : (P.info? ty).map (·.size) = some k) (hk : off + k ≤ l.length) (h1 : ∀ j, j < k → (F' j).oneCell' = true)
  (h : ∀ Z' w', SB Z' cap (l.take off ++ ((av k F').toList ++ l.drop (off + k))) → Mem c (L.set i ⟨g, Z'⟩) w' → PL P ops Q rest a w') : PL P ops Q (o :: rest) a w := by
 have R := M.get i hi
 have hsz : (av k F').toList.length = k := by rw [Array.length_toList, av_size]
 obtain ⟨Z', e1, e2⟩ := hs.putV off (av k F').toList (by omega) R
 rw [hsz] at e2
 refine ⟨Go.BigFrame.wpList_want hw fun K hK => wp_store_mid ty x y ho g off (av k F') hx hy (by rw [av_size]; exact hs.there R off k (Nat.le_trans hk hs.le)) (by rw [hz, av_size]) (av_one _ _ h1) (hK _ _ ?_)⟩
 rw [hd]
 refine PL.out ?_
 exact h _ _ e2 (M.put i ⟨g, _⟩ hi _ (grown_setCells g _ _ _) e1)
theorem run_slLo (t elem K : TypeId) (hu : P.underlying t = some (.slice elem)) (hs : (P.info? elem).map (·.size) = some K) (x lo : Operand) (ho : o.op = .slice t x (some lo) none none) (g n cap : Nat) (hx : a.eval x = .slice (some ⟨g, 0, none⟩) n cap) (k : IntKind) (i : Nat) (hi : a.eval lo = .int k (i : Int)) (hlt : i ≤ n) (hc : i < cap) (w : World) :
  (execOp a.eval o).run P w = .ok (.value (.slice (some ⟨g, i * K, none⟩) (n - i) (cap - i))) w := by
 cases hq : P.info? elem with
 | none => simp [hq] at hs
 | some u =>
  have hsz : u.size = K := by simpa [hq] using hs
  have hne : ¬ cap = i := by omega
  unfold execOp
  simp [ho, hx, hi, Instr.sliceAt, Instr.slice, run_underlying hu, Instr.sliceBounds, run_sliceBound, sizeOf, typeInfo, hq, hsz, add_at, hne, hlt]
theorem run_slHi (t elem K : TypeId) (hu : P.underlying t = some (.slice elem)) (hs : (P.info? elem).map (·.size) = some K) (x lo : Operand) (ho : o.op = .slice t x none (some lo) none) (g n cap : Nat) (hx : a.eval x = .slice (some ⟨g, 0, none⟩) n cap) (k : IntKind) (i : Nat) (hi : a.eval lo = .int k (i : Int)) (hlt : i ≤ n) (hc : n ≤ cap) (w : World) :
  (execOp a.eval o).run P w = .ok (.value (.slice (some ⟨g, 0, none⟩) i cap)) w := by
 cases hq : P.info? elem with
 | none => simp [hq] at hs
 | some u =>
  have hle : i ≤ cap := by omega
  unfold execOp
  simp [ho, hx, hi, Instr.sliceAt, Instr.slice, run_underlying hu, Instr.sliceBounds, run_sliceBound, sizeOf, typeInfo, hq, add_at, hle]
theorem pl_clearS (M : Mem c L w) (hw : Region.wanted o (yielded ops a.tmps) = true) (hd : o.dst = none) (i g : Nat) (Z : Obj) (cap K : Nat) (l : List Value) (hi : L[i]? = some ⟨g, Z⟩) (hs : SB Z cap l) (t e ty : TypeId) (zv : Value) (ht : P.underlying t = some (.slice e)) (hv : ∀ w, (zeroValue e).run P w = .ok zv w) (hzc : zv.cells.size = K) (h1 : zv.cells.all (·.oneCell') = true) (off n cp : Nat) (hn : 0 < n) (hoff : off ≤ l.length) (hle : off + n * K ≤ cap)
  (hrun : ∀ w, (execOp a.eval o).run P w = (do pure (Next.value (← Builtin.clear_ #[t] ty #[.slice (some ⟨g, off, none⟩) n cp]))).run P w)
  (h : ∀ Z' w', SB Z' cap (l.take off) → Mem c (L.set i ⟨g, Z'⟩) w' → PL P ops Q rest (a.put none (.tuple #[])) w') : PL P ops Q (o :: rest) a w := by
 have R := M.get i hi
 obtain ⟨Z', e1, e2⟩ := hs.cut off (Builtin.zeroCells zv.cells n).toList hoff R
 have hsz : (Builtin.zeroCells zv.cells n).toList.length = n * K := by rw [Array.length_toList, size_zeroCells, hzc]
 have hth := hs.there R off (n * K) hle
 have hst := run_storeCells_cells (P := P) g off (Builtin.zeroCells zv.cells n).toList 0 w (fun j hj => by rw [hsz] at hj; rw [Nat.add_zero]; exact (hth j hj).1) (fun j hj => by rw [hsz] at hj; rw [Nat.add_zero]; exact (hth j hj).2) (fun v hv' => by
  have hm : v ∈ zv.cells := by
   have := Array.mem_toList_iff.1 hv'
   unfold Builtin.zeroCells at this
   obtain ⟨i, hi, rfl⟩ := Array.mem_map.1 this
   have hi := Array.mem_range.1 hi
   have hp : i % zv.cells.size < zv.cells.size := Nat.mod_lt _ (by
    rcases Nat.eq_zero_or_pos zv.cells.size with e | e
    ·rw [e, Nat.mul_zero] at hi
     exact absurd hi (Nat.not_lt_zero _)
    ·exact e)
   rw [getElem!_pos zv.cells _ hp]
   exact Array.getElem_mem hp
  exact Array.all_eq_true'.1 h1 v hm)
 simp only [Nat.add_zero] at hst
 refine pl_to hw none hd (.tuple #[]) _ ?_ (h _ _ e2 (M.put i ⟨g, _⟩ hi _ (grown_setCells g _ _ _) e1))
 rw [hrun]
 obtain ⟨m, rfl⟩ : ∃ m, n = m + 1 := ⟨n - 1, by omega⟩
 simp [Builtin.clear_, run_underlying ht, hv, hst]
end
open Go.RowKit
def kp (g : Nat → Bool) (S : List Sl) : Nat → List Sl
 | 0 => []
 | j + 1 => if g j = true then kp g S j else kp g S j ++ [⟨sI S j, sJ S j⟩]
theorem kp_yes {g : Nat → Bool} {S : List Sl} {j : Nat} (h : g j = true) : kp g S (j + 1) = kp g S j := if_pos h
theorem kp_no {g : Nat → Bool} {S : List Sl} {j : Nat} (h : g j = false) : kp g S (j + 1) = kp g S j ++ [⟨sI S j, sJ S j⟩] := if_neg (by rw [h]; decide)
theorem take_next {S : List Sl} {j : Nat} (h : j < S.length) : S.take (j + 1) = S.take j ++ [⟨sI S j, sJ S j⟩] := by
 rw [List.take_add_one, at_mem h]
 rfl
theorem kp_all {g : Nat → Bool} {S : List Sl} : ∀ {j : Nat}, j ≤ S.length → (∀ i, i < j → g i = false) → kp g S j = S.take j
 | 0, _, _ => by simp [kp]
 | j + 1, h, hg => by rw [kp_no (hg j (by omega)), kp_all (by omega) (fun i hi => hg i (by omega)), take_next (by omega)]
theorem kp_full {g : Nat → Bool} {S : List Sl} (hg : ∀ i, i < S.length → g i = false) : kp g S S.length = S := by rw [kp_all (Nat.le_refl _) hg, List.take_length]
theorem kp_first {g : Nat → Bool} {S : List Sl} {i : Nat} (hi : i < S.length) (hg : g i = true) (h : ∀ k, k < i → g k = false) : S.take i = kp g S (i + 1) := by rw [kp_yes hg, kp_all (by omega) h]
theorem vS_set {A : List Sl} {i : Nat} (x t : Nat) (hi : i < A.length) : (vS A).take (0 + i * 2) ++ ([.int .u32 ((x : Nat) : Int), .pointer (some ⟨t, 0, none⟩)] ++ (vS A).drop (0 + i * 2 + 2)) = vS (A.set i ⟨x, t⟩) := by
 rw [Nat.zero_add, show i * 2 + 2 = (i + 1) * 2 by omega, ← vS_take, ← vS_drop, List.set_eq_take_append_cons_drop, if_pos hi, vS_app]
 rfl
theorem cellS {Z : Obj} {cap : Nat} {A S : List Sl} (hZ : SB Z (cap * 2) (vS A)) {w : World} {q : Nat} (hz : w.heap[q]? = some Z) {j : Nat} (hj : j < A.length) (he : A[j]? = S[j]?) : w.cell? ⟨q, 0 + j * 2 + 0, none⟩ = some (.int .u32 ((sI S j : Nat) : Int)) ∧ w.cell? ⟨q, 0 + j * 2 + 1, none⟩ = some (.pointer (some ⟨sJ S j, 0, none⟩)) := by
 have h1 : sI A j = sI S j ∧ sJ A j = sJ S j := by
  rw [at_mem hj] at he
  have := sI_of he.symm
  exact ⟨this.1.symm, this.2.symm⟩
 have h2 := vS_at A j hj
 rw [h1.1, h1.2] at h2
 rw [Nat.zero_add]
 exact ⟨hZ.cell hz h2.1, hZ.cell hz h2.2⟩
theorem take_set {A : List Sl} {i : Nat} {s : Sl} (hi : i < A.length) : (A.set i s).take (i + 1) = A.take i ++ [s] := by
 rw [List.take_add_one, List.take_set_of_le (Nat.le_refl i), List.getElem?_set_self hi]
 rfl
theorem c_del0 {φ : FuncId} {c : Nat} {g : Nat → Bool} (hE : ∀ args w, (callFunc φ args).run Tryz.prog w = .ok (.enter φ args) w) {l : Option Addr} {b o1 n k : Nat} {I : Nat → Nat} {J : Nat → Nat} (hl : 0 < n → l = some ⟨b, o1, none⟩) (hn : n < 1000000) (hg : ∀ j, j < n → g j = false) (w : World) (hL : Laid w) (hI : ∀ j, j < n → w.cell? ⟨b, o1 + j * 2 + 0, none⟩ = some (.int .u32 ((I j : Nat) : Int))) (hJ : ∀ j, j < n → w.cell? ⟨b, o1 + j * 2 + 1, none⟩ = some (.pointer (some ⟨J j, 0, none⟩))) (hF : ∀ j, j < n → ∀ w', Below w.heap.size w w' → Laid w' → Calls Tryz.prog φ #[.agg (av 2 (ls [.int .u32 ((I j : Nat) : Int), .pointer (some ⟨(J j), 0, none⟩)])), .pointer (some ⟨c, 0, none⟩)] w' fun r w'' => r = .returned (.bool (g j)) ∧ Below w'.heap.size w' w'') : Cs 76 #[.slice l n k, .func (.func φ) #[] #[.pointer (some ⟨c, 0, none⟩)]] w (.slice l n k) := by
 go_enter Tryz.func76, Tryz.ntmps76
 have M := Mem.start hL
 refine sq <| sR <| rV 2 <| pC M 10 57 #[.slice l n k, .func (.func φ) #[] #[.pointer (some ⟨c, 0, none⟩)]] (.int .i64 (-1)) (fun w M => call_val (c_index (c := c) (k := k) hE hl hn w M.laid (fun j hj => M.oldc (hI j hj) (by simp)) (fun j hj => M.oldc (hJ j hj) (by simp)) (fun j hj w' hb => hF j hj w' (up2 (below_grown M.old) hb))) (by rw [ix_no hg])) fun u1 M => rV 1 <| nT <| wp_seq <| sq <| cT <| sq <| wp_ret <| au_then_ret ?_
 exact b1 M
theorem c_del1 {φ : FuncId} {c : Nat} {g : Nat → Bool} (hE : ∀ args w, (callFunc φ args).run Tryz.prog w = .ok (.enter φ args) w) {S : List Sl} {q cap i0 : Nat} {Z : Obj} {R : List Blk} (hZ : SB Z (cap * 2) (vS S)) (hcap : S.length ≤ cap) (hn : S.length < 1000) (hi0 : i0 < S.length) (hg0 : g i0 = true) (hgs : ∀ k, k < i0 → g k = false) (hF : ∀ j, j < S.length → ∀ w', Laid w' → There w' R → Calls Tryz.prog φ #[.agg (av 2 (ls [.int .u32 ((sI S j : Nat) : Int), .pointer (some ⟨(sJ S j), 0, none⟩)])), .pointer (some ⟨c, 0, none⟩)] w' fun r w'' => r = .returned (.bool (g j)) ∧ Below w'.heap.size w' w'') (w : World) (hL : Laid w)  (hT : There w (⟨q, Z⟩ :: R)) : Calls Tryz.prog 76 #[.slice (some ⟨q, 0, none⟩) S.length cap, .func (.func φ) #[] #[.pointer (some ⟨c, 0, none⟩)]] w fun r w' => ∃ x : Value × List Blk, r = .returned x.1 ∧ SlW 2 (vS (kp g S S.length)) (kp g S S.length).length x.1 x.2 ∧ OkT w w' (⟨q, Z⟩ :: R) (x.2 ++ R) := by
 go_enter Tryz.func76, Tryz.ntmps76
 have M : Mem ⟨w, (⟨q, Z⟩ :: R).map Blk.g⟩ (⟨q, Z⟩ :: R) w := Mem.startT hL hT
 refine sq <| sR <| rV 2 <| pC M 10 57 #[.slice (some ⟨q, 0, none⟩) S.length cap, .func (.func φ) #[] #[.pointer (some ⟨c, 0, none⟩)]] (.int .i64 (i0 : Int)) (fun w M => call_val (c_index (c := c) (k := cap) hE (fun _ => rfl) (by omega) w M.laid (fun j hj => (cellS hZ (M.get 0 rfl) hj rfl).1) (fun j hj => (cellS hZ (M.get 0 rfl) hj rfl).2) (fun j hj w' hb hL => hF j hj w' hL (There.up (M.thereM (pre := [⟨q, Z⟩]) (T := R) (suf := []) (by simp only [List.append_assoc, List.cons_append, List.nil_append, List.append_nil])) hb))) (by rw [ix_at hi0 hg0 hgs])) fun u1 M => rV 1 <| nT <| wp_seq <| sR <| rV 1 ?_
 by_cases c0 : (i0 : Int) = -1
 ·exfalso; omega
 ·refine pH 12 (.bool false) (jF ((i0 : Int) = -1) (c0)) <| nT <| cF <| wp_skip <| au_then <| wp_seq <| sR <| rV 1 ?_
  refine pH 15 (.int .i64 ((i0 + 1 : Nat) : Int)) (fun w => Eq.trans (b := .ok (.value (.int .i64 (IntKind.wrap .i64 ((i0 : Int) + 1)))) w) (by kernel_rfl) (by rw [wrap64 (by omega) (by omega)]; rfl)) ?_
  refine rV 1 <| nT <| wp_block ?_
  refine au_loop (fun r a w' => ∃ (v1 : NV) (j i : Nat) (A : List Sl) (Zq : Obj), a = (fm ([.slice (some ⟨q, 0, none⟩) S.length cap, .func (.func φ) #[] #[.pointer (some ⟨c, 0, none⟩)], undef, undef, .slice none 0 0, .int .i64 (i : Int), .int .i64 (j : Int), v1 7, .slice (some ⟨q, 0, none⟩) S.length cap, .func (.func φ) #[] #[.pointer (some ⟨c, 0, none⟩)], .int .i64 (i0 : Int), .int .i64 (i0 : Int), .bool false, undef, .int .i64 (i0 : Int), .int .i64 ((i0 + 1 : Nat) : Int)] ++ vr v1 16 20 ++ und 6)) ∧ Mem ⟨w, (⟨q, Z⟩ :: R).map Blk.g⟩ (⟨q, Zq⟩ :: R) w' ∧ (j = i0 + 1 + r) ∧ (j ≤ S.length) ∧ (A.length = S.length) ∧ (i < j) ∧ (A.take i = kp g S j) ∧ (∀ k, j ≤ k → A[k]? = S[k]?) ∧ (SB Zq (cap * 2) (vS A))) (S.length - (i0 + 1)) ⟨fun k_ => ([undef, undef, undef, undef, undef, undef, undef, undef, undef, undef, undef, undef, undef, undef, undef, undef, undef, undef, undef, undef, undef, undef, undef, undef, undef, undef, undef, undef, undef] : List Value).getD (k_ - 7) undef, i0 + 1, i0, S, Z, by kernel_rfl, by simpa only [List.append_assoc, List.cons_append, List.nil_append, List.append_nil] using M, rfl, by omega, rfl, by omega, kp_first hi0 hg0 hgs, fun _ _ => rfl, hZ⟩ ?_ ?_
  ·intro r a u0 hj hI
   obtain ⟨v1, j, i, A, Zq, rfl, M, hj0, hjn, hAl, hij, hk, hd, hZq⟩ := hI
   refine wp_seq <| sR <| rV 3 <| ZT 19 ((j : Int) < ((S.length : Nat) : Int)) <| nT <| cT <| wp_skip <| au_then <| wp_seq <| wp_block <| sR <| rV 2 <| pH 24 (.pointer (some ⟨q, (0 + j * 2), none⟩)) (run_ixK 100 113 2 Tryz.underlying100 inz113 _ _ rfl (some ⟨q, 0, none⟩) q 0 S.length cap (by kernel_rfl) rfl .i64 j (by kernel_rfl) (by omega)) ?_
   refine pl_loadO M (want_no rfl) (some 25) rfl 113 _ rfl q (0 + j * 2) (by kernel_rfl) 2 (ls [.int .u32 ((sI S j : Nat) : Int), .pointer (some ⟨(sJ S j), 0, none⟩)]) (fun w M k hk => ?_) _ Tryz.underlying113 rfl inz113 ?_
   ·match k, hk with
    | 0, _ => exact (cellS hZq (M.get 0 rfl) (by omega) (hd j (Nat.le_refl j))).1
    | 1, _ => exact (cellS hZq (M.get 0 rfl) (by omega) (hd j (Nat.le_refl j))).2
   refine pN M 7 (.cells (av 2 (ls [.int .u32 0, .pointer none])) 113) fun g1 u2 M => ?_
   replace M := M.front
   replace M : Mem ⟨w, (⟨q, Z⟩ :: R).map Blk.g⟩ (⟨g1, .cells (av 2 (ls [.int .u32 0, .pointer none])) 113⟩ :: ⟨q, Zq⟩ :: R) u2 := M
   refine pl_put M (want_no rfl) rfl 113 _ _ rfl 0 g1 0 (by kernel_rfl) 2 113 (ls [.int .u32 0, .pointer none]) rfl 2 (ls [.int .u32 ((sI S j : Nat) : Int), .pointer (some ⟨(sJ S j), 0, none⟩)]) (ls [.int .u32 ((sI S j : Nat) : Int), .pointer (some ⟨(sJ S j), 0, none⟩)]) (by kernel_rfl) inz113 (by decide) (one_ls _ rfl) (fun j hj => by rw [if_pos (by omega), Nat.sub_zero]) fun u3 M => ?_
   replace M : Mem ⟨w, (⟨q, Z⟩ :: R).map Blk.g⟩ (⟨g1, .cells (av 2 (ls [.int .u32 ((sI S j : Nat) : Int), .pointer (some ⟨(sJ S j), 0, none⟩)])) 113⟩ :: ⟨q, Zq⟩ :: R) u3 := M
   refine nT <| sR <| rV 1 <| pA M 27 0 2 (ls [.int .u32 ((sI S j : Nat) : Int), .pointer (some ⟨(sJ S j), 0, none⟩)]) ?_
   rcases Bool.eq_false_or_eq_true (g j) with c1 | c1
   ·refine pl_call M (want_no rfl) (some 28) rfl φ (#[.agg (av 2 (ls [.int .u32 ((sI S j : Nat) : Int), .pointer (some ⟨(sJ S j), 0, none⟩)])), .pointer (some ⟨c, 0, none⟩)]) (.bool true) (fun w => Eq.trans (b := (callFunc φ #[.agg (av 2 (ls [.int .u32 ((sI S j : Nat) : Int), .pointer (some ⟨(sJ S j), 0, none⟩)])), .pointer (some ⟨c, 0, none⟩)]).run Tryz.prog w) (by kernel_rfl) (hE _ w)) (fun w M => call_val (hF j (by omega) w M.laid (M.thereM (pre := [⟨g1, .cells (av 2 (ls [.int .u32 ((sI S j : Nat) : Int), .pointer (some ⟨(sJ S j), 0, none⟩)])) 113⟩, ⟨q, Zq⟩]) (T := R) (suf := []) (by simp only [List.append_assoc, List.cons_append, List.nil_append, List.append_nil]))) (by rw [c1])) fun u4 M => rV 1 <| nT <| cF <| wp_skip <| au_block <| au_then <| rg_lit <| rV 1 ?_
    refine pH 21 (.int .i64 ((j + 1 : Nat) : Int)) (fun w => Eq.trans (b := .ok (.value (.int .i64 (IntKind.wrap .i64 ((j : Int) + 1)))) w) (by kernel_rfl) (by rw [wrap64 (by omega) (by omega)]; rfl)) ?_
    refine rV 1 <| nT ?_
    exact ⟨fun k_ => ([.pointer (some ⟨g1, 0, none⟩), undef, undef, undef, undef, undef, undef, undef, undef, .int .i64 (j : Int), .slice (some ⟨q, 0, none⟩) S.length cap, .int .i64 ((S.length : Nat) : Int), .bool true, .int .i64 (j : Int), .int .i64 ((j + 1 : Nat) : Int), .slice (some ⟨q, 0, none⟩) S.length cap, .int .i64 (j : Int), .pointer (some ⟨q, (0 + j * 2), none⟩), .agg (av 2 (ls [.int .u32 ((sI S j : Nat) : Int), .pointer (some ⟨(sJ S j), 0, none⟩)])), .func (.func φ) #[] #[.pointer (some ⟨c, 0, none⟩)], .agg (av 2 (ls [.int .u32 ((sI S j : Nat) : Int), .pointer (some ⟨(sJ S j), 0, none⟩)])), .bool true, .bool false, v1 30, v1 31, v1 32, v1 33, v1 34, v1 35] : List Value).getD (k_ - 7) undef, j + 1, i, A, Zq, by kernel_rfl, (M.drop (.cons _ (.cons_cons _ (List.Sublist.refl _)))), by omega, by omega, hAl, by omega, by rw [kp_yes c1]; exact hk, fun k h => hd k (by omega), hZq⟩
   ·refine pl_call M (want_no rfl) (some 28) rfl φ (#[.agg (av 2 (ls [.int .u32 ((sI S j : Nat) : Int), .pointer (some ⟨(sJ S j), 0, none⟩)])), .pointer (some ⟨c, 0, none⟩)]) (.bool false) (fun w => Eq.trans (b := (callFunc φ #[.agg (av 2 (ls [.int .u32 ((sI S j : Nat) : Int), .pointer (some ⟨(sJ S j), 0, none⟩)])), .pointer (some ⟨c, 0, none⟩)]).run Tryz.prog w) (by kernel_rfl) (hE _ w)) (fun w M => call_val (hF j (by omega) w M.laid (M.thereM (pre := [⟨g1, .cells (av 2 (ls [.int .u32 ((sI S j : Nat) : Int), .pointer (some ⟨(sJ S j), 0, none⟩)])) 113⟩, ⟨q, Zq⟩]) (T := R) (suf := []) (by simp only [List.append_assoc, List.cons_append, List.nil_append, List.append_nil]))) (by rw [c1])) fun u4 M => rV 1 <| nT <| cT <| sR <| rV 2 <| pA M 32 0 2 (ls [.int .u32 ((sI S j : Nat) : Int), .pointer (some ⟨(sJ S j), 0, none⟩)]) <| pH 33 (.pointer (some ⟨q, (0 + i * 2), none⟩)) (run_ixK 100 113 2 Tryz.underlying100 inz113 _ _ rfl (some ⟨q, 0, none⟩) q 0 S.length cap (by kernel_rfl) rfl .i64 i (by kernel_rfl) (by omega)) <| pl_putSV M (want_no rfl) rfl 113 _ _ rfl 1 q (0 + i * 2) (by kernel_rfl) Zq (cap * 2) (vS A) rfl hZq 2 (ls [.int .u32 ((sI S j : Nat) : Int), .pointer (some ⟨(sJ S j), 0, none⟩)]) (by kernel_rfl) inz113 (by rw [vS_len]; omega) (one_ls _ rfl) ?_
    intro Zq2 u5 hZ2 M
    replace M : Mem ⟨w, (⟨q, Z⟩ :: R).map Blk.g⟩ (⟨g1, .cells (av 2 (ls [.int .u32 ((sI S j : Nat) : Int), .pointer (some ⟨(sJ S j), 0, none⟩)])) 113⟩ :: ⟨q, Zq2⟩ :: R) u5 := M
    have hZ3 : SB Zq2 (cap * 2) (vS (A.set i ⟨sI S j, sJ S j⟩)) := by rw [← vS_set _ _ (by omega)]; exact hZ2
    refine nT <| rg_lit <| rV 1 ?_
    refine pH 35 (.int .i64 ((i + 1 : Nat) : Int)) (fun w => Eq.trans (b := .ok (.value (.int .i64 (IntKind.wrap .i64 ((i : Int) + 1)))) w) (by kernel_rfl) (by rw [wrap64 (by omega) (by omega)]; rfl)) ?_
    refine rV 1 <| pl_nil <| au_block <| au_then <| rg_lit <| rV 1 ?_
    refine pH 21 (.int .i64 ((j + 1 : Nat) : Int)) (fun w => Eq.trans (b := .ok (.value (.int .i64 (IntKind.wrap .i64 ((j : Int) + 1)))) w) (by kernel_rfl) (by rw [wrap64 (by omega) (by omega)]; rfl)) ?_
    refine rV 1 <| nT ?_
    exact ⟨fun k_ => ([.pointer (some ⟨g1, 0, none⟩), undef, undef, undef, undef, undef, undef, undef, undef, .int .i64 (j : Int), .slice (some ⟨q, 0, none⟩) S.length cap, .int .i64 ((S.length : Nat) : Int), .bool true, .int .i64 (j : Int), .int .i64 ((j + 1 : Nat) : Int), .slice (some ⟨q, 0, none⟩) S.length cap, .int .i64 (j : Int), .pointer (some ⟨q, (0 + j * 2), none⟩), .agg (av 2 (ls [.int .u32 ((sI S j : Nat) : Int), .pointer (some ⟨(sJ S j), 0, none⟩)])), .func (.func φ) #[] #[.pointer (some ⟨c, 0, none⟩)], .agg (av 2 (ls [.int .u32 ((sI S j : Nat) : Int), .pointer (some ⟨(sJ S j), 0, none⟩)])), .bool false, .bool true, .slice (some ⟨q, 0, none⟩) S.length cap, .int .i64 (i : Int), .agg (av 2 (ls [.int .u32 ((sI S j : Nat) : Int), .pointer (some ⟨(sJ S j), 0, none⟩)])), .pointer (some ⟨q, (0 + i * 2), none⟩), .int .i64 (i : Int), .int .i64 ((i + 1 : Nat) : Int)] : List Value).getD (k_ - 7) undef, j + 1, i + 1, A.set i ⟨sI S j, sJ S j⟩, Zq2, by kernel_rfl, (M.drop (.cons _ (.cons_cons _ (List.Sublist.refl _)))), by omega, by omega, by rw [List.length_set]; exact hAl, by omega, by rw [kp_no c1, take_set (by omega), hk], fun k h => by rw [List.getElem?_set_ne (by omega)]; exact hd k (by omega), hZ3⟩
  ·intro a u0 hI
   obtain ⟨v1, j, i, A, Zq, rfl, M, hj0, hjn, hAl, hij, hk, hd, hZq⟩ := hI
   refine wp_seq <| sR <| rV 3 <| ZF 19 ((j : Int) < ((S.length : Nat) : Int)) <| nT <| cF <| wp_exit <| au_then_exit <| au_then_exit <| au_block_exit <| au_then <| sR <| rV 2 <| pH 38 (.slice (some ⟨q, i * 2, none⟩) (S.length - i) (cap - i)) (run_slLo 100 113 2 Tryz.underlying100 inz113 _ _ rfl q S.length cap (by kernel_rfl) .i64 i (by kernel_rfl) (by omega) (by omega)) <| pl_clearS M (want_no rfl) rfl 0 q Zq (cap * 2) 2 (vS A) rfl hZq 100 113 0 (.agg #[.int .u32 0, .pointer none]) Tryz.underlying100 (fun _ => by kernel_rfl) (by kernel_rfl) (by kernel_rfl) (i * 2) (S.length - i) (cap - i) (by omega) (by rw [vS_len]; omega) (by omega) (fun _ => by kernel_rfl) ?_
   intro Zq3 u2 hZ4 M
   replace M : Mem ⟨w, (⟨q, Z⟩ :: R).map Blk.g⟩ (⟨q, Zq3⟩ :: R) u2 := M
   refine nT <| sR <| rV 2 <| pH 41 (.slice (some ⟨q, 0, none⟩) i cap) (run_slHi 100 113 2 Tryz.underlying100 inz113 _ _ rfl q S.length cap (by kernel_rfl) .i64 i (by kernel_rfl) (by omega) (by omega)) <| rV 1 <| nT <| wp_ret ?_
   have hjS : j = S.length := by omega
   subst hjS
   have hl : (kp g S S.length).length = i := by rw [← hk, List.length_take]; omega
   exact bodyPost_ret (v := .slice (some ⟨q, 0, none⟩) i cap) (results_tmp1 Tryz.results76 _ _ _ (by kernel_rfl)) (by kernel_rfl) ⟨(_, [⟨q, Zq3⟩]), rfl, ⟨vS_len _, .inr ⟨q, cap, Zq3, by rw [hl], by omega, by rw [← hk, vS_take]; exact hZ4, rfl⟩⟩, M.okT0⟩
open Go.RowKit
theorem upd_self {α : Type} (f : Nat → α) (k : Nat) (v : α) : upd f k v k = v := if_pos rfl
theorem upd_other {α : Type} (f : Nat → α) {k i : Nat} (v : α) (h : ¬ i = k) : upd f k v i = f i := if_neg h
structure Row (I : Nat → List Blk → Prop) (N : Nat) (B : List Blk) : Prop where
 out : ∃ As : List (List Blk), B = As.flatten ∧ As.length = N ∧ ∀ k A, As[k]? = some A → I k A
theorem row_nil (I : Nat → List Blk → Prop) : Row I 0 [] := ⟨[], rfl, rfl, fun k A h => by cases h⟩
theorem row_at {I : Nat → List Blk → Prop} {N : Nat} {B : List Blk} (h : Row I N B) {k : Nat} (hk : k < N) : ∃ pre A suf, B = pre ++ (A ++ suf) ∧ I k A ∧ ∀ (J : Nat → List Blk → Prop) (A' : List Blk), (∀ i A, ¬ i = k → I i A → J i A) → J k A' → Row J N (pre ++ (A' ++ suf)) := by
 obtain ⟨As, rfl, rfl, hI⟩ := h.out
 have e := List.getElem?_eq_getElem hk
 have hs : ∀ A' : List Blk, (As.set k A').flatten = (As.take k).flatten ++ (A' ++ (As.drop (k + 1)).flatten) := fun A' => by
  rw [List.set_eq_take_append_cons_drop, if_pos hk, List.flatten_append, List.flatten_cons]
 refine ⟨(As.take k).flatten, As[k], (As.drop (k + 1)).flatten, ?_, hI k _ e, fun J A' h1 h2 => ⟨As.set k A', (hs A').symm, List.length_set, fun i A hA => ?_⟩⟩
 ·rw [← hs, List.set_getElem_self]
 ·by_cases c : i = k
  ·subst c
   rw [List.getElem?_set_self hk] at hA
   rw [← Option.some.inj hA]
   exact h2
  ·rw [List.getElem?_set_ne (fun h => c h.symm)] at hA
   exact h1 i A c (hI i A hA)
theorem row_new {I J : Nat → List Blk → Prop} {N : Nat} {B T : List Blk} (h : Row I N B) (hj : ∀ i A, i < N → I i A → J i A) (hT : J N T) : Row J (N + 1) (B ++ T) := by
 obtain ⟨As, rfl, rfl, hI⟩ := h.out
 refine ⟨As ++ [T], by simp, by simp, fun k A hA => ?_⟩
 by_cases c : k < As.length
 ·rw [List.getElem?_append_left c] at hA
  exact hj k A c (hI k A hA)
 ·have hk := (List.getElem?_eq_some_iff.1 hA).1
  simp at hk
  have e : k = As.length := by omega
  subst e
  rw [List.getElem?_append_right (Nat.le_refl _), Nat.sub_self] at hA
  rw [← Option.some.inj hA]
  exact hT
theorem There.mid {w : World} {pre T suf : List Blk} (h : There w (pre ++ (T ++ suf))) : There w T := h.sub ((List.sublist_append_left T suf).trans (List.sublist_append_right pre _))
theorem OkT.mid {w w' : World} {pre T T' suf : List Blk} (hL : Laid w) (hT : There w (pre ++ (T ++ suf))) (h : OkT w w' T T') : OkT w w' (pre ++ (T ++ suf)) (pre ++ (T' ++ suf)) := ((Mem.startT hL hT).mid rfl h).okT0
theorem row_call {P : Program} {f : FuncId} {args : Array Value} {v : Value} {I J : Nat → List Blk → Prop} {N : Nat} {B : List Blk} (h : Row I N B) {k : Nat} (hk : k < N) {w : World} (hL : Laid w) (hT : There w B) (hj : ∀ i A, ¬ i = k → I i A → J i A) (hc : ∀ A, I k A → There w A → Calls P f args w fun r w' => ∃ A', r = .returned v ∧ J k A' ∧ OkT w w' A A') : Calls P f args w fun r w' => ∃ B', r = .returned v ∧ Row J N B' ∧ OkT w w' B B' := by
 obtain ⟨pre, A, suf, rfl, hA, hs⟩ := row_at h hk
 exact (hc A hA hT.mid).mono fun _ w' ⟨A', he, hJ, ho⟩ => ⟨_, he, hs J A' hj hJ, ho.mid hL hT⟩
theorem row_look {I : Nat → List Blk → Prop} {N : Nat} {B : List Blk} (h : Row I N B) {k : Nat} (hk : k < N) {w : World} (hT : There w B) {C : Prop} (hc : ∀ A, I k A → There w A → C) : C := by
 obtain ⟨pre, A, suf, rfl, hA, hs⟩ := row_at h hk
 exact hc A hA hT.mid
def rT (tp : Nat → Nat) (X : Nat → TS) : Nat → List Blk → Prop := fun k A => IsT (tp k) (X k) A
def rD (dp : Nat → Nat) (Y : Nat → TS) (gn : Nat → Bool) : Nat → List Blk → Prop := fun k A => IsD (dp k) (Y k) (gn k) A
section
variable {N k n : Nat} {tp dp : Nat → Nat} {X Y : Nat → TS} {gn : Nat → Bool} {B : List Blk}
theorem rT_other {i : Nat} {x : TS} {A : List Blk} (h : ¬ i = k) (hA : rT tp X i A) : rT tp (upd X k x) i A := by
 unfold rT
 rw [upd_other X x h]
 exact hA
theorem rT_self {x : TS} {A : List Blk} (hA : IsT (tp k) x A) : rT tp (upd X k x) k A := by
 unfold rT
 rw [upd_self]
 exact hA
theorem rD_other {i : Nat} {y : TS} {b : Bool} {A : List Blk} (h : ¬ i = k) (hA : rD dp Y gn i A) : rD dp (upd Y k y) (upd gn k b) i A := by
 unfold rD
 rw [upd_other Y y h, upd_other gn b h]
 exact hA
theorem rD_self {y : TS} {b : Bool} {A : List Blk} (hA : IsD (dp k) y b A) : rD dp (upd Y k y) (upd gn k b) k A := by
 unfold rD
 rw [upd_self, upd_self]
 exact hA
theorem r_Over (hB : Row (rT tp X) N B) (hk : k < N) (hn : n < 18446744073709551616) (w : World) (hL : Laid w) (hT : There w B) : Cs 10 #[.pointer (some ⟨tp k, 0, none⟩), .int .u64 (n : Int)] w (.bool ((X k).ov n)) :=
 row_look hB hk hT fun _ hA hT => a_Over hA hn w hL hT
theorem r_Wipe (hB : Row (rT tp X) N B) (hk : k < N) (w : World) (hL : Laid w) (hT : There w B) : Calls Tryz.prog 28 #[.pointer (some ⟨tp k, 0, none⟩)] w fun r w' => ∃ B', r = .returned (.tuple #[]) ∧ Row (rT tp (upd X k (X k).wX)) N B' ∧ OkT w w' B B' :=
 row_call hB hk hL hT (fun _ _ h hA => rT_other h hA) fun _ hA hT => (a_Wipe hA w hL hT).mono fun _ _ ⟨T', he, h1, h2⟩ => ⟨T', he, rT_self h1, h2⟩
theorem r_Seal {s : Yb} (hB : Row (rT tp X) N B) (hk : k < N) (ok : (X k).Ok) (hn : n < 18446744073709551616) (w : World) (hL : Laid w) (hT : There w B) : Calls Tryz.prog 21 #[.pointer (some ⟨tp k, 0, none⟩), .int .u64 (n : Int), .string s] w fun r w' => ∃ B', r = .returned (.tuple #[.int .u64 (((X k).sN n s : Nat) : Int), .string ((X k).sC n s), .int .i64 ((X k).sE n s)]) ∧ Row (rT tp (upd X k ((X k).sX n s))) N B' ∧ OkT w w' B B' :=
 row_call hB hk hL hT (fun _ _ h hA => rT_other h hA) fun _ hA hT => (a_Seal hA ok hn w hL hT).mono fun _ _ ⟨T', he, h1, h2⟩ => ⟨T', he, rT_self h1, h2⟩
theorem r_Open {i : Nat} {c : Yb} (hB : Row (rT tp X) N B) (hk : k < N) (ok : (X k).Ok) (hn : n < 18446744073709551616) (hi : i < 18446744073709551616) (w : World) (hL : Laid w) (hT : There w B) : Calls Tryz.prog 22 #[.pointer (some ⟨tp k, 0, none⟩), .int .u64 (n : Int), .int .u64 (i : Int), .string c] w fun r w' => ∃ B', r = .returned (.tuple #[.string ((X k).oC n i c), .int .i64 ((X k).oE n i c)]) ∧ Row (rT tp (upd X k ((X k).oX n i c))) N B' ∧ OkT w w' B B' :=
 row_call hB hk hL hT (fun _ _ h hA => rT_other h hA) fun _ hA hT => (a_Open hA ok hn hi w hL hT).mono fun _ _ ⟨T', he, h1, h2⟩ => ⟨T', he, rT_self h1, h2⟩
theorem r_there (hB : Row (rT tp X) N B) (hk : k < N) (w : World) (hL : Laid w) (hT : There w B) : Cs 30 #[.pointer (some ⟨tp k, 0, none⟩)] w (.bool true) :=
 row_look hB hk hT fun A hA hT => by
  obtain ⟨e, wd, k, md, h, m, rfl, I, hh⟩ := IsT.out hA
  exact c_there w hL (hT.sub (.cons_cons _ (List.nil_sublist _)))
theorem r_fault (hB : Row (rT tp X) N B) (hk : k < N) (hn : n < 18446744073709551616) (w : World) (hT : There w B) : ∃ e, w.cell? ⟨tp k, 0, none⟩ = some (.pointer (some ⟨e, 0, none⟩)) ∧ ∀ w', Below w.heap.size w w' → Laid w' → Calls Tryz.prog 44 #[.pointer (some ⟨e, 0, none⟩), .int .u64 (n : Int)] w' fun r w'' => r = .returned (.int .i64 ((X k).sF n)) ∧ Below w'.heap.size w' w'' :=
 row_look hB hk hT fun A hA hT => by
  obtain ⟨e, wd, kk, md, h, m, rfl, I, hh⟩ := IsT.out hA
  refine ⟨e, cell_av (hT.at_ _ List.mem_cons_self) (by decide), fun w' hb hL' => c_sealFault hn w' hL' ((hT.up hb).sub (.cons _ (.cons_cons _ (.cons _ (.cons _ (.cons_cons _ (List.nil_sublist _)))))))⟩
theorem q_Over (hB : Row (rD dp Y gn) N B) (hk : k < N) (hy : (Y k).sd.size = 32) (hn : n < 18446744073709551616) (w : World) (hL : Laid w) (hT : There w B) : Cs 11 #[.pointer (some ⟨dp k, 0, none⟩), .int .u64 (n : Int)] w (.bool ((pX (Y k) (gn k)).ov n)) :=
 row_look hB hk hT fun _ hA hT => e_Over hA hy hn w hL hT
theorem q_Seal {s : Yb} (hB : Row (rD dp Y gn) N B) (hk : k < N) (ok : (Y k).Dk) (hn : n < 18446744073709551616) (hs : s.size ≤ 5000) (w : World) (hL : Laid w) (hT : There w B) : Calls Tryz.prog 27 #[.pointer (some ⟨dp k, 0, none⟩), .int .u64 (n : Int), .string s] w fun r w' => ∃ B', r = .returned (.tuple #[.int .u64 (((pX (Y k) (gn k)).sN n s : Nat) : Int), .string ((pX (Y k) (gn k)).sC n s), .int .i64 ((pX (Y k) (gn k)).sE n s)]) ∧ Row (rD dp (upd Y k (jS (Y k) (gn k) n s)) (upd gn k (gn k))) N B' ∧ OkT w w' B B' :=
 row_call hB hk hL hT (fun _ _ h hA => rD_other h hA) fun _ hA hT => (e_Seal hA ok hn hs w hL hT).mono fun _ _ ⟨T', he, h1, h2⟩ => ⟨T', he, rD_self h1, h2⟩
theorem q_Open {i : Nat} {c : Yb} (hB : Row (rD dp Y gn) N B) (hk : k < N) (ok : (Y k).Dk) (hn : n < 18446744073709551616) (hc : c.size ≤ 5000) (w : World) (hL : Laid w) (hT : There w B) : Calls Tryz.prog 29 #[.pointer (some ⟨dp k, 0, none⟩), .int .u64 (n : Int), .int .u64 (i : Int), .string c] w fun r w' => ∃ B', r = .returned (.tuple #[.string ((pX (Y k) (gn k)).oC n i c), .int .i64 ((pX (Y k) (gn k)).oE n i c)]) ∧ Row (rD dp (upd Y k (jO (Y k) (gn k) n i c)) (upd gn k (gn k))) N B' ∧ OkT w w' B B' :=
 row_call hB hk hL hT (fun _ _ h hA => rD_other h hA) fun _ hA hT => (e_Open hA ok hn hc w hL hT).mono fun _ _ ⟨T', he, h1, h2⟩ => ⟨T', he, rD_self h1, h2⟩
theorem q_cells (hB : Row (rD dp Y gn) N B) (hk : k < N) {w : World} (hT : There w B) : w.cell? ⟨dp k, 12, none⟩ = some (.bool (Y k).su) ∧ w.cell? ⟨dp k, 9, none⟩ = some (.int .u64 (((Y k).nx : Nat) : Int)) ∧ w.cell? ⟨dp k, 5, none⟩ = some (.int .u64 (((Y k).ct : Nat) : Int)) ∧ w.cell? ⟨dp k, 2, none⟩ = some (.bool (Y k).fi) ∧ ∃ cs T, w.heap[dp k]? = some (.cells cs T (0, 0)) :=
 row_look hB hk hT fun A hA hT => by
  obtain ⟨sv, Ts, rfl, hS⟩ := IsD.out hA
  have h := hT.at_ _ List.mem_cons_self
  exact ⟨cell_av h (by decide), cell_av h (by decide), cell_av h (by decide), cell_av h (by decide), _, _, h⟩
theorem q_apart (hB : Row (rD dp Y gn) N B) {w : World} (hT : There w B) {i j : Nat} (hi : i < N) (hj : j < N) (h : ¬ i = j) : ¬ dp i = dp j := by
 obtain ⟨As, rfl, rfl, hI⟩ := hB.out
 have hd := hT.nodup
 rw [List.map_flatten] at hd
 have hp := (List.pairwise_flatten.1 hd).2
 rw [List.pairwise_iff_getElem] at hp
 have hm : ∀ k (hk : k < As.length), dp k ∈ As[k].map Blk.g := fun k hk => by
  obtain ⟨sv, Ts, e, hS⟩ := IsD.out (hI k _ (List.getElem?_eq_getElem hk))
  rw [e]
  simp
 intro e
 rcases Nat.lt_or_ge i j with c | c
 ·have := hp i j (by simpa using hi) (by simpa using hj) c
  rw [List.getElem_map, List.getElem_map] at this
  exact this _ (hm i hi) _ (hm j hj) e
 ·have := hp j i (by simpa using hj) (by simpa using hi) (by omega)
  rw [List.getElem_map, List.getElem_map] at this
  exact this _ (hm j hj) _ (hm i hi) e.symm
end
open Go.RowKit
theorem slw_at {S : List Sl} {v : Value} {T : List Blk} (h : SlW 2 (vS S) S.length v T) : ∃ l b k, v = .slice l S.length k ∧ (0 < S.length → l = some ⟨b, 0, none⟩) ∧ ∀ w, There w T → ∀ j, j < S.length → w.cell? ⟨b, 0 + j * 2 + 0, none⟩ = some (.int .u32 ((sI S j : Nat) : Int)) ∧ w.cell? ⟨b, 0 + j * 2 + 1, none⟩ = some (.pointer (some ⟨sJ S j, 0, none⟩)) := by
 rcases h.ex with ⟨h0, rfl, rfl⟩ | ⟨g, cap, Z, rfl, hc, hs, rfl⟩
 ·exact ⟨none, 0, 0, by rw [h0], fun h => absurd h (by omega), fun w _ j hj => absurd hj (by omega)⟩
 ·exact ⟨_, g, cap, rfl, fun _ => rfl, fun w hT j hj => cellS hs (hT.at_ ⟨g, Z⟩ List.mem_cons_self) hj rfl⟩
theorem a_delete {φ : FuncId} {c : Nat} {g : Nat → Bool} (hE : ∀ args w, (callFunc φ args).run Tryz.prog w = .ok (.enter φ args) w) {S : List Sl} {sv : Value} {T R : List Blk} (hS : SlW 2 (vS S) S.length sv T) (hn : S.length < 1000) (hF : ∀ j, j < S.length → ∀ w', Laid w' → There w' R → Calls Tryz.prog φ #[.agg (av 2 (ls [.int .u32 ((sI S j : Nat) : Int), .pointer (some ⟨(sJ S j), 0, none⟩)])), .pointer (some ⟨c, 0, none⟩)] w' fun r w'' => r = .returned (.bool (g j)) ∧ Below w'.heap.size w' w'') (w : World) (hL : Laid w) (hT : There w (T ++ R)) : Calls Tryz.prog 76 #[sv, .func (.func φ) #[] #[.pointer (some ⟨c, 0, none⟩)]] w fun r w' => ∃ x : Value × List Blk, r = .returned x.1 ∧ SlW 2 (vS (kp g S S.length)) (kp g S S.length).length x.1 x.2 ∧ OkT w w' (T ++ R) (x.2 ++ R) := by
 rcases first_of g S.length with h | ⟨i0, h1, h2, h3⟩
 ·obtain ⟨l, b, k, rfl, hl, hc⟩ := slw_at hS
  have hT1 := hT.sub (List.sublist_append_left T R)
  exact (c_del0 hE hl (by omega) h w hL (fun j hj => (hc w hT1 j hj).1) (fun j hj => (hc w hT1 j hj).2) fun j hj w' hb hL' => hF j hj w' hL' ((hT.sub (List.sublist_append_right T R)).up hb)).mono fun _ w' ⟨he, hb⟩ => ⟨(_, T), he, by rw [kp_full h]; exact hS, okT_below hT hb⟩
 ·rcases hS.ex with ⟨h0, rfl, rfl⟩ | ⟨q, cap, Z, rfl, hcap, hs, rfl⟩
  ·exact absurd h1 (by omega)
  ·exact c_del1 hE hs hcap hn h1 h2 h3 hF w hL hT
def xw (g : Nat → Bool) (K : Nat → Nat) (X : Nat → TS) : Nat → Nat → TS
 | 0 => X
 | j + 1 => if g j = true then upd (xw g K X j) (K j) (xw g K X j (K j)).wX else xw g K X j
theorem xw_yes {g : Nat → Bool} {K : Nat → Nat} {X : Nat → TS} {j : Nat} (h : g j = true) : xw g K X (j + 1) = upd (xw g K X j) (K j) (xw g K X j (K j)).wX := if_pos h
theorem xw_no {g : Nat → Bool} {K : Nat → Nat} {X : Nat → TS} {j : Nat} (h : g j = false) : xw g K X (j + 1) = xw g K X j := if_neg (by rw [h]; decide)
def gL (g : Nat → Bool) (I : Nat → Nat) : Nat → List Value
 | 0 => []
 | j + 1 => if g j = true then gL g I j ++ [.int .u32 ((I j : Nat) : Int)] else gL g I j
theorem gL_yes {g : Nat → Bool} {I : Nat → Nat} {j : Nat} (h : g j = true) : gL g I (j + 1) = gL g I j ++ [.int .u32 ((I j : Nat) : Int)] := if_pos h
theorem gL_no {g : Nat → Bool} {I : Nat → Nat} {j : Nat} (h : g j = false) : gL g I (j + 1) = gL g I j := if_neg (by rw [h]; decide)
theorem gL_len (g : Nat → Bool) (I : Nat → Nat) : ∀ j, (gL g I j).length ≤ j
 | 0 => Nat.le_refl _
 | j + 1 => by
  have := gL_len g I j
  unfold gL
  split
  ·rw [List.length_append]
   simp
   omega
  ·omega
theorem gL_step {g : Nat → Bool} {I : Nat → Nat} {j : Nat} (h : g j = true) {sv : Value} {T : List Blk} (hS : SlW 1 (gL g I j ++ [.int .u32 ((I j : Nat) : Int)]) ((gL g I j).length + 1) sv T) : SlW 1 (gL g I (j + 1)) (gL g I (j + 1)).length sv T := by
 rw [gL_yes h, List.length_append]
 exact hS
theorem c_drop {φ : FuncId} {c : Nat} {g : Nat → Bool} (hE : ∀ args w, (callFunc φ args).run Tryz.prog w = .ok (.enter φ args) w) {S : List Sl} {l : Option Addr} {p b k N : Nat} {K tp : Nat → Nat} {X : Nat → TS} {Ts Rf Bo : List Blk} (hS : SlW 2 (vS S) S.length (.slice l S.length k) Ts) (hl : 0 < S.length → l = some ⟨b, 0, none⟩) (hc : ∀ w, There w Ts → ∀ j, j < S.length → w.cell? ⟨b, 0 + j * 2 + 0, none⟩ = some (.int .u32 ((sI S j : Nat) : Int)) ∧ w.cell? ⟨b, 0 + j * 2 + 1, none⟩ = some (.pointer (some ⟨sJ S j, 0, none⟩))) (hn : S.length < 1000) (hK : ∀ j, j < S.length → K j < N ∧ sJ S j = tp (K j)) (hBo : Row (rT tp X) N Bo) (hF : ∀ i, i ≤ S.length → ∀ j, j < S.length → ∀ B' w', Row (rT tp (xw g K X i)) N B' → Laid w' → There w' (Rf ++ B') → Calls Tryz.prog φ #[.agg (av 2 (ls [.int .u32 ((sI S j : Nat) : Int), .pointer (some ⟨(sJ S j), 0, none⟩)])), .pointer (some ⟨c, 0, none⟩)] w' fun r w'' => r = .returned (.bool (g j)) ∧ Below w'.heap.size w' w'') (w : World) (hL : Laid w)  (hT : There w (⟨p, .cells (av 2 (ls [.bool true, .slice l S.length k])) 102⟩ :: (Ts ++ (Rf ++ Bo)))) : Calls Tryz.prog 60 #[.pointer (some ⟨p, 0, none⟩), .func (.func φ) #[] #[.pointer (some ⟨c, 0, none⟩)]] w fun r w' => ∃ x : Value × List Blk × Value × List Blk × List Blk, r = .returned x.1 ∧ SlW 1 (gL g (sI S) S.length) (gL g (sI S) S.length).length x.1 x.2.1 ∧ SlW 2 (vS (kp g S S.length)) (kp g S S.length).length x.2.2.1 x.2.2.2.1 ∧ Row (rT tp (xw g K X S.length)) N x.2.2.2.2 ∧ OkT w w' (⟨p, .cells (av 2 (ls [.bool true, .slice l S.length k])) 102⟩ :: (Ts ++ (Rf ++ Bo))) (⟨p, .cells (av 2 (ls [.bool true, x.2.2.1])) 102⟩ :: (x.2.2.2.1 ++ (Rf ++ (x.2.2.2.2 ++ x.2.1)))) := by
 go_enter Tryz.func60, Tryz.ntmps60
 have M : Mem ⟨w, (⟨p, .cells (av 2 (ls [.bool true, .slice l S.length k])) 102⟩ :: (Ts ++ (Rf ++ Bo))).map Blk.g⟩ (⟨p, .cells (av 2 (ls [.bool true, .slice l S.length k])) 102⟩ :: (Ts ++ (Rf ++ Bo))) w := Mem.startT hL hT
 refine sq <| sq <| wp_seq <| sR <| rV 3 <| ZE M 11 0 1 <| rV 2 <| nT <| wp_block ?_
 refine au_loop (fun j a w' => ∃ (v1 : NV) (so : Value) (To B : List Blk), a = (fm ([.pointer (some ⟨p, 0, none⟩), .func (.func φ) #[] #[.pointer (some ⟨c, 0, none⟩)], undef, undef, .slice none 0 0, so, undef, v1 7, .pointer (some ⟨p, 0, none⟩), .pointer (some ⟨p, 0, none⟩), .pointer (some ⟨p, 1, none⟩), .slice l S.length k, .int .i64 ((S.length : Nat) : Int), .int .i64 (j : Int)] ++ vr v1 14 15 ++ und 10)) ∧ Mem ⟨w, (⟨p, .cells (av 2 (ls [.bool true, .slice l S.length k])) 102⟩ :: (Ts ++ (Rf ++ Bo))).map Blk.g⟩ (⟨p, .cells (av 2 (ls [.bool true, .slice l S.length k])) 102⟩ :: (Ts ++ (Rf ++ (B ++ To)))) w' ∧ (SlW 1 (gL g (sI S) j) (gL g (sI S) j).length so To) ∧ (Row (rT tp (xw g K X j)) N B)) S.length ⟨fun k_ => ([undef, undef, undef, undef, undef, undef, undef, undef, undef, undef, undef, undef, undef, undef, undef, undef, undef, undef, undef, undef, undef, undef] : List Value).getD (k_ - 7) undef, .slice none 0 0, [], Bo, by kernel_rfl, by simpa only [List.append_assoc, List.cons_append, List.nil_append, List.append_nil] using M, slw_nil 1, hBo⟩ ?_ ?_
 ·intro j a u0 hj hI
  obtain ⟨v1, so, To, B, rfl, M, hO, hB⟩ := hI
  have hgl := gL_len g (sI S) j
  refine sR <| ZT 14 ((j : Int) < ((S.length : Nat) : Int)) <| nT <| wp_seq <| cT <| wp_skip <| au_then <| wp_seq <| wp_block <| sR <| pH 15 (.pointer (some ⟨b, (0 + j * 2), none⟩)) (run_ixK 100 113 2 Tryz.underlying100 inz113 _ _ rfl l b 0 S.length k (by kernel_rfl) (hl (by omega)) .i64 j (by kernel_rfl) (by omega)) ?_
  refine pl_loadO M (want_no rfl) (some 16) rfl 113 _ rfl b (0 + j * 2) (by kernel_rfl) 2 (ls [.int .u32 ((sI S j : Nat) : Int), .pointer (some ⟨(sJ S j), 0, none⟩)]) (fun w M k9 hk9 => ?_) _ Tryz.underlying113 rfl inz113 ?_
  ·match k9, hk9 with
   | 0, _ => exact (hc w (M.thereM (pre := [⟨p, .cells (av 2 (ls [.bool true, .slice l S.length k])) 102⟩]) (T := Ts) (suf := (Rf ++ (B ++ To))) (by simp only [List.append_assoc, List.cons_append, List.nil_append, List.append_nil])) j hj).1
   | 1, _ => exact (hc w (M.thereM (pre := [⟨p, .cells (av 2 (ls [.bool true, .slice l S.length k])) 102⟩]) (T := Ts) (suf := (Rf ++ (B ++ To))) (by simp only [List.append_assoc, List.cons_append, List.nil_append, List.append_nil])) j hj).2
  refine pN M 7 (.cells (av 2 (ls [.int .u32 0, .pointer none])) 113) fun g1 u1 M => ?_
  replace M := M.front
  replace M : Mem ⟨w, (⟨p, .cells (av 2 (ls [.bool true, .slice l S.length k])) 102⟩ :: (Ts ++ (Rf ++ Bo))).map Blk.g⟩ (⟨g1, .cells (av 2 (ls [.int .u32 0, .pointer none])) 113⟩ :: ⟨p, .cells (av 2 (ls [.bool true, .slice l S.length k])) 102⟩ :: (Ts ++ (Rf ++ (B ++ To)))) u1 := M
  refine pl_put M (want_no rfl) rfl 113 _ _ rfl 0 g1 0 (by kernel_rfl) 2 113 (ls [.int .u32 0, .pointer none]) rfl 2 (ls [.int .u32 ((sI S j : Nat) : Int), .pointer (some ⟨(sJ S j), 0, none⟩)]) (ls [.int .u32 ((sI S j : Nat) : Int), .pointer (some ⟨(sJ S j), 0, none⟩)]) (by kernel_rfl) inz113 (by decide) (one_ls _ rfl) (fun j hj => by rw [if_pos (by omega), Nat.sub_zero]) fun u2 M => ?_
  replace M : Mem ⟨w, (⟨p, .cells (av 2 (ls [.bool true, .slice l S.length k])) 102⟩ :: (Ts ++ (Rf ++ Bo))).map Blk.g⟩ (⟨g1, .cells (av 2 (ls [.int .u32 ((sI S j : Nat) : Int), .pointer (some ⟨(sJ S j), 0, none⟩)])) 113⟩ :: ⟨p, .cells (av 2 (ls [.bool true, .slice l S.length k])) 102⟩ :: (Ts ++ (Rf ++ (B ++ To)))) u2 := M
  refine nT <| sR <| rV 1 <| pA M 18 0 2 (ls [.int .u32 ((sI S j : Nat) : Int), .pointer (some ⟨(sJ S j), 0, none⟩)]) ?_
  rcases Bool.eq_false_or_eq_true (g j) with c0 | c0
  ·refine pl_call M (want_no rfl) (some 19) rfl φ (#[.agg (av 2 (ls [.int .u32 ((sI S j : Nat) : Int), .pointer (some ⟨(sJ S j), 0, none⟩)])), .pointer (some ⟨c, 0, none⟩)]) (.bool true) (fun w => Eq.trans (b := (callFunc φ #[.agg (av 2 (ls [.int .u32 ((sI S j : Nat) : Int), .pointer (some ⟨(sJ S j), 0, none⟩)])), .pointer (some ⟨c, 0, none⟩)]).run Tryz.prog w) (by kernel_rfl) (hE _ w)) (fun w M => call_val (hF j (by omega) j hj B w hB M.laid (M.thereM (pre := (⟨g1, .cells (av 2 (ls [.int .u32 ((sI S j : Nat) : Int), .pointer (some ⟨(sJ S j), 0, none⟩)])) 113⟩ :: ⟨p, .cells (av 2 (ls [.bool true, .slice l S.length k])) 102⟩ :: Ts)) (T := (Rf ++ B)) (suf := To) (by simp only [List.append_assoc, List.cons_append, List.nil_append, List.append_nil]))) (by rw [c0])) fun u3 M => nT <| cT <| sR <| rV 1 <| ZE M 21 0 1 ?_
   refine pl_callM M (want_no rfl) (some 22) rfl 28 #[.pointer (some ⟨(sJ S j), 0, none⟩)] (⟨g1, .cells (av 2 (ls [.int .u32 ((sI S j : Nat) : Int), .pointer (some ⟨(sJ S j), 0, none⟩)])) 113⟩ :: ⟨p, .cells (av 2 (ls [.bool true, .slice l S.length k])) 102⟩ :: (Ts ++ Rf)) (B) (To) (by simp only [List.append_assoc, List.cons_append, List.nil_append, List.append_nil]) (fun B0 => .tuple #[]) (fun B0 => B0) (fun B0 => Row (rT tp (upd (xw g K X j) (K j) (xw g K X j (K j)).wX)) N B0) (fun _ => by kernel_rfl) (fun w hL hT => by rw [(hK j hj).2]; exact r_Wipe hB (hK j hj).1 w hL hT) ?_
   rintro B2 u4 hB2 M
   replace M : Mem ⟨w, (⟨p, .cells (av 2 (ls [.bool true, .slice l S.length k])) 102⟩ :: (Ts ++ (Rf ++ Bo))).map Blk.g⟩ (⟨g1, .cells (av 2 (ls [.int .u32 ((sI S j : Nat) : Int), .pointer (some ⟨(sJ S j), 0, none⟩)])) 113⟩ :: ⟨p, .cells (av 2 (ls [.bool true, .slice l S.length k])) 102⟩ :: (Ts ++ (Rf ++ (B2 ++ To)))) u4 := by simpa only [List.append_assoc, List.cons_append, List.nil_append, List.append_nil] using M
   refine nT <| rg_lit <| rV 2 <| ZE M 25 0 0 <| ZM M 26 (fun g2 => .slice (some ⟨g2, 0, none⟩) 1 1) (.cells (av 1 (ls [.int .u32 ((sI S j : Nat) : Int)])) 67) fun g2 u5 M => ?_
   replace M := M.front
   replace M : Mem ⟨w, (⟨p, .cells (av 2 (ls [.bool true, .slice l S.length k])) 102⟩ :: (Ts ++ (Rf ++ Bo))).map Blk.g⟩ (⟨g2, .cells (av 1 (ls [.int .u32 ((sI S j : Nat) : Int)])) 67⟩ :: ⟨g1, .cells (av 2 (ls [.int .u32 ((sI S j : Nat) : Int), .pointer (some ⟨(sJ S j), 0, none⟩)])) 113⟩ :: ⟨p, .cells (av 2 (ls [.bool true, .slice l S.length k])) 102⟩ :: (Ts ++ (Rf ++ (B2 ++ To)))) u5 := M
   refine pl_appW M (want_no rfl) (some 27) rfl 70 70 67 1 (.int .u32 0) Tryz.underlying70 info32 rfl (⟨g2, .cells (av 1 (ls [.int .u32 ((sI S j : Nat) : Int)])) 67⟩ :: ⟨g1, .cells (av 2 (ls [.int .u32 ((sI S j : Nat) : Int), .pointer (some ⟨(sJ S j), 0, none⟩)])) 113⟩ :: ⟨p, .cells (av 2 (ls [.bool true, .slice l S.length k])) 102⟩ :: (Ts ++ (Rf ++ B2))) To [] (by simp only [List.append_assoc, List.cons_append, List.nil_append, List.append_nil]) so ((gL g (sI S) j).length) (gL g (sI S) j) hO (by omega) 0 g2 67 (ls [.int .u32 ((sI S j : Nat) : Int)]) rfl (one_ls _ rfl) (fun _ => by kernel_rfl) ?_
   intro so2 To2 u6 hO2 M
   replace M : Mem ⟨w, (⟨p, .cells (av 2 (ls [.bool true, .slice l S.length k])) 102⟩ :: (Ts ++ (Rf ++ Bo))).map Blk.g⟩ (⟨g2, .cells (av 1 (ls [.int .u32 ((sI S j : Nat) : Int)])) 67⟩ :: ⟨g1, .cells (av 2 (ls [.int .u32 ((sI S j : Nat) : Int), .pointer (some ⟨(sJ S j), 0, none⟩)])) 113⟩ :: ⟨p, .cells (av 2 (ls [.bool true, .slice l S.length k])) 102⟩ :: (Ts ++ (Rf ++ (B2 ++ To2)))) u6 := by simpa only [List.append_assoc, List.cons_append, List.nil_append, List.append_nil] using M
   refine rV 1 <| pl_nil <| au_block <| au_then <| rg_lit ?_
   refine pH 28 (.int .i64 ((j + 1 : Nat) : Int)) (fun w => Eq.trans (b := .ok (.value (.int .i64 (IntKind.wrap .i64 ((j : Int) + 1)))) w) (by kernel_rfl) (by rw [wrap64 (by omega) (by omega)]; rfl)) ?_
   refine rV 1 <| nT ?_
   exact ⟨fun k_ => ([.pointer (some ⟨g1, 0, none⟩), undef, undef, undef, undef, undef, undef, .bool true, .pointer (some ⟨b, (0 + j * 2), none⟩), .agg (av 2 (ls [.int .u32 ((sI S j : Nat) : Int), .pointer (some ⟨(sJ S j), 0, none⟩)])), .func (.func φ) #[] #[.pointer (some ⟨c, 0, none⟩)], .agg (av 2 (ls [.int .u32 ((sI S j : Nat) : Int), .pointer (some ⟨(sJ S j), 0, none⟩)])), .bool true, .pointer (some ⟨g1, 1, none⟩), .pointer (some ⟨(sJ S j), 0, none⟩), .tuple #[], so, .pointer (some ⟨g1, 0, none⟩), .int .u32 ((sI S j : Nat) : Int), .slice (some ⟨g2, 0, none⟩) 1 1, so2, .int .i64 ((j + 1 : Nat) : Int)] : List Value).getD (k_ - 7) undef, so2, To2, B2, by kernel_rfl, (M.drop (.cons _ (.cons _ (.cons_cons _ (List.Sublist.refl _))))), gL_step c0 hO2, by rw [xw_yes c0]; exact hB2⟩
  ·refine pl_call M (want_no rfl) (some 19) rfl φ (#[.agg (av 2 (ls [.int .u32 ((sI S j : Nat) : Int), .pointer (some ⟨(sJ S j), 0, none⟩)])), .pointer (some ⟨c, 0, none⟩)]) (.bool false) (fun w => Eq.trans (b := (callFunc φ #[.agg (av 2 (ls [.int .u32 ((sI S j : Nat) : Int), .pointer (some ⟨(sJ S j), 0, none⟩)])), .pointer (some ⟨c, 0, none⟩)]).run Tryz.prog w) (by kernel_rfl) (hE _ w)) (fun w M => call_val (hF j (by omega) j hj B w hB M.laid (M.thereM (pre := (⟨g1, .cells (av 2 (ls [.int .u32 ((sI S j : Nat) : Int), .pointer (some ⟨(sJ S j), 0, none⟩)])) 113⟩ :: ⟨p, .cells (av 2 (ls [.bool true, .slice l S.length k])) 102⟩ :: Ts)) (T := (Rf ++ B)) (suf := To) (by simp only [List.append_assoc, List.cons_append, List.nil_append, List.append_nil]))) (by rw [c0])) fun u3 M => nT <| cF <| wp_skip <| au_block <| au_then <| rg_lit ?_
   refine pH 28 (.int .i64 ((j + 1 : Nat) : Int)) (fun w => Eq.trans (b := .ok (.value (.int .i64 (IntKind.wrap .i64 ((j : Int) + 1)))) w) (by kernel_rfl) (by rw [wrap64 (by omega) (by omega)]; rfl)) ?_
   refine rV 1 <| nT ?_
   exact ⟨fun k_ => ([.pointer (some ⟨g1, 0, none⟩), undef, undef, undef, undef, undef, undef, .bool true, .pointer (some ⟨b, (0 + j * 2), none⟩), .agg (av 2 (ls [.int .u32 ((sI S j : Nat) : Int), .pointer (some ⟨(sJ S j), 0, none⟩)])), .func (.func φ) #[] #[.pointer (some ⟨c, 0, none⟩)], .agg (av 2 (ls [.int .u32 ((sI S j : Nat) : Int), .pointer (some ⟨(sJ S j), 0, none⟩)])), .bool false, v1 20, v1 21, v1 22, v1 23, v1 24, v1 25, v1 26, v1 27, .int .i64 ((j + 1 : Nat) : Int)] : List Value).getD (k_ - 7) undef, so, To, B, by kernel_rfl, (M.drop (.cons _ (.cons_cons _ (List.Sublist.refl _)))), by rw [gL_no c0]; exact hO, by rw [xw_no c0]; exact hB⟩
 ·intro a u0 hI
  obtain ⟨v1, so, To, B, rfl, M, hO, hB⟩ := hI
  refine sR <| ZF 14 (((S.length : Nat) : Int) < ((S.length : Nat) : Int)) <| nT <| wp_seq <| cF <| wp_exit <| au_then_exit <| au_then_exit <| au_block_exit <| au_then <| sR <| rV 4 <| ZE M 33 0 1 <| rV 1 <| pl_callM M (want_no rfl) (some 35) rfl 76 #[.slice l S.length k, .func (.func φ) #[] #[.pointer (some ⟨c, 0, none⟩)]] [⟨p, .cells (av 2 (ls [.bool true, .slice l S.length k])) 102⟩] ((Ts ++ (Rf ++ B))) (To) (by simp only [List.append_assoc, List.cons_append, List.nil_append, List.append_nil]) (fun x : Value × List Blk => x.1) (fun x : Value × List Blk => (x.2 ++ (Rf ++ B))) (fun x : Value × List Blk => SlW 2 (vS (kp g S S.length)) (kp g S S.length).length x.1 x.2) (fun _ => by kernel_rfl) (fun w hL hT => a_delete hE hS hn (fun j hj w' hL' hT' => hF S.length (Nat.le_refl _) j hj B w' hB hL' hT') w hL hT) ?_
  rintro ⟨sn, Tn⟩ u1 hSn M
  replace M : Mem ⟨w, (⟨p, .cells (av 2 (ls [.bool true, .slice l S.length k])) 102⟩ :: (Ts ++ (Rf ++ Bo))).map Blk.g⟩ (⟨p, .cells (av 2 (ls [.bool true, .slice l S.length k])) 102⟩ :: (Tn ++ (Rf ++ (B ++ To)))) u1 := by simpa only [List.append_assoc, List.cons_append, List.nil_append, List.append_nil] using M
  refine rV 2 ?_
  refine (pl_put1 M (want_no rfl) rfl 100 _ _ rfl 0 p 1 (by kernel_rfl) 2 102 (ls [.bool true, .slice l S.length k]) rfl (sn) (ls [.bool true, sn]) (by kernel_rfl) inz100 (by decide) (slw_one hSn) (slw_cells hSn) (put_ls _ 1 _ _ rfl) ?_)
  intro u2 M
  replace M : Mem ⟨w, (⟨p, .cells (av 2 (ls [.bool true, .slice l S.length k])) 102⟩ :: (Ts ++ (Rf ++ Bo))).map Blk.g⟩ (⟨p, .cells (av 2 (ls [.bool true, sn])) 102⟩ :: (Tn ++ (Rf ++ (B ++ To)))) u2 := M
  refine nT <| sq <| wp_ret ?_
  exact bodyPost_ret (v := so) (results_tmp1 Tryz.results60 _ _ _ (by kernel_rfl)) (by kernel_rfl) ⟨⟨so, To, sn, Tn, B⟩, rfl, hO, hSn, hB, M.okT0⟩
open Go.RowKit
theorem fn74 (args : Array Value) (w : World) : (callFunc 74 args).run Tryz.prog w = .ok (.enter 74 args) w := by kernel_rfl
theorem fn61 (args : Array Value) (w : World) : (callFunc 61 args).run Tryz.prog w = .ok (.enter 61 args) w := by kernel_rfl
theorem ov_wiped {x : TS} {n : Nat} (h : x.sd = ⟨#[]⟩) : x.ov n = true := decide_eq_true (.inl h)
theorem xw_ov {g : Nat → Bool} {K : Nat → Nat} {X : Nat → TS} {n : Nat} (hg : ∀ j, g j = (X (K j)).ov n) : ∀ i k, (xw g K X i k).ov n = (X k).ov n
 | 0, _ => rfl
 | i + 1, k => by
  cases e : g i with
  | false =>
   rw [xw_no e]
   exact xw_ov hg i k
  | true =>
   rw [xw_yes e]
   by_cases c : k = K i
   ·subst c
    rw [upd_self, ← hg i, e]
    exact ov_wiped rfl
   ·rw [upd_other _ _ c]
    exact xw_ov hg i k
theorem c_get0 {p id : Nat} {l : Option Addr} {b o1 n k : Nat} {I : Nat → Nat} {J : Nat → Nat} (hl : 0 < n → l = some ⟨b, o1, none⟩) (hn : n < 1000000) (h0 : ∀ j, j < n → ¬ I j = id) (w : World) (hL : Laid w) (hp : w.cell? ⟨p, 0, none⟩ = some (.bool true)) (hs : w.cell? ⟨p, 1, none⟩ = some (.slice l n k)) (hI : ∀ j, j < n → w.cell? ⟨b, o1 + j * 2 + 0, none⟩ = some (.int .u32 ((I j : Nat) : Int))) (hJ : ∀ j, j < n → w.cell? ⟨b, o1 + j * 2 + 1, none⟩ = some (.pointer (some ⟨J j, 0, none⟩))) : Cs 35 #[.pointer (some ⟨p, 0, none⟩), .int .u32 (id : Int)] w (.tuple #[.pointer none, .int .i64 5]) := by
 go_enter Tryz.func35, Tryz.ntmps35
 have M := Mem.start hL
 refine sq <| wp_seq <| sR <| rV 1 <| ZC M 8 (fun w M => c_sthere w M.laid (M.oldc hp (by simp))) fun u1 M => rV 1 <| nT <| cF <| wp_skip <| au_then <| wp_seq <| rg_held M [] 7 rfl (by kernel_rfl) (by kernel_rfl) (fun _ _ d _ _ h => by cases d <;> exact h) fun u2 M => ?_
 replace M : Mem ⟨w, []⟩ [] u2 := M
 refine qV M 0 10 (.pointer (some ⟨p, 0, none⟩)) <| qV M 1 11 (.pointer (some ⟨p, 0, none⟩)) <| qV M 2 12 (.pointer (some ⟨p, 1, none⟩)) <| hl_cell M 3 rfl (by decide) (by kernel_rfl) (by kernel_rfl) (want_no rfl) (some 13) rfl 100 _ rfl p 1 (by kernel_rfl) (.slice l n k) (fun _ => by kernel_rfl) (fun w M => M.oldc hs (by simp)) <| qV M 4 14 (.int .u32 (id : Int)) <| hl_one 5 (by decide) (by kernel_rfl) rfl <| pl_calln M (want_no rfl) (some 15) rfl 58 #[.int .u32 (id : Int)] (fun g1 => .func (.func 74) #[] #[.pointer (some ⟨g1, 0, none⟩)]) (.cells (av 1 (ls [.int .u32 (id : Int)])) 67) (fun _ => by kernel_rfl) (fun w M => c_hasS w M.laid) fun g1 u3 M => ?_
 replace M : Mem ⟨w, []⟩ [⟨g1, .cells (av 1 (ls [.int .u32 (id : Int)])) 67⟩] u3 := M
 refine nT ?_
 refine ⟨(M.drop (.cons _ (.slnil))), ?_⟩
 refine hl_one 6 (by decide) (by kernel_rfl) rfl <| pC M 16 57 #[.slice l n k, .func (.func 74) #[] #[.pointer (some ⟨g1, 0, none⟩)]] (.int .i64 (-1)) (fun w M => call_val (c_index (g := (fun j => decide (I j = id))) fn74 hl hn w M.laid (fun j hj => M.oldc (hI j hj) (by simp)) (fun j hj => M.oldc (hJ j hj) (by simp)) (fun j hj w' hb hL => c_has1 w' hL ((M.keep hb).cell 0 rfl (by decide) rfl))) (by rw [ix_no fun j hj => decide_eq_false (h0 j hj)])) fun u4 M => nT ?_
 refine ⟨(M.drop (.cons _ (.slnil))), ?_⟩
 refine hl_end (by kernel_rfl) (by kernel_rfl) rfl <| rV 1 <| nT <| au_then <| wp_seq <| sq <| cT <| sq <| wp_ret <| au_then_ret ?_
 exact b1 M
theorem c_get1 {p id i : Nat} {l : Option Addr} {b o1 n k : Nat} {I : Nat → Nat} {J : Nat → Nat} (hl : 0 < n → l = some ⟨b, o1, none⟩) (hn : n < 1000000) (hi : i < n) (h1 : I i = id) (h0 : ∀ j, j < i → ¬ I j = id) (w : World) (hL : Laid w) (hp : w.cell? ⟨p, 0, none⟩ = some (.bool true)) (hs : w.cell? ⟨p, 1, none⟩ = some (.slice l n k)) (hI : ∀ j, j < n → w.cell? ⟨b, o1 + j * 2 + 0, none⟩ = some (.int .u32 ((I j : Nat) : Int))) (hJ : ∀ j, j < n → w.cell? ⟨b, o1 + j * 2 + 1, none⟩ = some (.pointer (some ⟨J j, 0, none⟩))) : Cs 35 #[.pointer (some ⟨p, 0, none⟩), .int .u32 (id : Int)] w (.tuple #[.pointer (some ⟨(J i), 0, none⟩), .int .i64 0]) := by
 go_enter Tryz.func35, Tryz.ntmps35
 have M := Mem.start hL
 refine sq <| wp_seq <| sR <| rV 1 <| ZC M 8 (fun w M => c_sthere w M.laid (M.oldc hp (by simp))) fun u1 M => rV 1 <| nT <| cF <| wp_skip <| au_then <| wp_seq <| rg_held M [] 7 rfl (by kernel_rfl) (by kernel_rfl) (fun _ _ d _ _ h => by cases d <;> exact h) fun u2 M => ?_
 replace M : Mem ⟨w, []⟩ [] u2 := M
 refine qV M 0 10 (.pointer (some ⟨p, 0, none⟩)) <| qV M 1 11 (.pointer (some ⟨p, 0, none⟩)) <| qV M 2 12 (.pointer (some ⟨p, 1, none⟩)) <| hl_cell M 3 rfl (by decide) (by kernel_rfl) (by kernel_rfl) (want_no rfl) (some 13) rfl 100 _ rfl p 1 (by kernel_rfl) (.slice l n k) (fun _ => by kernel_rfl) (fun w M => M.oldc hs (by simp)) <| qV M 4 14 (.int .u32 (id : Int)) <| hl_one 5 (by decide) (by kernel_rfl) rfl <| pl_calln M (want_no rfl) (some 15) rfl 58 #[.int .u32 (id : Int)] (fun g1 => .func (.func 74) #[] #[.pointer (some ⟨g1, 0, none⟩)]) (.cells (av 1 (ls [.int .u32 (id : Int)])) 67) (fun _ => by kernel_rfl) (fun w M => c_hasS w M.laid) fun g1 u3 M => ?_
 replace M : Mem ⟨w, []⟩ [⟨g1, .cells (av 1 (ls [.int .u32 (id : Int)])) 67⟩] u3 := M
 refine nT ?_
 refine ⟨(M.drop (.cons _ (.slnil))), ?_⟩
 refine hl_one 6 (by decide) (by kernel_rfl) rfl <| pC M 16 57 #[.slice l n k, .func (.func 74) #[] #[.pointer (some ⟨g1, 0, none⟩)]] (.int .i64 (i : Int)) (fun w M => call_val (c_index (g := (fun j => decide (I j = id))) fn74 hl hn w M.laid (fun j hj => M.oldc (hI j hj) (by simp)) (fun j hj => M.oldc (hJ j hj) (by simp)) (fun j hj w' hb hL => c_has1 w' hL ((M.keep hb).cell 0 rfl (by decide) rfl))) (by rw [ix_at hi (decide_eq_true h1) fun j hj => decide_eq_false (h0 j hj)])) fun u4 M => nT ?_
 refine ⟨(M.drop (.cons _ (.slnil))), ?_⟩
 refine hl_end (by kernel_rfl) (by kernel_rfl) rfl <| rV 1 <| nT <| au_then <| wp_seq <| sR <| rV 1 ?_
 by_cases c0 : (i : Int) < 0
 ·exfalso; omega
 ·refine pH 18 (.bool false) (jF ((i : Int) < 0) (c0)) <| nT <| cF <| wp_skip <| au_then <| sR <| rV 3 <| pE M 22 p 1 (.slice l n k) (fun w M => M.oldc hs (by simp)) <| rV 1 <| pH 24 (.pointer (some ⟨b, (o1 + i * 2), none⟩)) (run_ixK 100 113 2 Tryz.underlying100 inz113 _ _ rfl l b o1 n k (by kernel_rfl) (hl (by omega)) .i64 i (by kernel_rfl) (by omega)) <| rV 1 <| pE M 26 b ((o1 + i * 2) + 1) (.pointer (some ⟨(J i), 0, none⟩)) (fun w M => M.oldc (hJ i hi) (by simp)) <| rV 2 <| nT <| wp_ret ?_
  exact b1 M
theorem c_tidy1 {x t c n : Nat} {v : Bool} (w : World) (hL : Laid w) (hc : w.cell? ⟨c, 0, none⟩ = some (.int .u64 (n : Int))) (hO : ∀ w', Below w.heap.size w w' → Laid w' → Calls Tryz.prog 10 #[.pointer (some ⟨t, 0, none⟩), .int .u64 (n : Int)] w' fun r w'' => r = .returned (.bool v) ∧ Below w'.heap.size w' w'') : Cs 61 #[.agg (av 2 (ls [.int .u32 (x : Int), .pointer (some ⟨t, 0, none⟩)])), .pointer (some ⟨c, 0, none⟩)] w (.bool (v)) := by
 go_enter Tryz.func61, Tryz.ntmps61
 have M := Mem.start hL
 refine sR <| pN M 2 (.cells (av 2 (ls [.int .u32 (x : Int), .pointer (some ⟨t, 0, none⟩)])) 113) fun g1 u1 M => ?_
 replace M : Mem ⟨w, []⟩ [⟨g1, .cells (av 2 (ls [.int .u32 (x : Int), .pointer (some ⟨t, 0, none⟩)])) 113⟩] u1 := M
 refine rV 1 <| nT <| sR <| rV 1 <| ZE M 5 0 1 <| pE M 6 c 0 (.int .u64 (n : Int)) (fun w M => M.oldc hc (by simp)) ?_
 rcases Bool.eq_false_or_eq_true (v) with c0 | c0
 ·refine pC M 7 10 #[.pointer (some ⟨t, 0, none⟩), .int .u64 (n : Int)] (.bool true) (fun w M => call_val (hO w (below_grown M.old) M.laid) (congrArg Value.bool c0)) fun u2 M => rV 1 <| nT <| wp_ret ?_
  have e0 : v = true := by simp [c0]
  exact bodyPost_ret (v := .bool true) (results_tmp1 Tryz.results61 _ _ _ (by kernel_rfl)) (by kernel_rfl) ⟨by rw [e0], below_grown M.old⟩
 ·refine pC M 7 10 #[.pointer (some ⟨t, 0, none⟩), .int .u64 (n : Int)] (.bool false) (fun w M => call_val (hO w (below_grown M.old) M.laid) (congrArg Value.bool c0)) fun u2 M => rV 1 <| nT <| wp_ret ?_
  have e0 : v = false := by simp [c0]
  exact bodyPost_ret (v := .bool false) (results_tmp1 Tryz.results61 _ _ _ (by kernel_rfl)) (by kernel_rfl) ⟨by rw [e0], below_grown M.old⟩
theorem c_Tidy {S : List Sl} {l : Option Addr} {p b k N : Nat} {K tp : Nat → Nat} {X : Nat → TS} {Ts Bo : List Blk} (hS : SlW 2 (vS S) S.length (.slice l S.length k) Ts) (hl : 0 < S.length → l = some ⟨b, 0, none⟩) (hc : ∀ w, There w Ts → ∀ j, j < S.length → w.cell? ⟨b, 0 + j * 2 + 0, none⟩ = some (.int .u32 ((sI S j : Nat) : Int)) ∧ w.cell? ⟨b, 0 + j * 2 + 1, none⟩ = some (.pointer (some ⟨sJ S j, 0, none⟩))) (hn : S.length < 1000) (hK : ∀ j, j < S.length → K j < N ∧ sJ S j = tp (K j)) (hBo : Row (rT tp X) N Bo) {n : Nat} (hnw : n < 18446744073709551616) (w : World) (hL : Laid w)  (hT : There w (⟨p, .cells (av 2 (ls [.bool true, .slice l S.length k])) 102⟩ :: (Ts ++ Bo))) : Calls Tryz.prog 39 #[.pointer (some ⟨p, 0, none⟩), .int .u64 (n : Int)] w fun r w' => ∃ x : Value × List Blk × Value × List Blk × List Blk, r = .returned x.1 ∧ SlW 1 (gL (fun j => (X (K j)).ov n) (sI S) S.length) (gL (fun j => (X (K j)).ov n) (sI S) S.length).length x.1 x.2.1 ∧ SlW 2 (vS (kp (fun j => (X (K j)).ov n) S S.length)) (kp (fun j => (X (K j)).ov n) S S.length).length x.2.2.1 x.2.2.2.1 ∧ Row (rT tp (xw (fun j => (X (K j)).ov n) K X S.length)) N x.2.2.2.2 ∧ OkT w w' (⟨p, .cells (av 2 (ls [.bool true, .slice l S.length k])) 102⟩ :: (Ts ++ Bo)) (⟨p, .cells (av 2 (ls [.bool true, x.2.2.1])) 102⟩ :: (x.2.2.2.1 ++ (x.2.2.2.2 ++ x.2.1))) := by
 go_enter Tryz.func39, Tryz.ntmps39
 have M : Mem ⟨w, (⟨p, .cells (av 2 (ls [.bool true, .slice l S.length k])) 102⟩ :: (Ts ++ Bo)).map Blk.g⟩ (⟨p, .cells (av 2 (ls [.bool true, .slice l S.length k])) 102⟩ :: (Ts ++ Bo)) w := Mem.startT hL hT
 refine sR <| pN M 3 (.cells (av 1 (ls [.int .u64 (n : Int)])) 24) fun g1 u1 M => ?_
 replace M := M.front
 replace M : Mem ⟨w, (⟨p, .cells (av 2 (ls [.bool true, .slice l S.length k])) 102⟩ :: (Ts ++ Bo)).map Blk.g⟩ (⟨g1, .cells (av 1 (ls [.int .u64 (n : Int)])) 24⟩ :: ⟨p, .cells (av 2 (ls [.bool true, .slice l S.length k])) 102⟩ :: (Ts ++ Bo)) u1 := M
 refine rV 1 <| nT <| wp_seq <| sR <| rV 1 <| ZC M 6 (fun w M => c_sthere w M.laid (M.cell 1 rfl (by decide) rfl)) fun u2 M => rV 1 <| nT <| cF <| wp_skip <| au_then <| sR <| rV 2 ?_
 replace M := M.perm ((List.Perm.swap _ _ _).trans (.cons _ (List.perm_middle (l₁ := Ts)).symm))
 replace M : Mem ⟨w, (⟨p, .cells (av 2 (ls [.bool true, .slice l S.length k])) 102⟩ :: (Ts ++ Bo)).map Blk.g⟩ (⟨p, .cells (av 2 (ls [.bool true, .slice l S.length k])) 102⟩ :: (Ts ++ ([⟨g1, .cells (av 1 (ls [.int .u64 (n : Int)])) 24⟩] ++ Bo))) u2 := by simpa only [List.append_assoc, List.cons_append, List.nil_append, List.append_nil] using M
 refine pl_callM M (want_no rfl) (some 10) rfl 60 #[.pointer (some ⟨p, 0, none⟩), .func (.func 61) #[] #[.pointer (some ⟨g1, 0, none⟩)]] [] (⟨p, .cells (av 2 (ls [.bool true, .slice l S.length k])) 102⟩ :: (Ts ++ ([⟨g1, .cells (av 1 (ls [.int .u64 (n : Int)])) 24⟩] ++ Bo))) [] (by simp only [List.append_assoc, List.cons_append, List.nil_append, List.append_nil]) (fun x : Value × List Blk × Value × List Blk × List Blk => x.1) (fun x : Value × List Blk × Value × List Blk × List Blk => (⟨p, .cells (av 2 (ls [.bool true, x.2.2.1])) 102⟩ :: (x.2.2.2.1 ++ ([⟨g1, .cells (av 1 (ls [.int .u64 (n : Int)])) 24⟩] ++ (x.2.2.2.2 ++ x.2.1))))) (fun x : Value × List Blk × Value × List Blk × List Blk => (SlW 1 (gL (fun j => (X (K j)).ov n) (sI S) S.length) (gL (fun j => (X (K j)).ov n) (sI S) S.length).length x.1 x.2.1 ∧ SlW 2 (vS (kp (fun j => (X (K j)).ov n) S S.length)) (kp (fun j => (X (K j)).ov n) S S.length).length x.2.2.1 x.2.2.2.1 ∧ Row (rT tp (xw (fun j => (X (K j)).ov n) K X S.length)) N x.2.2.2.2)) (fun _ => by kernel_rfl) (fun w hL hT => (c_drop (g := (fun j => (X (K j)).ov n)) (K := K) fn61 hS hl hc hn hK hBo (fun i hi j hj B' w' hB' hL' hT' => call_val (c_tidy1 w' hL' (cell_av (hT'.at_ _ List.mem_cons_self) (by decide)) fun w'' hb hL'' => by rw [(hK j hj).2]; exact r_Over hB' (hK j hj).1 hnw w'' hL'' ((hT'.sub (.cons _ (List.Sublist.refl _))).up hb)) (by rw [xw_ov fun _ => rfl])) w hL hT).mono fun _ _ ⟨x, he, h1, h2, h3, h4⟩ => ⟨x, he, ⟨h1, h2, h3⟩, h4⟩) ?_
 rintro ⟨so, To, sn, Tn, Bn⟩ u3 ⟨hO, hSn, hBn⟩ M
 replace M : Mem ⟨w, (⟨p, .cells (av 2 (ls [.bool true, .slice l S.length k])) 102⟩ :: (Ts ++ Bo)).map Blk.g⟩ (⟨p, .cells (av 2 (ls [.bool true, sn])) 102⟩ :: (Tn ++ ([⟨g1, .cells (av 1 (ls [.int .u64 (n : Int)])) 24⟩] ++ (Bn ++ To)))) u3 := by simpa only [List.append_assoc, List.cons_append, List.nil_append, List.append_nil] using M
 refine rV 1 <| nT <| wp_ret ?_
 exact bodyPost_ret (v := so) (results_tmp1 Tryz.results39 _ _ _ (by kernel_rfl)) (by kernel_rfl) ⟨⟨so, To, sn, Tn, Bn⟩, rfl, hO, hSn, hBn, (M.drop (.cons_cons _ ((List.Sublist.refl Tn).append (List.sublist_append_right ([⟨g1, .cells (av 1 (ls [.int .u64 (n : Int)])) 24⟩] : List Blk) _)))).okT0⟩
open Go.RowKit
theorem sI_lt {S R : List Sl} {j : Nat} (h : j < S.length) : sI (S ++ R) j = sI S j ∧ sJ (S ++ R) j = sJ S j := by
 have e : (S ++ R)[j]? = some ⟨sI S j, sJ S j⟩ := by rw [List.getElem?_append_left h]; exact at_mem h
 exact sI_of e
theorem sI_end (S : List Sl) (s : Sl) : sI (S ++ [s]) S.length = s.id ∧ sJ (S ++ [s]) S.length = s.t := by
 have e : (S ++ [s])[S.length]? = some s := by rw [List.getElem?_append_right (Nat.le_refl _), Nat.sub_self]; rfl
 exact sI_of e
theorem hK_next {S : List Sl} {K tp : Nat → Nat} {N m id : Nat} (hK : ∀ j, j < S.length → K j < N ∧ sJ S j = tp (K j)) (hm : m < N) : ∀ j, j < (S ++ [(⟨id, tp m⟩ : Sl)]).length → upd K S.length m j < N ∧ sJ (S ++ [⟨id, tp m⟩]) j = tp (upd K S.length m j) := fun j hj => by
 by_cases c : j = S.length
 ·subst c
  rw [upd_self, (sI_end S _).2]
  exact ⟨hm, rfl⟩
 ·have hj' : j < S.length := by
   rw [List.length_append] at hj
   simp at hj
   omega
  rw [upd_other _ _ c, (sI_lt hj').2]
  exact hK j hj'
theorem c_put4 {p id : Nat} (w : World) (hL : Laid w) (hp : w.cell? ⟨p, 0, none⟩ = some (.bool true)) : Cs 41 #[.pointer (some ⟨p, 0, none⟩), .int .u32 (id : Int), .pointer none] w (.int .i64 2) := by
 go_enter Tryz.func41, Tryz.ntmps41
 have M := Mem.start hL
 refine sq <| wp_seq <| wp_block <| sR <| rV 1 <| ZC M 9 (fun w M => c_sthere w M.laid (M.oldc hp (by simp))) fun u1 M => rV 2 <| nT <| cF <| sR <| rV 1 <| pC M 13 30 #[.pointer none] (.bool false) (fun w M => n_there w M.laid) fun u2 M => rV 2 <| nT <| cT <| sq ?_
 refine wp_ret <| au_block_ret <| au_then_ret ?_
 exact b1 M
theorem c_putA {p id i t : Nat} {l : Option Addr} {b o1 n k : Nat} {I : Nat → Nat} {J : Nat → Nat} (hl : 0 < n → l = some ⟨b, o1, none⟩) (hn : n < 1000000) (hi : i < n) (h1 : I i = id) (h0 : ∀ j, j < i → ¬ I j = id) (w : World) (hL : Laid w) (hp : w.cell? ⟨p, 0, none⟩ = some (.bool true)) (hs : w.cell? ⟨p, 1, none⟩ = some (.slice l n k)) (hI : ∀ j, j < n → w.cell? ⟨b, o1 + j * 2 + 0, none⟩ = some (.int .u32 ((I j : Nat) : Int))) (hJ : ∀ j, j < n → w.cell? ⟨b, o1 + j * 2 + 1, none⟩ = some (.pointer (some ⟨J j, 0, none⟩))) (hTh : ∀ w', Below w.heap.size w w' → Laid w' → Calls Tryz.prog 30 #[.pointer (some ⟨t, 0, none⟩)] w' fun r w'' => r = .returned (.bool true) ∧ Below w'.heap.size w' w'') : Cs 41 #[.pointer (some ⟨p, 0, none⟩), .int .u32 (id : Int), .pointer (some ⟨t, 0, none⟩)] w (.int .i64 9) := by
 go_enter Tryz.func41, Tryz.ntmps41
 have M := Mem.start hL
 refine sq <| wp_seq <| wp_block <| sR <| rV 1 <| ZC M 9 (fun w M => c_sthere w M.laid (M.oldc hp (by simp))) fun u1 M => rV 2 <| nT <| cF <| sR <| rV 1 <| pC M 13 30 #[.pointer (some ⟨t, 0, none⟩)] (.bool true) (fun w M => hTh w (below_grown M.old) M.laid) fun u2 M => rV 2 <| nT <| cF <| wp_seq ?_
 refine rg_held M [] 7 rfl (by kernel_rfl) (by kernel_rfl) (fun _ _ d _ _ h => by cases d <;> exact h) fun u3 M => ?_
 replace M : Mem ⟨w, []⟩ [] u3 := M
 refine qV M 0 16 (.pointer (some ⟨p, 0, none⟩)) <| qV M 1 17 (.pointer (some ⟨p, 0, none⟩)) <| qV M 2 18 (.pointer (some ⟨p, 1, none⟩)) <| hl_cell M 3 rfl (by decide) (by kernel_rfl) (by kernel_rfl) (want_no rfl) (some 19) rfl 100 _ rfl p 1 (by kernel_rfl) (.slice l n k) (fun _ => by kernel_rfl) (fun w M => M.oldc hs (by simp)) <| qV M 4 20 (.int .u32 (id : Int)) <| hl_one 5 (by decide) (by kernel_rfl) rfl <| pl_calln M (want_no rfl) (some 21) rfl 58 #[.int .u32 (id : Int)] (fun g1 => .func (.func 74) #[] #[.pointer (some ⟨g1, 0, none⟩)]) (.cells (av 1 (ls [.int .u32 (id : Int)])) 67) (fun _ => by kernel_rfl) (fun w M => c_hasS w M.laid) fun g1 u4 M => ?_
 replace M : Mem ⟨w, []⟩ [⟨g1, .cells (av 1 (ls [.int .u32 (id : Int)])) 67⟩] u4 := M
 refine nT ?_
 refine ⟨(M.drop (.cons _ (.slnil))), ?_⟩
 refine hl_one 6 (by decide) (by kernel_rfl) rfl <| pC M 22 62 #[.slice l n k, .func (.func 74) #[] #[.pointer (some ⟨g1, 0, none⟩)]] (.bool true) (fun w M => call_val (c_contains (g := (fun j => decide (I j = id))) fn74 hl hn w M.laid (fun j hj => M.oldc (hI j hj) (by simp)) (fun j hj => M.oldc (hJ j hj) (by simp)) (fun j hj w' hb hL => c_has1 w' hL ((M.keep hb).cell 0 rfl (by decide) rfl))) (by rw [ix_at hi (decide_eq_true h1) fun j hj => decide_eq_false (h0 j hj), decide_eq_true (by omega)])) fun u5 M => nT ?_
 refine ⟨(M.drop (.cons _ (.slnil))), ?_⟩
 refine hl_end (by kernel_rfl) (by kernel_rfl) rfl <| rV 1 <| nT <| au_then <| cT <| sq <| wp_ret <| au_block_ret <| au_then_ret ?_
 exact b1 M
theorem infoSl : InfoK Tryz.prog 113 2 (.agg #[.int .u32 0, .pointer none]) := infoK (b := 16) (by kernel_rfl) (by kernel_rfl) (by kernel_rfl) (by decide)
theorem c_putB {S : List Sl} {l : Option Addr} {p b k N : Nat} {tp : Nat → Nat} {X : Nat → TS} {Ts Bo : List Blk} (hS : SlW 2 (vS S) S.length (.slice l S.length k) Ts) (hl : 0 < S.length → l = some ⟨b, 0, none⟩) (hc : ∀ w, There w Ts → ∀ j, j < S.length → w.cell? ⟨b, 0 + j * 2 + 0, none⟩ = some (.int .u32 ((sI S j : Nat) : Int)) ∧ w.cell? ⟨b, 0 + j * 2 + 1, none⟩ = some (.pointer (some ⟨sJ S j, 0, none⟩))) (hBo : Row (rT tp X) N Bo) {id m : Nat} (hm : m < N) (hid : ∀ j, j < S.length → ¬ sI S j = id) (h3 : S.length < 3) (w : World) (hL : Laid w)  (hT : There w (⟨p, .cells (av 2 (ls [.bool true, .slice l S.length k])) 102⟩ :: (Ts ++ Bo))) : Calls Tryz.prog 41 #[.pointer (some ⟨p, 0, none⟩), .int .u32 (id : Int), .pointer (some ⟨(tp m), 0, none⟩)] w fun r w' => ∃ x : Value × List Blk, r = .returned (.int .i64 0) ∧ SlW 2 (vS (S ++ [⟨id, tp m⟩])) (S ++ [(⟨id, tp m⟩ : Sl)]).length x.1 x.2 ∧ OkT w w' (⟨p, .cells (av 2 (ls [.bool true, .slice l S.length k])) 102⟩ :: (Ts ++ Bo)) (⟨p, .cells (av 2 (ls [.bool true, x.1])) 102⟩ :: (x.2 ++ Bo)) := by
 go_enter Tryz.func41, Tryz.ntmps41
 have M : Mem ⟨w, (⟨p, .cells (av 2 (ls [.bool true, .slice l S.length k])) 102⟩ :: (Ts ++ Bo)).map Blk.g⟩ (⟨p, .cells (av 2 (ls [.bool true, .slice l S.length k])) 102⟩ :: (Ts ++ Bo)) w := Mem.startT hL hT
 refine sq <| wp_seq <| wp_block <| sR <| rV 1 <| ZC M 9 (fun w M => c_sthere w M.laid (M.cell 0 rfl (by decide) rfl)) fun u1 M => rV 2 <| nT <| cF <| sR <| rV 1 <| pC M 13 30 #[.pointer (some ⟨(tp m), 0, none⟩)] (.bool true) (fun w M => r_there hBo hm w M.laid (M.thereM (pre := (⟨p, .cells (av 2 (ls [.bool true, .slice l S.length k])) 102⟩ :: Ts)) (T := Bo) (suf := []) (by simp only [List.append_assoc, List.cons_append, List.nil_append, List.append_nil]))) fun u2 M => rV 2 <| nT <| cF <| wp_seq ?_
 refine rg_held M (⟨p, .cells (av 2 (ls [.bool true, .slice l S.length k])) 102⟩ :: (Ts ++ Bo)) 7 rfl (by kernel_rfl) (by kernel_rfl) (fun _ _ d _ _ h => by cases d <;> exact h) fun u3 M => ?_
 replace M : Mem ⟨w, (⟨p, .cells (av 2 (ls [.bool true, .slice l S.length k])) 102⟩ :: (Ts ++ Bo)).map Blk.g⟩ (⟨p, .cells (av 2 (ls [.bool true, .slice l S.length k])) 102⟩ :: (Ts ++ Bo)) u3 := M
 refine qV M 0 16 (.pointer (some ⟨p, 0, none⟩)) <| qV M 1 17 (.pointer (some ⟨p, 0, none⟩)) <| qV M 2 18 (.pointer (some ⟨p, 1, none⟩)) <| hl_cell M 3 rfl (by decide) (by kernel_rfl) (by kernel_rfl) (want_no rfl) (some 19) rfl 100 _ rfl p 1 (by kernel_rfl) (.slice l S.length k) (fun _ => by kernel_rfl) (fun w M => M.cell 0 rfl (by decide) rfl) <| qV M 4 20 (.int .u32 (id : Int)) <| hl_one 5 (by decide) (by kernel_rfl) rfl <| pl_calln M (want_no rfl) (some 21) rfl 58 #[.int .u32 (id : Int)] (fun g1 => .func (.func 74) #[] #[.pointer (some ⟨g1, 0, none⟩)]) (.cells (av 1 (ls [.int .u32 (id : Int)])) 67) (fun _ => by kernel_rfl) (fun w M => c_hasS w M.laid) fun g1 u4 M => ?_
 replace M := M.front
 replace M : Mem ⟨w, (⟨p, .cells (av 2 (ls [.bool true, .slice l S.length k])) 102⟩ :: (Ts ++ Bo)).map Blk.g⟩ (⟨g1, .cells (av 1 (ls [.int .u32 (id : Int)])) 67⟩ :: ⟨p, .cells (av 2 (ls [.bool true, .slice l S.length k])) 102⟩ :: (Ts ++ Bo)) u4 := M
 refine nT ?_
 refine ⟨(M.drop (.cons _ (.cons_cons _ (List.Sublist.refl _)))), ?_⟩
 refine hl_one 6 (by decide) (by kernel_rfl) rfl ?_
 refine pC M 22 62 #[.slice l S.length k, .func (.func 74) #[] #[.pointer (some ⟨g1, 0, none⟩)]] (.bool false) (fun w M => call_val (c_contains (g := (fun j => decide (sI S j = id))) fn74 hl (by omega) w M.laid (fun j hj => (hc w (M.thereM (pre := [⟨g1, .cells (av 1 (ls [.int .u32 (id : Int)])) 67⟩, ⟨p, .cells (av 2 (ls [.bool true, .slice l S.length k])) 102⟩]) (T := Ts) (suf := Bo) (by simp only [List.append_assoc, List.cons_append, List.nil_append, List.append_nil])) j hj).1) (fun j hj => (hc w (M.thereM (pre := [⟨g1, .cells (av 1 (ls [.int .u32 (id : Int)])) 67⟩, ⟨p, .cells (av 2 (ls [.bool true, .slice l S.length k])) 102⟩]) (T := Ts) (suf := Bo) (by simp only [List.append_assoc, List.cons_append, List.nil_append, List.append_nil])) j hj).2) (fun j hj w' hb hL => c_has1 w' hL ((M.keep hb).cell 0 rfl (by decide) rfl))) (by rw [ix_no fun j hj => decide_eq_false (hid j hj)]; rfl)) fun u5 M => ?_
 refine nT ?_
 refine ⟨(M.drop (.cons _ (.cons_cons _ (List.Sublist.refl _)))), ?_⟩
 refine hl_end (by kernel_rfl) (by kernel_rfl) rfl <| rV 1 <| nT <| au_then <| cF <| wp_skip <| au_block <| au_then <| sR <| rV 4 <| ZE M 27 1 1 <| rV 3 <| ZM M 31 (fun g2 => .slice (some ⟨g2, 0, none⟩) 1 1) (.cells (av 2 (ls [.int .u32 (id : Int), .pointer (some ⟨(tp m), 0, none⟩)])) 113) fun g2 u6 M => ?_
 replace M := M.front
 replace M : Mem ⟨w, (⟨p, .cells (av 2 (ls [.bool true, .slice l S.length k])) 102⟩ :: (Ts ++ Bo)).map Blk.g⟩ (⟨g2, .cells (av 2 (ls [.int .u32 (id : Int), .pointer (some ⟨(tp m), 0, none⟩)])) 113⟩ :: ⟨g1, .cells (av 1 (ls [.int .u32 (id : Int)])) 67⟩ :: ⟨p, .cells (av 2 (ls [.bool true, .slice l S.length k])) 102⟩ :: (Ts ++ Bo)) u6 := M
 refine pl_appW M (want_no rfl) (some 32) rfl 100 100 113 2 (.agg #[.int .u32 0, .pointer none]) Tryz.underlying100 infoSl rfl [⟨g2, .cells (av 2 (ls [.int .u32 (id : Int), .pointer (some ⟨(tp m), 0, none⟩)])) 113⟩, ⟨g1, .cells (av 1 (ls [.int .u32 (id : Int)])) 67⟩, ⟨p, .cells (av 2 (ls [.bool true, .slice l S.length k])) 102⟩] Ts Bo (by simp only [List.append_assoc, List.cons_append, List.nil_append, List.append_nil]) (.slice l S.length k) S.length (vS S) hS (by omega) 0 g2 113 (ls [.int .u32 (id : Int), .pointer (some ⟨(tp m), 0, none⟩)]) rfl (one_ls _ rfl) (fun _ => by kernel_rfl) ?_
 intro sv2 T2 u7 hS2 M
 replace M : Mem ⟨w, (⟨p, .cells (av 2 (ls [.bool true, .slice l S.length k])) 102⟩ :: (Ts ++ Bo)).map Blk.g⟩ (⟨g2, .cells (av 2 (ls [.int .u32 (id : Int), .pointer (some ⟨(tp m), 0, none⟩)])) 113⟩ :: ⟨g1, .cells (av 1 (ls [.int .u32 (id : Int)])) 67⟩ :: ⟨p, .cells (av 2 (ls [.bool true, .slice l S.length k])) 102⟩ :: (T2 ++ Bo)) u7 := by simpa only [List.append_assoc, List.cons_append, List.nil_append, List.append_nil] using M
 have hS3 : SlW 2 (vS (S ++ [⟨id, tp m⟩])) (S ++ [(⟨id, tp m⟩ : Sl)]).length sv2 T2 := by rw [vS_app, List.length_append]; exact hS2
 refine rV 2 ?_
 refine (pl_put1 M (want_no rfl) rfl 100 _ _ rfl 2 p 1 (by kernel_rfl) 2 102 (ls [.bool true, .slice l S.length k]) rfl (sv2) (ls [.bool true, sv2]) (by kernel_rfl) inz100 (by decide) (slw_one hS2) (slw_cells hS2) (put_ls _ 1 _ _ rfl) ?_)
 intro u8 M
 replace M : Mem ⟨w, (⟨p, .cells (av 2 (ls [.bool true, .slice l S.length k])) 102⟩ :: (Ts ++ Bo)).map Blk.g⟩ (⟨g2, .cells (av 2 (ls [.int .u32 (id : Int), .pointer (some ⟨(tp m), 0, none⟩)])) 113⟩ :: ⟨g1, .cells (av 1 (ls [.int .u32 (id : Int)])) 67⟩ :: ⟨p, .cells (av 2 (ls [.bool true, sv2])) 102⟩ :: (T2 ++ Bo)) u8 := M
 refine pl_nil ?_
 replace M := (M.drop (.cons _ (.cons _ (.cons_cons _ (List.Sublist.refl _)))))
 replace M : Mem ⟨w, (⟨p, .cells (av 2 (ls [.bool true, .slice l S.length k])) 102⟩ :: (Ts ++ Bo)).map Blk.g⟩ (⟨p, .cells (av 2 (ls [.bool true, sv2])) 102⟩ :: (T2 ++ Bo)) u8 := M
 refine au_then <| wp_seq <| sR <| rV 3 <| ZE M 38 0 1 ?_
 refine pH 39 (.int .i64 (((S.length + 1) : Nat) : Int)) (fun w => by rcases hS2.ex with ⟨hn_, rfl, _⟩ | ⟨_, _, _, rfl, _⟩; (rw [hn_]; kernel_rfl); kernel_rfl) ?_
 refine ZF 40 (3 < (((S.length + 1) : Nat) : Int)) <| nT <| cF <| wp_skip <| au_then <| sq <| wp_ret ?_
 exact bodyPost_ret (v := .int .i64 0) (results_tmp1 Tryz.results41 _ _ _ (by kernel_rfl)) (by kernel_rfl) ⟨⟨sv2, T2⟩, rfl, hS3, M.okT0⟩
theorem c_putC {S : List Sl} {l : Option Addr} {p b k N : Nat} {K tp : Nat → Nat} {X : Nat → TS} {Ts Bo : List Blk} (hS : SlW 2 (vS S) S.length (.slice l S.length k) Ts) (hl : 0 < S.length → l = some ⟨b, 0, none⟩) (hc : ∀ w, There w Ts → ∀ j, j < S.length → w.cell? ⟨b, 0 + j * 2 + 0, none⟩ = some (.int .u32 ((sI S j : Nat) : Int)) ∧ w.cell? ⟨b, 0 + j * 2 + 1, none⟩ = some (.pointer (some ⟨sJ S j, 0, none⟩))) (hK : ∀ j, j < S.length → K j < N ∧ sJ S j = tp (K j)) (hBo : Row (rT tp X) N Bo) {id m : Nat} (hm : m < N) (hid : ∀ j, j < S.length → ¬ sI S j = id) (h3 : S.length = 3) (w : World) (hL : Laid w)  (hT : There w (⟨p, .cells (av 2 (ls [.bool true, .slice l S.length k])) 102⟩ :: (Ts ++ Bo))) : Calls Tryz.prog 41 #[.pointer (some ⟨p, 0, none⟩), .int .u32 (id : Int), .pointer (some ⟨(tp m), 0, none⟩)] w fun r w' => ∃ x : Value × List Blk × List Blk, r = .returned (.int .i64 0) ∧ SlW 2 (vS (kp (fun j => decide (sI (S ++ [(⟨id, tp m⟩ : Sl)]) j = sI (S ++ [(⟨id, tp m⟩ : Sl)]) 0)) (S ++ [(⟨id, tp m⟩ : Sl)]) (S ++ [(⟨id, tp m⟩ : Sl)]).length)) (kp (fun j => decide (sI (S ++ [(⟨id, tp m⟩ : Sl)]) j = sI (S ++ [(⟨id, tp m⟩ : Sl)]) 0)) (S ++ [(⟨id, tp m⟩ : Sl)]) (S ++ [(⟨id, tp m⟩ : Sl)]).length).length x.1 x.2.1 ∧ Row (rT tp (xw (fun j => decide (sI (S ++ [(⟨id, tp m⟩ : Sl)]) j = sI (S ++ [(⟨id, tp m⟩ : Sl)]) 0)) (upd K S.length m) X (S ++ [(⟨id, tp m⟩ : Sl)]).length)) N x.2.2 ∧ OkT w w' (⟨p, .cells (av 2 (ls [.bool true, .slice l S.length k])) 102⟩ :: (Ts ++ Bo)) (⟨p, .cells (av 2 (ls [.bool true, x.1])) 102⟩ :: (x.2.1 ++ x.2.2)) := by
 go_enter Tryz.func41, Tryz.ntmps41
 have M : Mem ⟨w, (⟨p, .cells (av 2 (ls [.bool true, .slice l S.length k])) 102⟩ :: (Ts ++ Bo)).map Blk.g⟩ (⟨p, .cells (av 2 (ls [.bool true, .slice l S.length k])) 102⟩ :: (Ts ++ Bo)) w := Mem.startT hL hT
 refine sq <| wp_seq <| wp_block <| sR <| rV 1 <| ZC M 9 (fun w M => c_sthere w M.laid (M.cell 0 rfl (by decide) rfl)) fun u1 M => rV 2 <| nT <| cF <| sR <| rV 1 <| pC M 13 30 #[.pointer (some ⟨(tp m), 0, none⟩)] (.bool true) (fun w M => r_there hBo hm w M.laid (M.thereM (pre := (⟨p, .cells (av 2 (ls [.bool true, .slice l S.length k])) 102⟩ :: Ts)) (T := Bo) (suf := []) (by simp only [List.append_assoc, List.cons_append, List.nil_append, List.append_nil]))) fun u2 M => rV 2 <| nT <| cF <| wp_seq ?_
 refine rg_held M (⟨p, .cells (av 2 (ls [.bool true, .slice l S.length k])) 102⟩ :: (Ts ++ Bo)) 7 rfl (by kernel_rfl) (by kernel_rfl) (fun _ _ d _ _ h => by cases d <;> exact h) fun u3 M => ?_
 replace M : Mem ⟨w, (⟨p, .cells (av 2 (ls [.bool true, .slice l S.length k])) 102⟩ :: (Ts ++ Bo)).map Blk.g⟩ (⟨p, .cells (av 2 (ls [.bool true, .slice l S.length k])) 102⟩ :: (Ts ++ Bo)) u3 := M
 refine qV M 0 16 (.pointer (some ⟨p, 0, none⟩)) <| qV M 1 17 (.pointer (some ⟨p, 0, none⟩)) <| qV M 2 18 (.pointer (some ⟨p, 1, none⟩)) <| hl_cell M 3 rfl (by decide) (by kernel_rfl) (by kernel_rfl) (want_no rfl) (some 19) rfl 100 _ rfl p 1 (by kernel_rfl) (.slice l S.length k) (fun _ => by kernel_rfl) (fun w M => M.cell 0 rfl (by decide) rfl) <| qV M 4 20 (.int .u32 (id : Int)) <| hl_one 5 (by decide) (by kernel_rfl) rfl <| pl_calln M (want_no rfl) (some 21) rfl 58 #[.int .u32 (id : Int)] (fun g1 => .func (.func 74) #[] #[.pointer (some ⟨g1, 0, none⟩)]) (.cells (av 1 (ls [.int .u32 (id : Int)])) 67) (fun _ => by kernel_rfl) (fun w M => c_hasS w M.laid) fun g1 u4 M => ?_
 replace M := M.front
 replace M : Mem ⟨w, (⟨p, .cells (av 2 (ls [.bool true, .slice l S.length k])) 102⟩ :: (Ts ++ Bo)).map Blk.g⟩ (⟨g1, .cells (av 1 (ls [.int .u32 (id : Int)])) 67⟩ :: ⟨p, .cells (av 2 (ls [.bool true, .slice l S.length k])) 102⟩ :: (Ts ++ Bo)) u4 := M
 refine nT ?_
 refine ⟨(M.drop (.cons _ (.cons_cons _ (List.Sublist.refl _)))), ?_⟩
 refine hl_one 6 (by decide) (by kernel_rfl) rfl ?_
 refine pC M 22 62 #[.slice l S.length k, .func (.func 74) #[] #[.pointer (some ⟨g1, 0, none⟩)]] (.bool false) (fun w M => call_val (c_contains (g := (fun j => decide (sI S j = id))) fn74 hl (by omega) w M.laid (fun j hj => (hc w (M.thereM (pre := [⟨g1, .cells (av 1 (ls [.int .u32 (id : Int)])) 67⟩, ⟨p, .cells (av 2 (ls [.bool true, .slice l S.length k])) 102⟩]) (T := Ts) (suf := Bo) (by simp only [List.append_assoc, List.cons_append, List.nil_append, List.append_nil])) j hj).1) (fun j hj => (hc w (M.thereM (pre := [⟨g1, .cells (av 1 (ls [.int .u32 (id : Int)])) 67⟩, ⟨p, .cells (av 2 (ls [.bool true, .slice l S.length k])) 102⟩]) (T := Ts) (suf := Bo) (by simp only [List.append_assoc, List.cons_append, List.nil_append, List.append_nil])) j hj).2) (fun j hj w' hb hL => c_has1 w' hL ((M.keep hb).cell 0 rfl (by decide) rfl))) (by rw [ix_no fun j hj => decide_eq_false (hid j hj)]; rfl)) fun u5 M => ?_
 refine nT ?_
 refine ⟨(M.drop (.cons _ (.cons_cons _ (List.Sublist.refl _)))), ?_⟩
 refine hl_end (by kernel_rfl) (by kernel_rfl) rfl <| rV 1 <| nT <| au_then <| cF <| wp_skip <| au_block <| au_then <| sR <| rV 4 <| ZE M 27 1 1 <| rV 3 <| ZM M 31 (fun g2 => .slice (some ⟨g2, 0, none⟩) 1 1) (.cells (av 2 (ls [.int .u32 (id : Int), .pointer (some ⟨(tp m), 0, none⟩)])) 113) fun g2 u6 M => ?_
 replace M := M.front
 replace M : Mem ⟨w, (⟨p, .cells (av 2 (ls [.bool true, .slice l S.length k])) 102⟩ :: (Ts ++ Bo)).map Blk.g⟩ (⟨g2, .cells (av 2 (ls [.int .u32 (id : Int), .pointer (some ⟨(tp m), 0, none⟩)])) 113⟩ :: ⟨g1, .cells (av 1 (ls [.int .u32 (id : Int)])) 67⟩ :: ⟨p, .cells (av 2 (ls [.bool true, .slice l S.length k])) 102⟩ :: (Ts ++ Bo)) u6 := M
 refine pl_appW M (want_no rfl) (some 32) rfl 100 100 113 2 (.agg #[.int .u32 0, .pointer none]) Tryz.underlying100 infoSl rfl [⟨g2, .cells (av 2 (ls [.int .u32 (id : Int), .pointer (some ⟨(tp m), 0, none⟩)])) 113⟩, ⟨g1, .cells (av 1 (ls [.int .u32 (id : Int)])) 67⟩, ⟨p, .cells (av 2 (ls [.bool true, .slice l S.length k])) 102⟩] Ts Bo (by simp only [List.append_assoc, List.cons_append, List.nil_append, List.append_nil]) (.slice l S.length k) S.length (vS S) hS (by omega) 0 g2 113 (ls [.int .u32 (id : Int), .pointer (some ⟨(tp m), 0, none⟩)]) rfl (one_ls _ rfl) (fun _ => by kernel_rfl) ?_
 intro sv2 T2 u7 hS2 M
 replace M : Mem ⟨w, (⟨p, .cells (av 2 (ls [.bool true, .slice l S.length k])) 102⟩ :: (Ts ++ Bo)).map Blk.g⟩ (⟨g2, .cells (av 2 (ls [.int .u32 (id : Int), .pointer (some ⟨(tp m), 0, none⟩)])) 113⟩ :: ⟨g1, .cells (av 1 (ls [.int .u32 (id : Int)])) 67⟩ :: ⟨p, .cells (av 2 (ls [.bool true, .slice l S.length k])) 102⟩ :: (T2 ++ Bo)) u7 := by simpa only [List.append_assoc, List.cons_append, List.nil_append, List.append_nil] using M
 have hS3 : SlW 2 (vS (S ++ [⟨id, tp m⟩])) (S ++ [(⟨id, tp m⟩ : Sl)]).length sv2 T2 := by rw [vS_app, List.length_append]; exact hS2
 refine rV 2 ?_
 refine (pl_put1 M (want_no rfl) rfl 100 _ _ rfl 2 p 1 (by kernel_rfl) 2 102 (ls [.bool true, .slice l S.length k]) rfl (sv2) (ls [.bool true, sv2]) (by kernel_rfl) inz100 (by decide) (slw_one hS2) (slw_cells hS2) (put_ls _ 1 _ _ rfl) ?_)
 intro u8 M
 replace M : Mem ⟨w, (⟨p, .cells (av 2 (ls [.bool true, .slice l S.length k])) 102⟩ :: (Ts ++ Bo)).map Blk.g⟩ (⟨g2, .cells (av 2 (ls [.int .u32 (id : Int), .pointer (some ⟨(tp m), 0, none⟩)])) 113⟩ :: ⟨g1, .cells (av 1 (ls [.int .u32 (id : Int)])) 67⟩ :: ⟨p, .cells (av 2 (ls [.bool true, sv2])) 102⟩ :: (T2 ++ Bo)) u8 := M
 refine pl_nil ?_
 replace M := (M.drop (.cons _ (.cons _ (.cons_cons _ (List.Sublist.refl _)))))
 obtain ⟨S2, hS2e⟩ : ∃ S2, S2 = S ++ [(⟨id, tp m⟩ : Sl)] := ⟨_, rfl⟩
 have hK2 := hK_next (id := id) hK hm
 rw [← hS2e] at hS3 hK2 ⊢
 have hl4 : S2.length = 4 := by rw [hS2e, List.length_append]; simp; omega
 obtain ⟨l2, b2, k2, rfl, hl2, hc2⟩ := slw_at hS3
 replace M : Mem ⟨w, (⟨p, .cells (av 2 (ls [.bool true, .slice l S.length k])) 102⟩ :: (Ts ++ Bo)).map Blk.g⟩ (⟨p, .cells (av 2 (ls [.bool true, .slice l2 S2.length k2])) 102⟩ :: (T2 ++ Bo)) u8 := M
 refine au_then <| wp_seq <| sR <| rV 3 <| ZE M 38 0 1 <| rV 1 <| ZT 40 (3 < ((S2.length : Nat) : Int)) <| nT <| cT <| rg_lit <| rV 4 <| ZE M 45 0 1 <| pH 46 (.pointer (some ⟨b2, (0 + 0 * 2), none⟩)) (run_ixK 100 113 2 Tryz.underlying100 inz113 _ _ rfl l2 b2 0 S2.length k2 (by kernel_rfl) (hl2 (by omega)) .i64 0 (by kernel_rfl) (by omega)) <| rV 1 <| pE M 48 b2 ((0 + 0 * 2) + 0) (.int .u32 ((sI S2 0 : Nat) : Int)) (fun w M => (hc2 _ (M.thereM (pre := [⟨p, .cells (av 2 (ls [.bool true, .slice l2 S2.length k2])) 102⟩]) (T := T2) (suf := Bo) (by simp only [List.append_assoc, List.cons_append, List.nil_append, List.append_nil])) 0 (by omega)).1) <| pl_calln M (want_no rfl) (some 49) rfl 58 #[.int .u32 ((sI S2 0 : Nat) : Int)] (fun g3 => .func (.func 74) #[] #[.pointer (some ⟨g3, 0, none⟩)]) (.cells (av 1 (ls [.int .u32 ((sI S2 0 : Nat) : Int)])) 67) (fun _ => by kernel_rfl) (fun w M => c_hasS w M.laid) fun g3 u9 M => ?_
 replace M := M.front
 replace M : Mem ⟨w, (⟨p, .cells (av 2 (ls [.bool true, .slice l S.length k])) 102⟩ :: (Ts ++ Bo)).map Blk.g⟩ (⟨g3, .cells (av 1 (ls [.int .u32 ((sI S2 0 : Nat) : Int)])) 67⟩ :: ⟨p, .cells (av 2 (ls [.bool true, .slice l2 S2.length k2])) 102⟩ :: (T2 ++ Bo)) u9 := M
 replace M := M.perm ((List.Perm.swap _ _ _).trans (.cons _ (List.perm_middle (l₁ := T2)).symm))
 replace M : Mem ⟨w, (⟨p, .cells (av 2 (ls [.bool true, .slice l S.length k])) 102⟩ :: (Ts ++ Bo)).map Blk.g⟩ (⟨p, .cells (av 2 (ls [.bool true, .slice l2 S2.length k2])) 102⟩ :: (T2 ++ ([⟨g3, .cells (av 1 (ls [.int .u32 ((sI S2 0 : Nat) : Int)])) 67⟩] ++ Bo))) u9 := by simpa only [List.append_assoc, List.cons_append, List.nil_append, List.append_nil] using M
 refine pl_callM M (want_no rfl) (some 50) rfl 60 #[.pointer (some ⟨p, 0, none⟩), .func (.func 74) #[] #[.pointer (some ⟨g3, 0, none⟩)]] [] (⟨p, .cells (av 2 (ls [.bool true, .slice l2 S2.length k2])) 102⟩ :: (T2 ++ ([⟨g3, .cells (av 1 (ls [.int .u32 ((sI S2 0 : Nat) : Int)])) 67⟩] ++ Bo))) [] (by simp only [List.append_assoc, List.cons_append, List.nil_append, List.append_nil]) (fun x : Value × List Blk × Value × List Blk × List Blk => x.1) (fun x : Value × List Blk × Value × List Blk × List Blk => (⟨p, .cells (av 2 (ls [.bool true, x.2.2.1])) 102⟩ :: (x.2.2.2.1 ++ ([⟨g3, .cells (av 1 (ls [.int .u32 ((sI S2 0 : Nat) : Int)])) 67⟩] ++ (x.2.2.2.2 ++ x.2.1))))) (fun x : Value × List Blk × Value × List Blk × List Blk => (SlW 1 (gL (fun j => decide (sI S2 j = sI S2 0)) (sI S2) S2.length) (gL (fun j => decide (sI S2 j = sI S2 0)) (sI S2) S2.length).length x.1 x.2.1 ∧ SlW 2 (vS (kp (fun j => decide (sI S2 j = sI S2 0)) S2 S2.length)) (kp (fun j => decide (sI S2 j = sI S2 0)) S2 S2.length).length x.2.2.1 x.2.2.2.1 ∧ Row (rT tp (xw (fun j => decide (sI S2 j = sI S2 0)) (upd K S.length m) X S2.length)) N x.2.2.2.2)) (fun _ => by kernel_rfl) (fun w hL hT => (c_drop (g := (fun j => decide (sI S2 j = sI S2 0))) (K := (upd K S.length m)) fn74 hS3 hl2 hc2 (by omega) hK2 hBo (fun i hi j hj B' w' hB' hL' hT' => c_has1 w' hL' (cell_av (hT'.at_ _ List.mem_cons_self) (by decide))) w hL hT).mono fun _ _ ⟨x, he, h1, h2, h3, h4⟩ => ⟨x, he, ⟨h1, h2, h3⟩, h4⟩) ?_
 rintro ⟨so, To, sn, Tn, Bn⟩ u10 ⟨hO, hSn, hBn⟩ M
 replace M : Mem ⟨w, (⟨p, .cells (av 2 (ls [.bool true, .slice l S.length k])) 102⟩ :: (Ts ++ Bo)).map Blk.g⟩ (⟨p, .cells (av 2 (ls [.bool true, sn])) 102⟩ :: (Tn ++ ([⟨g3, .cells (av 1 (ls [.int .u32 ((sI S2 0 : Nat) : Int)])) 67⟩] ++ (Bn ++ To)))) u10 := by simpa only [List.append_assoc, List.cons_append, List.nil_append, List.append_nil] using M
 refine nT <| sq <| wp_ret ?_
 exact bodyPost_ret (v := .int .i64 0) (results_tmp1 Tryz.results41 _ _ _ (by kernel_rfl)) (by kernel_rfl) ⟨⟨sn, Tn, Bn⟩, rfl, hSn, hBn, (M.drop (.cons_cons _ ((List.Sublist.refl Tn).append ((List.sublist_append_left Bn To).trans (List.sublist_append_right ([⟨g3, .cells (av 1 (ls [.int .u32 ((sI S2 0 : Nat) : Int)])) 67⟩] : List Blk) _))))).okT0⟩
open Go.RowKit
section
variable {P : Program} {ops : Array Oper} {rest : List Oper} {o : Oper} {a : Act} {w : World} {c : Ctx} {L : List Blk} {Q : Exit → Act → World → Prop}
theorem pl_gone (M : Mem c L w) (hw : Region.wanted o (yielded ops a.tmps) = true) (hd : o.dst = none) (ty : TypeId) (x y : Operand) (ho : o.op = .store ty x y) (pre B suf : List Blk) (hp : L = pre ++ (B ++ suf)) {dp : Nat → Nat} {Y : Nat → TS} {gn : Nat → Bool} {N k : Nat} (hB : Row (rD dp Y gn) N B) (hk : k < N) (hx : a.eval x = .pointer (some ⟨dp k, 13, none⟩)) (hy : a.eval y = .bool true) (hz : (P.info? ty).map (·.size) = some 1)
  (h : ∀ B' w', Row (rD dp Y (upd gn k true)) N B' → Mem c (pre ++ (B' ++ suf)) w' → PL P ops Q rest a w') : PL P ops Q (o :: rest) a w := by
 subst hp
 obtain ⟨p1, A, s1, rfl, hA, hs⟩ := row_at hB hk
 obtain ⟨sv, Ts, rfl, hS⟩ := IsD.out hA
 have hperm : ∀ b : Blk, (pre ++ ((p1 ++ ((b :: Ts) ++ s1)) ++ suf)).Perm (b :: (pre ++ (p1 ++ (Ts ++ s1) ++ suf))) := fun b => by
  have e : pre ++ ((p1 ++ ((b :: Ts) ++ s1)) ++ suf) = (pre ++ p1) ++ b :: (Ts ++ s1 ++ suf) := by simp
  have e2 : pre ++ (p1 ++ (Ts ++ s1) ++ suf) = (pre ++ p1) ++ (Ts ++ s1 ++ suf) := by simp
  rw [e, e2]
  exact List.perm_middle
 have M1 := M.perm (hperm _)
 refine pl_put1 M1 hw hd ty x y ho 0 (dp k) 13 hx 14 _ _ rfl (.bool true) _ hy hz (by decide) rfl rfl (fun j _ => rfl) fun w' M' => ?_
 refine h _ w' (hs (rD dp Y (upd gn k true)) (⟨dp k, _⟩ :: Ts) (fun i A hi hA => ?_) ?_) (M'.perm (hperm _).symm)
 ·unfold rD
  rw [upd_other gn true hi]
  exact hA
 ·unfold rD
  rw [upd_self]
  refine ⟨sv, Ts, ?_, hS⟩
  congr 2
end
def gw (g : Nat → Bool) (K : Nat → Nat) (gn : Nat → Bool) : Nat → Nat → Bool
 | 0 => gn
 | j + 1 => if g j = true then upd (gw g K gn j) (K j) true else gw g K gn j
theorem gw_yes {g : Nat → Bool} {K : Nat → Nat} {gn : Nat → Bool} {j : Nat} (h : g j = true) : gw g K gn (j + 1) = upd (gw g K gn j) (K j) true := if_pos h
theorem gw_no {g : Nat → Bool} {K : Nat → Nat} {gn : Nat → Bool} {j : Nat} (h : g j = false) : gw g K gn (j + 1) = gw g K gn j := if_neg (by rw [h]; decide)
theorem gw_ov {g : Nat → Bool} {K : Nat → Nat} {Y : Nat → TS} {gn : Nat → Bool} {n : Nat} (hg : ∀ j, g j = (pX (Y (K j)) (gn (K j))).ov n) : ∀ i k, (pX (Y k) (gw g K gn i k)).ov n = (pX (Y k) (gn k)).ov n
 | 0, _ => rfl
 | i + 1, k => by
  cases e : g i with
  | false =>
   rw [gw_no e]
   exact gw_ov hg i k
  | true =>
   rw [gw_yes e]
   by_cases c : k = K i
   ·subst c
    rw [upd_self, ← hg i, e]
    exact ov_wiped rfl
   ·rw [upd_other _ _ c]
    exact gw_ov hg i k
theorem kp_len (g : Nat → Bool) (S : List Sl) : ∀ j, (kp g S j).length ≤ j
 | 0 => Nat.le_refl _
 | j + 1 => by
  have := kp_len g S j
  unfold kp
  split
  ·omega
  ·rw [List.length_append]
   simp
   omega
theorem kp_step {g : Nat → Bool} {S : List Sl} {j : Nat} (h : g j = false) {sv : Value} {T : List Blk} (hS : SlW 2 (vS (kp g S j) ++ [.int .u32 ((sI S j : Nat) : Int), .pointer (some ⟨sJ S j, 0, none⟩)]) ((kp g S j).length + 1) sv T) : SlW 2 (vS (kp g S (j + 1))) (kp g S (j + 1)).length sv T := by
 rw [kp_no h, List.length_append, vS_app]
 exact hS
theorem infoRl : InfoK Tryz.prog 72 2 (.agg #[.int .u32 0, .pointer none]) := infoK (b := 16) (by kernel_rfl) (by kernel_rfl) (by kernel_rfl) (by decide)
theorem perm_ex (T B O S : List Blk) : (T ++ (B ++ (O ++ S))).Perm ((S ++ (B ++ O)) ++ T) :=
 (List.perm_append_comm).trans (List.Perm.append_right T ((List.append_assoc B O S ▸ List.perm_append_comm (l₁ := B ++ O) (l₂ := S))))
theorem c_dTidy {S : List Sl} {l : Option Addr} {p b k N : Nat} {K dp : Nat → Nat} {Y : Nat → TS} {gn : Nat → Bool} {Ts Bo : List Blk} (hl : 0 < S.length → l = some ⟨b, 0, none⟩) (hc : ∀ w, There w Ts → ∀ j, j < S.length → w.cell? ⟨b, 0 + j * 2 + 0, none⟩ = some (.int .u32 ((sI S j : Nat) : Int)) ∧ w.cell? ⟨b, 0 + j * 2 + 1, none⟩ = some (.pointer (some ⟨sJ S j, 0, none⟩))) (hn : S.length < 1000) (hK : ∀ j, j < S.length → K j < N ∧ sJ S j = dp (K j)) (hBo : Row (rD dp Y gn) N Bo) (hk32 : ∀ i, i < N → (Y i).sd.size = 32) {n : Nat} {g : Nat → Bool} (hg : ∀ j, g j = (pX (Y (K j)) (gn (K j))).ov n) (hnw : n < 18446744073709551616) (w : World) (hL : Laid w)  (hT : There w (⟨p, .cells (av 1 (ls [.slice l S.length k])) 61⟩ :: (Ts ++ Bo))) : Calls Tryz.prog 40 #[.pointer (some ⟨p, 0, none⟩), .int .u64 (n : Int)] w fun r w' => ∃ x : Value × List Blk × Value × List Blk × List Blk, r = .returned x.1 ∧ SlW 1 (gL g (sI S) S.length) (gL g (sI S) S.length).length x.1 x.2.1 ∧ SlW 2 (vS (kp g S S.length)) (kp g S S.length).length x.2.2.1 x.2.2.2.1 ∧ Row (rD dp Y (gw g K gn S.length)) N x.2.2.2.2 ∧ OkT w w' (⟨p, .cells (av 1 (ls [.slice l S.length k])) 61⟩ :: (Ts ++ Bo)) (⟨p, .cells (av 1 (ls [x.2.2.1])) 61⟩ :: (x.2.2.2.1 ++ (x.2.2.2.2 ++ x.2.1))) := by
 go_enter Tryz.func40, Tryz.ntmps40
 have M : Mem ⟨w, (⟨p, .cells (av 1 (ls [.slice l S.length k])) 61⟩ :: (Ts ++ Bo)).map Blk.g⟩ (⟨p, .cells (av 1 (ls [.slice l S.length k])) 61⟩ :: (Ts ++ Bo)) w := Mem.startT hL hT
 refine sq <| sq <| sq <| wp_seq <| sq <| wp_block ?_
 refine au_loop (fun j a w' => ∃ (v1 : NV) (so : Value) (To : List Blk) (sl : Value) (Tl B : List Blk), a = (fm ([.pointer (some ⟨p, 0, none⟩), .int .u64 (n : Int), undef, undef, .slice none 0 0, sl, so, .int .i64 (j : Int)] ++ vr v1 8 50 ++ und 5)) ∧ Mem ⟨w, (⟨p, .cells (av 1 (ls [.slice l S.length k])) 61⟩ :: (Ts ++ Bo)).map Blk.g⟩ (⟨p, .cells (av 1 (ls [.slice l S.length k])) 61⟩ :: (Ts ++ (B ++ (To ++ Tl)))) w' ∧ (SlW 1 (gL g (sI S) j) (gL g (sI S) j).length so To) ∧ (SlW 2 (vS (kp g S j)) (kp g S j).length sl Tl) ∧ (Row (rD dp Y (gw g K gn j)) N B)) S.length ⟨fun k_ => ([undef, undef, undef, undef, undef, undef, undef, undef, undef, undef, undef, undef, undef, undef, undef, undef, undef, undef, undef, undef, undef, undef, undef, undef, undef, undef, undef, undef, undef, undef, undef, undef, undef, undef, undef, undef, undef, undef, undef, undef, undef, undef, undef, undef, undef, undef, undef, undef, undef, undef] : List Value).getD (k_ - 8) undef, .slice none 0 0, [], .slice none 0 0, [], Bo, by kernel_rfl, by simpa only [List.append_assoc, List.cons_append, List.nil_append, List.append_nil] using M, slw_nil 1, slw_nil 2, hBo⟩ ?_ ?_
 ·intro j a u0 hj hI
  obtain ⟨v1, so, To, sl, Tl, B, rfl, M, hO, hSl, hB⟩ := hI
  have hgl := gL_len g (sI S) j
  have hkl := kp_len g S j
  refine wp_seq <| sR <| rV 4 <| ZE M 12 0 0 <| rV 1 <| ZT 14 ((j : Int) < ((S.length : Nat) : Int)) <| nT <| cT <| wp_skip <| au_then <| wp_seq <| wp_block <| sR <| rV 3 <| ZE M 20 0 0 <| rV 1 ?_
  refine pH 22 (.pointer (some ⟨b, (0 + j * 2), none⟩)) (run_ixK 59 72 2 Tryz.underlying59 inz72 _ _ rfl l b 0 S.length k (by kernel_rfl) (hl (by omega)) .i64 j (by kernel_rfl) (by omega)) <| rV 1 <| pE M 24 b ((0 + j * 2) + 1) (.pointer (some ⟨(sJ S j), 0, none⟩)) (fun w M => (hc _ (M.thereM (pre := [⟨p, .cells (av 1 (ls [.slice l S.length k])) 61⟩]) (T := Ts) (suf := (B ++ (To ++ Tl))) (by simp only [List.append_assoc, List.cons_append, List.nil_append, List.append_nil])) j hj).2) <| rV 1 ?_
  rcases Bool.eq_false_or_eq_true (g j) with c0 | c0
  ·refine pC M 26 11 #[.pointer (some ⟨(sJ S j), 0, none⟩), .int .u64 (n : Int)] (.bool true) (fun w M => call_val (v := .bool ((pX (Y (K j)) (gw g K gn j (K j))).ov n)) (by rw [(hK j hj).2]; exact q_Over hB (hK j hj).1 (hk32 _ (hK j hj).1) hnw w M.laid (M.thereM (pre := (⟨p, .cells (av 1 (ls [.slice l S.length k])) 61⟩ :: Ts)) (T := B) (suf := (To ++ Tl)) (by simp only [List.append_assoc, List.cons_append, List.nil_append, List.append_nil]))) (by rw [gw_ov hg, ← hg, c0])) fun u1 M => ?_
   refine nT <| cT <| sR <| rV 3 <| ZE M 30 0 0 <| rV 1 <| pH 32 (.pointer (some ⟨b, (0 + j * 2), none⟩)) (run_ixK 59 72 2 Tryz.underlying59 inz72 _ _ rfl l b 0 S.length k (by kernel_rfl) (hl (by omega)) .i64 j (by kernel_rfl) (by omega)) <| rV 1 <| pE M 34 b ((0 + j * 2) + 1) (.pointer (some ⟨(sJ S j), 0, none⟩)) (fun w M => (hc _ (M.thereM (pre := [⟨p, .cells (av 1 (ls [.slice l S.length k])) 61⟩]) (T := Ts) (suf := (B ++ (To ++ Tl))) (by simp only [List.append_assoc, List.cons_append, List.nil_append, List.append_nil])) j hj).2) <| rV 2 ?_
   refine pl_gone M (want_no rfl) rfl 4 _ _ rfl (⟨p, .cells (av 1 (ls [.slice l S.length k])) 61⟩ :: Ts) B (To ++ Tl) (by simp only [List.append_assoc, List.cons_append, List.nil_append, List.append_nil]) hB (hK j hj).1 (by rw [← (hK j hj).2]; kernel_rfl) (by kernel_rfl) inz4 ?_
   intro B2 u2 hB2 M
   replace M : Mem ⟨w, (⟨p, .cells (av 1 (ls [.slice l S.length k])) 61⟩ :: (Ts ++ Bo)).map Blk.g⟩ (⟨p, .cells (av 1 (ls [.slice l S.length k])) 61⟩ :: (Ts ++ (B2 ++ (To ++ Tl)))) u2 := by simpa only [List.append_assoc, List.cons_append, List.nil_append, List.append_nil] using M
   refine nT <| rg_lit <| rV 4 <| ZE M 41 0 0 <| rV 1 <| pH 43 (.pointer (some ⟨b, (0 + j * 2), none⟩)) (run_ixK 59 72 2 Tryz.underlying59 inz72 _ _ rfl l b 0 S.length k (by kernel_rfl) (hl (by omega)) .i64 j (by kernel_rfl) (by omega)) <| rV 1 <| pE M 45 b ((0 + j * 2) + 0) (.int .u32 ((sI S j : Nat) : Int)) (fun w M => (hc _ (M.thereM (pre := [⟨p, .cells (av 1 (ls [.slice l S.length k])) 61⟩]) (T := Ts) (suf := (B2 ++ (To ++ Tl))) (by simp only [List.append_assoc, List.cons_append, List.nil_append, List.append_nil])) j hj).1) <| ZM M 46 (fun g1 => .slice (some ⟨g1, 0, none⟩) 1 1) (.cells (av 1 (ls [.int .u32 ((sI S j : Nat) : Int)])) 67) fun g1 u3 M => ?_
   replace M := M.front
   replace M : Mem ⟨w, (⟨p, .cells (av 1 (ls [.slice l S.length k])) 61⟩ :: (Ts ++ Bo)).map Blk.g⟩ (⟨g1, .cells (av 1 (ls [.int .u32 ((sI S j : Nat) : Int)])) 67⟩ :: ⟨p, .cells (av 1 (ls [.slice l S.length k])) 61⟩ :: (Ts ++ (B2 ++ (To ++ Tl)))) u3 := M
   refine pl_appW M (want_no rfl) (some 47) rfl 70 70 67 1 (.int .u32 0) Tryz.underlying70 info32 rfl (⟨g1, .cells (av 1 (ls [.int .u32 ((sI S j : Nat) : Int)])) 67⟩ :: ⟨p, .cells (av 1 (ls [.slice l S.length k])) 61⟩ :: (Ts ++ B2)) To Tl (by simp only [List.append_assoc, List.cons_append, List.nil_append, List.append_nil]) so ((gL g (sI S) j).length) (gL g (sI S) j) hO (by omega) 0 g1 67 (ls [.int .u32 ((sI S j : Nat) : Int)]) rfl (one_ls _ rfl) (fun _ => by kernel_rfl) ?_
   intro so2 To2 u4 hO2 M
   replace M : Mem ⟨w, (⟨p, .cells (av 1 (ls [.slice l S.length k])) 61⟩ :: (Ts ++ Bo)).map Blk.g⟩ (⟨g1, .cells (av 1 (ls [.int .u32 ((sI S j : Nat) : Int)])) 67⟩ :: ⟨p, .cells (av 1 (ls [.slice l S.length k])) 61⟩ :: (Ts ++ (B2 ++ (To2 ++ Tl)))) u4 := by simpa only [List.append_assoc, List.cons_append, List.nil_append, List.append_nil] using M
   refine rV 1 <| pl_nil <| au_block <| au_then <| rg_lit <| rV 1 ?_
   refine pH 16 (.int .i64 ((j + 1 : Nat) : Int)) (fun w => Eq.trans (b := .ok (.value (.int .i64 (IntKind.wrap .i64 ((j : Int) + 1)))) w) (by kernel_rfl) (by rw [wrap64 (by omega) (by omega)]; rfl)) ?_
   refine rV 1 <| nT ?_
   exact ⟨fun k_ => ([.int .i64 (j : Int), .pointer (some ⟨p, 0, none⟩), .pointer (some ⟨p, 0, none⟩), .pointer (some ⟨p, 0, none⟩), .slice l S.length k, .int .i64 ((S.length : Nat) : Int), .bool true, .int .i64 (j : Int), .int .i64 ((j + 1 : Nat) : Int), .pointer (some ⟨p, 0, none⟩), .pointer (some ⟨p, 0, none⟩), .pointer (some ⟨p, 0, none⟩), .slice l S.length k, .int .i64 (j : Int), .pointer (some ⟨b, (0 + j * 2), none⟩), .pointer (some ⟨b, ((0 + j * 2) + 1), none⟩), .pointer (some ⟨(sJ S j), 0, none⟩), .int .u64 (n : Int), .bool true, .pointer (some ⟨p, 0, none⟩), .pointer (some ⟨p, 0, none⟩), .pointer (some ⟨p, 0, none⟩), .slice l S.length k, .int .i64 (j : Int), .pointer (some ⟨b, (0 + j * 2), none⟩), .pointer (some ⟨b, ((0 + j * 2) + 1), none⟩), .pointer (some ⟨(sJ S j), 0, none⟩), .pointer (some ⟨(sJ S j), 0, none⟩), .pointer (some ⟨(sJ S j), 13, none⟩), so, .pointer (some ⟨p, 0, none⟩), .pointer (some ⟨p, 0, none⟩), .pointer (some ⟨p, 0, none⟩), .slice l S.length k, .int .i64 (j : Int), .pointer (some ⟨b, (0 + j * 2), none⟩), .pointer (some ⟨b, ((0 + j * 2) + 0), none⟩), .int .u32 ((sI S j : Nat) : Int), .slice (some ⟨g1, 0, none⟩) 1 1, so2, v1 48, v1 49, v1 50, v1 51, v1 52, v1 53, v1 54, v1 55, v1 56, v1 57] : List Value).getD (k_ - 8) undef, so2, To2, sl, Tl, B2, by kernel_rfl, (M.drop (.cons _ (.cons_cons _ (List.Sublist.refl _)))), gL_step c0 hO2, by rw [kp_yes c0]; exact hSl, by rw [gw_yes c0]; exact hB2⟩
  ·refine pC M 26 11 #[.pointer (some ⟨(sJ S j), 0, none⟩), .int .u64 (n : Int)] (.bool false) (fun w M => call_val (v := .bool ((pX (Y (K j)) (gw g K gn j (K j))).ov n)) (by rw [(hK j hj).2]; exact q_Over hB (hK j hj).1 (hk32 _ (hK j hj).1) hnw w M.laid (M.thereM (pre := (⟨p, .cells (av 1 (ls [.slice l S.length k])) 61⟩ :: Ts)) (T := B) (suf := (To ++ Tl)) (by simp only [List.append_assoc, List.cons_append, List.nil_append, List.append_nil]))) (by rw [gw_ov hg, ← hg, c0])) fun u1 M => ?_
   refine nT <| cF <| rg_lit <| rV 4 <| ZE M 52 0 0 <| rV 1 <| pH 54 (.pointer (some ⟨b, (0 + j * 2), none⟩)) (run_ixK 59 72 2 Tryz.underlying59 inz72 _ _ rfl l b 0 S.length k (by kernel_rfl) (hl (by omega)) .i64 j (by kernel_rfl) (by omega)) ?_
   refine pl_loadO M (want_no rfl) (some 55) rfl 72 _ rfl b (0 + j * 2) (by kernel_rfl) 2 (ls [.int .u32 ((sI S j : Nat) : Int), .pointer (some ⟨(sJ S j), 0, none⟩)]) (fun w M k9 hk9 => ?_) _ Tryz.underlying72 rfl inz72 ?_
   ·match k9, hk9 with
    | 0, _ => exact (hc w (M.thereM (pre := [⟨p, .cells (av 1 (ls [.slice l S.length k])) 61⟩]) (T := Ts) (suf := (B ++ (To ++ Tl))) (by simp only [List.append_assoc, List.cons_append, List.nil_append, List.append_nil])) j hj).1
    | 1, _ => exact (hc w (M.thereM (pre := [⟨p, .cells (av 1 (ls [.slice l S.length k])) 61⟩]) (T := Ts) (suf := (B ++ (To ++ Tl))) (by simp only [List.append_assoc, List.cons_append, List.nil_append, List.append_nil])) j hj).2
   refine ZM M 56 (fun g1 => .slice (some ⟨g1, 0, none⟩) 1 1) (.cells (av 2 (ls [.int .u32 ((sI S j : Nat) : Int), .pointer (some ⟨(sJ S j), 0, none⟩)])) 72) fun g1 u2 M => ?_
   replace M := M.front
   replace M : Mem ⟨w, (⟨p, .cells (av 1 (ls [.slice l S.length k])) 61⟩ :: (Ts ++ Bo)).map Blk.g⟩ (⟨g1, .cells (av 2 (ls [.int .u32 ((sI S j : Nat) : Int), .pointer (some ⟨(sJ S j), 0, none⟩)])) 72⟩ :: ⟨p, .cells (av 1 (ls [.slice l S.length k])) 61⟩ :: (Ts ++ (B ++ (To ++ Tl)))) u2 := M
   refine pl_appW M (want_no rfl) (some 57) rfl 59 59 72 2 (.agg #[.int .u32 0, .pointer none]) Tryz.underlying59 infoRl rfl (⟨g1, .cells (av 2 (ls [.int .u32 ((sI S j : Nat) : Int), .pointer (some ⟨(sJ S j), 0, none⟩)])) 72⟩ :: ⟨p, .cells (av 1 (ls [.slice l S.length k])) 61⟩ :: (Ts ++ (B ++ To))) Tl [] (by simp only [List.append_assoc, List.cons_append, List.nil_append, List.append_nil]) sl ((kp g S j).length) (vS (kp g S j)) hSl (by omega) 0 g1 72 (ls [.int .u32 ((sI S j : Nat) : Int), .pointer (some ⟨(sJ S j), 0, none⟩)]) rfl (one_ls _ rfl) (fun _ => by kernel_rfl) ?_
   intro sl2 Tl2 u3 hSl2 M
   replace M : Mem ⟨w, (⟨p, .cells (av 1 (ls [.slice l S.length k])) 61⟩ :: (Ts ++ Bo)).map Blk.g⟩ (⟨g1, .cells (av 2 (ls [.int .u32 ((sI S j : Nat) : Int), .pointer (some ⟨(sJ S j), 0, none⟩)])) 72⟩ :: ⟨p, .cells (av 1 (ls [.slice l S.length k])) 61⟩ :: (Ts ++ (B ++ (To ++ Tl2)))) u3 := by simpa only [List.append_assoc, List.cons_append, List.nil_append, List.append_nil] using M
   refine rV 1 <| pl_nil <| au_block <| au_then <| rg_lit <| rV 1 ?_
   refine pH 16 (.int .i64 ((j + 1 : Nat) : Int)) (fun w => Eq.trans (b := .ok (.value (.int .i64 (IntKind.wrap .i64 ((j : Int) + 1)))) w) (by kernel_rfl) (by rw [wrap64 (by omega) (by omega)]; rfl)) ?_
   refine rV 1 <| nT ?_
   exact ⟨fun k_ => ([.int .i64 (j : Int), .pointer (some ⟨p, 0, none⟩), .pointer (some ⟨p, 0, none⟩), .pointer (some ⟨p, 0, none⟩), .slice l S.length k, .int .i64 ((S.length : Nat) : Int), .bool true, .int .i64 (j : Int), .int .i64 ((j + 1 : Nat) : Int), .pointer (some ⟨p, 0, none⟩), .pointer (some ⟨p, 0, none⟩), .pointer (some ⟨p, 0, none⟩), .slice l S.length k, .int .i64 (j : Int), .pointer (some ⟨b, (0 + j * 2), none⟩), .pointer (some ⟨b, ((0 + j * 2) + 1), none⟩), .pointer (some ⟨(sJ S j), 0, none⟩), .int .u64 (n : Int), .bool false, v1 27, v1 28, v1 29, v1 30, v1 31, v1 32, v1 33, v1 34, v1 35, v1 36, v1 37, v1 38, v1 39, v1 40, v1 41, v1 42, v1 43, v1 44, v1 45, v1 46, v1 47, sl, .pointer (some ⟨p, 0, none⟩), .pointer (some ⟨p, 0, none⟩), .pointer (some ⟨p, 0, none⟩), .slice l S.length k, .int .i64 (j : Int), .pointer (some ⟨b, (0 + j * 2), none⟩), .agg (av 2 (ls [.int .u32 ((sI S j : Nat) : Int), .pointer (some ⟨(sJ S j), 0, none⟩)])), .slice (some ⟨g1, 0, none⟩) 1 1, sl2] : List Value).getD (k_ - 8) undef, so, To, sl2, Tl2, B, by kernel_rfl, (M.drop (.cons _ (.cons_cons _ (List.Sublist.refl _)))), by rw [gL_no c0]; exact hO, kp_step c0 hSl2, by rw [gw_no c0]; exact hB⟩
 ·intro a u0 hI
  obtain ⟨v1, so, To, sl, Tl, B, rfl, M, hO, hSl, hB⟩ := hI
  refine wp_seq <| sR <| rV 4 <| ZE M 12 0 0 <| rV 1 <| ZF 14 (((S.length : Nat) : Int) < ((S.length : Nat) : Int)) <| nT <| cF <| wp_exit <| au_then_exit <| au_then_exit <| au_block_exit <| au_then <| sR <| rV 4 ?_
  refine (pl_put1 M (want_no rfl) rfl 59 _ _ rfl 0 p 0 (by kernel_rfl) 1 61 (ls [.slice l S.length k]) rfl (sl) (ls [sl]) (by kernel_rfl) inz59 (by decide) (slw_one hSl) (slw_cells hSl) (put_ls _ 0 _ _ rfl) ?_)
  intro u1 M
  replace M : Mem ⟨w, (⟨p, .cells (av 1 (ls [.slice l S.length k])) 61⟩ :: (Ts ++ Bo)).map Blk.g⟩ (⟨p, .cells (av 1 (ls [sl])) 61⟩ :: (Ts ++ (B ++ (To ++ Tl)))) u1 := M
  refine nT <| sq <| wp_ret ?_
  exact bodyPost_ret (v := so) (results_tmp1 Tryz.results40 _ _ _ (by kernel_rfl)) (by kernel_rfl) ⟨⟨so, To, sl, Tl, B⟩, rfl, hO, hSl, hB, (M.perm (.cons _ (perm_ex Ts B To Tl))).drop (List.sublist_append_left _ Ts |>.cons_cons _) |>.okT0⟩
open Go.RowKit
section
variable {P : Program} {ops : Array Oper} {rest : List Oper} {o : Oper} {a : Act} {w : World} {c : Ctx} {L : List Blk} {Q : Exit → Act → World → Prop}
theorem pl_appE (M : Mem c L w) (hw : Region.wanted o (yielded ops a.tmps) = true) (d : Option Tmp) (hd : o.dst = d) (t ty e : TypeId) (K : Nat) (zv : Value) (ht : P.underlying t = some (.slice e)) (hin : InfoK P e K zv) (hzc : zv.cells.size = K) (g0 j b : Nat) (Z : Obj) (cap : Nat) (l : List Value) (hj : L[j]? = some ⟨b, Z⟩) (hs : SB Z cap l) (off m cp : Nat) (hm : 0 < m) (hle : m < 1000) (hnl : (l.drop off).length = m * K) (hone : ∀ u ∈ l.drop off, u.oneCell' = true)
  (hrun : ∀ w, (execOp a.eval o).run P w = (do pure (Next.value (← Builtin.append_ #[t, t] ty #[.slice (some ⟨g0, 0, none⟩) 0 0, .slice (some ⟨b, off, none⟩) m cp]))).run P w)
  (h : ∀ g' Z' sv' w', SlW K (l.drop off) m sv' [⟨g', Z'⟩] → Mem c (L ++ [⟨g', Z'⟩]) w' → PL P ops Q rest (a.put d sv') w') : PL P ops Q (o :: rest) a w := by
 obtain ⟨info, i1, i2, i3, i4⟩ := hin
 subst i3
 have hR := M.get j hj
 have hnews : ∀ k u, (l.drop off)[k]? = some u → w.cell? ((⟨b, off, none⟩ : Addr).add k) = some u := fun k u hu => by
  rw [add_at]
  rw [List.getElem?_drop] at hu
  exact hs.cell hR hu
 have hsrc : Src P info.size t (.slice (some ⟨b, off, none⟩) m cp) m (l.drop off) w := Src.ofSlice w ht ⟨b, off, none⟩ m cp _ hnl hnews hone
 have hr := run_append_grow_src (P := P) w t t ty e info zv ht i1 i2 (some ⟨g0, 0, none⟩) 0 0 [] (run_firstCells_some w.drew info.size 0 ⟨g0, 0, none⟩ 0 0 [] (by simp) (fun k u hu => by cases hu)) (.slice (some ⟨b, off, none⟩) m cp) m _ hsrc (by omega) (by omega) (growslice_fits (by omega) (by
   have := Nat.mul_le_mul (show 0 + m ≤ 1000 by omega) i4
   omega))
 rw [Nat.zero_add] at hr
 have hge := grownCap_ge w m 0 e
 generalize grownCap w m 0 e = nc at hr hge
 have hr2 : (execOp a.eval o).run P w = .ok (.value (.slice (some ⟨w.heap.size, 0, none⟩) m nc)) (w.drew.alloc (.cells (([] ++ l.drop off).toArray ++ Builtin.zeroCells zv.cells (nc - m)) e)) := by
  rw [hrun]
  simp only [Sem.run_bind, hr, Result.andThen_ok, Sem.run_pure]
 rw [List.nil_append] at hr2
 obtain ⟨q, rfl⟩ : ∃ q, nc = m + q := ⟨nc - m, by omega⟩
 have hsz : ((l.drop off).toArray ++ Builtin.zeroCells zv.cells (m + q - m)).size = (m + q) * info.size := by
  rw [Array.size_append, List.size_toArray, hnl, size_zeroCells, hzc, Nat.add_sub_cancel_left, ← Nat.add_mul]
 have hcm : m * info.size ≤ (m + q) * info.size := Nat.mul_le_mul_right _ (by omega)
 refine pl_to hw d hd _ _ hr2 (h w.heap.size _ _ _ ⟨hnl, .inr ⟨w.heap.size, m + q, _, rfl, by omega, ⟨_, e, (0, 0), rfl, by rw [hnl]; exact hcm, by rw [hsz]; exact Nat.le_refl _, fun k hk => ?_, fun k _ => by simp⟩, rfl⟩⟩ (M.drew.new _ _ (new_below w.drew _) (heap_alloc_new w.drew _) (Nat.le_refl _)))
 rw [Array.getElem?_append_left (by simpa using hk)]
 simp
end
theorem vS_one : ∀ (S : List Sl) (i : Nat), ∀ u ∈ (vS S).drop i, u.oneCell' = true := fun S i u hu => by
 have h : ∀ S : List Sl, ∀ u ∈ vS S, u.oneCell' = true := fun S => by
  induction S with
  | nil => exact fun u h => by cases h
  | cons s S ih =>
   intro u h
   rcases List.mem_cons.1 h with rfl | h
   ·rfl
   ·rcases List.mem_cons.1 h with rfl | h
    ·rfl
    ·exact ih u h
 exact h S u (List.mem_of_mem_drop hu)
theorem c_dputA {p id i t : Nat} {l : Option Addr} {b o1 n k : Nat} {I : Nat → Nat} (hl : 0 < n → l = some ⟨b, o1, none⟩) (hn : n < 1000000) (hi : i < n) (h1 : I i = id) (h0 : ∀ j, j < i → ¬ I j = id) (w : World) (hL : Laid w) (hs : w.cell? ⟨p, 0, none⟩ = some (.slice l n k)) (hI : ∀ j, j < n → w.cell? ⟨b, o1 + j * 2 + 0, none⟩ = some (.int .u32 ((I j : Nat) : Int))) : Cs 42 #[.pointer (some ⟨p, 0, none⟩), .int .u32 (id : Int), .pointer (some ⟨t, 0, none⟩)] w (.int .i64 9) := by
 go_enter Tryz.func42, Tryz.ntmps42
 have M := Mem.start hL
 refine sq <| wp_seq <| sR <| rV 2 <| pC M 9 34 #[.pointer (some ⟨p, 0, none⟩), .int .u32 (id : Int)] (.int .i64 (i : Int)) (fun w M => call_val (c_find hl hn w M.laid (M.oldc hs (by simp)) (fun j hj => M.oldc (hI j hj) (by simp))) (by rw [ix_at hi (decide_eq_true h1) fun j hj => decide_eq_false (h0 j hj)])) fun u1 M => ?_
 by_cases c0 : (i : Int) < 0
 ·exfalso; omega
 ·refine ZT 10 (0 ≤ (i : Int)) <| nT <| cT <| sq <| wp_ret <| au_then_ret ?_
  exact b1 M
theorem c_dputB {S : List Sl} {l : Option Addr} {p b k : Nat} {dp : Nat → Nat} {Ts Bo : List Blk} (hS : SlW 2 (vS S) S.length (.slice l S.length k) Ts) (hl : 0 < S.length → l = some ⟨b, 0, none⟩) (hc : ∀ w, There w Ts → ∀ j, j < S.length → w.cell? ⟨b, 0 + j * 2 + 0, none⟩ = some (.int .u32 ((sI S j : Nat) : Int)) ∧ w.cell? ⟨b, 0 + j * 2 + 1, none⟩ = some (.pointer (some ⟨sJ S j, 0, none⟩))) {id m : Nat} (hid : ∀ j, j < S.length → ¬ sI S j = id) (h3 : S.length < 3) (w : World) (hL : Laid w)  (hT : There w (⟨p, .cells (av 1 (ls [.slice l S.length k])) 61⟩ :: (Ts ++ Bo))) : Calls Tryz.prog 42 #[.pointer (some ⟨p, 0, none⟩), .int .u32 (id : Int), .pointer (some ⟨(dp m), 0, none⟩)] w fun r w' => ∃ x : Value × List Blk, r = .returned (.int .i64 0) ∧ SlW 2 (vS (S ++ [⟨id, dp m⟩])) (S ++ [(⟨id, dp m⟩ : Sl)]).length x.1 x.2 ∧ OkT w w' (⟨p, .cells (av 1 (ls [.slice l S.length k])) 61⟩ :: (Ts ++ Bo)) (⟨p, .cells (av 1 (ls [x.1])) 61⟩ :: (x.2 ++ Bo)) := by
 go_enter Tryz.func42, Tryz.ntmps42
 have M : Mem ⟨w, (⟨p, .cells (av 1 (ls [.slice l S.length k])) 61⟩ :: (Ts ++ Bo)).map Blk.g⟩ (⟨p, .cells (av 1 (ls [.slice l S.length k])) 61⟩ :: (Ts ++ Bo)) w := Mem.startT hL hT
 refine sq <| wp_seq <| sR <| rV 2 <| pC M 9 34 #[.pointer (some ⟨p, 0, none⟩), .int .u32 (id : Int)] (.int .i64 (-1)) (fun w M => call_val (c_find (I := sI S) hl (by omega) w M.laid (M.cell 0 rfl (by decide) rfl) (fun j hj => (hc w (M.thereM (pre := [⟨p, .cells (av 1 (ls [.slice l S.length k])) 61⟩]) (T := Ts) (suf := Bo) (by simp only [List.append_assoc, List.cons_append, List.nil_append, List.append_nil])) j hj).1)) (by rw [ix_no fun j hj => decide_eq_false (hid j hj)])) fun u1 M => rV 1 <| nT <| cF <| wp_skip <| au_then <| sR <| rV 4 <| ZE M 15 0 0 <| rV 3 <| ZM M 19 (fun g1 => .slice (some ⟨g1, 0, none⟩) 1 1) (.cells (av 2 (ls [.int .u32 (id : Int), .pointer (some ⟨(dp m), 0, none⟩)])) 72) fun g1 u2 M => ?_
 replace M := M.front
 replace M : Mem ⟨w, (⟨p, .cells (av 1 (ls [.slice l S.length k])) 61⟩ :: (Ts ++ Bo)).map Blk.g⟩ (⟨g1, .cells (av 2 (ls [.int .u32 (id : Int), .pointer (some ⟨(dp m), 0, none⟩)])) 72⟩ :: ⟨p, .cells (av 1 (ls [.slice l S.length k])) 61⟩ :: (Ts ++ Bo)) u2 := M
 refine pl_appW M (want_no rfl) (some 20) rfl 59 59 72 2 (.agg #[.int .u32 0, .pointer none]) Tryz.underlying59 infoRl rfl [⟨g1, .cells (av 2 (ls [.int .u32 (id : Int), .pointer (some ⟨(dp m), 0, none⟩)])) 72⟩, ⟨p, .cells (av 1 (ls [.slice l S.length k])) 61⟩] Ts Bo (by simp only [List.append_assoc, List.cons_append, List.nil_append, List.append_nil]) (.slice l S.length k) S.length (vS S) hS (by omega) 0 g1 72 (ls [.int .u32 (id : Int), .pointer (some ⟨(dp m), 0, none⟩)]) rfl (one_ls _ rfl) (fun _ => by kernel_rfl) ?_
 intro sv2 T2 u3 hS2 M
 replace M : Mem ⟨w, (⟨p, .cells (av 1 (ls [.slice l S.length k])) 61⟩ :: (Ts ++ Bo)).map Blk.g⟩ (⟨g1, .cells (av 2 (ls [.int .u32 (id : Int), .pointer (some ⟨(dp m), 0, none⟩)])) 72⟩ :: ⟨p, .cells (av 1 (ls [.slice l S.length k])) 61⟩ :: (T2 ++ Bo)) u3 := by simpa only [List.append_assoc, List.cons_append, List.nil_append, List.append_nil] using M
 have hS3 : SlW 2 (vS (S ++ [⟨id, dp m⟩])) (S ++ [(⟨id, dp m⟩ : Sl)]).length sv2 T2 := by rw [vS_app, List.length_append]; exact hS2
 refine rV 2 ?_
 refine (pl_put1 M (want_no rfl) rfl 59 _ _ rfl 1 p 0 (by kernel_rfl) 1 61 (ls [.slice l S.length k]) rfl (sv2) (ls [sv2]) (by kernel_rfl) inz59 (by decide) (slw_one hS2) (slw_cells hS2) (put_ls _ 0 _ _ rfl) ?_)
 intro u4 M
 replace M : Mem ⟨w, (⟨p, .cells (av 1 (ls [.slice l S.length k])) 61⟩ :: (Ts ++ Bo)).map Blk.g⟩ (⟨g1, .cells (av 2 (ls [.int .u32 (id : Int), .pointer (some ⟨(dp m), 0, none⟩)])) 72⟩ :: ⟨p, .cells (av 1 (ls [sv2])) 61⟩ :: (T2 ++ Bo)) u4 := M
 refine pl_nil ?_
 replace M := (M.drop (.cons _ (.cons_cons _ (List.Sublist.refl _))))
 replace M : Mem ⟨w, (⟨p, .cells (av 1 (ls [.slice l S.length k])) 61⟩ :: (Ts ++ Bo)).map Blk.g⟩ (⟨p, .cells (av 1 (ls [sv2])) 61⟩ :: (T2 ++ Bo)) u4 := M
 refine au_then <| wp_seq <| sR <| rV 3 <| ZE M 26 0 0 ?_
 refine pH 27 (.int .i64 (((S.length + 1) : Nat) : Int)) (fun w => by rcases hS2.ex with ⟨hn_, rfl, _⟩ | ⟨_, _, _, rfl, _⟩; (rw [hn_]; kernel_rfl); kernel_rfl) ?_
 refine ZF 28 (3 < (((S.length + 1) : Nat) : Int)) <| nT <| cF <| wp_skip <| au_then <| sq <| wp_ret ?_
 exact bodyPost_ret (v := .int .i64 0) (results_tmp1 Tryz.results42 _ _ _ (by kernel_rfl)) (by kernel_rfl) ⟨⟨sv2, T2⟩, rfl, hS3, M.okT0⟩
theorem c_dputC {S : List Sl} {l : Option Addr} {p b k N : Nat} {K dp : Nat → Nat} {Y : Nat → TS} {gn : Nat → Bool} {Ts Bo : List Blk} (hS : SlW 2 (vS S) S.length (.slice l S.length k) Ts) (hl : 0 < S.length → l = some ⟨b, 0, none⟩) (hc : ∀ w, There w Ts → ∀ j, j < S.length → w.cell? ⟨b, 0 + j * 2 + 0, none⟩ = some (.int .u32 ((sI S j : Nat) : Int)) ∧ w.cell? ⟨b, 0 + j * 2 + 1, none⟩ = some (.pointer (some ⟨sJ S j, 0, none⟩))) (hK : ∀ j, j < S.length → K j < N ∧ sJ S j = dp (K j)) (hBo : Row (rD dp Y gn) N Bo) {id m : Nat} (hm : m < N) (hid : ∀ j, j < S.length → ¬ sI S j = id) (h3 : S.length = 3) (w : World) (hL : Laid w)  (hT : There w (⟨p, .cells (av 1 (ls [.slice l S.length k])) 61⟩ :: (Ts ++ Bo))) : Calls Tryz.prog 42 #[.pointer (some ⟨p, 0, none⟩), .int .u32 (id : Int), .pointer (some ⟨(dp m), 0, none⟩)] w fun r w' => ∃ x : Value × List Blk × List Blk, r = .returned (.int .i64 0) ∧ SlW 2 (vS ((S ++ [(⟨id, dp m⟩ : Sl)]).drop 1)) ((S ++ [(⟨id, dp m⟩ : Sl)]).drop 1).length x.1 x.2.1 ∧ Row (rD dp Y (upd gn (upd K S.length m 0) true)) N x.2.2 ∧ OkT w w' (⟨p, .cells (av 1 (ls [.slice l S.length k])) 61⟩ :: (Ts ++ Bo)) (⟨p, .cells (av 1 (ls [x.1])) 61⟩ :: (x.2.1 ++ x.2.2)) := by
 go_enter Tryz.func42, Tryz.ntmps42
 have M : Mem ⟨w, (⟨p, .cells (av 1 (ls [.slice l S.length k])) 61⟩ :: (Ts ++ Bo)).map Blk.g⟩ (⟨p, .cells (av 1 (ls [.slice l S.length k])) 61⟩ :: (Ts ++ Bo)) w := Mem.startT hL hT
 refine sq <| wp_seq <| sR <| rV 2 <| pC M 9 34 #[.pointer (some ⟨p, 0, none⟩), .int .u32 (id : Int)] (.int .i64 (-1)) (fun w M => call_val (c_find (I := sI S) hl (by omega) w M.laid (M.cell 0 rfl (by decide) rfl) (fun j hj => (hc w (M.thereM (pre := [⟨p, .cells (av 1 (ls [.slice l S.length k])) 61⟩]) (T := Ts) (suf := Bo) (by simp only [List.append_assoc, List.cons_append, List.nil_append, List.append_nil])) j hj).1)) (by rw [ix_no fun j hj => decide_eq_false (hid j hj)])) fun u1 M => rV 1 <| nT <| cF <| wp_skip <| au_then <| sR <| rV 4 <| ZE M 15 0 0 <| rV 3 <| ZM M 19 (fun g1 => .slice (some ⟨g1, 0, none⟩) 1 1) (.cells (av 2 (ls [.int .u32 (id : Int), .pointer (some ⟨(dp m), 0, none⟩)])) 72) fun g1 u2 M => ?_
 replace M := M.front
 replace M : Mem ⟨w, (⟨p, .cells (av 1 (ls [.slice l S.length k])) 61⟩ :: (Ts ++ Bo)).map Blk.g⟩ (⟨g1, .cells (av 2 (ls [.int .u32 (id : Int), .pointer (some ⟨(dp m), 0, none⟩)])) 72⟩ :: ⟨p, .cells (av 1 (ls [.slice l S.length k])) 61⟩ :: (Ts ++ Bo)) u2 := M
 refine pl_appW M (want_no rfl) (some 20) rfl 59 59 72 2 (.agg #[.int .u32 0, .pointer none]) Tryz.underlying59 infoRl rfl [⟨g1, .cells (av 2 (ls [.int .u32 (id : Int), .pointer (some ⟨(dp m), 0, none⟩)])) 72⟩, ⟨p, .cells (av 1 (ls [.slice l S.length k])) 61⟩] Ts Bo (by simp only [List.append_assoc, List.cons_append, List.nil_append, List.append_nil]) (.slice l S.length k) S.length (vS S) hS (by omega) 0 g1 72 (ls [.int .u32 (id : Int), .pointer (some ⟨(dp m), 0, none⟩)]) rfl (one_ls _ rfl) (fun _ => by kernel_rfl) ?_
 intro sv2 T2 u3 hS2 M
 replace M : Mem ⟨w, (⟨p, .cells (av 1 (ls [.slice l S.length k])) 61⟩ :: (Ts ++ Bo)).map Blk.g⟩ (⟨g1, .cells (av 2 (ls [.int .u32 (id : Int), .pointer (some ⟨(dp m), 0, none⟩)])) 72⟩ :: ⟨p, .cells (av 1 (ls [.slice l S.length k])) 61⟩ :: (T2 ++ Bo)) u3 := by simpa only [List.append_assoc, List.cons_append, List.nil_append, List.append_nil] using M
 have hS3 : SlW 2 (vS (S ++ [⟨id, dp m⟩])) (S ++ [(⟨id, dp m⟩ : Sl)]).length sv2 T2 := by rw [vS_app, List.length_append]; exact hS2
 refine rV 2 ?_
 refine (pl_put1 M (want_no rfl) rfl 59 _ _ rfl 1 p 0 (by kernel_rfl) 1 61 (ls [.slice l S.length k]) rfl (sv2) (ls [sv2]) (by kernel_rfl) inz59 (by decide) (slw_one hS2) (slw_cells hS2) (put_ls _ 0 _ _ rfl) ?_)
 intro u4 M
 replace M : Mem ⟨w, (⟨p, .cells (av 1 (ls [.slice l S.length k])) 61⟩ :: (Ts ++ Bo)).map Blk.g⟩ (⟨g1, .cells (av 2 (ls [.int .u32 (id : Int), .pointer (some ⟨(dp m), 0, none⟩)])) 72⟩ :: ⟨p, .cells (av 1 (ls [sv2])) 61⟩ :: (T2 ++ Bo)) u4 := M
 refine pl_nil ?_
 replace M := (M.drop (.cons _ (.cons_cons _ (List.Sublist.refl _))))
 obtain ⟨S2, hS2e⟩ : ∃ S2, S2 = S ++ [(⟨id, dp m⟩ : Sl)] := ⟨_, rfl⟩
 have hK2 := hK_next (id := id) hK hm
 rw [← hS2e] at hS3 hK2 ⊢
 have hl4 : S2.length = 4 := by rw [hS2e, List.length_append]; simp; omega
 rcases hS3.ex with ⟨h0_, -, -⟩ | ⟨q2, cap2, Z2, rfl, hc2, hs2, rfl⟩
 ·exfalso; omega
 replace M := M.fetch (pre := [⟨p, .cells (av 1 (ls [.slice (some ⟨q2, 0, none⟩) S2.length cap2])) 61⟩]) (b := ⟨q2, Z2⟩) (suf := Bo) (by simp only [List.append_assoc, List.cons_append, List.nil_append, List.append_nil])
 replace M : Mem ⟨w, (⟨p, .cells (av 1 (ls [.slice l S.length k])) 61⟩ :: (Ts ++ Bo)).map Blk.g⟩ (⟨q2, Z2⟩ :: ⟨p, .cells (av 1 (ls [.slice (some ⟨q2, 0, none⟩) S2.length cap2])) 61⟩ :: Bo) u4 := by simpa only [List.append_assoc, List.cons_append, List.nil_append, List.append_nil] using M
 refine au_then <| wp_seq <| sR <| rV 3 <| ZE M 26 1 0 <| rV 1 <| ZT 28 (3 < ((S2.length : Nat) : Int)) <| nT <| cT <| sR <| rV 3 <| ZE M 32 1 0 <| pH 33 (.pointer (some ⟨q2, (0 + 0 * 2), none⟩)) (run_ixK 59 72 2 Tryz.underlying59 inz72 _ _ rfl (some ⟨q2, 0, none⟩) q2 0 S2.length cap2 (by kernel_rfl) rfl .i64 0 (by kernel_rfl) (by omega)) <| rV 1 <| pE M 35 q2 ((0 + 0 * 2) + 1) (.pointer (some ⟨(sJ S2 0), 0, none⟩)) (fun w M => (cellS hs2 (M.get 0 rfl) (by omega) rfl).2) <| rV 2 ?_
 refine pl_gone M (want_no rfl) rfl 4 _ _ rfl [⟨q2, Z2⟩, ⟨p, .cells (av 1 (ls [.slice (some ⟨q2, 0, none⟩) S2.length cap2])) 61⟩] Bo [] (by simp only [List.append_assoc, List.cons_append, List.nil_append, List.append_nil]) hBo (hK2 0 (by omega)).1 (by rw [← (hK2 0 (by omega)).2]; kernel_rfl) (by kernel_rfl) inz4 ?_
 intro B2 u5 hB2 M
 replace M : Mem ⟨w, (⟨p, .cells (av 1 (ls [.slice l S.length k])) 61⟩ :: (Ts ++ Bo)).map Blk.g⟩ (⟨q2, Z2⟩ :: ⟨p, .cells (av 1 (ls [.slice (some ⟨q2, 0, none⟩) S2.length cap2])) 61⟩ :: B2) u5 := by simpa only [List.append_assoc, List.cons_append, List.nil_append, List.append_nil] using M
 refine nT <| rg_lit <| rV 1 <| ZM M 39 (fun g8 => .slice (some ⟨g8, 0, none⟩) 0 0) (.cells #[] 72) fun g8 u6 M => ?_
 replace M := M.front
 replace M : Mem ⟨w, (⟨p, .cells (av 1 (ls [.slice l S.length k])) 61⟩ :: (Ts ++ Bo)).map Blk.g⟩ (⟨g8, (.cells #[] 72)⟩ :: ⟨q2, Z2⟩ :: ⟨p, .cells (av 1 (ls [.slice (some ⟨q2, 0, none⟩) S2.length cap2])) 61⟩ :: B2) u6 := M
 refine rV 3 <| ZE M 43 2 0 <| pH 44 (.slice (some ⟨q2, 1 * 2, none⟩) (S2.length - 1) (cap2 - 1)) (run_slLo 59 72 2 Tryz.underlying59 inz72 _ _ rfl q2 S2.length cap2 (by kernel_rfl) .i64 1 (by kernel_rfl) (by omega) (by omega)) <| pl_appE M (want_no rfl) (some 45) rfl 59 59 72 2 (.agg #[.int .u32 0, .pointer none]) Tryz.underlying59 infoRl rfl g8 1 q2 Z2 (cap2 * 2) (vS S2) rfl hs2 (1 * 2) (S2.length - 1) (cap2 - 1) (by omega) (by omega) (by rw [List.length_drop, vS_len]; omega) (vS_one S2 (1 * 2)) (fun _ => by kernel_rfl) ?_
 intro q3 Z3 sv3 u7 hS4 M
 replace M := M.front
 replace M : Mem ⟨w, (⟨p, .cells (av 1 (ls [.slice l S.length k])) 61⟩ :: (Ts ++ Bo)).map Blk.g⟩ (⟨q3, Z3⟩ :: ⟨g8, (.cells #[] 72)⟩ :: ⟨q2, Z2⟩ :: ⟨p, .cells (av 1 (ls [.slice (some ⟨q2, 0, none⟩) S2.length cap2])) 61⟩ :: B2) u7 := M
 refine rV 2 ?_
 refine (pl_put1 M (want_no rfl) rfl 59 _ _ rfl 3 p 0 (by kernel_rfl) 1 61 (ls [.slice (some ⟨q2, 0, none⟩) S2.length cap2]) rfl (sv3) (ls [sv3]) (by kernel_rfl) inz59 (by decide) (slw_one hS4) (slw_cells hS4) (put_ls _ 0 _ _ rfl) ?_)
 intro u8 M
 replace M : Mem ⟨w, (⟨p, .cells (av 1 (ls [.slice l S.length k])) 61⟩ :: (Ts ++ Bo)).map Blk.g⟩ (⟨q3, Z3⟩ :: ⟨g8, (.cells #[] 72)⟩ :: ⟨q2, Z2⟩ :: ⟨p, .cells (av 1 (ls [sv3])) 61⟩ :: B2) u8 := M
 refine nT <| sq <| wp_ret ?_
 have hS5 : SlW 2 (vS (S2.drop 1)) (S2.drop 1).length sv3 [⟨q3, Z3⟩] := by rw [vS_drop, List.length_drop]; exact hS4
 exact bodyPost_ret (v := .int .i64 0) (results_tmp1 Tryz.results42 _ _ _ (by kernel_rfl)) (by kernel_rfl) ⟨⟨sv3, [⟨q3, Z3⟩], B2⟩, rfl, hS5, hB2, Mem.okT0 (((M.drop (.cons_cons _ (.cons _ (.cons _ (.cons_cons _ (List.Sublist.refl _))))))).perm (.swap _ _ _))⟩
open Go.RowKit
section
variable {P : Program} {ops : Array Oper} {rest : List Oper} {o : Oper} {a : Act} {w : World} {c : Ctx} {L : List Blk} {Q : Exit → Act → World → Prop}
def rdR (lp : Nat) (d : Option Tmp) (a : Act) (K : Act → World → Prop) : Exit → Act → World → Prop
 | .normal, _, u => ∃ r, u.heap[lp]? = some (.loop r) ∧ K (a.put d (.bool true)) (u.putObj lp (.loop { r with state := .ready, pending := none }))
 | .ret, _, u => ∃ r, u.heap[lp]? = some (.loop r) ∧ K (a.put d (.bool false)) (u.putObj lp (.loop { r with state := .done, pending := some .ret }))
 | _, _, _ => False
theorem pl_yieldR (lp : Nat) (r : Loop) (args : Array Value) (hl : w.heap[lp]? = some (.loop r)) (hs : args.size = r.params.size) (hst : r.state = .ready) (hd : ndB o = true) (hrun : ∀ w, (execOp a.eval o).run P w = (Instr.yield lp args).run P w) (hw : Region.wanted o (yielded ops a.tmps) = true)
  (h : r.assign.wpIn (FW (some lp)) 0 P (Exit.then (fun a1 w1 => w1.heap[lp]? = some (.loop r) ∧ r.body.wpIn (FW (some lp)) 0 P (rdR lp o.dst a (wpListIn (FW none) 0 P ops Q rest)) a1 (w1.putObj lp (.loop { r with state := .busy }))) (fun _ _ _ => False)) { tmps := (r.params.zip args).foldl (fun t (p, v) => t.setIfInBounds p v) r.tmps, defers := [] } w) :
  wpListIn (FW none) 0 P ops Q (o :: rest) a w := by
 unfold wpListIn
 rw [if_pos hw]
 refine ⟨fun _ _ => trivial, ?_⟩
 rw [Oper.semAt_eq _ _ _ (nd_of hd), hrun, run_yield hl hs, Oper.uponIn_round]
 refine ⟨fun e => by simp [FW, Fence.wide] at e, ?_⟩
 refine roundIn_of_wpIn (F := FW none) trivial <| wpIn_mono h ?_
 rintro e a1 w1 hq
 cases e with
 | normal =>
  obtain ⟨h1, h2⟩ := hq
  refine ⟨_, run_beginRound h1 hst, ?_⟩
  refine wpIn_mono h2 ?_
  rintro e a2 w2 hq
  cases e with
  | normal =>
   obtain ⟨r2, h3, h4⟩ := hq
   exact ⟨_, _, run_endRound none h3, h4⟩
  | ret =>
   obtain ⟨r2, h3, h4⟩ := hq
   exact ⟨_, _, run_endRound _ h3, h4⟩
  | exit i => exact hq.elim
  | goto i => exact hq.elim
  | panic c => exact hq.elim
  | outgrown => exact hq.elim
 | ret => exact hq.elim
 | exit i => exact hq.elim
 | goto i => exact hq.elim
 | panic c => exact hq.elim
 | outgrown => exact hq.elim
theorem in_listR {l : List Oper} (hd : l.all ndB = true) (hQ : ∀ a w, ¬ Q .outgrown a w) (h : PL P ops Q l a w) : wpListIn (FW none) 0 P ops Q l a w := list_in l a w hd hQ h.out
theorem Mem.putR (M : Mem c L w) (i g : Nat) (Z Z' : Obj) (hi : L[i]? = some ⟨g, Z⟩) : Mem c (L.set i ⟨g, Z'⟩) (w.putObj g Z') :=
 M.put i ⟨g, Z⟩ hi Z' ⟨rfl, rfl, rfl, by simp, fun j _ hj => World.putObj_heap_other (by simpa using hj)⟩ (World.putObj_heap_same (Array.getElem?_eq_some_iff.1 (M.get i hi)).1)
theorem Mem.allocR (M : Mem c L w) (Z1 Z2 : Obj) : Mem c (L ++ [⟨w.heap.size, Z1⟩, ⟨w.heap.size + 1, Z2⟩]) ((w.alloc Z1).alloc Z2) := by
 have M1 := M.new w.heap.size Z1 (new_below w Z1) (heap_alloc_new w Z1) (Nat.le_refl _)
 have e : (w.alloc Z1).heap.size = w.heap.size + 1 := World.size_alloc _ _
 have M2 := M1.new (w.heap.size + 1) Z2 (new_below (w.alloc Z1) Z2) (by rw [← e]; exact heap_alloc_new (w.alloc Z1) Z2) (by rw [e]; exact Nat.le_refl _)
 rw [List.append_assoc] at M2
 exact M2
theorem marks_retC {fn : Func} {R : Ending → World → Prop} {D : Nat} {v : Value} (hdf : a.defers = [{ target := .collected D, args := #[] }]) (hD : w.heap[D]? = some (.deferred (some []))) (hr : (results fn a.tmps).run P (w.putObj D (.deferred none)) = .ok v (w.putObj D (.deferred none))) (h : R (.returned v) (w.putObj D (.deferred none))) : bodyPostM Fence.wide 0 P fn R .ret a w := by
 show LeavesInM Fence.wide 0 P fn a.tmps R a.defers .returning w
 rw [hdf]
 refine ⟨by simp, .inl ⟨D, _, rfl, run_takeDeferred hD, ?_⟩⟩
 exact ⟨v, hr, h⟩
end
def lpR (st : LoopState) (pe : Option Code) (fn : FuncId) (T : Array Value) (sg bd : Code) (D : Nat) : Loop := { state := st, pending := pe, fn := fn, tmps := T, params := #[17, 18], assign := sg, body := bd, defers := D }
def tB_ (gn g4 g5 g6 : Nat) (v : NV) : Array Value := #[v 0, v 1, v 2, .pointer (some ⟨gn, 0, none⟩), .pointer (some ⟨g4, 0, none⟩), .pointer (some ⟨g5, 0, none⟩), .pointer (some ⟨g6, 0, none⟩), v 7, v 8, v 9, v 10, v 11, v 12, v 13, v 14, v 15, v 16, v 17, v 18, v 19, v 20, v 21, v 22, v 23, v 24, v 25, v 26, v 27, v 28, v 29, v 30]
theorem c_back {l : Option Addr} {n k : Nat} (w : World) (hL : Laid w) : Calls Tryz.prog 59 #[.slice l n k] w fun r w' => ∃ c, r = .returned (.func (.func 75) #[] #[.pointer (some ⟨c, 0, none⟩)]) ∧ w.heap.size ≤ c ∧ w'.heap[c]? = some (.cells (av 1 (ls [.slice l n k])) 100) ∧ Below w.heap.size w w' := by
 go_enter Tryz.func59, Tryz.ntmps59
 have M := Mem.start hL
 refine sR <| pN M 1 (.cells (av 1 (ls [.slice l n k])) 100) fun g1 u1 M => ?_
 replace M : Mem ⟨w, []⟩ [⟨g1, .cells (av 1 (ls [.slice l n k])) 100⟩] u1 := M
 refine rV 1 <| nT <| sq <| wp_ret ?_
 exact bodyPost_ret (v := .func (.func 75) #[] #[.pointer (some ⟨g1, 0, none⟩)]) (results_tmp1 Tryz.results59 _ _ _ (by kernel_rfl)) (by kernel_rfl) ⟨_, rfl, ((M.ge _ (List.mem_singleton.2 rfl)).resolve_right (by simp)), M.get 0 rfl, below_grown M.old⟩
theorem r_bestN (sg bd : Code) (hb : Tryz.f37.body.bind findRange = some (sg, bd)) {l : Option Addr} {n k i t e gn g4 g5 g6 gs g8 lp D : Nat} {I J : Nat → Nat} {sf : Int} {Zl : Obj} (v : NV) (w u : World) (hEc : w.cell? ⟨J i, 0, none⟩ = some (.pointer (some ⟨e, 0, none⟩))) (hC : ∀ w', Below w.heap.size w w' → Laid w' → Calls Tryz.prog 44 #[.pointer (some ⟨e, 0, none⟩), .int .u64 (t : Int)] w' fun r w'' => r = .returned (.int .i64 sf) ∧ Below w'.heap.size w' w'') (hsf : ¬ sf = 0) (R : Exit → Act → World → Prop) (hO : ∀ a w, ¬ R .outgrown a w) (hP : ∀ c a w, ¬ R (.panic c) a w)
  (M : Mem ⟨w, []⟩ [⟨gn, .cells (av 1 (ls [.int .u64 (t : Int)])) 24⟩, ⟨g4, .cells (av 1 (ls [.int .u32 0])) 67⟩, ⟨g5, .cells (av 1 (ls [.pointer none])) 30⟩, ⟨g6, .cells (av 1 (ls [.int .i64 0])) 38⟩, ⟨gs, .cells (av 1 (ls [.slice l n k])) 100⟩, ⟨D, .deferred (some [])⟩, ⟨lp, Zl⟩, ⟨g8, .cells (av 2 (ls [.int .u32 ((I i : Nat) : Int), .pointer (some ⟨(J i), 0, none⟩)])) 113⟩] u)
  (hgo : ∀ a u', Mem ⟨w, []⟩ [⟨gn, .cells (av 1 (ls [.int .u64 (t : Int)])) 24⟩, ⟨g4, .cells (av 1 (ls [.int .u32 0])) 67⟩, ⟨g5, .cells (av 1 (ls [.pointer none])) 30⟩, ⟨g6, .cells (av 1 (ls [.int .i64 0])) 38⟩, ⟨gs, .cells (av 1 (ls [.slice l n k])) 100⟩, ⟨D, .deferred (some [])⟩, ⟨lp, Zl⟩, ⟨g8, .cells (av 2 (ls [.int .u32 ((I i : Nat) : Int), .pointer (some ⟨(J i), 0, none⟩)])) 113⟩] u' → R .normal a u') :
  bd.wpIn (FW (some lp)) 0 Tryz.prog R (fm (vr v 0 3 ++ [.pointer (some ⟨gn, 0, none⟩), .pointer (some ⟨g4, 0, none⟩), .pointer (some ⟨g5, 0, none⟩), .pointer (some ⟨g6, 0, none⟩), v 7, .pointer (some ⟨g8, 0, none⟩)] ++ vr v 9 22)) u := by
 refine code_is (O := Tryz.f37.body.bind findRange) rfl hb <| wpIn_block <| wpIn_seq <| rr_held (by kernel_rfl) (fun _ _ h => hO _ _ h) M [⟨gn, .cells (av 1 (ls [.int .u64 (t : Int)])) 24⟩, ⟨g4, .cells (av 1 (ls [.int .u32 0])) 67⟩, ⟨g5, .cells (av 1 (ls [.pointer none])) 30⟩, ⟨g6, .cells (av 1 (ls [.int .i64 0])) 38⟩, ⟨gs, .cells (av 1 (ls [.slice l n k])) 100⟩, ⟨D, .deferred (some [])⟩, ⟨lp, Zl⟩, ⟨g8, .cells (av 2 (ls [.int .u32 ((I i : Nat) : Int), .pointer (some ⟨(J i), 0, none⟩)])) 113⟩] 7 rfl (by kernel_rfl) (by kernel_rfl) (fun _ _ _ _ _ h => (hP _ _ _ h).elim) fun u1 M => ?_
 replace M : Mem ⟨w, []⟩ [⟨gn, .cells (av 1 (ls [.int .u64 (t : Int)])) 24⟩, ⟨g4, .cells (av 1 (ls [.int .u32 0])) 67⟩, ⟨g5, .cells (av 1 (ls [.pointer none])) 30⟩, ⟨g6, .cells (av 1 (ls [.int .i64 0])) 38⟩, ⟨gs, .cells (av 1 (ls [.slice l n k])) 100⟩, ⟨D, .deferred (some [])⟩, ⟨lp, Zl⟩, ⟨g8, .cells (av 2 (ls [.int .u32 ((I i : Nat) : Int), .pointer (some ⟨(J i), 0, none⟩)])) 113⟩] u1 := M
 refine qV M 0 19 (.pointer (some ⟨g8, 1, none⟩)) <| hl_cell M 1 rfl (by decide) (by kernel_rfl) (by kernel_rfl) (want_no rfl) (some 20) rfl 30 _ rfl g8 1 (by kernel_rfl) (.pointer (some ⟨(J i), 0, none⟩)) (fun _ => by kernel_rfl) (fun w M => M.cell 7 rfl (by decide) rfl) <| qV M 2 21 (.pointer (some ⟨(J i), 0, none⟩)) <| qV M 3 22 (.pointer (some ⟨(J i), 0, none⟩)) <| hl_cell M 4 rfl (by decide) (by kernel_rfl) (by kernel_rfl) (want_no rfl) (some 23) rfl 85 _ rfl (J i) 0 (by kernel_rfl) (.pointer (some ⟨e, 0, none⟩)) (fun _ => by kernel_rfl) (fun w M => M.oldc hEc (by simp)) <| hl_cell M 5 rfl (by decide) (by kernel_rfl) (by kernel_rfl) (want_no rfl) (some 24) rfl 24 _ rfl gn 0 (by kernel_rfl) (.int .u64 (t : Int)) (fun _ => by kernel_rfl) (fun w M => M.cell 0 rfl (by decide) rfl) <| hl_one 6 (by decide) (by kernel_rfl) rfl <| pC M 25 44 #[.pointer (some ⟨e, 0, none⟩), .int .u64 (t : Int)] (.int .i64 sf) (fun w M => hC w (below_grown M.old) M.laid) fun u2 M => nT ?_
 refine ⟨M, ?_⟩
 refine hl_end (by kernel_rfl) (by kernel_rfl) rfl <| pH 26 (.bool false) (fun w => Eq.trans (b := .ok (.value (.bool (decide (sf = 0)))) w) (by kernel_rfl) (by rw [decide_eq_false hsf])) <| nT <| au_then <| wpIn_cond_false (by kernel_rfl) <| wpIn_skip <| au_block ?_
 exact hgo _ _ M
theorem r_bestR (sg bd : Code) (hb : Tryz.f37.body.bind findRange = some (sg, bd)) {l : Option Addr} {n k i t e gn g4 g5 g6 gs g8 lp D : Nat} {I J : Nat → Nat} {sf : Int} {Zl : Obj} (v : NV) (w u : World) (hEc : w.cell? ⟨J i, 0, none⟩ = some (.pointer (some ⟨e, 0, none⟩))) (hC : ∀ w', Below w.heap.size w w' → Laid w' → Calls Tryz.prog 44 #[.pointer (some ⟨e, 0, none⟩), .int .u64 (t : Int)] w' fun r w'' => r = .returned (.int .i64 sf) ∧ Below w'.heap.size w' w'') (hsf : sf = 0) (R : Exit → Act → World → Prop) (hO : ∀ a w, ¬ R .outgrown a w) (hP : ∀ c a w, ¬ R (.panic c) a w)
  (M : Mem ⟨w, []⟩ [⟨gn, .cells (av 1 (ls [.int .u64 (t : Int)])) 24⟩, ⟨g4, .cells (av 1 (ls [.int .u32 0])) 67⟩, ⟨g5, .cells (av 1 (ls [.pointer none])) 30⟩, ⟨g6, .cells (av 1 (ls [.int .i64 0])) 38⟩, ⟨gs, .cells (av 1 (ls [.slice l n k])) 100⟩, ⟨D, .deferred (some [])⟩, ⟨lp, Zl⟩, ⟨g8, .cells (av 2 (ls [.int .u32 ((I i : Nat) : Int), .pointer (some ⟨(J i), 0, none⟩)])) 113⟩] u)
  (hgo : ∀ a u', Mem ⟨w, []⟩ [⟨gn, .cells (av 1 (ls [.int .u64 (t : Int)])) 24⟩, ⟨g4, .cells (av 1 (ls [.int .u32 ((I i : Nat) : Int)])) 67⟩, ⟨g5, .cells (av 1 (ls [.pointer (some ⟨(J i), 0, none⟩)])) 30⟩, ⟨g6, .cells (av 1 (ls [.int .i64 0])) 38⟩, ⟨gs, .cells (av 1 (ls [.slice l n k])) 100⟩, ⟨D, .deferred (some [])⟩, ⟨lp, Zl⟩, ⟨g8, .cells (av 2 (ls [.int .u32 ((I i : Nat) : Int), .pointer (some ⟨(J i), 0, none⟩)])) 113⟩] u' → R .ret a u') :
  bd.wpIn (FW (some lp)) 0 Tryz.prog R (fm (vr v 0 3 ++ [.pointer (some ⟨gn, 0, none⟩), .pointer (some ⟨g4, 0, none⟩), .pointer (some ⟨g5, 0, none⟩), .pointer (some ⟨g6, 0, none⟩), v 7, .pointer (some ⟨g8, 0, none⟩)] ++ vr v 9 22)) u := by
 refine code_is (O := Tryz.f37.body.bind findRange) rfl hb <| wpIn_block <| wpIn_seq <| rr_held (by kernel_rfl) (fun _ _ h => hO _ _ h) M [⟨gn, .cells (av 1 (ls [.int .u64 (t : Int)])) 24⟩, ⟨g4, .cells (av 1 (ls [.int .u32 0])) 67⟩, ⟨g5, .cells (av 1 (ls [.pointer none])) 30⟩, ⟨g6, .cells (av 1 (ls [.int .i64 0])) 38⟩, ⟨gs, .cells (av 1 (ls [.slice l n k])) 100⟩, ⟨D, .deferred (some [])⟩, ⟨lp, Zl⟩, ⟨g8, .cells (av 2 (ls [.int .u32 ((I i : Nat) : Int), .pointer (some ⟨(J i), 0, none⟩)])) 113⟩] 7 rfl (by kernel_rfl) (by kernel_rfl) (fun _ _ _ _ _ h => (hP _ _ _ h).elim) fun u1 M => ?_
 replace M : Mem ⟨w, []⟩ [⟨gn, .cells (av 1 (ls [.int .u64 (t : Int)])) 24⟩, ⟨g4, .cells (av 1 (ls [.int .u32 0])) 67⟩, ⟨g5, .cells (av 1 (ls [.pointer none])) 30⟩, ⟨g6, .cells (av 1 (ls [.int .i64 0])) 38⟩, ⟨gs, .cells (av 1 (ls [.slice l n k])) 100⟩, ⟨D, .deferred (some [])⟩, ⟨lp, Zl⟩, ⟨g8, .cells (av 2 (ls [.int .u32 ((I i : Nat) : Int), .pointer (some ⟨(J i), 0, none⟩)])) 113⟩] u1 := M
 refine qV M 0 19 (.pointer (some ⟨g8, 1, none⟩)) <| hl_cell M 1 rfl (by decide) (by kernel_rfl) (by kernel_rfl) (want_no rfl) (some 20) rfl 30 _ rfl g8 1 (by kernel_rfl) (.pointer (some ⟨(J i), 0, none⟩)) (fun _ => by kernel_rfl) (fun w M => M.cell 7 rfl (by decide) rfl) <| qV M 2 21 (.pointer (some ⟨(J i), 0, none⟩)) <| qV M 3 22 (.pointer (some ⟨(J i), 0, none⟩)) <| hl_cell M 4 rfl (by decide) (by kernel_rfl) (by kernel_rfl) (want_no rfl) (some 23) rfl 85 _ rfl (J i) 0 (by kernel_rfl) (.pointer (some ⟨e, 0, none⟩)) (fun _ => by kernel_rfl) (fun w M => M.oldc hEc (by simp)) <| hl_cell M 5 rfl (by decide) (by kernel_rfl) (by kernel_rfl) (want_no rfl) (some 24) rfl 24 _ rfl gn 0 (by kernel_rfl) (.int .u64 (t : Int)) (fun _ => by kernel_rfl) (fun w M => M.cell 0 rfl (by decide) rfl) <| hl_one 6 (by decide) (by kernel_rfl) rfl <| pC M 25 44 #[.pointer (some ⟨e, 0, none⟩), .int .u64 (t : Int)] (.int .i64 sf) (fun w M => hC w (below_grown M.old) M.laid) fun u2 M => nT ?_
 refine ⟨M, ?_⟩
 refine hl_end (by kernel_rfl) (by kernel_rfl) rfl <| pH 26 (.bool true) (fun w => Eq.trans (b := .ok (.value (.bool (decide (sf = 0)))) w) (by kernel_rfl) (by rw [decide_eq_true hsf])) <| nT <| au_then <| wpIn_cond_true (by kernel_rfl) <| wpIn_seq <| rr_held (by kernel_rfl) (fun _ _ h => hO _ _ h) M [⟨gn, .cells (av 1 (ls [.int .u64 (t : Int)])) 24⟩, ⟨g6, .cells (av 1 (ls [.int .i64 0])) 38⟩, ⟨gs, .cells (av 1 (ls [.slice l n k])) 100⟩, ⟨D, .deferred (some [])⟩, ⟨lp, Zl⟩, ⟨g8, .cells (av 2 (ls [.int .u32 ((I i : Nat) : Int), .pointer (some ⟨(J i), 0, none⟩)])) 113⟩] 6 rfl (by kernel_rfl) (by kernel_rfl) (fun _ _ _ _ _ h => (hP _ _ _ h).elim) fun u3 M => ?_
 replace M : Mem ⟨w, []⟩ [⟨gn, .cells (av 1 (ls [.int .u64 (t : Int)])) 24⟩, ⟨g4, .cells (av 1 (ls [.int .u32 0])) 67⟩, ⟨g5, .cells (av 1 (ls [.pointer none])) 30⟩, ⟨g6, .cells (av 1 (ls [.int .i64 0])) 38⟩, ⟨gs, .cells (av 1 (ls [.slice l n k])) 100⟩, ⟨D, .deferred (some [])⟩, ⟨lp, Zl⟩, ⟨g8, .cells (av 2 (ls [.int .u32 ((I i : Nat) : Int), .pointer (some ⟨(J i), 0, none⟩)])) 113⟩] u3 := M
 refine qV (M.drop (.cons_cons _ (.cons _ (.cons _ (.cons_cons _ (.cons_cons _ (.cons_cons _ (.cons_cons _ (.cons_cons _ (.slnil)))))))))) 0 27 (.pointer (some ⟨g8, 0, none⟩)) <| hl_cell (M.drop (.cons_cons _ (.cons _ (.cons _ (.cons_cons _ (.cons_cons _ (.cons_cons _ (.cons_cons _ (.cons_cons _ (.slnil)))))))))) 1 rfl (by decide) (by kernel_rfl) (by kernel_rfl) (want_no rfl) (some 28) rfl 67 _ rfl g8 0 (by kernel_rfl) (.int .u32 ((I i : Nat) : Int)) (fun _ => by kernel_rfl) (fun w M => M.cell 5 rfl (by decide) rfl) <| qV (M.drop (.cons_cons _ (.cons _ (.cons _ (.cons_cons _ (.cons_cons _ (.cons_cons _ (.cons_cons _ (.cons_cons _ (.slnil)))))))))) 2 29 (.pointer (some ⟨g8, 1, none⟩)) <| hl_cell (M.drop (.cons_cons _ (.cons _ (.cons _ (.cons_cons _ (.cons_cons _ (.cons_cons _ (.cons_cons _ (.cons_cons _ (.slnil)))))))))) 3 rfl (by decide) (by kernel_rfl) (by kernel_rfl) (want_no rfl) (some 30) rfl 30 _ rfl g8 1 (by kernel_rfl) (.pointer (some ⟨(J i), 0, none⟩)) (fun _ => by kernel_rfl) (fun w M => M.cell 5 rfl (by decide) rfl) <| hl_one 4 (by decide) (by kernel_rfl) rfl <| pP M 1 rfl 0 (.int .u32 ((I i : Nat) : Int)) (ls [.int .u32 ((I i : Nat) : Int)]) (by decide) (put_ls _ 0 _ _ rfl) fun u4 M => ?_
 replace M : Mem ⟨w, []⟩ [⟨gn, .cells (av 1 (ls [.int .u64 (t : Int)])) 24⟩, ⟨g4, .cells (av 1 (ls [.int .u32 ((I i : Nat) : Int)])) 67⟩, ⟨g5, .cells (av 1 (ls [.pointer none])) 30⟩, ⟨g6, .cells (av 1 (ls [.int .i64 0])) 38⟩, ⟨gs, .cells (av 1 (ls [.slice l n k])) 100⟩, ⟨D, .deferred (some [])⟩, ⟨lp, Zl⟩, ⟨g8, .cells (av 2 (ls [.int .u32 ((I i : Nat) : Int), .pointer (some ⟨(J i), 0, none⟩)])) 113⟩] u4 := M
 refine nT ?_
 refine ⟨(M.drop (.cons_cons _ (.cons _ (.cons _ (.cons_cons _ (.cons_cons _ (.cons_cons _ (.cons_cons _ (.cons_cons _ (.slnil)))))))))), ?_⟩
 refine hl_one 5 (by decide) (by kernel_rfl) rfl <| pP M 2 rfl 0 (.pointer (some ⟨(J i), 0, none⟩)) (ls [.pointer (some ⟨(J i), 0, none⟩)]) (by decide) (put_ls _ 0 _ _ rfl) fun u5 M => ?_
 replace M : Mem ⟨w, []⟩ [⟨gn, .cells (av 1 (ls [.int .u64 (t : Int)])) 24⟩, ⟨g4, .cells (av 1 (ls [.int .u32 ((I i : Nat) : Int)])) 67⟩, ⟨g5, .cells (av 1 (ls [.pointer (some ⟨(J i), 0, none⟩)])) 30⟩, ⟨g6, .cells (av 1 (ls [.int .i64 0])) 38⟩, ⟨gs, .cells (av 1 (ls [.slice l n k])) 100⟩, ⟨D, .deferred (some [])⟩, ⟨lp, Zl⟩, ⟨g8, .cells (av 2 (ls [.int .u32 ((I i : Nat) : Int), .pointer (some ⟨(J i), 0, none⟩)])) 113⟩] u5 := M
 refine nT ?_
 refine ⟨(M.drop (.cons_cons _ (.cons _ (.cons _ (.cons_cons _ (.cons_cons _ (.cons_cons _ (.cons_cons _ (.cons_cons _ (.slnil)))))))))), ?_⟩
 refine hl_end (by kernel_rfl) (by kernel_rfl) rfl <| pP M 3 rfl 0 (.int .i64 0) (ls [.int .i64 0]) (by decide) (put_ls _ 0 _ _ rfl) fun u6 M => ?_
 replace M : Mem ⟨w, []⟩ [⟨gn, .cells (av 1 (ls [.int .u64 (t : Int)])) 24⟩, ⟨g4, .cells (av 1 (ls [.int .u32 ((I i : Nat) : Int)])) 67⟩, ⟨g5, .cells (av 1 (ls [.pointer (some ⟨(J i), 0, none⟩)])) 30⟩, ⟨g6, .cells (av 1 (ls [.int .i64 0])) 38⟩, ⟨gs, .cells (av 1 (ls [.slice l n k])) 100⟩, ⟨D, .deferred (some [])⟩, ⟨lp, Zl⟩, ⟨g8, .cells (av 2 (ls [.int .u32 ((I i : Nat) : Int), .pointer (some ⟨(J i), 0, none⟩)])) 113⟩] u6 := M
 refine nT <| au_then <| wpIn_ret <| au_block_ret ?_
 exact hgo _ _ M
open Go.RowKit
theorem c_itA (sg bd : Code) (hb : Tryz.f37.body.bind findRange = some (sg, bd)) {l : Option Addr} {b o1 n k t : Nat} {I J E : Nat → Nat} {sf : NI} (hl : 0 < n → l = some ⟨b, o1, none⟩) (hn : n < 1000000) (hno : ∀ j, j < n → ¬ sf j = 0) {gn g4 g5 g6 gs lp D : Nat} (fn : FuncId) (v : NV) (w u : World) (hI : ∀ j, j < n → w.cell? ⟨b, o1 + j * 2 + 0, none⟩ = some (.int .u32 ((I j : Nat) : Int))) (hJ : ∀ j, j < n → w.cell? ⟨b, o1 + j * 2 + 1, none⟩ = some (.pointer (some ⟨J j, 0, none⟩))) (hEc : ∀ j, j < n → w.cell? ⟨J j, 0, none⟩ = some (.pointer (some ⟨E j, 0, none⟩))) (hC : ∀ j, j < n → ∀ w', Below w.heap.size w w' → Laid w' → Calls Tryz.prog 44 #[.pointer (some ⟨E j, 0, none⟩), .int .u64 (t : Int)] w' fun r w'' => r = .returned (.int .i64 (sf j)) ∧ Below w'.heap.size w' w'')
  (M : Mem ⟨w, []⟩ [⟨gn, .cells (av 1 (ls [.int .u64 (t : Int)])) 24⟩, ⟨g4, .cells (av 1 (ls [.int .u32 0])) 67⟩, ⟨g5, .cells (av 1 (ls [.pointer none])) 30⟩, ⟨g6, .cells (av 1 (ls [.int .i64 0])) 38⟩, ⟨gs, .cells (av 1 (ls [.slice l n k])) 100⟩, ⟨D, .deferred (some [])⟩, ⟨lp, .loop (lpR .ready none fn (tB_ gn g4 g5 g6 v) sg bd D)⟩] u) : Calls Tryz.prog 75 #[.func (.yield lp) #[] #[], .pointer (some ⟨gs, 0, none⟩)] u fun e u' => (∃ v, e = .returned v) ∧ Mem ⟨w, []⟩ [⟨gn, .cells (av 1 (ls [.int .u64 (t : Int)])) 24⟩, ⟨g4, .cells (av 1 (ls [.int .u32 0])) 67⟩, ⟨g5, .cells (av 1 (ls [.pointer none])) 30⟩, ⟨g6, .cells (av 1 (ls [.int .i64 0])) 38⟩, ⟨gs, .cells (av 1 (ls [.slice l n k])) 100⟩, ⟨D, .deferred (some [])⟩, ⟨lp, .loop (lpR .ready none fn (tB_ gn g4 g5 g6 v) sg bd D)⟩] u' := by
 go_enter Tryz.func75, Tryz.ntmps75
 refine sR <| ZE M 4 4 0 <| rV 1 ?_
 refine pH 6 (.int .i64 ((n : Int) - 1 - ((0 : Nat) : Int))) (fun w => Eq.trans (b := .ok (.value (.int .i64 (IntKind.wrap .i64 ((n : Int) - 1)))) w) (by kernel_rfl) (by rw [wrap64 (by omega) (by omega), show ((n : Int) - 1 - ((0 : Nat) : Int)) = (n : Int) - 1 by omega])) ?_
 refine rV 1 <| nT ?_
 refine wp_block ?_
 refine au_loop (fun j a w' => ∃ (v1 : NV) , a = (fm ([.func (.yield lp) #[] #[], .pointer (some ⟨gs, 0, none⟩), undef, .int .i64 ((n : Int) - 1 - (j : Int)), .slice l n k, .int .i64 (n : Int), .int .i64 ((n : Int) - 1 - ((0 : Nat) : Int))] ++ vr v1 7 12)) ∧ Mem ⟨w, []⟩ [⟨gn, .cells (av 1 (ls [.int .u64 (t : Int)])) 24⟩, ⟨g4, .cells (av 1 (ls [.int .u32 0])) 67⟩, ⟨g5, .cells (av 1 (ls [.pointer none])) 30⟩, ⟨g6, .cells (av 1 (ls [.int .i64 0])) 38⟩, ⟨gs, .cells (av 1 (ls [.slice l n k])) 100⟩, ⟨D, .deferred (some [])⟩, ⟨lp, .loop (lpR .ready none fn (tB_ gn g4 g5 g6 v) sg bd D)⟩] w') n ⟨fun k_ => ([undef, undef, undef, undef, undef, undef, undef, undef, undef, undef, undef, undef] : List Value).getD (k_ - 7) undef, by kernel_rfl, by simpa only [List.append_assoc, List.cons_append, List.nil_append, List.append_nil] using M⟩ ?_ ?_
 ·intro j a u0 hj hI
  obtain ⟨v1, rfl, M⟩ := hI
  obtain ⟨m, hm⟩ : ∃ m, m + j + 1 = n := ⟨n - 1 - j, by omega⟩
  rw [show ((n : Int) - 1 - (j : Int)) = (m : Int) by omega]
  refine wp_seq <| sR <| rV 1 ?_
  refine ZT 8 (0 ≤ (m : Int)) ?_
  refine nT <| cT <| wp_skip <| au_then <| wp_seq ?_
  refine wp_block ?_
  refine wp_seq ?_
  refine rg_yieldN 6 (by kernel_rfl) (fun _ _ h => by obtain ⟨⟨_, e⟩, _⟩ := h; cases e) ?_
  simp only [List.take_succ_cons, List.take_zero, List.drop_succ_cons, List.drop_zero]
  refine rV 2 <| ZE M 13 4 0 <| rV 1 ?_
  refine pH 15 (.pointer (some ⟨b, (o1 + m * 2), none⟩)) (run_ixK 100 113 2 Tryz.underlying100 inz113 _ _ rfl l b o1 n k (by kernel_rfl) (hl (by omega)) .i64 m (by kernel_rfl) (by omega)) ?_
  refine pl_loadO M (want_no rfl) (some 16) rfl 113 _ rfl b (o1 + m * 2) (by kernel_rfl) 2 (ls [.int .u32 ((I m : Nat) : Int), .pointer (some ⟨(J m), 0, none⟩)]) (fun w M k9 hk9 => ?_) _ Tryz.underlying113 rfl inz113 ?_
  ·match k9, hk9 with
   | 0, _ => exact M.oldc (hI m (by omega)) (by simp)
   | 1, _ => exact M.oldc (hJ m (by omega)) (by simp)
  refine nT ?_
  refine pl_yieldR lp (lpR .ready none fn (tB_ gn g4 g5 g6 v) sg bd D) #[.int .i64 (m : Int), .agg (av 2 (ls [.int .u32 ((I m : Nat) : Int), .pointer (some ⟨(J m), 0, none⟩)]))] (M.get 6 rfl) rfl rfl (by kernel_rfl) (fun _ => by kernel_rfl) (want_no rfl) ?_
  refine code_is1 (O := Tryz.f37.body.bind findRange) rfl hb ?_
  refine fr_is (b := (fm (vr v 0 3 ++ [.pointer (some ⟨gn, 0, none⟩), .pointer (some ⟨g4, 0, none⟩), .pointer (some ⟨g5, 0, none⟩), .pointer (some ⟨g6, 0, none⟩)] ++ vr v 7 10 ++ [.int .i64 (m : Int), .agg (av 2 (ls [.int .u32 ((I m : Nat) : Int), .pointer (some ⟨(J m), 0, none⟩)]))] ++ vr v 19 12))) (by kernel_rfl) ?_
  refine rr_lit (by kernel_rfl) (fun _ _ h => h) ?_
  refine pN M 8 (.cells (av 2 (ls [.int .u32 0, .pointer none])) 113) fun g51 u51 M => ?_
  replace M : Mem ⟨w, []⟩ [⟨gn, .cells (av 1 (ls [.int .u64 (t : Int)])) 24⟩, ⟨g4, .cells (av 1 (ls [.int .u32 0])) 67⟩, ⟨g5, .cells (av 1 (ls [.pointer none])) 30⟩, ⟨g6, .cells (av 1 (ls [.int .i64 0])) 38⟩, ⟨gs, .cells (av 1 (ls [.slice l n k])) 100⟩, ⟨D, .deferred (some [])⟩, ⟨lp, .loop (lpR .ready none fn (tB_ gn g4 g5 g6 v) sg bd D)⟩, ⟨g51, .cells (av 2 (ls [.int .u32 0, .pointer none])) 113⟩] u51 := M
  refine pl_put M (want_no rfl) rfl 113 _ _ rfl 7 g51 0 (by kernel_rfl) 2 113 (ls [.int .u32 0, .pointer none]) rfl 2 (ls [.int .u32 ((I m : Nat) : Int), .pointer (some ⟨(J m), 0, none⟩)]) (ls [.int .u32 ((I m : Nat) : Int), .pointer (some ⟨(J m), 0, none⟩)]) (by kernel_rfl) inz113 (by decide) (one_ls _ rfl) (fun j hj => by rw [if_pos (by omega), Nat.sub_zero]) fun u52 M => ?_
  replace M : Mem ⟨w, []⟩ [⟨gn, .cells (av 1 (ls [.int .u64 (t : Int)])) 24⟩, ⟨g4, .cells (av 1 (ls [.int .u32 0])) 67⟩, ⟨g5, .cells (av 1 (ls [.pointer none])) 30⟩, ⟨g6, .cells (av 1 (ls [.int .i64 0])) 38⟩, ⟨gs, .cells (av 1 (ls [.slice l n k])) 100⟩, ⟨D, .deferred (some [])⟩, ⟨lp, .loop (lpR .ready none fn (tB_ gn g4 g5 g6 v) sg bd D)⟩, ⟨g51, .cells (av 2 (ls [.int .u32 ((I m : Nat) : Int), .pointer (some ⟨(J m), 0, none⟩)])) 113⟩] u52 := M
  refine nT ?_
  refine ⟨M.get 6 rfl, ?_⟩
  have M2 := M.putR 6 lp _ (.loop { lpR .ready none fn (tB_ gn g4 g5 g6 v) sg bd D with state := .busy }) rfl
  refine fr_is (b := (fm (vr v 0 3 ++ [.pointer (some ⟨gn, 0, none⟩), .pointer (some ⟨g4, 0, none⟩), .pointer (some ⟨g5, 0, none⟩), .pointer (some ⟨g6, 0, none⟩), v 7, .pointer (some ⟨g51, 0, none⟩)] ++ vr v 9 8 ++ [.int .i64 (m : Int), .agg (av 2 (ls [.int .u32 ((I m : Nat) : Int), .pointer (some ⟨(J m), 0, none⟩)]))] ++ vr v 19 12))) (by kernel_rfl) ?_
  refine r_bestN sg bd hb (I := I) (J := J) (i := m) (fun k_ => ([v 0, v 1, v 2, .pointer (some ⟨gn, 0, none⟩), .pointer (some ⟨g4, 0, none⟩), .pointer (some ⟨g5, 0, none⟩), .pointer (some ⟨g6, 0, none⟩), v 7, .pointer (some ⟨g51, 0, none⟩), v 9, v 10, v 11, v 12, v 13, v 14, v 15, v 16, .int .i64 (m : Int), .agg (av 2 (ls [.int .u32 ((I m : Nat) : Int), .pointer (some ⟨(J m), 0, none⟩)])), v 19, v 20, v 21, v 22, v 23, v 24, v 25, v 26, v 27, v 28, v 29, v 30] : List Value).getD (k_ - 0) undef) w _ (hEc m (by omega)) (hC m (by omega)) (hno m (by omega)) _ (fun _ _ h => h) (fun _ _ _ h => h) M2 ?_
  intro a9 u9 M3
  refine ⟨lpR .busy none fn (tB_ gn g4 g5 g6 v) sg bd D, M3.get 6 rfl, ?_⟩
  have M4 := M3.putR 6 lp _ (.loop { lpR .busy none fn (tB_ gn g4 g5 g6 v) sg bd D with state := .ready, pending := none }) rfl
  generalize u9.putObj lp _ = u8 at M4 ⊢
  clear M
  have M : Mem ⟨w, []⟩ [⟨gn, .cells (av 1 (ls [.int .u64 (t : Int)])) 24⟩, ⟨g4, .cells (av 1 (ls [.int .u32 0])) 67⟩, ⟨g5, .cells (av 1 (ls [.pointer none])) 30⟩, ⟨g6, .cells (av 1 (ls [.int .i64 0])) 38⟩, ⟨gs, .cells (av 1 (ls [.slice l n k])) 100⟩, ⟨D, .deferred (some [])⟩, ⟨lp, .loop (lpR .ready none fn (tB_ gn g4 g5 g6 v) sg bd D)⟩] u8 := M4.drop (.cons_cons _ (.cons_cons _ (.cons_cons _ (.cons_cons _ (.cons_cons _ (.cons_cons _ (.cons_cons _ (.cons _ (.slnil)))))))))
  refine in_listR (by kernel_rfl) (fun _ _ h => by obtain ⟨⟨_, e⟩, _⟩ := h; cases e) ?_
  refine rV 1 <| nT <| cF <| wp_skip ?_
  refine au_block ?_
  refine au_then ?_
  refine rg_lit ?_
  refine rV 1 ?_
  refine pH 10 (.int .i64 ((n : Int) - 1 - ((j + 1 : Nat) : Int))) (fun w => Eq.trans (b := .ok (.value (.int .i64 (IntKind.wrap .i64 ((m : Int) - 1)))) w) (by kernel_rfl) (by rw [wrap64 (by omega) (by omega), show ((n : Int) - 1 - ((j + 1 : Nat) : Int)) = (m : Int) - 1 by omega])) ?_
  refine rV 1 <| nT ?_
  exact exS M
 ·intro a u0 hI
  obtain ⟨v1, rfl, M⟩ := hI
  refine wp_seq <| sR <| rV 1 ?_
  refine ZF 8 (0 ≤ ((n : Int) - 1 - (n : Int))) ?_
  refine nT <| cF ?_
  refine wp_exit ?_
  refine au_then_exit ?_
  refine au_then_exit ?_
  refine au_block_exit ?_
  exact bodyPost_end (v := .tuple #[]) (results_none Tryz.results75 _ _) (by kernel_rfl) ⟨⟨_, rfl⟩, M⟩
theorem c_itAT (sg bd : Code) (hb : Tryz.f37.body.bind findRange = some (sg, bd)) {l : Option Addr} {b o1 n k t : Nat} {I J E : Nat → Nat} {sf : NI} (hl : 0 < n → l = some ⟨b, o1, none⟩) (hn : n < 1000000) (hno : ∀ j, j < n → ¬ sf j = 0) {gn g4 g5 g6 gs lp D : Nat} (fn : FuncId) (v : NV) (T : Array Value) (hT : T = tB_ gn g4 g5 g6 v) (w u : World) (hI : ∀ j, j < n → w.cell? ⟨b, o1 + j * 2 + 0, none⟩ = some (.int .u32 ((I j : Nat) : Int))) (hJ : ∀ j, j < n → w.cell? ⟨b, o1 + j * 2 + 1, none⟩ = some (.pointer (some ⟨J j, 0, none⟩))) (hEc : ∀ j, j < n → w.cell? ⟨J j, 0, none⟩ = some (.pointer (some ⟨E j, 0, none⟩))) (hC : ∀ j, j < n → ∀ w', Below w.heap.size w w' → Laid w' → Calls Tryz.prog 44 #[.pointer (some ⟨E j, 0, none⟩), .int .u64 (t : Int)] w' fun r w'' => r = .returned (.int .i64 (sf j)) ∧ Below w'.heap.size w' w'')
  (M : Mem ⟨w, []⟩ [⟨gn, .cells (av 1 (ls [.int .u64 (t : Int)])) 24⟩, ⟨g4, .cells (av 1 (ls [.int .u32 0])) 67⟩, ⟨g5, .cells (av 1 (ls [.pointer none])) 30⟩, ⟨g6, .cells (av 1 (ls [.int .i64 0])) 38⟩, ⟨gs, .cells (av 1 (ls [.slice l n k])) 100⟩, ⟨D, .deferred (some [])⟩, ⟨lp, .loop (lpR .ready none fn T sg bd D)⟩] u) : Calls Tryz.prog 75 #[.func (.yield lp) #[] #[], .pointer (some ⟨gs, 0, none⟩)] u fun e u' => (∃ v, e = .returned v) ∧ ∃ q : Loop, q.state ≠ .busy ∧ q.pending = none ∧ Mem ⟨w, []⟩ [⟨gn, .cells (av 1 (ls [.int .u64 (t : Int)])) 24⟩, ⟨g4, .cells (av 1 (ls [.int .u32 0])) 67⟩, ⟨g5, .cells (av 1 (ls [.pointer none])) 30⟩, ⟨g6, .cells (av 1 (ls [.int .i64 0])) 38⟩, ⟨gs, .cells (av 1 (ls [.slice l n k])) 100⟩, ⟨D, .deferred (some [])⟩, ⟨lp, .loop q⟩] u' := by
 subst hT
 exact (c_itA sg bd hb hl hn hno fn v w u hI hJ hEc hC M).mono fun e u' h => ⟨h.1, lpR .ready none fn (tB_ gn g4 g5 g6 v) sg bd D, (show LoopState.ready ≠ LoopState.busy by decide), rfl, h.2⟩
theorem c_itB (sg bd : Code) (hb : Tryz.f37.body.bind findRange = some (sg, bd)) {l : Option Addr} {b o1 n k i t : Nat} {I J E : Nat → Nat} {sf : NI} (hl : 0 < n → l = some ⟨b, o1, none⟩) (hn : n < 1000000) (hi : i < n) (hsf : sf i = 0) (hno : ∀ j, i < j → j < n → ¬ sf j = 0) {gn g4 g5 g6 gs lp D : Nat} (fn : FuncId) (v : NV) (w u : World) (hI : ∀ j, j < n → w.cell? ⟨b, o1 + j * 2 + 0, none⟩ = some (.int .u32 ((I j : Nat) : Int))) (hJ : ∀ j, j < n → w.cell? ⟨b, o1 + j * 2 + 1, none⟩ = some (.pointer (some ⟨J j, 0, none⟩))) (hEc : ∀ j, j < n → w.cell? ⟨J j, 0, none⟩ = some (.pointer (some ⟨E j, 0, none⟩))) (hC : ∀ j, j < n → ∀ w', Below w.heap.size w w' → Laid w' → Calls Tryz.prog 44 #[.pointer (some ⟨E j, 0, none⟩), .int .u64 (t : Int)] w' fun r w'' => r = .returned (.int .i64 (sf j)) ∧ Below w'.heap.size w' w'')
  (M : Mem ⟨w, []⟩ [⟨gn, .cells (av 1 (ls [.int .u64 (t : Int)])) 24⟩, ⟨g4, .cells (av 1 (ls [.int .u32 0])) 67⟩, ⟨g5, .cells (av 1 (ls [.pointer none])) 30⟩, ⟨g6, .cells (av 1 (ls [.int .i64 0])) 38⟩, ⟨gs, .cells (av 1 (ls [.slice l n k])) 100⟩, ⟨D, .deferred (some [])⟩, ⟨lp, .loop (lpR .ready none fn (tB_ gn g4 g5 g6 v) sg bd D)⟩] u) : Calls Tryz.prog 75 #[.func (.yield lp) #[] #[], .pointer (some ⟨gs, 0, none⟩)] u fun e u' => (∃ v, e = .returned v) ∧ Mem ⟨w, []⟩ [⟨gn, .cells (av 1 (ls [.int .u64 (t : Int)])) 24⟩, ⟨g4, .cells (av 1 (ls [.int .u32 ((I i : Nat) : Int)])) 67⟩, ⟨g5, .cells (av 1 (ls [.pointer (some ⟨(J i), 0, none⟩)])) 30⟩, ⟨g6, .cells (av 1 (ls [.int .i64 0])) 38⟩, ⟨gs, .cells (av 1 (ls [.slice l n k])) 100⟩, ⟨D, .deferred (some [])⟩, ⟨lp, .loop (lpR .done (some .ret) fn (tB_ gn g4 g5 g6 v) sg bd D)⟩] u' := by
 go_enter Tryz.func75, Tryz.ntmps75
 refine sR <| ZE M 4 4 0 <| rV 1 ?_
 refine pH 6 (.int .i64 ((n : Int) - 1 - ((0 : Nat) : Int))) (fun w => Eq.trans (b := .ok (.value (.int .i64 (IntKind.wrap .i64 ((n : Int) - 1)))) w) (by kernel_rfl) (by rw [wrap64 (by omega) (by omega), show ((n : Int) - 1 - ((0 : Nat) : Int)) = (n : Int) - 1 by omega])) ?_
 refine rV 1 <| nT ?_
 refine wp_block ?_
 refine au_loop (fun j a w' => ∃ (v1 : NV) , a = (fm ([.func (.yield lp) #[] #[], .pointer (some ⟨gs, 0, none⟩), undef, .int .i64 ((n : Int) - 1 - (j : Int)), .slice l n k, .int .i64 (n : Int), .int .i64 ((n : Int) - 1 - ((0 : Nat) : Int))] ++ vr v1 7 12)) ∧ Mem ⟨w, []⟩ [⟨gn, .cells (av 1 (ls [.int .u64 (t : Int)])) 24⟩, ⟨g4, .cells (av 1 (ls [.int .u32 0])) 67⟩, ⟨g5, .cells (av 1 (ls [.pointer none])) 30⟩, ⟨g6, .cells (av 1 (ls [.int .i64 0])) 38⟩, ⟨gs, .cells (av 1 (ls [.slice l n k])) 100⟩, ⟨D, .deferred (some [])⟩, ⟨lp, .loop (lpR .ready none fn (tB_ gn g4 g5 g6 v) sg bd D)⟩] w') (n - 1 - i) ⟨fun k_ => ([undef, undef, undef, undef, undef, undef, undef, undef, undef, undef, undef, undef] : List Value).getD (k_ - 7) undef, by kernel_rfl, by simpa only [List.append_assoc, List.cons_append, List.nil_append, List.append_nil] using M⟩ ?_ ?_
 ·intro j a u0 hj hI
  obtain ⟨v1, rfl, M⟩ := hI
  obtain ⟨m, hm⟩ : ∃ m, m + j + 1 = n := ⟨n - 1 - j, by omega⟩
  rw [show ((n : Int) - 1 - (j : Int)) = (m : Int) by omega]
  refine wp_seq <| sR <| rV 1 ?_
  refine ZT 8 (0 ≤ (m : Int)) ?_
  refine nT <| cT <| wp_skip <| au_then <| wp_seq ?_
  refine wp_block ?_
  refine wp_seq ?_
  refine rg_yieldN 6 (by kernel_rfl) (fun _ _ h => by obtain ⟨⟨_, e⟩, _⟩ := h; cases e) ?_
  simp only [List.take_succ_cons, List.take_zero, List.drop_succ_cons, List.drop_zero]
  refine rV 2 <| ZE M 13 4 0 <| rV 1 ?_
  refine pH 15 (.pointer (some ⟨b, (o1 + m * 2), none⟩)) (run_ixK 100 113 2 Tryz.underlying100 inz113 _ _ rfl l b o1 n k (by kernel_rfl) (hl (by omega)) .i64 m (by kernel_rfl) (by omega)) ?_
  refine pl_loadO M (want_no rfl) (some 16) rfl 113 _ rfl b (o1 + m * 2) (by kernel_rfl) 2 (ls [.int .u32 ((I m : Nat) : Int), .pointer (some ⟨(J m), 0, none⟩)]) (fun w M k9 hk9 => ?_) _ Tryz.underlying113 rfl inz113 ?_
  ·match k9, hk9 with
   | 0, _ => exact M.oldc (hI m (by omega)) (by simp)
   | 1, _ => exact M.oldc (hJ m (by omega)) (by simp)
  refine nT ?_
  refine pl_yieldR lp (lpR .ready none fn (tB_ gn g4 g5 g6 v) sg bd D) #[.int .i64 (m : Int), .agg (av 2 (ls [.int .u32 ((I m : Nat) : Int), .pointer (some ⟨(J m), 0, none⟩)]))] (M.get 6 rfl) rfl rfl (by kernel_rfl) (fun _ => by kernel_rfl) (want_no rfl) ?_
  refine code_is1 (O := Tryz.f37.body.bind findRange) rfl hb ?_
  refine fr_is (b := (fm (vr v 0 3 ++ [.pointer (some ⟨gn, 0, none⟩), .pointer (some ⟨g4, 0, none⟩), .pointer (some ⟨g5, 0, none⟩), .pointer (some ⟨g6, 0, none⟩)] ++ vr v 7 10 ++ [.int .i64 (m : Int), .agg (av 2 (ls [.int .u32 ((I m : Nat) : Int), .pointer (some ⟨(J m), 0, none⟩)]))] ++ vr v 19 12))) (by kernel_rfl) ?_
  refine rr_lit (by kernel_rfl) (fun _ _ h => h) ?_
  refine pN M 8 (.cells (av 2 (ls [.int .u32 0, .pointer none])) 113) fun g51 u51 M => ?_
  replace M : Mem ⟨w, []⟩ [⟨gn, .cells (av 1 (ls [.int .u64 (t : Int)])) 24⟩, ⟨g4, .cells (av 1 (ls [.int .u32 0])) 67⟩, ⟨g5, .cells (av 1 (ls [.pointer none])) 30⟩, ⟨g6, .cells (av 1 (ls [.int .i64 0])) 38⟩, ⟨gs, .cells (av 1 (ls [.slice l n k])) 100⟩, ⟨D, .deferred (some [])⟩, ⟨lp, .loop (lpR .ready none fn (tB_ gn g4 g5 g6 v) sg bd D)⟩, ⟨g51, .cells (av 2 (ls [.int .u32 0, .pointer none])) 113⟩] u51 := M
  refine pl_put M (want_no rfl) rfl 113 _ _ rfl 7 g51 0 (by kernel_rfl) 2 113 (ls [.int .u32 0, .pointer none]) rfl 2 (ls [.int .u32 ((I m : Nat) : Int), .pointer (some ⟨(J m), 0, none⟩)]) (ls [.int .u32 ((I m : Nat) : Int), .pointer (some ⟨(J m), 0, none⟩)]) (by kernel_rfl) inz113 (by decide) (one_ls _ rfl) (fun j hj => by rw [if_pos (by omega), Nat.sub_zero]) fun u52 M => ?_
  replace M : Mem ⟨w, []⟩ [⟨gn, .cells (av 1 (ls [.int .u64 (t : Int)])) 24⟩, ⟨g4, .cells (av 1 (ls [.int .u32 0])) 67⟩, ⟨g5, .cells (av 1 (ls [.pointer none])) 30⟩, ⟨g6, .cells (av 1 (ls [.int .i64 0])) 38⟩, ⟨gs, .cells (av 1 (ls [.slice l n k])) 100⟩, ⟨D, .deferred (some [])⟩, ⟨lp, .loop (lpR .ready none fn (tB_ gn g4 g5 g6 v) sg bd D)⟩, ⟨g51, .cells (av 2 (ls [.int .u32 ((I m : Nat) : Int), .pointer (some ⟨(J m), 0, none⟩)])) 113⟩] u52 := M
  refine nT ?_
  refine ⟨M.get 6 rfl, ?_⟩
  have M2 := M.putR 6 lp _ (.loop { lpR .ready none fn (tB_ gn g4 g5 g6 v) sg bd D with state := .busy }) rfl
  refine fr_is (b := (fm (vr v 0 3 ++ [.pointer (some ⟨gn, 0, none⟩), .pointer (some ⟨g4, 0, none⟩), .pointer (some ⟨g5, 0, none⟩), .pointer (some ⟨g6, 0, none⟩), v 7, .pointer (some ⟨g51, 0, none⟩)] ++ vr v 9 8 ++ [.int .i64 (m : Int), .agg (av 2 (ls [.int .u32 ((I m : Nat) : Int), .pointer (some ⟨(J m), 0, none⟩)]))] ++ vr v 19 12))) (by kernel_rfl) ?_
  refine r_bestN sg bd hb (I := I) (J := J) (i := m) (fun k_ => ([v 0, v 1, v 2, .pointer (some ⟨gn, 0, none⟩), .pointer (some ⟨g4, 0, none⟩), .pointer (some ⟨g5, 0, none⟩), .pointer (some ⟨g6, 0, none⟩), v 7, .pointer (some ⟨g51, 0, none⟩), v 9, v 10, v 11, v 12, v 13, v 14, v 15, v 16, .int .i64 (m : Int), .agg (av 2 (ls [.int .u32 ((I m : Nat) : Int), .pointer (some ⟨(J m), 0, none⟩)])), v 19, v 20, v 21, v 22, v 23, v 24, v 25, v 26, v 27, v 28, v 29, v 30] : List Value).getD (k_ - 0) undef) w _ (hEc m (by omega)) (hC m (by omega)) (hno m (by omega) (by omega)) _ (fun _ _ h => h) (fun _ _ _ h => h) M2 ?_
  intro a9 u9 M3
  refine ⟨lpR .busy none fn (tB_ gn g4 g5 g6 v) sg bd D, M3.get 6 rfl, ?_⟩
  have M4 := M3.putR 6 lp _ (.loop { lpR .busy none fn (tB_ gn g4 g5 g6 v) sg bd D with state := .ready, pending := none }) rfl
  generalize u9.putObj lp _ = u8 at M4 ⊢
  clear M
  have M : Mem ⟨w, []⟩ [⟨gn, .cells (av 1 (ls [.int .u64 (t : Int)])) 24⟩, ⟨g4, .cells (av 1 (ls [.int .u32 0])) 67⟩, ⟨g5, .cells (av 1 (ls [.pointer none])) 30⟩, ⟨g6, .cells (av 1 (ls [.int .i64 0])) 38⟩, ⟨gs, .cells (av 1 (ls [.slice l n k])) 100⟩, ⟨D, .deferred (some [])⟩, ⟨lp, .loop (lpR .ready none fn (tB_ gn g4 g5 g6 v) sg bd D)⟩] u8 := M4.drop (.cons_cons _ (.cons_cons _ (.cons_cons _ (.cons_cons _ (.cons_cons _ (.cons_cons _ (.cons_cons _ (.cons _ (.slnil)))))))))
  refine in_listR (by kernel_rfl) (fun _ _ h => by obtain ⟨⟨_, e⟩, _⟩ := h; cases e) ?_
  refine rV 1 <| nT <| cF <| wp_skip ?_
  refine au_block ?_
  refine au_then ?_
  refine rg_lit ?_
  refine rV 1 ?_
  refine pH 10 (.int .i64 ((n : Int) - 1 - ((j + 1 : Nat) : Int))) (fun w => Eq.trans (b := .ok (.value (.int .i64 (IntKind.wrap .i64 ((m : Int) - 1)))) w) (by kernel_rfl) (by rw [wrap64 (by omega) (by omega), show ((n : Int) - 1 - ((j + 1 : Nat) : Int)) = (m : Int) - 1 by omega])) ?_
  refine rV 1 <| nT ?_
  exact exS M
 ·intro a u0 hI
  obtain ⟨v1, rfl, M⟩ := hI
  rw [show ((n : Int) - 1 - (((n - 1 - i) : Nat) : Int)) = (i : Int) by omega]
  refine wp_seq <| sR <| rV 1 ?_
  refine ZT 8 (0 ≤ (i : Int)) ?_
  refine nT <| cT <| wp_skip <| au_then <| wp_seq ?_
  refine wp_block ?_
  refine wp_seq ?_
  refine rg_yieldN 6 (by kernel_rfl) (fun _ _ h => by obtain ⟨⟨_, e⟩, _⟩ := h; cases e) ?_
  simp only [List.take_succ_cons, List.take_zero, List.drop_succ_cons, List.drop_zero]
  refine rV 2 <| ZE M 13 4 0 <| rV 1 ?_
  refine pH 15 (.pointer (some ⟨b, (o1 + i * 2), none⟩)) (run_ixK 100 113 2 Tryz.underlying100 inz113 _ _ rfl l b o1 n k (by kernel_rfl) (hl (by omega)) .i64 i (by kernel_rfl) (by omega)) ?_
  refine pl_loadO M (want_no rfl) (some 16) rfl 113 _ rfl b (o1 + i * 2) (by kernel_rfl) 2 (ls [.int .u32 ((I i : Nat) : Int), .pointer (some ⟨(J i), 0, none⟩)]) (fun w M k9 hk9 => ?_) _ Tryz.underlying113 rfl inz113 ?_
  ·match k9, hk9 with
   | 0, _ => exact M.oldc (hI i (by omega)) (by simp)
   | 1, _ => exact M.oldc (hJ i (by omega)) (by simp)
  refine nT ?_
  refine pl_yieldR lp (lpR .ready none fn (tB_ gn g4 g5 g6 v) sg bd D) #[.int .i64 (i : Int), .agg (av 2 (ls [.int .u32 ((I i : Nat) : Int), .pointer (some ⟨(J i), 0, none⟩)]))] (M.get 6 rfl) rfl rfl (by kernel_rfl) (fun _ => by kernel_rfl) (want_no rfl) ?_
  refine code_is1 (O := Tryz.f37.body.bind findRange) rfl hb ?_
  refine fr_is (b := (fm (vr v 0 3 ++ [.pointer (some ⟨gn, 0, none⟩), .pointer (some ⟨g4, 0, none⟩), .pointer (some ⟨g5, 0, none⟩), .pointer (some ⟨g6, 0, none⟩)] ++ vr v 7 10 ++ [.int .i64 (i : Int), .agg (av 2 (ls [.int .u32 ((I i : Nat) : Int), .pointer (some ⟨(J i), 0, none⟩)]))] ++ vr v 19 12))) (by kernel_rfl) ?_
  refine rr_lit (by kernel_rfl) (fun _ _ h => h) ?_
  refine pN M 8 (.cells (av 2 (ls [.int .u32 0, .pointer none])) 113) fun g51 u51 M => ?_
  replace M : Mem ⟨w, []⟩ [⟨gn, .cells (av 1 (ls [.int .u64 (t : Int)])) 24⟩, ⟨g4, .cells (av 1 (ls [.int .u32 0])) 67⟩, ⟨g5, .cells (av 1 (ls [.pointer none])) 30⟩, ⟨g6, .cells (av 1 (ls [.int .i64 0])) 38⟩, ⟨gs, .cells (av 1 (ls [.slice l n k])) 100⟩, ⟨D, .deferred (some [])⟩, ⟨lp, .loop (lpR .ready none fn (tB_ gn g4 g5 g6 v) sg bd D)⟩, ⟨g51, .cells (av 2 (ls [.int .u32 0, .pointer none])) 113⟩] u51 := M
  refine pl_put M (want_no rfl) rfl 113 _ _ rfl 7 g51 0 (by kernel_rfl) 2 113 (ls [.int .u32 0, .pointer none]) rfl 2 (ls [.int .u32 ((I i : Nat) : Int), .pointer (some ⟨(J i), 0, none⟩)]) (ls [.int .u32 ((I i : Nat) : Int), .pointer (some ⟨(J i), 0, none⟩)]) (by kernel_rfl) inz113 (by decide) (one_ls _ rfl) (fun j hj => by rw [if_pos (by omega), Nat.sub_zero]) fun u52 M => ?_
  replace M : Mem ⟨w, []⟩ [⟨gn, .cells (av 1 (ls [.int .u64 (t : Int)])) 24⟩, ⟨g4, .cells (av 1 (ls [.int .u32 0])) 67⟩, ⟨g5, .cells (av 1 (ls [.pointer none])) 30⟩, ⟨g6, .cells (av 1 (ls [.int .i64 0])) 38⟩, ⟨gs, .cells (av 1 (ls [.slice l n k])) 100⟩, ⟨D, .deferred (some [])⟩, ⟨lp, .loop (lpR .ready none fn (tB_ gn g4 g5 g6 v) sg bd D)⟩, ⟨g51, .cells (av 2 (ls [.int .u32 ((I i : Nat) : Int), .pointer (some ⟨(J i), 0, none⟩)])) 113⟩] u52 := M
  refine nT ?_
  refine ⟨M.get 6 rfl, ?_⟩
  have M2 := M.putR 6 lp _ (.loop { lpR .ready none fn (tB_ gn g4 g5 g6 v) sg bd D with state := .busy }) rfl
  refine fr_is (b := (fm (vr v 0 3 ++ [.pointer (some ⟨gn, 0, none⟩), .pointer (some ⟨g4, 0, none⟩), .pointer (some ⟨g5, 0, none⟩), .pointer (some ⟨g6, 0, none⟩), v 7, .pointer (some ⟨g51, 0, none⟩)] ++ vr v 9 8 ++ [.int .i64 (i : Int), .agg (av 2 (ls [.int .u32 ((I i : Nat) : Int), .pointer (some ⟨(J i), 0, none⟩)]))] ++ vr v 19 12))) (by kernel_rfl) ?_
  refine r_bestR sg bd hb (I := I) (J := J) (i := i) (fun k_ => ([v 0, v 1, v 2, .pointer (some ⟨gn, 0, none⟩), .pointer (some ⟨g4, 0, none⟩), .pointer (some ⟨g5, 0, none⟩), .pointer (some ⟨g6, 0, none⟩), v 7, .pointer (some ⟨g51, 0, none⟩), v 9, v 10, v 11, v 12, v 13, v 14, v 15, v 16, .int .i64 (i : Int), .agg (av 2 (ls [.int .u32 ((I i : Nat) : Int), .pointer (some ⟨(J i), 0, none⟩)])), v 19, v 20, v 21, v 22, v 23, v 24, v 25, v 26, v 27, v 28, v 29, v 30] : List Value).getD (k_ - 0) undef) w _ (hEc i (by omega)) (hC i (by omega)) hsf _ (fun _ _ h => h) (fun _ _ _ h => h) M2 ?_
  intro a9 u9 M3
  refine ⟨lpR .busy none fn (tB_ gn g4 g5 g6 v) sg bd D, M3.get 6 rfl, ?_⟩
  have M4 := M3.putR 6 lp _ (.loop { lpR .busy none fn (tB_ gn g4 g5 g6 v) sg bd D with state := .done, pending := some .ret }) rfl
  generalize u9.putObj lp _ = u8 at M4 ⊢
  clear M
  have M : Mem ⟨w, []⟩ [⟨gn, .cells (av 1 (ls [.int .u64 (t : Int)])) 24⟩, ⟨g4, .cells (av 1 (ls [.int .u32 ((I i : Nat) : Int)])) 67⟩, ⟨g5, .cells (av 1 (ls [.pointer (some ⟨(J i), 0, none⟩)])) 30⟩, ⟨g6, .cells (av 1 (ls [.int .i64 0])) 38⟩, ⟨gs, .cells (av 1 (ls [.slice l n k])) 100⟩, ⟨D, .deferred (some [])⟩, ⟨lp, .loop (lpR .done (some .ret) fn (tB_ gn g4 g5 g6 v) sg bd D)⟩] u8 := M4.drop (.cons_cons _ (.cons_cons _ (.cons_cons _ (.cons_cons _ (.cons_cons _ (.cons_cons _ (.cons_cons _ (.cons _ (.slnil)))))))))
  refine in_listR (by kernel_rfl) (fun _ _ h => by obtain ⟨⟨_, e⟩, _⟩ := h; cases e) ?_
  refine rV 1 <| nT <| cT <| wp_ret ?_
  refine au_block_ret ?_
  refine au_then_ret <| au_then_ret ?_
  refine au_block_ret ?_
  exact bodyPost_ret (v := .tuple #[]) (results_none Tryz.results75 _ _) (by kernel_rfl) ⟨⟨_, rfl⟩, M⟩
theorem c_itBT (sg bd : Code) (hb : Tryz.f37.body.bind findRange = some (sg, bd)) {l : Option Addr} {b o1 n k i t : Nat} {I J E : Nat → Nat} {sf : NI} (hl : 0 < n → l = some ⟨b, o1, none⟩) (hn : n < 1000000) (hi : i < n) (hsf : sf i = 0) (hno : ∀ j, i < j → j < n → ¬ sf j = 0) {gn g4 g5 g6 gs lp D : Nat} (fn : FuncId) (v : NV) (T : Array Value) (hT : T = tB_ gn g4 g5 g6 v) (w u : World) (hI : ∀ j, j < n → w.cell? ⟨b, o1 + j * 2 + 0, none⟩ = some (.int .u32 ((I j : Nat) : Int))) (hJ : ∀ j, j < n → w.cell? ⟨b, o1 + j * 2 + 1, none⟩ = some (.pointer (some ⟨J j, 0, none⟩))) (hEc : ∀ j, j < n → w.cell? ⟨J j, 0, none⟩ = some (.pointer (some ⟨E j, 0, none⟩))) (hC : ∀ j, j < n → ∀ w', Below w.heap.size w w' → Laid w' → Calls Tryz.prog 44 #[.pointer (some ⟨E j, 0, none⟩), .int .u64 (t : Int)] w' fun r w'' => r = .returned (.int .i64 (sf j)) ∧ Below w'.heap.size w' w'')
  (M : Mem ⟨w, []⟩ [⟨gn, .cells (av 1 (ls [.int .u64 (t : Int)])) 24⟩, ⟨g4, .cells (av 1 (ls [.int .u32 0])) 67⟩, ⟨g5, .cells (av 1 (ls [.pointer none])) 30⟩, ⟨g6, .cells (av 1 (ls [.int .i64 0])) 38⟩, ⟨gs, .cells (av 1 (ls [.slice l n k])) 100⟩, ⟨D, .deferred (some [])⟩, ⟨lp, .loop (lpR .ready none fn T sg bd D)⟩] u) : Calls Tryz.prog 75 #[.func (.yield lp) #[] #[], .pointer (some ⟨gs, 0, none⟩)] u fun e u' => (∃ v, e = .returned v) ∧ ∃ q : Loop, q.state ≠ .busy ∧ q.pending = some .ret ∧ Mem ⟨w, []⟩ [⟨gn, .cells (av 1 (ls [.int .u64 (t : Int)])) 24⟩, ⟨g4, .cells (av 1 (ls [.int .u32 ((I i : Nat) : Int)])) 67⟩, ⟨g5, .cells (av 1 (ls [.pointer (some ⟨(J i), 0, none⟩)])) 30⟩, ⟨g6, .cells (av 1 (ls [.int .i64 0])) 38⟩, ⟨gs, .cells (av 1 (ls [.slice l n k])) 100⟩, ⟨D, .deferred (some [])⟩, ⟨lp, .loop q⟩] u' := by
 subst hT
 exact (c_itB sg bd hb hl hn hi hsf hno fn v w u hI hJ hEc hC M).mono fun e u' h => ⟨h.1, lpR .done (some .ret) fn (tB_ gn g4 g5 g6 v) sg bd D, (show LoopState.done ≠ LoopState.busy by decide), rfl, h.2⟩
open Go.RowKit
theorem c_bestA {l : Option Addr} {b o1 n k t : Nat} {I J E : Nat → Nat} {sf : NI} (hl : 0 < n → l = some ⟨b, o1, none⟩) (hn : n < 1000000) {p : Nat} (hno : ∀ j, j < n → ¬ sf j = 0) (w : World) (hL : Laid w) (hp : w.cell? ⟨p, 0, none⟩ = some (.bool true)) (hs : w.cell? ⟨p, 1, none⟩ = some (.slice l n k)) (hI : ∀ j, j < n → w.cell? ⟨b, o1 + j * 2 + 0, none⟩ = some (.int .u32 ((I j : Nat) : Int))) (hJ : ∀ j, j < n → w.cell? ⟨b, o1 + j * 2 + 1, none⟩ = some (.pointer (some ⟨J j, 0, none⟩))) (hEc : ∀ j, j < n → w.cell? ⟨J j, 0, none⟩ = some (.pointer (some ⟨E j, 0, none⟩))) (hC : ∀ j, j < n → ∀ w', Below w.heap.size w w' → Laid w' → Calls Tryz.prog 44 #[.pointer (some ⟨E j, 0, none⟩), .int .u64 (t : Int)] w' fun r w'' => r = .returned (.int .i64 (sf j)) ∧ Below w'.heap.size w' w'') : Cs 37 #[.pointer (some ⟨p, 0, none⟩), .int .u64 (t : Int)] w (.tuple #[.int .u32 0, .pointer none, .int .i64 5]) := by
 refine (callsIn_wide (n := 0)).1 (callsIn_of_wp_marks Tryz.func37 rfl trivial ?_)
 refine (wpIn_wide (n := 0)).2 <| fr_w (b := (fm ([.pointer (some ⟨p, 0, none⟩), .int .u64 (t : Int)] ++ und 29))) (by kernel_rfl) ?_
 have M := Mem.start hL
 refine sR <| pN M 3 (.cells (av 1 (ls [.int .u64 (t : Int)])) 24) fun g1 u1 M => ?_
 replace M : Mem ⟨w, []⟩ [⟨g1, .cells (av 1 (ls [.int .u64 (t : Int)])) 24⟩] u1 := M
 refine pN M 4 (.cells (av 1 (ls [.int .u32 0])) 67) fun g2 u2 M => ?_
 replace M : Mem ⟨w, []⟩ [⟨g1, .cells (av 1 (ls [.int .u64 (t : Int)])) 24⟩, ⟨g2, .cells (av 1 (ls [.int .u32 0])) 67⟩] u2 := M
 refine pN M 5 (.cells (av 1 (ls [.pointer none])) 30) fun g3 u3 M => ?_
 replace M : Mem ⟨w, []⟩ [⟨g1, .cells (av 1 (ls [.int .u64 (t : Int)])) 24⟩, ⟨g2, .cells (av 1 (ls [.int .u32 0])) 67⟩, ⟨g3, .cells (av 1 (ls [.pointer none])) 30⟩] u3 := M
 refine pN M 6 (.cells (av 1 (ls [.int .i64 0])) 38) fun g4 u4 M => ?_
 replace M : Mem ⟨w, []⟩ [⟨g1, .cells (av 1 (ls [.int .u64 (t : Int)])) 24⟩, ⟨g2, .cells (av 1 (ls [.int .u32 0])) 67⟩, ⟨g3, .cells (av 1 (ls [.pointer none])) 30⟩, ⟨g4, .cells (av 1 (ls [.int .i64 0])) 38⟩] u4 := M
 refine nT <| wp_seq <| sR <| rV 1 <| ZC M 10 (fun w M => c_sthere w M.laid (M.oldc hp (by simp))) fun u5 M => rV 1 <| nT <| cF <| wp_skip <| au_then <| wp_seq <| sR <| rV 3 <| pE M 15 p 1 (.slice l n k) (fun w M => M.oldc hs (by simp)) <| pl_calln M (want_no rfl) (some 16) rfl 59 #[.slice l n k] (fun g5 => .func (.func 75) #[] #[.pointer (some ⟨g5, 0, none⟩)]) (.cells (av 1 (ls [.slice l n k])) 100) (fun _ => by kernel_rfl) (fun w M => c_back w M.laid) fun g5 u6 M => ?_
 replace M : Mem ⟨w, []⟩ [⟨g1, .cells (av 1 (ls [.int .u64 (t : Int)])) 24⟩, ⟨g2, .cells (av 1 (ls [.int .u32 0])) 67⟩, ⟨g3, .cells (av 1 (ls [.pointer none])) 30⟩, ⟨g4, .cells (av 1 (ls [.int .i64 0])) 38⟩, ⟨g5, .cells (av 1 (ls [.slice l n k])) 100⟩] u6 := M
 refine nT <| wp_block <| fr_w (b := (fm ([.pointer (some ⟨p, 0, none⟩), .int .u64 (t : Int), undef, .pointer (some ⟨g1, 0, none⟩), .pointer (some ⟨g2, 0, none⟩), .pointer (some ⟨g3, 0, none⟩), .pointer (some ⟨g4, 0, none⟩), undef, undef, .pointer (some ⟨p, 0, none⟩), .bool true, .bool false, .pointer (some ⟨p, 0, none⟩), .pointer (some ⟨p, 0, none⟩), .pointer (some ⟨p, 1, none⟩), .slice l n k, .func (.func 75) #[] #[.pointer (some ⟨g5, 0, none⟩)]] ++ und 14))) (by kernel_rfl) <| wp_range (gf := 75) (lb := #[.pointer (some ⟨g5, 0, none⟩)]) rfl (enters_of Tryz.func75 (by kernel_rfl) rfl) ?_
 intro fn
 refine (c_itAT _ _ rfl hl hn hno fn (fun k_ => ([.pointer (some ⟨p, 0, none⟩), .int .u64 (t : Int), undef, .pointer (some ⟨g1, 0, none⟩), .pointer (some ⟨g2, 0, none⟩), .pointer (some ⟨g3, 0, none⟩), .pointer (some ⟨g4, 0, none⟩), undef, undef, .pointer (some ⟨p, 0, none⟩), .bool true, .bool false, .pointer (some ⟨p, 0, none⟩), .pointer (some ⟨p, 0, none⟩), .pointer (some ⟨p, 1, none⟩), .slice l n k, .func (.func 75) #[] #[.pointer (some ⟨g5, 0, none⟩)], undef, undef, undef, undef, undef, undef, undef, undef, undef, undef, undef, undef, undef, undef] : List Value).getD (k_ - 0) undef) _ (by kernel_rfl) w _ hI hJ hEc hC (M.allocR _ _)).mono ?_
 rintro e w3 ⟨he, q, hr1, hr2, M2⟩
 refine ⟨he, q, M2.get 6 rfl, hr1, ?_⟩
 rw [hr2]
 have M3 := M2.putR 6 _ _ (.loop { q with state := .exhausted, pending := none }) rfl
 clear M M2
 have M := M3
 refine au_block <| au_then <| sR <| pP M 1 rfl 0 (.int .u32 0) (ls [.int .u32 0]) (by decide) (put_ls _ 0 _ _ rfl) fun u7 M => pP M 2 rfl 0 (.pointer none) (ls [.pointer none]) (by decide) (put_ls _ 0 _ _ rfl) fun u8 M => pP M 3 rfl 0 (.int .i64 5) (ls [.int .i64 5]) (by decide) (put_ls _ 0 _ _ rfl) fun u9 M => nT <| wp_ret ?_
 have M5 := M.putR 5 _ _ (.deferred none) rfl
 exact marks_retC (v := .tuple #[.int .u32 0, .pointer none, .int .i64 5]) rfl (M.get 5 rfl) (results_c3 Tryz.results37 _ _ g2 (.int .u32 0) g3 (.pointer none) g4 (.int .i64 5) (by kernel_rfl) (by kernel_rfl) (by kernel_rfl) (fun _ => by kernel_rfl) (fun _ => by kernel_rfl) (fun _ => by kernel_rfl) (M5.cell 1 rfl (by decide) rfl) (M5.cell 2 rfl (by decide) rfl) (M5.cell 3 rfl (by decide) rfl)) ⟨rfl, below_grown M5.old⟩
theorem c_bestB {l : Option Addr} {b o1 n k i t : Nat} {I J E : Nat → Nat} {sf : NI} (hl : 0 < n → l = some ⟨b, o1, none⟩) (hn : n < 1000000) {p : Nat} (hi : i < n) (hsf : sf i = 0) (hno : ∀ j, i < j → j < n → ¬ sf j = 0) (w : World) (hL : Laid w) (hp : w.cell? ⟨p, 0, none⟩ = some (.bool true)) (hs : w.cell? ⟨p, 1, none⟩ = some (.slice l n k)) (hI : ∀ j, j < n → w.cell? ⟨b, o1 + j * 2 + 0, none⟩ = some (.int .u32 ((I j : Nat) : Int))) (hJ : ∀ j, j < n → w.cell? ⟨b, o1 + j * 2 + 1, none⟩ = some (.pointer (some ⟨J j, 0, none⟩))) (hEc : ∀ j, j < n → w.cell? ⟨J j, 0, none⟩ = some (.pointer (some ⟨E j, 0, none⟩))) (hC : ∀ j, j < n → ∀ w', Below w.heap.size w w' → Laid w' → Calls Tryz.prog 44 #[.pointer (some ⟨E j, 0, none⟩), .int .u64 (t : Int)] w' fun r w'' => r = .returned (.int .i64 (sf j)) ∧ Below w'.heap.size w' w'') : Cs 37 #[.pointer (some ⟨p, 0, none⟩), .int .u64 (t : Int)] w (.tuple #[.int .u32 ((I i : Nat) : Int), .pointer (some ⟨(J i), 0, none⟩), .int .i64 0]) := by
 refine (callsIn_wide (n := 0)).1 (callsIn_of_wp_marks Tryz.func37 rfl trivial ?_)
 refine (wpIn_wide (n := 0)).2 <| fr_w (b := (fm ([.pointer (some ⟨p, 0, none⟩), .int .u64 (t : Int)] ++ und 29))) (by kernel_rfl) ?_
 have M := Mem.start hL
 refine sR <| pN M 3 (.cells (av 1 (ls [.int .u64 (t : Int)])) 24) fun g1 u1 M => ?_
 replace M : Mem ⟨w, []⟩ [⟨g1, .cells (av 1 (ls [.int .u64 (t : Int)])) 24⟩] u1 := M
 refine pN M 4 (.cells (av 1 (ls [.int .u32 0])) 67) fun g2 u2 M => ?_
 replace M : Mem ⟨w, []⟩ [⟨g1, .cells (av 1 (ls [.int .u64 (t : Int)])) 24⟩, ⟨g2, .cells (av 1 (ls [.int .u32 0])) 67⟩] u2 := M
 refine pN M 5 (.cells (av 1 (ls [.pointer none])) 30) fun g3 u3 M => ?_
 replace M : Mem ⟨w, []⟩ [⟨g1, .cells (av 1 (ls [.int .u64 (t : Int)])) 24⟩, ⟨g2, .cells (av 1 (ls [.int .u32 0])) 67⟩, ⟨g3, .cells (av 1 (ls [.pointer none])) 30⟩] u3 := M
 refine pN M 6 (.cells (av 1 (ls [.int .i64 0])) 38) fun g4 u4 M => ?_
 replace M : Mem ⟨w, []⟩ [⟨g1, .cells (av 1 (ls [.int .u64 (t : Int)])) 24⟩, ⟨g2, .cells (av 1 (ls [.int .u32 0])) 67⟩, ⟨g3, .cells (av 1 (ls [.pointer none])) 30⟩, ⟨g4, .cells (av 1 (ls [.int .i64 0])) 38⟩] u4 := M
 refine nT <| wp_seq <| sR <| rV 1 <| ZC M 10 (fun w M => c_sthere w M.laid (M.oldc hp (by simp))) fun u5 M => rV 1 <| nT <| cF <| wp_skip <| au_then <| wp_seq <| sR <| rV 3 <| pE M 15 p 1 (.slice l n k) (fun w M => M.oldc hs (by simp)) <| pl_calln M (want_no rfl) (some 16) rfl 59 #[.slice l n k] (fun g5 => .func (.func 75) #[] #[.pointer (some ⟨g5, 0, none⟩)]) (.cells (av 1 (ls [.slice l n k])) 100) (fun _ => by kernel_rfl) (fun w M => c_back w M.laid) fun g5 u6 M => ?_
 replace M : Mem ⟨w, []⟩ [⟨g1, .cells (av 1 (ls [.int .u64 (t : Int)])) 24⟩, ⟨g2, .cells (av 1 (ls [.int .u32 0])) 67⟩, ⟨g3, .cells (av 1 (ls [.pointer none])) 30⟩, ⟨g4, .cells (av 1 (ls [.int .i64 0])) 38⟩, ⟨g5, .cells (av 1 (ls [.slice l n k])) 100⟩] u6 := M
 refine nT <| wp_block <| fr_w (b := (fm ([.pointer (some ⟨p, 0, none⟩), .int .u64 (t : Int), undef, .pointer (some ⟨g1, 0, none⟩), .pointer (some ⟨g2, 0, none⟩), .pointer (some ⟨g3, 0, none⟩), .pointer (some ⟨g4, 0, none⟩), undef, undef, .pointer (some ⟨p, 0, none⟩), .bool true, .bool false, .pointer (some ⟨p, 0, none⟩), .pointer (some ⟨p, 0, none⟩), .pointer (some ⟨p, 1, none⟩), .slice l n k, .func (.func 75) #[] #[.pointer (some ⟨g5, 0, none⟩)]] ++ und 14))) (by kernel_rfl) <| wp_range (gf := 75) (lb := #[.pointer (some ⟨g5, 0, none⟩)]) rfl (enters_of Tryz.func75 (by kernel_rfl) rfl) ?_
 intro fn
 refine (c_itBT _ _ rfl hl hn hi hsf hno fn (fun k_ => ([.pointer (some ⟨p, 0, none⟩), .int .u64 (t : Int), undef, .pointer (some ⟨g1, 0, none⟩), .pointer (some ⟨g2, 0, none⟩), .pointer (some ⟨g3, 0, none⟩), .pointer (some ⟨g4, 0, none⟩), undef, undef, .pointer (some ⟨p, 0, none⟩), .bool true, .bool false, .pointer (some ⟨p, 0, none⟩), .pointer (some ⟨p, 0, none⟩), .pointer (some ⟨p, 1, none⟩), .slice l n k, .func (.func 75) #[] #[.pointer (some ⟨g5, 0, none⟩)], undef, undef, undef, undef, undef, undef, undef, undef, undef, undef, undef, undef, undef, undef] : List Value).getD (k_ - 0) undef) _ (by kernel_rfl) w _ hI hJ hEc hC (M.allocR _ _)).mono ?_
 rintro e w3 ⟨he, q, hr1, hr2, M2⟩
 refine ⟨he, q, M2.get 6 rfl, hr1, ?_⟩
 rw [hr2]
 have M3 := M2.putR 6 _ _ (.loop { q with state := .exhausted, pending := some .ret }) rfl
 clear M M2
 have M := M3
 refine wp_ret <| au_block_ret <| au_then_ret ?_
 have M5 := M.putR 5 _ _ (.deferred none) rfl
 exact marks_retC (v := .tuple #[.int .u32 ((I i : Nat) : Int), .pointer (some ⟨(J i), 0, none⟩), .int .i64 0]) rfl (M.get 5 rfl) (results_c3 Tryz.results37 _ _ g2 (.int .u32 ((I i : Nat) : Int)) g3 (.pointer (some ⟨(J i), 0, none⟩)) g4 (.int .i64 0) (by kernel_rfl) (by kernel_rfl) (by kernel_rfl) (fun _ => by kernel_rfl) (fun _ => by kernel_rfl) (fun _ => by kernel_rfl) (M5.cell 1 rfl (by decide) rfl) (M5.cell 2 rfl (by decide) rfl) (M5.cell 3 rfl (by decide) rfl)) ⟨rfl, below_grown M5.old⟩
open Go.RowKit
structure IsPS (g : Nat) (S : List Sl) (N : Nat) (tp : Nat → Nat) (X : Nat → TS) (G : List Blk) : Prop where
 out : ∃ sv Ts A, G = ⟨g, .cells (av 2 (ls [.bool true, sv])) 102⟩ :: (Ts ++ A) ∧ SlW 2 (vS S) S.length sv Ts ∧ Row (rT tp X) N A
structure IsQS (g : Nat) (S : List Sl) (N : Nat) (dp : Nat → Nat) (Y : Nat → TS) (gn : Nat → Bool) (H : List Blk) : Prop where
 out : ∃ sv Ts B, H = ⟨g, .cells (av 1 (ls [sv])) 61⟩ :: (Ts ++ B) ∧ SlW 2 (vS S) S.length sv Ts ∧ Row (rD dp Y gn) N B
theorem sub1 (b : Blk) (T A : List Blk) : T.Sublist (b :: (T ++ A)) := (List.sublist_append_left T A).cons b
theorem sub2 (b : Blk) (T A : List Blk) : A.Sublist (b :: (T ++ A)) := (List.sublist_append_right T A).cons b
theorem okT_tail {w w' : World} {b : Blk} {T A A' : List Blk} (hL : Laid w) (hT : There w (b :: (T ++ A))) (h : OkT w w' A A') : OkT w w' (b :: (T ++ A)) (b :: (T ++ A')) := by
 have h2 := OkT.mid (pre := b :: T) (suf := []) hL (by simpa using hT) h
 simpa using h2
theorem okT_more {w w' : World} {G To : List Blk} (hL : Laid w) (hT : There w G) (h : OkT w w' [] To) : OkT w w' G (G ++ To) := by
 have h2 := OkT.mid (pre := G) (suf := []) hL (by simpa using hT) h
 simpa using h2
section
variable {g N k n id : Nat} {S : List Sl} {tp dp K : Nat → Nat} {X Y : Nat → TS} {gn : Nat → Bool} {G H : List Blk}
theorem g_look (hG : IsPS g S N tp X G) {w : World} (hT : There w G) : ∃ l b k, w.cell? ⟨g, 0, none⟩ = some (.bool true) ∧ w.cell? ⟨g, 1, none⟩ = some (.slice l S.length k) ∧ (0 < S.length → l = some ⟨b, 0, none⟩) ∧ (∀ j, j < S.length → w.cell? ⟨b, 0 + j * 2 + 0, none⟩ = some (.int .u32 ((sI S j : Nat) : Int))) ∧ ∀ j, j < S.length → w.cell? ⟨b, 0 + j * 2 + 1, none⟩ = some (.pointer (some ⟨sJ S j, 0, none⟩)) := by
 obtain ⟨sv, Ts, A, rfl, hS, hA⟩ := hG.out
 obtain ⟨l, b, k, rfl, hl, hc⟩ := slw_at hS
 have h0 := hT.at_ _ List.mem_cons_self
 have h1 := hT.sub (sub1 _ Ts A)
 exact ⟨l, b, k, cell_av h0 (by decide), cell_av h0 (by decide), hl, fun j hj => (hc w h1 j hj).1, fun j hj => (hc w h1 j hj).2⟩
theorem h_look (hH : IsQS g S N dp Y gn H) : ∃ l b k, (0 < S.length → l = some ⟨b, 0, none⟩) ∧ ∀ w, There w H → w.cell? ⟨g, 0, none⟩ = some (.slice l S.length k) ∧ (∀ j, j < S.length → w.cell? ⟨b, 0 + j * 2 + 0, none⟩ = some (.int .u32 ((sI S j : Nat) : Int))) ∧ ∀ j, j < S.length → w.cell? ⟨b, 0 + j * 2 + 1, none⟩ = some (.pointer (some ⟨sJ S j, 0, none⟩)) := by
 obtain ⟨sv, Ts, A, rfl, hS, hA⟩ := hH.out
 obtain ⟨l, b, k, rfl, hl, hc⟩ := slw_at hS
 refine ⟨l, b, k, hl, fun w hT => ?_⟩
 have h0 := hT.at_ _ List.mem_cons_self
 have h1 := hT.sub (sub1 _ Ts A)
 exact ⟨cell_av h0 (by decide), fun j hj => (hc w h1 j hj).1, fun j hj => (hc w h1 j hj).2⟩
theorem g_row (hG : IsPS g S N tp X G) : ∃ b T A, G = b :: (T ++ A) ∧ Row (rT tp X) N A ∧ ∀ X' A', Row (rT tp X') N A' → IsPS g S N tp X' (b :: (T ++ A')) := by
 obtain ⟨sv, Ts, A, rfl, hS, hA⟩ := hG.out
 exact ⟨_, Ts, A, rfl, hA, fun X' A' h => ⟨sv, Ts, A', rfl, hS, h⟩⟩
theorem h_row (hH : IsQS g S N dp Y gn H) : ∃ b T A, H = b :: (T ++ A) ∧ Row (rD dp Y gn) N A ∧ ∀ Y' gn' A', Row (rD dp Y' gn') N A' → IsQS g S N dp Y' gn' (b :: (T ++ A')) := by
 obtain ⟨sv, Ts, A, rfl, hS, hA⟩ := hH.out
 exact ⟨_, Ts, A, rfl, hA, fun Y' gn' A' h => ⟨sv, Ts, A', rfl, hS, h⟩⟩
theorem g_new (hG : IsPS g S N tp X G) {t : Nat} {x : TS} {T : List Blk} (hT : IsT t x T) : IsPS g S (N + 1) (upd tp N t) (upd X N x) (G ++ T) := by
 obtain ⟨sv, Ts, A, rfl, hS, hA⟩ := hG.out
 refine ⟨sv, Ts, A ++ T, by simp, hS, row_new hA (fun i B hi hB => ?_) ?_⟩
 ·unfold rT
  rw [upd_other _ _ (by omega), upd_other _ _ (by omega)]
  exact hB
 ·unfold rT
  rw [upd_self, upd_self]
  exact hT
theorem h_new (hH : IsQS g S N dp Y gn H) {d : Nat} {y : TS} {b : Bool} {T : List Blk} (hT : IsD d y b T) : IsQS g S (N + 1) (upd dp N d) (upd Y N y) (upd gn N b) (H ++ T) := by
 obtain ⟨sv, Ts, A, rfl, hS, hA⟩ := hH.out
 refine ⟨sv, Ts, A ++ T, by simp, hS, row_new hA (fun i B hi hB => ?_) ?_⟩
 ·unfold rD
  rw [upd_other _ _ (by omega), upd_other _ _ (by omega), upd_other _ _ (by omega)]
  exact hB
 ·unfold rD
  rw [upd_self, upd_self, upd_self]
  exact hT
theorem g_Over (hG : IsPS g S N tp X G) (hk : k < N) (hn : n < 18446744073709551616) (w : World) (hL : Laid w) (hT : There w G) : Cs 10 #[.pointer (some ⟨tp k, 0, none⟩), .int .u64 (n : Int)] w (.bool ((X k).ov n)) := by
 obtain ⟨b, T, A, rfl, hA, -⟩ := g_row hG
 exact r_Over hA hk hn w hL (hT.sub (sub2 b T A))
theorem g_Seal {s : Yb} (hG : IsPS g S N tp X G) (hk : k < N) (ok : (X k).Ok) (hn : n < 18446744073709551616) (w : World) (hL : Laid w) (hT : There w G) : Calls Tryz.prog 21 #[.pointer (some ⟨tp k, 0, none⟩), .int .u64 (n : Int), .string s] w fun r w' => ∃ G', r = .returned (.tuple #[.int .u64 (((X k).sN n s : Nat) : Int), .string ((X k).sC n s), .int .i64 ((X k).sE n s)]) ∧ IsPS g S N tp (upd X k ((X k).sX n s)) G' ∧ OkT w w' G G' := by
 obtain ⟨b, T, A, rfl, hA, hs⟩ := g_row hG
 exact (r_Seal hA hk ok hn w hL (hT.sub (sub2 b T A))).mono fun _ _ ⟨A', he, h1, h2⟩ => ⟨_, he, hs _ A' h1, okT_tail hL hT h2⟩
theorem g_Open {i : Nat} {c : Yb} (hG : IsPS g S N tp X G) (hk : k < N) (ok : (X k).Ok) (hn : n < 18446744073709551616) (hi : i < 18446744073709551616) (w : World) (hL : Laid w) (hT : There w G) : Calls Tryz.prog 22 #[.pointer (some ⟨tp k, 0, none⟩), .int .u64 (n : Int), .int .u64 (i : Int), .string c] w fun r w' => ∃ G', r = .returned (.tuple #[.string ((X k).oC n i c), .int .i64 ((X k).oE n i c)]) ∧ IsPS g S N tp (upd X k ((X k).oX n i c)) G' ∧ OkT w w' G G' := by
 obtain ⟨b, T, A, rfl, hA, hs⟩ := g_row hG
 exact (r_Open hA hk ok hn hi w hL (hT.sub (sub2 b T A))).mono fun _ _ ⟨A', he, h1, h2⟩ => ⟨_, he, hs _ A' h1, okT_tail hL hT h2⟩
theorem h_Over (hH : IsQS g S N dp Y gn H) (hk : k < N) (hy : (Y k).sd.size = 32) (hn : n < 18446744073709551616) (w : World) (hL : Laid w) (hT : There w H) : Cs 11 #[.pointer (some ⟨dp k, 0, none⟩), .int .u64 (n : Int)] w (.bool ((pX (Y k) (gn k)).ov n)) := by
 obtain ⟨b, T, A, rfl, hA, -⟩ := h_row hH
 exact q_Over hA hk hy hn w hL (hT.sub (sub2 b T A))
theorem g_Get0 (hG : IsPS g S N tp X G) (hn : S.length < 1000) (h0 : ∀ j, j < S.length → ¬ sI S j = id) (w : World) (hL : Laid w) (hT : There w G) : Cs 35 #[.pointer (some ⟨g, 0, none⟩), .int .u32 (id : Int)] w (.tuple #[.pointer none, .int .i64 5]) := by
 obtain ⟨l, b, k, h1, h2, hl, hI, hJ⟩ := g_look hG hT
 exact c_get0 hl (by omega) h0 w hL h1 h2 hI hJ
theorem g_Get1 {i : Nat} (hG : IsPS g S N tp X G) (hn : S.length < 1000) (hi : i < S.length) (hid : sI S i = id) (h0 : ∀ j, j < i → ¬ sI S j = id) (w : World) (hL : Laid w) (hT : There w G) : Cs 35 #[.pointer (some ⟨g, 0, none⟩), .int .u32 (id : Int)] w (.tuple #[.pointer (some ⟨sJ S i, 0, none⟩), .int .i64 0]) := by
 obtain ⟨l, b, k, h1, h2, hl, hI, hJ⟩ := g_look hG hT
 exact c_get1 hl (by omega) hi hid h0 w hL h1 h2 hI hJ
theorem g_faults (hG : IsPS g S N tp X G) (hK : ∀ j, j < S.length → K j < N ∧ sJ S j = tp (K j)) (hn : n < 18446744073709551616) {w : World} (hT : There w G) : ∃ E : Nat → Nat, (∀ j, j < S.length → w.cell? ⟨sJ S j, 0, none⟩ = some (.pointer (some ⟨E j, 0, none⟩))) ∧ ∀ j, j < S.length → ∀ w', Below w.heap.size w w' → Laid w' → Calls Tryz.prog 44 #[.pointer (some ⟨E j, 0, none⟩), .int .u64 (n : Int)] w' fun r w'' => r = .returned (.int .i64 ((X (K j)).sF n)) ∧ Below w'.heap.size w' w'' := by
 obtain ⟨b, T, A, rfl, hA, -⟩ := g_row hG
 have h := fun j (hj : j < S.length) => r_fault hA (hK j hj).1 hn w (hT.sub (sub2 b T A))
 refine ⟨fun j => if hj : j < S.length then Classical.choose (h j hj) else 0, fun j hj => ?_, fun j hj => ?_⟩
 ·simp only [dif_pos hj]
  rw [(hK j hj).2]
  exact (Classical.choose_spec (h j hj)).1
 ·simp only [dif_pos hj]
  exact (Classical.choose_spec (h j hj)).2
theorem g_BestA (hG : IsPS g S N tp X G) (hK : ∀ j, j < S.length → K j < N ∧ sJ S j = tp (K j)) (hn : n < 18446744073709551616) (hs : S.length < 1000) (hno : ∀ j, j < S.length → ¬ (X (K j)).sF n = 0) (w : World) (hL : Laid w) (hT : There w G) : Cs 37 #[.pointer (some ⟨g, 0, none⟩), .int .u64 (n : Int)] w (.tuple #[.int .u32 0, .pointer none, .int .i64 5]) := by
 obtain ⟨l, b, k, h1, h2, hl, hI, hJ⟩ := g_look hG hT
 obtain ⟨E, hE, hC⟩ := g_faults hG hK hn hT
 exact c_bestA hl (by omega) hno w hL h1 h2 hI hJ hE hC
theorem g_BestB {i : Nat} (hG : IsPS g S N tp X G) (hK : ∀ j, j < S.length → K j < N ∧ sJ S j = tp (K j)) (hn : n < 18446744073709551616) (hs : S.length < 1000) (hi : i < S.length) (hsf : (X (K i)).sF n = 0) (hno : ∀ j, i < j → j < S.length → ¬ (X (K j)).sF n = 0) (w : World) (hL : Laid w) (hT : There w G) : Cs 37 #[.pointer (some ⟨g, 0, none⟩), .int .u64 (n : Int)] w (.tuple #[.int .u32 ((sI S i : Nat) : Int), .pointer (some ⟨sJ S i, 0, none⟩), .int .i64 0]) := by
 obtain ⟨l, b, k, h1, h2, hl, hI, hJ⟩ := g_look hG hT
 obtain ⟨E, hE, hC⟩ := g_faults hG hK hn hT
 exact c_bestB hl (by omega) hi hsf hno w hL h1 h2 hI hJ hE hC
theorem g_IDs (hG : IsPS g S N tp X G) (hn : S.length < 1000) (w : World) (hL : Laid w) (hT : There w G) : Calls Tryz.prog 19 #[.pointer (some ⟨g, 0, none⟩)] w fun r w' => ∃ x : Value × List Blk, r = .returned x.1 ∧ SlW 1 (vI (sI S) S.length) S.length x.1 x.2 ∧ OkT w w' G (G ++ x.2) := by
 obtain ⟨l, b, k, h1, h2, hl, hI, hJ⟩ := g_look hG hT
 exact (c_IDs hl (by omega) w hL h1 h2 hI hJ).mono fun _ _ ⟨x, he, h3, h4⟩ => ⟨x, he, h3, okT_more hL hT h4⟩
theorem g_Tidy (hG : IsPS g S N tp X G) (hK : ∀ j, j < S.length → K j < N ∧ sJ S j = tp (K j)) (hn : n < 18446744073709551616) (hs : S.length < 1000) (w : World) (hL : Laid w) (hT : There w G) : Calls Tryz.prog 39 #[.pointer (some ⟨g, 0, none⟩), .int .u64 (n : Int)] w fun r w' => ∃ x : Value × List Blk × List Blk, r = .returned x.1 ∧ (SlW 1 (gL (fun j => (X (K j)).ov n) (sI S) S.length) (gL (fun j => (X (K j)).ov n) (sI S) S.length).length x.1 x.2.1 ∧ IsPS g (kp (fun j => (X (K j)).ov n) S S.length) N tp (xw (fun j => (X (K j)).ov n) K X S.length) x.2.2) ∧ OkT w w' G (x.2.2 ++ x.2.1) := by
 obtain ⟨sv, Ts, A, rfl, hS, hA⟩ := hG.out
 obtain ⟨l, b, k, rfl, hl, hc⟩ := slw_at hS
 exact (c_Tidy hS hl hc hs hK hA hn w hL hT).mono fun _ _ ⟨⟨so, To, sn, Tn, Bn⟩, he, h1, h2, h3, h4⟩ => ⟨(so, To, _), he, ⟨h1, sn, Tn, Bn, rfl, h2, h3⟩, by simpa using h4⟩
theorem g_Put4 (hG : IsPS g S N tp X G) (w : World) (hL : Laid w) (hT : There w G) : Cs 41 #[.pointer (some ⟨g, 0, none⟩), .int .u32 (id : Int), .pointer none] w (.int .i64 2) := by
 obtain ⟨l, b, k, h1, h2, hl, hI, hJ⟩ := g_look hG hT
 exact c_put4 w hL h1
theorem g_PutA {i m : Nat} (hG : IsPS g S N tp X G) (hs : S.length < 1000) (hm : m < N) (hi : i < S.length) (hid : sI S i = id) (h0 : ∀ j, j < i → ¬ sI S j = id) (w : World) (hL : Laid w) (hT : There w G) : Cs 41 #[.pointer (some ⟨g, 0, none⟩), .int .u32 (id : Int), .pointer (some ⟨tp m, 0, none⟩)] w (.int .i64 9) := by
 obtain ⟨l, b, k, h1, h2, hl, hI, hJ⟩ := g_look hG hT
 obtain ⟨b', T, A, rfl, hA, -⟩ := g_row hG
 exact c_putA hl (by omega) hi hid h0 w hL h1 h2 hI hJ fun w' hb hL' => r_there hA hm w' hL' ((hT.sub (sub2 b' T A)).up hb)
theorem g_PutB {m : Nat} (hG : IsPS g S N tp X G) (hm : m < N) (hid : ∀ j, j < S.length → ¬ sI S j = id) (h3 : S.length < 3) (w : World) (hL : Laid w) (hT : There w G) : Calls Tryz.prog 41 #[.pointer (some ⟨g, 0, none⟩), .int .u32 (id : Int), .pointer (some ⟨tp m, 0, none⟩)] w fun r w' => ∃ G', r = .returned (.int .i64 0) ∧ IsPS g (S ++ [⟨id, tp m⟩]) N tp X G' ∧ OkT w w' G G' := by
 obtain ⟨sv, Ts, A, rfl, hS, hA⟩ := hG.out
 obtain ⟨l, b, k, rfl, hl, hc⟩ := slw_at hS
 exact (c_putB hS hl hc hA hm hid h3 w hL hT).mono fun _ _ ⟨⟨sn, Tn⟩, he, h1, h2⟩ => ⟨_, he, ⟨sn, Tn, A, rfl, h1, hA⟩, h2⟩
theorem h_PutB {m : Nat} (hH : IsQS g S N dp Y gn H) (hid : ∀ j, j < S.length → ¬ sI S j = id) (h3 : S.length < 3) (w : World) (hL : Laid w) (hT : There w H) : Calls Tryz.prog 42 #[.pointer (some ⟨g, 0, none⟩), .int .u32 (id : Int), .pointer (some ⟨dp m, 0, none⟩)] w fun r w' => ∃ H', r = .returned (.int .i64 0) ∧ IsQS g (S ++ [⟨id, dp m⟩]) N dp Y gn H' ∧ OkT w w' H H' := by
 obtain ⟨sv, Ts, A, rfl, hS, hA⟩ := hH.out
 obtain ⟨l, b, k, rfl, hl, hc⟩ := slw_at hS
 exact (c_dputB hS hl hc hid h3 w hL hT).mono fun _ _ ⟨⟨sn, Tn⟩, he, h1, h2⟩ => ⟨_, he, ⟨sn, Tn, A, rfl, h1, hA⟩, h2⟩
theorem h_PutA {i m : Nat} (hH : IsQS g S N dp Y gn H) (hs : S.length < 1000) (hi : i < S.length) (hid : sI S i = id) (h0 : ∀ j, j < i → ¬ sI S j = id) (w : World) (hL : Laid w) (hT : There w H) : Cs 42 #[.pointer (some ⟨g, 0, none⟩), .int .u32 (id : Int), .pointer (some ⟨dp m, 0, none⟩)] w (.int .i64 9) := by
 obtain ⟨l, b, k, hl, hc⟩ := h_look hH
 obtain ⟨h1, hI, hJ⟩ := hc w hT
 exact c_dputA hl (by omega) hi hid h0 w hL h1 hI
theorem h_Find (hH : IsQS g S N dp Y gn H) (hs : S.length < 1000) (w : World) (hL : Laid w) (hT : There w H) : Cs 34 #[.pointer (some ⟨g, 0, none⟩), .int .u32 (id : Int)] w (.int .i64 (ix (fun j => decide (sI S j = id)) S.length)) := by
 obtain ⟨l, b, k, hl, hc⟩ := h_look hH
 obtain ⟨h1, hI, hJ⟩ := hc w hT
 exact c_find hl (by omega) w hL h1 hI
theorem h_Best (hH : IsQS g S N dp Y gn H) (hK : ∀ j, j < S.length → K j < N ∧ sJ S j = dp (K j)) (hy : ∀ i, i < N → (Y i).sd.size = 32) (hn : n < 18446744073709551616) (hs : S.length < 1000) (w : World) (hL : Laid w) (hT : There w H) : Cs 38 #[.pointer (some ⟨g, 0, none⟩), .int .u64 (n : Int)] w (.int .i64 (lx (fun j => (Y (K j)).su && (!(pX (Y (K j)) (gn (K j))).ov n && decide ((Y (K j)).nx < (Y (K j)).ct))) S.length)) := by
 obtain ⟨l, b, k, hl, hc⟩ := h_look hH
 obtain ⟨h1, hI, hJ⟩ := hc w hT
 obtain ⟨b', T, A, rfl, hA, -⟩ := h_row hH
 have hA2 := hT.sub (sub2 b' T A)
 have hq := fun j (hj : j < S.length) => q_cells hA (hK j hj).1 hA2
 refine c_dBest (su := fun j => (Y (K j)).su) (ov := fun j => (pX (Y (K j)) (gn (K j))).ov n) (nx := fun j => (Y (K j)).nx) (ct := fun j => (Y (K j)).ct) hl (by omega) w hL hJ h1 (fun j hj => by rw [(hK j hj).2]; exact (hq j hj).1) (fun j hj => by rw [(hK j hj).2]; exact (hq j hj).2.1) (fun j hj => by rw [(hK j hj).2]; exact (hq j hj).2.2.1) fun j hj w' hb hL' => by
  rw [(hK j hj).2]
  exact q_Over hA (hK j hj).1 (hy _ (hK j hj).1) hn w' hL' (hA2.up hb)
theorem h_Tidy (hH : IsQS g S N dp Y gn H) (hK : ∀ j, j < S.length → K j < N ∧ sJ S j = dp (K j)) (hy : ∀ i, i < N → (Y i).sd.size = 32) (hn : n < 18446744073709551616) (hs : S.length < 1000) (w : World) (hL : Laid w) (hT : There w H) : Calls Tryz.prog 40 #[.pointer (some ⟨g, 0, none⟩), .int .u64 (n : Int)] w fun r w' => ∃ x : Value × List Blk × List Blk, r = .returned x.1 ∧ (SlW 1 (gL (fun j => (pX (Y (K j)) (gn (K j))).ov n) (sI S) S.length) (gL (fun j => (pX (Y (K j)) (gn (K j))).ov n) (sI S) S.length).length x.1 x.2.1 ∧ IsQS g (kp (fun j => (pX (Y (K j)) (gn (K j))).ov n) S S.length) N dp Y (gw (fun j => (pX (Y (K j)) (gn (K j))).ov n) K gn S.length) x.2.2) ∧ OkT w w' H (x.2.2 ++ x.2.1) := by
 obtain ⟨sv, Ts, A, rfl, hS, hA⟩ := hH.out
 obtain ⟨l, b, k, rfl, hl, hc⟩ := slw_at hS
 exact (c_dTidy hl hc hs hK hA hy (fun _ => rfl) hn w hL hT).mono fun _ _ ⟨⟨so, To, sn, Tn, Bn⟩, he, h1, h2, h3, h4⟩ => ⟨(so, To, _), he, ⟨h1, sn, Tn, Bn, rfl, h2, h3⟩, by simpa using h4⟩
end
open Go.RowKit
theorem kp_rest {g : Nat → Bool} {S : List Sl} (h0 : g 0 = true) (h1 : ∀ j, 0 < j → g j = false) : ∀ {n : Nat}, n + 1 ≤ S.length → kp g S (n + 1) = (S.take (n + 1)).drop 1
 | 0, h => by
  rw [kp_yes h0, take_next (by omega)]
  simp [kp]
 | n + 1, h => by
  rw [kp_no (h1 (n + 1) (by omega)), kp_rest h0 h1 (by omega), take_next (S := S) (j := n + 1) (by omega), List.drop_append_of_le_length (by rw [List.length_take]; omega)]
theorem xw_rest {g : Nat → Bool} {K : Nat → Nat} {X : Nat → TS} (h0 : g 0 = true) (h1 : ∀ j, 0 < j → g j = false) : ∀ n, xw g K X (n + 1) = upd X (K 0) (X (K 0)).wX
 | 0 => xw_yes h0
 | n + 1 => by rw [xw_no (h1 (n + 1) (by omega)), xw_rest h0 h1 n]
theorem kp_ext {g g' : Nat → Bool} {S : List Sl} : ∀ {n : Nat}, (∀ j, j < n → g j = g' j) → kp g S n = kp g' S n
 | 0, _ => rfl
 | n + 1, h => by
  unfold kp
  rw [h n (by omega), kp_ext fun j hj => h j (by omega)]
theorem xw_ext {g g' : Nat → Bool} {K : Nat → Nat} {X : Nat → TS} : ∀ {n : Nat}, (∀ j, j < n → g j = g' j) → xw g K X n = xw g' K X n
 | 0, _ => rfl
 | n + 1, h => by
  unfold xw
  rw [h n (by omega), xw_ext fun j hj => h j (by omega)]
theorem old_goes {S : List Sl} (hd : ∀ i j, i < S.length → j < S.length → sI S i = sI S j → i = j) {n : Nat} (hn : S.length = n + 1) {K : Nat → Nat} {X : Nat → TS} : kp (fun j => decide (sI S j = sI S 0)) S S.length = S.drop 1 ∧ xw (fun j => decide (sI S j = sI S 0)) K X S.length = upd X (K 0) (X (K 0)).wX := by
 have e : ∀ j, j < n + 1 → (fun j => decide (sI S j = sI S 0)) j = (fun j => decide (j = 0)) j := fun j hj => by
  show decide (sI S j = sI S 0) = decide (j = 0)
  by_cases c : j = 0
  ·subst c
   rw [decide_eq_true rfl, decide_eq_true rfl]
  ·rw [decide_eq_false c, decide_eq_false fun h => c (hd j 0 (by omega) (by omega) h)]
 have h1 : ∀ j, 0 < j → (fun j => decide (j = 0)) j = false := fun j hj => decide_eq_false (by omega)
 rw [hn, kp_ext e, xw_ext e, kp_rest rfl h1 (by omega), xw_rest rfl h1, ← hn, List.take_length]
 exact ⟨rfl, rfl⟩
section
variable {g N k n id m : Nat} {S : List Sl} {tp dp K : Nat → Nat} {X Y : Nat → TS} {gn : Nat → Bool} {G H : List Blk}
theorem dist_next {t : Nat} (hd : ∀ i j, i < S.length → j < S.length → sI S i = sI S j → i = j) (hid : ∀ j, j < S.length → ¬ sI S j = id) : ∀ i j, i < (S ++ [(⟨id, t⟩ : Sl)]).length → j < (S ++ [(⟨id, t⟩ : Sl)]).length → sI (S ++ [⟨id, t⟩]) i = sI (S ++ [⟨id, t⟩]) j → i = j := fun i j hi hj h => by
 have e : (S ++ [(⟨id, t⟩ : Sl)]).length = S.length + 1 := by rw [List.length_append]; rfl
 rw [e] at hi hj
 by_cases ci : i = S.length
 ·by_cases cj : j = S.length
  ·omega
  ·rw [ci, (sI_end S _).1, (sI_lt (show j < S.length by omega)).1] at h
   exact absurd h.symm (hid j (by omega))
 ·by_cases cj : j = S.length
  ·rw [cj, (sI_end S _).1, (sI_lt (show i < S.length by omega)).1] at h
   exact absurd h (hid i (by omega))
  ·rw [(sI_lt (show i < S.length by omega)).1, (sI_lt (show j < S.length by omega)).1] at h
   exact hd i j (by omega) (by omega) h
theorem g_PutC (hG : IsPS g S N tp X G) (hK : ∀ j, j < S.length → K j < N ∧ sJ S j = tp (K j)) (hd : ∀ i j, i < S.length → j < S.length → sI S i = sI S j → i = j) (hm : m < N) (hid : ∀ j, j < S.length → ¬ sI S j = id) (h3 : S.length = 3) (w : World) (hL : Laid w) (hT : There w G) : Calls Tryz.prog 41 #[.pointer (some ⟨g, 0, none⟩), .int .u32 (id : Int), .pointer (some ⟨tp m, 0, none⟩)] w fun r w' => ∃ G', r = .returned (.int .i64 0) ∧ IsPS g ((S ++ [(⟨id, tp m⟩ : Sl)]).drop 1) N tp (upd X (K 0) (X (K 0)).wX) G' ∧ OkT w w' G G' := by
 obtain ⟨sv, Ts, A, rfl, hS, hA⟩ := hG.out
 obtain ⟨l, b, k, rfl, hl, hc⟩ := slw_at hS
 have e : (S ++ [(⟨id, tp m⟩ : Sl)]).length = 3 + 1 := by rw [List.length_append, h3]; rfl
 have hg := old_goes (K := upd K S.length m) (X := X) (dist_next (t := tp m) hd hid) e
 have h := c_putC hS hl hc hK hA hm hid h3 w hL hT
 rw [hg.1, hg.2, upd_other (i := 0) (k := S.length) K m (by omega)] at h
 exact h.mono fun _ _ ⟨⟨sn, Tn, Bn⟩, he, h1, h2, h4⟩ => ⟨_, he, ⟨sn, Tn, Bn, rfl, h1, h2⟩, h4⟩
theorem h_PutC (hH : IsQS g S N dp Y gn H) (hK : ∀ j, j < S.length → K j < N ∧ sJ S j = dp (K j)) (hm : m < N) (hid : ∀ j, j < S.length → ¬ sI S j = id) (h3 : S.length = 3) (w : World) (hL : Laid w) (hT : There w H) : Calls Tryz.prog 42 #[.pointer (some ⟨g, 0, none⟩), .int .u32 (id : Int), .pointer (some ⟨dp m, 0, none⟩)] w fun r w' => ∃ H', r = .returned (.int .i64 0) ∧ IsQS g ((S ++ [(⟨id, dp m⟩ : Sl)]).drop 1) N dp Y (upd gn (K 0) true) H' ∧ OkT w w' H H' := by
 obtain ⟨sv, Ts, A, rfl, hS, hA⟩ := hH.out
 obtain ⟨l, b, k, rfl, hl, hc⟩ := slw_at hS
 have h := c_dputC hS hl hc hK hA hm hid h3 w hL hT
 rw [upd_other (i := 0) (k := S.length) K m (by omega)] at h
 exact h.mono fun _ _ ⟨⟨sn, Tn, Bn⟩, he, h1, h2, h4⟩ => ⟨_, he, ⟨sn, Tn, Bn, rfl, h1, h2⟩, h4⟩
end
def vT (f : Nat → Nat) : Nat → List Value
 | 0 => []
 | j + 1 => vT f j ++ [.pointer (some ⟨f j, 0, none⟩)]
theorem vT_len (f : Nat → Nat) : ∀ n, (vT f n).length = n
 | 0 => rfl
 | n + 1 => by rw [vT, List.length_append, vT_len f n]; rfl
theorem vT_at (f : Nat → Nat) : ∀ {n j : Nat}, j < n → (vT f n)[0 + j * 1]? = some (.pointer (some ⟨f j, 0, none⟩))
 | 0, j, h => absurd h (Nat.not_lt_zero j)
 | n + 1, j, h => by
  rw [vT]
  by_cases c : j = n
  ·subst c
   rw [List.getElem?_append_right (by rw [vT_len]; omega), vT_len, show 0 + j * 1 - j = 0 by omega]
   rfl
  ·rw [List.getElem?_append_left (by rw [vT_len]; omega)]
   exact vT_at f (by omega)
theorem vT_upd (f : Nat → Nat) (x : Nat) : ∀ {n N : Nat}, n ≤ N → vT (upd f N x) n = vT f n
 | 0, _, _ => rfl
 | n + 1, N, h => by rw [vT, vT, vT_upd f x (by omega), upd_other f x (by omega)]
theorem vT_new (f : Nat → Nat) (N x : Nat) : vT (upd f N x) (N + 1) = vT f N ++ [.pointer (some ⟨x, 0, none⟩)] := by rw [vT, vT_upd f x (Nat.le_refl N), upd_self]
theorem vI_ext {I J : Nat → Nat} : ∀ {n : Nat}, (∀ j, j < n → I j = J j) → vI I n = vI J n
 | 0, _ => rfl
 | n + 1, h => by rw [vI, vI, vI_ext fun j hj => h j (by omega), h n (by omega)]
theorem gL_ext {g : Nat → Bool} {I J : Nat → Nat} : ∀ {n : Nat}, (∀ j, j < n → I j = J j) → gL g I n = gL g J n
 | 0, _ => rfl
 | n + 1, h => by
  unfold gL
  rw [gL_ext fun j hj => h j (by omega), h n (by omega)]
theorem pX_wX (y : TS) (b : Bool) : (pX y b).wX = pX y true := by cases b <;> rfl
theorem xw_gw {g : Nat → Bool} {K : Nat → Nat} {Y : Nat → TS} {gn : Nat → Bool} : ∀ n, xw g K (fun k => pX (Y k) (gn k)) n = fun k => pX (Y k) (gw g K gn n k)
 | 0 => rfl
 | n + 1 => by
  cases e : g n with
  | false => rw [xw_no e, gw_no e, xw_gw n]
  | true =>
   rw [xw_yes e, gw_yes e, xw_gw n]
   funext k
   by_cases c : k = K n
   ·subst c
    rw [upd_self, upd_self, pX_wX]
   ·rw [upd_other _ _ c, upd_other _ _ c]
theorem upd_pX {Y : Nat → TS} {gn : Nat → Bool} {k : Nat} {y : TS} {b : Bool} : upd (fun k => pX (Y k) (gn k)) k (pX y b) = fun i => pX (upd Y k y i) (upd gn k b i) := by
 funext i
 by_cases c : i = k
 ·subst c
  rw [upd_self, upd_self, upd_self]
 ·rw [upd_other _ _ c, upd_other _ _ c, upd_other _ _ c]
structure Jt (SP SQ : List Sl) (K : Nat → Nat) (N : Nat) (tp dp : Nat → Nat) (Y : Nat → TS) (c : Nat) : Prop where
 len : SQ.length = SP.length
 l3 : SP.length ≤ 3
 ids : ∀ j, j < SP.length → sI SQ j = sI SP j
 kP : ∀ j, j < SP.length → K j < N ∧ sJ SP j = tp (K j)
 kQ : ∀ j, j < SQ.length → K j < N ∧ sJ SQ j = dp (K j)
 dist : ∀ i j, i < SP.length → j < SP.length → sI SP i = sI SP j → i = j
 dk : ∀ k, k < N → (Y k).Dk ∧ (Y k).q.length ≤ c
 nN : N ≤ c
structure IsJ (z c : Nat) (Z : List Blk) : Prop where
 out : ∃ gs gr SP SQ N K tp dp Y gn G H tv Tt xv Tx, Z = ⟨z, .cells (av 4 (ls [.pointer (some ⟨gs, 0, none⟩), .pointer (some ⟨gr, 0, none⟩), tv, xv])) 65⟩ :: (G ++ (H ++ (Tt ++ Tx))) ∧ IsPS gs SP N tp (fun k => pX (Y k) (gn k)) G ∧ IsQS gr SQ N dp Y gn H ∧ SlW 1 (vT tp N) N tv Tt ∧ SlW 1 (vT dp N) N xv Tx ∧ Jt SP SQ K N tp dp Y c
end Go.Proofs.YtenafinbaanicaaGreatDoor
