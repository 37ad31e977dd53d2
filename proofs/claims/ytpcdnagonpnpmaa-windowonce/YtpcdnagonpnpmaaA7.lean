/- Which numbers may be, and are marked: WindowPlays. -/
import Derived.Test.YtpcdnagonpnpmaaA6
namespace Go.Proofs.Ytpcdnagonpnpmaa
open Go.RowKit

/-- The document's window, with other blocks. -/
def DS (c : Ctx) (W : World) (L : List Blk) (g s : Nat) (q : List Nat) : Prop := (q = [] ∧ Mem c (L ++ [⟨g, .cells (av 2 (ls [.int .i64 (s : Int), .slice none 0 0])) 31⟩]) W) ∨ ∃ k cap Z, SB Z cap (vsU q) ∧ 0 < q.length ∧ Mem c (L ++ [⟨g, .cells (av 2 (ls [.int .i64 (s : Int), .slice (some ⟨k, 0, none⟩) q.length cap])) 31⟩, ⟨k, Z⟩]) W
theorem mk_pos (s n : Nat) (l : List Nat) : 0 < (mk s l n).length := by
  by_cases h : my s l n = 0
  · rw [mk_yes h, List.length_append]
    simp
  · rw [mk_no h]
    cases l with
    | nil => exact absurd (my_nil s n) h
    | cons x r => simp
theorem mk_ne (s n : Nat) (l : List Nat) : decide (mk s l n ≠ []) = true := by
  have h := mk_pos s n l
  rw [decide_eq_true_eq]
  intro e
  rw [e] at h
  simp at h
theorem run_remN {P : Program} {a : Act} {o : Oper} (t rt : TypeId) (x y : Operand) (ho : o.op = .binOp .rem t x y rt) (m d : Nat) (hx : a.eval x = .int .i64 (m : Int)) (hy : a.eval y = .int .i64 (d : Int)) (hd : 0 < d) (w : World) :
    (execOp a.eval o).run P w = .ok (.value (.int .i64 ((m % d : Nat) : Int))) w := by
  have h0 : ¬ d = 0 := by omega
  have e : Int.tmod (m : Int) (d : Int) = (m : Int) % (d : Int) := rfl
  unfold execOp
  simp [ho, hx, hy, eqGuard, binOp, Op.intDiv, h0, e]
theorem wrapU_one (n : Nat) : IntKind.wrap .u64 ((n : Int) + 1) = (((n + 1) % 18446744073709551616 : Nat) : Int) := by
  rw [IntKind.wrap_u64]
  omega
set_option maxRecDepth 100000 in
set_option maxHeartbeats 4000000 in
set_option linter.unusedSimpArgs false in
theorem c_playsB (z : Int) (hz : z < 1 ∨ 4096 < z) (l0 : Option Addr) (len lc : Nat) (c : Nat) (w : World) (hL : Laid w)  :
    Calls Try.prog 3 #[.int .i64 z, .slice l0 len lc, .int .u64 (c : Int)] w fun r w' => r = .returned (.bool true) ∧ Below w.heap.size w w' := by
  go_enter Try.func3, Try.ntmps3
  have M := Mem.start hL
  refine wp_seq ?_
  refine rg_lit ?_
  refine pl_val (want_no rfl) (some 6) rfl (.bool false) (fun _ => by kernel_rfl) ?_
  refine pl_nil ?_
  refine au_then ?_
  refine wp_seq ?_
  refine wp_seq ?_
  refine rg_lit ?_
  refine pl_val (want_no rfl) (some 16) rfl (.slice l0 len lc) (fun _ => by kernel_rfl) ?_
  refine pl_val (want_no rfl) (some 17) rfl (.int .i64 (len : Int)) (fun _ => by kernel_rfl) ?_
  by_cases c0 : 300 < (len : Int)
  · skip
    refine pl_val (want_no rfl) (some 18) rfl (.bool true) (fun w => Eq.trans (b := .ok (.value (.bool (decide (300 < (len : Int))))) w) (by kernel_rfl) (by rw [decide_eq_true (c0)])) ?_
    refine pl_nil ?_
    refine au_then ?_
    refine wp_cond_true (by kernel_rfl) ?_
    refine wp_seq ?_
    refine rg_lit ?_
    refine pl_call M (want_no rfl) (some 19) rfl 6 #[] (.bool true) (fun _ => by kernel_rfl) (fun w M => c_alive w M.laid) ?_
    intro u1 M
    refine pl_val (want_no rfl) (some 6) rfl (.bool true) (fun _ => by kernel_rfl) ?_
    refine pl_nil ?_
    refine au_then ?_
    refine wp_ret ?_
    refine au_then_ret ?_
    exact bodyPost_ret (v := .bool true) (results_tmp1 Try.results3 _ _ _ (by kernel_rfl)) (by kernel_rfl) ⟨rfl, below_grown M.old⟩
  · skip
    refine pl_val (want_no rfl) (some 18) rfl (.bool false) (fun w => Eq.trans (b := .ok (.value (.bool (decide (300 < (len : Int))))) w) (by kernel_rfl) (by rw [decide_eq_false (c0)])) ?_
    refine pl_nil ?_
    refine au_then ?_
    refine wp_cond_false (by kernel_rfl) ?_
    refine wp_skip ?_
    refine au_then ?_
    refine wp_seq ?_
    refine rg_lit ?_
    refine pl_val (want_no rfl) (some 21) rfl (.int .i64 z) (fun _ => by kernel_rfl) ?_
    refine pl_call M (want_no rfl) (some 22) rfl 7 #[.int .i64 z] (.tuple #[.pointer none, .int .i64 2]) (fun _ => by kernel_rfl) (fun w M => c_NewE z hz w M.laid) ?_
    intro u1 M
    refine pl_val (want_no rfl) (some 20) rfl (.tuple #[.pointer none, .int .i64 2]) (fun _ => by kernel_rfl) ?_
    refine pl_val (want_no rfl) (some 23) rfl (.pointer none) (fun _ => by kernel_rfl) ?_
    refine pl_val (want_no rfl) (some 24) rfl (.int .i64 2) (fun _ => by kernel_rfl) ?_
    refine pl_val (want_no rfl) (some 7) rfl (.pointer none) (fun _ => by kernel_rfl) ?_
    refine pl_val (want_no rfl) (some 8) rfl (.int .i64 2) (fun _ => by kernel_rfl) ?_
    refine pl_nil ?_
    refine au_then ?_
    refine wp_seq ?_
    refine wp_seq ?_
    refine rg_lit ?_
    refine pl_val (want_no rfl) (some 25) rfl (.int .i64 z) (fun _ => by kernel_rfl) ?_
    by_cases c1 : z < 1
    · skip
      refine pl_val (want_no rfl) (some 26) rfl (.bool true) (fun w => Eq.trans (b := .ok (.value (.bool (decide (z < 1)))) w) (by kernel_rfl) (by rw [decide_eq_true (c1)])) ?_
      refine pl_val (want_no rfl) (some 27) rfl (.bool true) (fun _ => by kernel_rfl) ?_
      refine pl_skip (want_off 2 false rfl 27 rfl (by kernel_rfl)) (some 28) rfl ?_
      refine pl_skip (want_off 2 false rfl 27 rfl (by kernel_rfl)) (some 29) rfl ?_
      refine pl_val (want_no rfl) (some 30) rfl (.bool true) (fun _ => by kernel_rfl) ?_
      refine pl_nil ?_
      refine au_then ?_
      refine wp_cond_true (by kernel_rfl) ?_
      refine wp_seq ?_
      refine rg_lit ?_
      refine pl_val (want_no rfl) (some 31) rfl (.pointer none) (fun _ => by kernel_rfl) ?_
      refine pl_val (want_no rfl) (some 32) rfl (.bool true) (fun _ => by kernel_rfl) ?_
      refine pl_val (want_no rfl) (some 33) rfl (.bool true) (fun _ => by kernel_rfl) ?_
      refine pl_val (want_on 2 true rfl 33 rfl (by kernel_rfl)) (some 34) rfl (.int .i64 2) (fun _ => by kernel_rfl) ?_
      refine pl_val (want_on 2 true rfl 33 rfl (by kernel_rfl)) (some 35) rfl (.bool true) (fun _ => by kernel_rfl) ?_
      refine pl_val (want_no rfl) (some 36) rfl (.bool true) (fun _ => by kernel_rfl) ?_
      refine pl_val (want_no rfl) (some 37) rfl (.bool true) (fun _ => by kernel_rfl) ?_
      refine pl_call M (want_on 6 true rfl 37 rfl (by kernel_rfl)) (some 38) rfl 6 #[] (.bool true) (fun _ => by kernel_rfl) (fun w M => c_alive w M.laid) ?_
      intro u2 M
      refine pl_val (want_no rfl) (some 39) rfl (.bool true) (fun _ => by kernel_rfl) ?_
      refine pl_val (want_no rfl) (some 6) rfl (.bool true) (fun _ => by kernel_rfl) ?_
      refine pl_nil ?_
      refine au_then ?_
      refine wp_ret ?_
      refine au_then_ret ?_
      exact bodyPost_ret (v := .bool true) (results_tmp1 Try.results3 _ _ _ (by kernel_rfl)) (by kernel_rfl) ⟨rfl, below_grown M.old⟩
    · skip
      refine pl_val (want_no rfl) (some 26) rfl (.bool false) (fun w => Eq.trans (b := .ok (.value (.bool (decide (z < 1)))) w) (by kernel_rfl) (by rw [decide_eq_false (c1)])) ?_
      refine pl_val (want_no rfl) (some 27) rfl (.bool false) (fun _ => by kernel_rfl) ?_
      refine pl_val (want_on 2 false rfl 27 rfl (by kernel_rfl)) (some 28) rfl (.int .i64 z) (fun _ => by kernel_rfl) ?_
      by_cases c2 : 4096 < z
      · skip
        refine pl_val (want_on 2 false rfl 27 rfl (by kernel_rfl)) (some 29) rfl (.bool true) (fun w => Eq.trans (b := .ok (.value (.bool (decide (4096 < z)))) w) (by kernel_rfl) (by rw [decide_eq_true (c2)])) ?_
        refine pl_val (want_no rfl) (some 30) rfl (.bool true) (fun _ => by kernel_rfl) ?_
        refine pl_nil ?_
        refine au_then ?_
        refine wp_cond_true (by kernel_rfl) ?_
        refine wp_seq ?_
        refine rg_lit ?_
        refine pl_val (want_no rfl) (some 31) rfl (.pointer none) (fun _ => by kernel_rfl) ?_
        refine pl_val (want_no rfl) (some 32) rfl (.bool true) (fun _ => by kernel_rfl) ?_
        refine pl_val (want_no rfl) (some 33) rfl (.bool true) (fun _ => by kernel_rfl) ?_
        refine pl_val (want_on 2 true rfl 33 rfl (by kernel_rfl)) (some 34) rfl (.int .i64 2) (fun _ => by kernel_rfl) ?_
        refine pl_val (want_on 2 true rfl 33 rfl (by kernel_rfl)) (some 35) rfl (.bool true) (fun _ => by kernel_rfl) ?_
        refine pl_val (want_no rfl) (some 36) rfl (.bool true) (fun _ => by kernel_rfl) ?_
        refine pl_val (want_no rfl) (some 37) rfl (.bool true) (fun _ => by kernel_rfl) ?_
        refine pl_call M (want_on 6 true rfl 37 rfl (by kernel_rfl)) (some 38) rfl 6 #[] (.bool true) (fun _ => by kernel_rfl) (fun w M => c_alive w M.laid) ?_
        intro u2 M
        refine pl_val (want_no rfl) (some 39) rfl (.bool true) (fun _ => by kernel_rfl) ?_
        refine pl_val (want_no rfl) (some 6) rfl (.bool true) (fun _ => by kernel_rfl) ?_
        refine pl_nil ?_
        refine au_then ?_
        refine wp_ret ?_
        refine au_then_ret ?_
        exact bodyPost_ret (v := .bool true) (results_tmp1 Try.results3 _ _ _ (by kernel_rfl)) (by kernel_rfl) ⟨rfl, below_grown M.old⟩
      · exfalso; omega

set_option maxRecDepth 100000 in
set_option maxHeartbeats 4000000 in
set_option linter.unusedSimpArgs false in
theorem c_plays (s : Nat) (hs : 1 ≤ s) (hs4 : s ≤ 4096) (l0 : Option Addr) (b o len lc : Nat) (X : Nat → Nat) (hl0 : 0 < len → l0 = some ⟨b, o, none⟩) (hX0 : ∀ j, j < len → X j < 18446744073709551616) (c : Nat) (w : World) (hL : Laid w) (hX : ∀ j, j < len → w.cell? ⟨b, o + j * 1, none⟩ = some (.int .u64 ((X j : Nat) : Int))) :
    Calls Try.prog 3 #[.int .i64 (s : Int), .slice l0 len lc, .int .u64 (c : Int)] w fun r w' => r = .returned (.bool true) ∧ Below w.heap.size w w' := by
  go_enter Try.func3, Try.ntmps3
  have M := Mem.start hL
  refine wp_seq ?_
  refine rg_lit ?_
  refine pl_val (want_no rfl) (some 6) rfl (.bool false) (fun _ => by kernel_rfl) ?_
  refine pl_nil ?_
  refine au_then ?_
  refine wp_seq ?_
  refine wp_seq ?_
  refine rg_lit ?_
  refine pl_val (want_no rfl) (some 16) rfl (.slice l0 len lc) (fun _ => by kernel_rfl) ?_
  refine pl_val (want_no rfl) (some 17) rfl (.int .i64 (len : Int)) (fun _ => by kernel_rfl) ?_
  by_cases c0 : 300 < (len : Int)
  · skip
    refine pl_val (want_no rfl) (some 18) rfl (.bool true) (fun w => Eq.trans (b := .ok (.value (.bool (decide (300 < (len : Int))))) w) (by kernel_rfl) (by rw [decide_eq_true (c0)])) ?_
    refine pl_nil ?_
    refine au_then ?_
    refine wp_cond_true (by kernel_rfl) ?_
    refine wp_seq ?_
    refine rg_lit ?_
    refine pl_call M (want_no rfl) (some 19) rfl 6 #[] (.bool true) (fun _ => by kernel_rfl) (fun w M => c_alive w M.laid) ?_
    intro u1 M
    refine pl_val (want_no rfl) (some 6) rfl (.bool true) (fun _ => by kernel_rfl) ?_
    refine pl_nil ?_
    refine au_then ?_
    refine wp_ret ?_
    refine au_then_ret ?_
    exact bodyPost_ret (v := .bool true) (results_tmp1 Try.results3 _ _ _ (by kernel_rfl)) (by kernel_rfl) ⟨rfl, below_grown M.old⟩
  · skip
    refine pl_val (want_no rfl) (some 18) rfl (.bool false) (fun w => Eq.trans (b := .ok (.value (.bool (decide (300 < (len : Int))))) w) (by kernel_rfl) (by rw [decide_eq_false (c0)])) ?_
    refine pl_nil ?_
    refine au_then ?_
    refine wp_cond_false (by kernel_rfl) ?_
    refine wp_skip ?_
    refine au_then ?_
    refine wp_seq ?_
    refine rg_lit ?_
    refine pl_val (want_no rfl) (some 21) rfl (.int .i64 (s : Int)) (fun _ => by kernel_rfl) ?_
    refine pl_callX (L := []) (T := []) (by simpa only [List.append_nil] using M) (want_no rfl) (some 22) rfl 7 #[.int .i64 (s : Int)] (fun x : Nat × Nat => .tuple #[.pointer (some ⟨x.1, 0, none⟩), .int .i64 0]) (fun x => [⟨x.1, .cells (av 3 (ls [.int .u64 (s : Int), .int .u64 0, .slice (some ⟨x.2, 0, none⟩) (nW s) (nW s)])) 44⟩, ⟨x.2, .cells (av (nW s) (w64 (fun _ => 0))) 23⟩]) (fun _ => True) (fun _ => by kernel_rfl) (fun w M => a_New s hs hs4 w M.laid) ?_
    rintro ⟨gw0, kw0⟩ u1 - M
    replace M : Mem ⟨w, []⟩ [⟨gw0, .cells (av 3 (ls [.int .u64 (s : Int), .int .u64 0, .slice (some ⟨kw0, 0, none⟩) (nW s) (nW s)])) 44⟩, ⟨kw0, .cells (av (nW s) (w64 (fun _ => 0))) 23⟩] u1 := M
    refine pl_val (want_no rfl) (some 20) rfl (.tuple #[.pointer (some ⟨gw0, 0, none⟩), .int .i64 0]) (fun _ => by kernel_rfl) ?_
    refine pl_val (want_no rfl) (some 23) rfl (.pointer (some ⟨gw0, 0, none⟩)) (fun _ => by kernel_rfl) ?_
    refine pl_val (want_no rfl) (some 24) rfl (.int .i64 0) (fun _ => by kernel_rfl) ?_
    refine pl_val (want_no rfl) (some 7) rfl (.pointer (some ⟨gw0, 0, none⟩)) (fun _ => by kernel_rfl) ?_
    refine pl_val (want_no rfl) (some 8) rfl (.int .i64 0) (fun _ => by kernel_rfl) ?_
    refine pl_nil ?_
    refine au_then ?_
    refine wp_seq ?_
    refine wp_seq ?_
    refine rg_lit ?_
    refine pl_val (want_no rfl) (some 25) rfl (.int .i64 (s : Int)) (fun _ => by kernel_rfl) ?_
    by_cases c1 : (s : Int) < 1
    · exfalso; omega
    · skip
      refine pl_val (want_no rfl) (some 26) rfl (.bool false) (fun w => Eq.trans (b := .ok (.value (.bool (decide ((s : Int) < 1)))) w) (by kernel_rfl) (by rw [decide_eq_false (c1)])) ?_
      refine pl_val (want_no rfl) (some 27) rfl (.bool false) (fun _ => by kernel_rfl) ?_
      refine pl_val (want_on 2 false rfl 27 rfl (by kernel_rfl)) (some 28) rfl (.int .i64 (s : Int)) (fun _ => by kernel_rfl) ?_
      by_cases c2 : 4096 < (s : Int)
      · exfalso; omega
      · skip
        refine pl_val (want_on 2 false rfl 27 rfl (by kernel_rfl)) (some 29) rfl (.bool false) (fun w => Eq.trans (b := .ok (.value (.bool (decide (4096 < (s : Int))))) w) (by kernel_rfl) (by rw [decide_eq_false (c2)])) ?_
        refine pl_val (want_no rfl) (some 30) rfl (.bool false) (fun _ => by kernel_rfl) ?_
        refine pl_nil ?_
        refine au_then ?_
        refine wp_cond_false (by kernel_rfl) ?_
        refine wp_skip ?_
        refine au_then ?_
        refine wp_seq ?_
        refine wp_seq ?_
        refine rg_lit ?_
        refine pl_val (want_no rfl) (some 40) rfl (.int .i64 0) (fun _ => by kernel_rfl) ?_
        refine pl_val (want_no rfl) (some 41) rfl (.bool false) (fun _ => by kernel_rfl) ?_
        refine pl_val (want_no rfl) (some 42) rfl (.bool false) (fun _ => by kernel_rfl) ?_
        refine pl_val (want_on 2 false rfl 42 rfl (by kernel_rfl)) (some 43) rfl (.pointer (some ⟨gw0, 0, none⟩)) (fun _ => by kernel_rfl) ?_
        refine pl_val (want_on 2 false rfl 42 rfl (by kernel_rfl)) (some 44) rfl (.bool false) (fun _ => by kernel_rfl) ?_
        refine pl_val (want_no rfl) (some 45) rfl (.bool false) (fun _ => by kernel_rfl) ?_
        refine pl_nil ?_
        refine au_then ?_
        refine wp_cond_false (by kernel_rfl) ?_
        refine wp_skip ?_
        refine au_then ?_
        refine wp_seq ?_
        refine rg_lit ?_
        refine pl_val (want_no rfl) (some 46) rfl (.int .i64 (s : Int)) (fun _ => by kernel_rfl) ?_
        refine pl_val (want_no rfl) (some 47) rfl (.agg (av 2 (ls [.int .i64 (s : Int), .slice none 0 0]))) (fun _ => by kernel_rfl) ?_
        refine pl_new M (want_no rfl) (some 48) rfl (.cells (av 2 (ls [.int .i64 (s : Int), .slice none 0 0])) 31) (fun _ => by kernel_rfl) ?_
        intro g1 u2 M
        replace M : Mem ⟨w, []⟩ [⟨gw0, .cells (av 3 (ls [.int .u64 (s : Int), .int .u64 0, .slice (some ⟨kw0, 0, none⟩) (nW s) (nW s)])) 44⟩, ⟨kw0, .cells (av (nW s) (w64 (fun _ => 0))) 23⟩, ⟨g1, .cells (av 2 (ls [.int .i64 (s : Int), .slice none 0 0])) 31⟩] u2 := M
        refine pl_val (want_no rfl) (some 9) rfl (.pointer (some ⟨g1, 0, none⟩)) (fun _ => by kernel_rfl) ?_
        refine pl_nil ?_
        refine au_then ?_
        refine wp_seq ?_
        refine wp_seq ?_
        refine rg_lit ?_
        refine pl_val (want_no rfl) (some 10) rfl (.int .i64 0) (fun _ => by kernel_rfl) ?_
        refine pl_nil ?_
        refine au_then ?_
        refine wp_block ?_
        refine au_loop (fun j a w' => ∃ (v1 : Nat → Value) (g7 k7 cap7 h7 : Nat) (m7 : Nat → Int) (q9 : List Nat), a = ⟨#[.int .i64 (s : Int), .slice l0 len lc, .int .u64 (c : Int), undef, undef, undef, v1 6, .pointer (some ⟨g7, 0, none⟩), .int .i64 0, .pointer (some ⟨g1, 0, none⟩), .int .i64 (j : Int), v1 11, v1 12, v1 13, v1 14, v1 15, .slice l0 len lc, .int .i64 (len : Int), .bool false, undef, .tuple #[.pointer (some ⟨gw0, 0, none⟩), .int .i64 0], .int .i64 (s : Int), .tuple #[.pointer (some ⟨gw0, 0, none⟩), .int .i64 0], .pointer (some ⟨gw0, 0, none⟩), .int .i64 0, .int .i64 (s : Int), .bool false, .bool false, .int .i64 (s : Int), .bool false, .bool false, undef, undef, undef, undef, undef, undef, undef, undef, undef, .int .i64 0, .bool false, .bool false, .pointer (some ⟨gw0, 0, none⟩), .bool false, .bool false, .int .i64 (s : Int), .agg (av 2 (ls [.int .i64 (s : Int), .slice none 0 0])), .pointer (some ⟨g1, 0, none⟩), v1 49, v1 50, v1 51, v1 52, v1 53, v1 54, v1 55, v1 56, v1 57, v1 58, v1 59, v1 60, v1 61, v1 62, v1 63, v1 64, v1 65, v1 66, v1 67, v1 68, v1 69, v1 70, v1 71, v1 72, v1 73, v1 74, v1 75, v1 76, v1 77, v1 78, v1 79, v1 80, v1 81, v1 82, v1 83, v1 84, v1 85, v1 86, v1 87, v1 88, v1 89, v1 90, v1 91, v1 92, v1 93, v1 94, v1 95, v1 96, v1 97, v1 98, v1 99, v1 100, v1 101, v1 102, v1 103, v1 104, v1 105, v1 106, v1 107, v1 108, v1 109, v1 110, v1 111, v1 112, v1 113, v1 114, v1 115, v1 116, v1 117, v1 118, v1 119, undef], []⟩ ∧ nW s ≤ cap7 ∧ h7 < 18446744073709551616 ∧ Inv s h7 m7 q9 ∧ (∀ x ∈ q9, x < 18446744073709551616) ∧ q9.length ≤ j ∧ DS ⟨w, []⟩ w' [⟨g7, .cells (av 3 (ls [.int .u64 (s : Int), .int .u64 (h7 : Int), .slice (some ⟨k7, 0, none⟩) (nW s) cap7])) 44⟩, ⟨k7, .cells (av cap7 (w64 m7)) 23⟩] g1 s q9) len ⟨fun k_ => ([.bool false, undef, undef, undef, undef, undef, undef, undef, undef, undef, undef, undef, undef, undef, undef, undef, undef, undef, undef, undef, undef, undef, undef, undef, undef, undef, undef, undef, undef, undef, undef, undef, undef, undef, undef, undef, undef, undef, undef, undef, undef, undef, undef, undef, undef, undef, undef, undef, undef, undef, undef, undef, undef, undef, undef, undef, undef, undef, undef, undef, undef, undef, undef, undef, undef, undef, undef, undef, undef, undef, undef, undef, undef, undef, undef, undef, undef, undef, undef, undef, undef, undef, undef, undef, undef, undef, undef, undef, undef, undef, undef, undef, undef, undef, undef, undef, undef, undef, undef, undef, undef, undef, undef, undef, undef, undef, undef, undef, undef, undef, undef, undef, undef, undef] : List Value).getD (k_ - 6) undef, gw0, kw0, nW s, 0, fun _ => 0, [], by kernel_rfl, Nat.le_refl _, by decide, inv_new s, by simp, by simp, .inl ⟨rfl, M⟩⟩ ?_ ?_
        · intro j a u0 hj hI
          obtain ⟨v1, g7, k7, cap7, h7, m7, q9, rfl, hc7, hh7, I7, hqM, hqj, hD⟩ := hI
          rcases hD with ⟨hq, M⟩ | ⟨k9, cap9, Z9, hZ9, hq0, M⟩
          · skip
            refine wp_seq ?_
            refine wp_seq ?_
            refine rg_lit ?_
            refine pl_val (want_no rfl) (some 49) rfl (.int .i64 (j : Int)) (fun _ => by kernel_rfl) ?_
            refine pl_val (want_no rfl) (some 50) rfl (.slice l0 len lc) (fun _ => by kernel_rfl) ?_
            refine pl_val (want_no rfl) (some 51) rfl (.int .i64 (len : Int)) (fun _ => by kernel_rfl) ?_
            refine pl_val (want_no rfl) (some 52) rfl (.bool true) (fun w => Eq.trans (b := .ok (.value (.bool (decide ((j : Int) < (len : Int))))) w) (by kernel_rfl) (by rw [decide_eq_true (by omega)])) ?_
            refine pl_nil ?_
            refine au_then ?_
            refine wp_cond_true (by kernel_rfl) ?_
            refine wp_skip ?_
            refine au_then ?_
            refine wp_seq ?_
            refine wp_block ?_
            refine wp_seq ?_
            refine wp_seq ?_
            refine rg_lit ?_
            refine pl_val (want_no rfl) (some 55) rfl (.int .u64 (c : Int)) (fun _ => by kernel_rfl) ?_
            refine pl_val (want_no rfl) (some 56) rfl (.int .i64 (j : Int)) (fun _ => by kernel_rfl) ?_
            refine pl_val (want_no rfl) (some 57) rfl (.int .i64 ((j % 64 : Nat) : Int)) (run_remN 3 3 _ _ rfl j 64 (by kernel_rfl) (by kernel_rfl) (by decide)) ?_
            refine pl_val (want_no rfl) (some 58) rfl (.int .u64 ((j % 64 : Nat) : Int)) (fun w => Eq.trans (b := .ok (.value (.int .u64 (cv .u64 ((j % 64 : Nat) : Int)))) w) (by kernel_rfl) (by rw [cv_u64, Int.emod_eq_of_lt (by omega) (by omega)])) ?_
            refine pl_val (want_no rfl) (some 59) rfl (.int .u64 (sr (c : Int) (j % 64))) (run_shrV 23 32 _ _ rfl (c : Int) .u64 (j % 64) (by kernel_rfl) (by kernel_rfl) (by omega)) ?_
            refine pl_val (want_no rfl) (some 60) rfl (.int .u64 (un (sr (c : Int) (j % 64)) 1)) (fun _ => by kernel_rfl) ?_
            by_cases c4 : (un (sr (c : Int) (j % 64)) 1) = 1
            · skip
              refine pl_val (want_no rfl) (some 61) rfl (.bool true) (fun w => Eq.trans (b := .ok (.value (.bool (decide ((un (sr (c : Int) (j % 64)) 1) = 1)))) w) (by kernel_rfl) (by rw [decide_eq_true (c4)])) ?_
              refine pl_nil ?_
              refine au_then ?_
              refine wp_cond_true (by kernel_rfl) ?_
              refine wp_seq ?_
              refine rg_lit ?_
              refine pl_val (want_no rfl) (some 62) rfl (.pointer (some ⟨g7, 0, none⟩)) (fun _ => by kernel_rfl) ?_
              refine pl_callX (L := [⟨g7, .cells (av 3 (ls [.int .u64 (s : Int), .int .u64 (h7 : Int), .slice (some ⟨k7, 0, none⟩) (nW s) cap7])) 44⟩, ⟨k7, .cells (av cap7 (w64 m7)) 23⟩, ⟨g1, .cells (av 2 (ls [.int .i64 (s : Int), .slice none 0 0])) 31⟩]) (T := []) M (want_no rfl) (some 63) rfl 8 #[.pointer (some ⟨g7, 0, none⟩)] (fun x : Nat × Nat × Nat => .pointer (some ⟨x.1, 0, none⟩)) (fun x => [⟨x.1, .cells (av 3 (ls [.int .u64 (s : Int), .int .u64 (h7 : Int), .slice (some ⟨x.2.1, 0, none⟩) (nW s) x.2.2])) 44⟩, ⟨x.2.1, .cells (av x.2.2 (w64 (cpF (nW s) m7))) 23⟩]) (fun x => nW s ≤ x.2.2) (fun _ => by kernel_rfl) (fun w M => a_Copy g7 k7 s h7 cap7 m7 hs hs4 hc7 w M.laid (M.get 0 rfl) (M.get 1 rfl) (nodup_at M.nodup (i := 0) (j := 1) rfl rfl (by decide))) ?_
              rintro ⟨gc, kc, capc⟩ u3 hcc M
              replace M : Mem ⟨w, []⟩ [⟨g7, .cells (av 3 (ls [.int .u64 (s : Int), .int .u64 (h7 : Int), .slice (some ⟨k7, 0, none⟩) (nW s) cap7])) 44⟩, ⟨k7, .cells (av cap7 (w64 m7)) 23⟩, ⟨g1, .cells (av 2 (ls [.int .i64 (s : Int), .slice none 0 0])) 31⟩, ⟨gc, .cells (av 3 (ls [.int .u64 (s : Int), .int .u64 (h7 : Int), .slice (some ⟨kc, 0, none⟩) (nW s) capc])) 44⟩, ⟨kc, .cells (av capc (w64 (cpF (nW s) m7))) 23⟩] u3 := M
              refine pl_val (want_no rfl) (some 11) rfl (.pointer (some ⟨gc, 0, none⟩)) (fun _ => by kernel_rfl) ?_
              refine pl_nil ?_
              refine au_then ?_
              refine wp_seq ?_
              refine rg_lit ?_
              refine pl_val (want_no rfl) (some 64) rfl (.pointer (some ⟨g7, 0, none⟩)) (fun _ => by kernel_rfl) ?_
              refine pl_val (want_no rfl) (some 65) rfl (.slice l0 len lc) (fun _ => by kernel_rfl) ?_
              refine pl_val (want_no rfl) (some 66) rfl (.int .i64 (j : Int)) (fun _ => by kernel_rfl) ?_
              refine pl_val (want_no rfl) (some 67) rfl (.pointer (some ⟨b, (o + j * 1), none⟩)) (run_ixK 22 23 1 Try.underlying22 inz23 _ _ rfl l0 b o len lc (by kernel_rfl) (hl0 (by omega)) .i64 j (by kernel_rfl) (by omega)) ?_
              refine pl_cell M (want_no rfl) (some 68) rfl 23 _ rfl b (o + j * 1) (by kernel_rfl) (.int .u64 ((X j : Nat) : Int)) (fun _ => by kernel_rfl) (fun w M => M.oldc (hX j (by omega)) (by simp)) ?_
              refine pl_val (want_no rfl) (some 69) rfl (.int .u64 (((X j + 1) % 18446744073709551616 : Nat) : Int)) (fun w => Eq.trans (b := .ok (.value (.int .u64 (IntKind.wrap .u64 (((X j : Nat) : Int) + 1)))) w) (by kernel_rfl) (by rw [wrapU_one])) ?_
              refine pl_call2X M (want_no rfl) (some 70) rfl 9 #[.pointer (some ⟨g7, 0, none⟩), .int .u64 (((X j + 1) % 18446744073709551616 : Nat) : Int)] (.int .i64 (my s q9 ((X j + 1) % 18446744073709551616))) 0 1 g7 k7 _ _ (fun x : Nat × (Nat → Int) => .cells (av 3 (ls [.int .u64 (s : Int), .int .u64 (x.1 : Int), .slice (some ⟨k7, 0, none⟩) (nW s) cap7])) 44) (fun x => .cells (av cap7 (w64 x.2)) 23) (fun x => Inv s x.1 x.2 (mk s q9 ((X j + 1) % 18446744073709551616)) ∧ x.1 < 18446744073709551616) rfl rfl (fun _ => by kernel_rfl) (fun w M => a_Mark g7 k7 s h7 cap7 m7 ((X j + 1) % 18446744073709551616) q9 (my s q9 ((X j + 1) % 18446744073709551616)) (mk s q9 ((X j + 1) % 18446744073709551616)) hs hc7 hh7 (Nat.mod_lt _ (by decide)) I7 (rfl) (rfl) w M.laid (M.get 0 rfl) (M.get 1 rfl) (nodup_at M.nodup (i := 0) (j := 1) rfl rfl (by decide))) ?_
              rintro ⟨h1, m1⟩ u4 ⟨I1, hh1⟩ M
              replace M : Mem ⟨w, []⟩ [⟨g7, .cells (av 3 (ls [.int .u64 (s : Int), .int .u64 (h1 : Int), .slice (some ⟨k7, 0, none⟩) (nW s) cap7])) 44⟩, ⟨k7, .cells (av cap7 (w64 m1)) 23⟩, ⟨g1, .cells (av 2 (ls [.int .i64 (s : Int), .slice none 0 0])) 31⟩, ⟨gc, .cells (av 3 (ls [.int .u64 (s : Int), .int .u64 (h7 : Int), .slice (some ⟨kc, 0, none⟩) (nW s) capc])) 44⟩, ⟨kc, .cells (av capc (w64 (cpF (nW s) m7))) 23⟩] u4 := M
              refine pl_nil ?_
              refine au_then ?_
              refine wp_seq ?_
              refine rg_lit ?_
              refine pl_val (want_no rfl) (some 71) rfl (.pointer (some ⟨g7, 0, none⟩)) (fun _ => by kernel_rfl) ?_
              refine pl_call2X M (want_no rfl) (some 72) rfl 9 #[.pointer (some ⟨g7, 0, none⟩), .int .u64 (0 : Int)] (.int .i64 (my s (mk s q9 ((X j + 1) % 18446744073709551616)) 0)) 0 1 g7 k7 _ _ (fun x : Nat × (Nat → Int) => .cells (av 3 (ls [.int .u64 (s : Int), .int .u64 (x.1 : Int), .slice (some ⟨k7, 0, none⟩) (nW s) cap7])) 44) (fun x => .cells (av cap7 (w64 x.2)) 23) (fun x => Inv s x.1 x.2 (mk s (mk s q9 ((X j + 1) % 18446744073709551616)) 0) ∧ x.1 < 18446744073709551616) rfl rfl (fun _ => by kernel_rfl) (fun w M => a_Mark g7 k7 s h1 cap7 m1 0 (mk s q9 ((X j + 1) % 18446744073709551616)) (my s (mk s q9 ((X j + 1) % 18446744073709551616)) 0) (mk s (mk s q9 ((X j + 1) % 18446744073709551616)) 0) hs hc7 hh1 (by decide) I1 (rfl) (rfl) w M.laid (M.get 0 rfl) (M.get 1 rfl) (nodup_at M.nodup (i := 0) (j := 1) rfl rfl (by decide))) ?_
              rintro ⟨h2, m2⟩ u5 ⟨I2, hh2⟩ M
              replace M : Mem ⟨w, []⟩ [⟨g7, .cells (av 3 (ls [.int .u64 (s : Int), .int .u64 (h2 : Int), .slice (some ⟨k7, 0, none⟩) (nW s) cap7])) 44⟩, ⟨k7, .cells (av cap7 (w64 m2)) 23⟩, ⟨g1, .cells (av 2 (ls [.int .i64 (s : Int), .slice none 0 0])) 31⟩, ⟨gc, .cells (av 3 (ls [.int .u64 (s : Int), .int .u64 (h7 : Int), .slice (some ⟨kc, 0, none⟩) (nW s) capc])) 44⟩, ⟨kc, .cells (av capc (w64 (cpF (nW s) m7))) 23⟩] u5 := M
              refine pl_nil ?_
              refine au_then ?_
              refine rg_lit ?_
              refine pl_val (want_no rfl) (some 73) rfl (.pointer (some ⟨gc, 0, none⟩)) (fun _ => by kernel_rfl) ?_
              refine pl_val (want_no rfl) (some 7) rfl (.pointer (some ⟨gc, 0, none⟩)) (fun _ => by kernel_rfl) ?_
              refine pl_nil ?_
              replace M := (M.drop (.cons _ (.cons _ (List.Sublist.refl _)))).perm (List.perm_append_comm : ([_] ++ [_, _]).Perm ([_, _] ++ [_]))
              replace M : Mem ⟨w, []⟩ [⟨gc, .cells (av 3 (ls [.int .u64 (s : Int), .int .u64 (h7 : Int), .slice (some ⟨kc, 0, none⟩) (nW s) capc])) 44⟩, ⟨kc, .cells (av capc (w64 (cpF (nW s) m7))) 23⟩, ⟨g1, .cells (av 2 (ls [.int .i64 (s : Int), .slice none 0 0])) 31⟩] u5 := M
              refine au_then ?_
              refine wp_seq ?_
              refine wp_seq ?_
              refine rg_held M [] 27 rfl (by kernel_rfl) (by kernel_rfl) (fun _ _ d _ _ h => by cases d <;> exact h) ?_
              intro u6 M
              replace M : Mem ⟨w, []⟩ [⟨gc, .cells (av 3 (ls [.int .u64 (s : Int), .int .u64 (h7 : Int), .slice (some ⟨kc, 0, none⟩) (nW s) capc])) 44⟩, ⟨kc, .cells (av capc (w64 (cpF (nW s) m7))) 23⟩, ⟨g1, .cells (av 2 (ls [.int .i64 (s : Int), .slice none 0 0])) 31⟩] u6 := M
              refine hl_val (M.drop (.cons _ (.cons _ (.cons _ (.slnil))))) 0 rfl (by decide) (by kernel_rfl) (by kernel_rfl) (want_no rfl) (some 74) rfl (.pointer (some ⟨gc, 0, none⟩)) (fun _ _ => by kernel_rfl) ?_
              refine hl_val (M.drop (.cons _ (.cons _ (.cons _ (.slnil))))) 1 rfl (by decide) (by kernel_rfl) (by kernel_rfl) (want_no rfl) (some 75) rfl (.slice l0 len lc) (fun _ _ => by kernel_rfl) ?_
              refine hl_val (M.drop (.cons _ (.cons _ (.cons _ (.slnil))))) 2 rfl (by decide) (by kernel_rfl) (by kernel_rfl) (want_no rfl) (some 76) rfl (.int .i64 (j : Int)) (fun _ _ => by kernel_rfl) ?_
              refine hl_val (M.drop (.cons _ (.cons _ (.cons _ (.slnil))))) 3 rfl (by decide) (by kernel_rfl) (by kernel_rfl) (want_no rfl) (some 77) rfl (.pointer (some ⟨b, (o + j * 1), none⟩)) (fun w _ => (run_ixK 22 23 1 Try.underlying22 inz23 _ _ rfl l0 b o len lc (by kernel_rfl) (hl0 (by omega)) .i64 j (by kernel_rfl) (by omega)) w) ?_
              refine hl_cell (M.drop (.cons _ (.cons _ (.cons _ (.slnil))))) 4 rfl (by decide) (by kernel_rfl) (by kernel_rfl) (want_no rfl) (some 78) rfl 23 _ rfl b (o + j * 1) (by kernel_rfl) (.int .u64 ((X j : Nat) : Int)) (fun _ => by kernel_rfl) (fun w M => M.oldc (hX j (by omega)) (by simp)) ?_
              refine hl_val (M.drop (.cons _ (.cons _ (.cons _ (.slnil))))) 6 rfl (by decide) (by kernel_rfl) (by kernel_rfl) (want_no rfl) (some 80) rfl (.pointer (some ⟨g1, 0, none⟩)) (fun _ _ => by kernel_rfl) ?_
              refine hl_val (M.drop (.cons _ (.cons _ (.cons _ (.slnil))))) 7 rfl (by decide) (by kernel_rfl) (by kernel_rfl) (want_no rfl) (some 81) rfl (.slice l0 len lc) (fun _ _ => by kernel_rfl) ?_
              refine hl_val (M.drop (.cons _ (.cons _ (.cons _ (.slnil))))) 8 rfl (by decide) (by kernel_rfl) (by kernel_rfl) (want_no rfl) (some 82) rfl (.int .i64 (j : Int)) (fun _ _ => by kernel_rfl) ?_
              refine hl_val (M.drop (.cons _ (.cons _ (.cons _ (.slnil))))) 9 rfl (by decide) (by kernel_rfl) (by kernel_rfl) (want_no rfl) (some 83) rfl (.pointer (some ⟨b, (o + j * 1), none⟩)) (fun w _ => (run_ixK 22 23 1 Try.underlying22 inz23 _ _ rfl l0 b o len lc (by kernel_rfl) (hl0 (by omega)) .i64 j (by kernel_rfl) (by omega)) w) ?_
              refine hl_cell (M.drop (.cons _ (.cons _ (.cons _ (.slnil))))) 10 rfl (by decide) (by kernel_rfl) (by kernel_rfl) (want_no rfl) (some 84) rfl 23 _ rfl b (o + j * 1) (by kernel_rfl) (.int .u64 ((X j : Nat) : Int)) (fun _ => by kernel_rfl) (fun w M => M.oldc (hX j (by omega)) (by simp)) ?_
              refine hl_one 5 (by decide) (by kernel_rfl) rfl ?_
              refine pl_call M (want_no rfl) (some 79) rfl 10 #[.pointer (some ⟨gc, 0, none⟩), .int .u64 ((X j : Nat) : Int)] (.int .i64 (my s q9 (X j))) (fun _ => by kernel_rfl) (fun w M => a_May gc kc s h7 capc (cpF (nW s) m7) (X j) q9 (my s q9 (X j)) hs hcc hh7 (hX0 j (by omega)) (inv_copy I7 hs) (rfl) w M.laid (M.get 0 rfl) (M.get 1 rfl) (nodup_at M.nodup (i := 0) (j := 1) rfl rfl (by decide))) ?_
              intro u7 M
              refine pl_nil ?_
              refine au_then ?_
              refine ⟨(M.drop (.cons _ (.cons _ (.cons _ (.slnil))))), ?_⟩
              refine hl_one 11 (by decide) (by kernel_rfl) rfl ?_
              refine pl_call M (want_no rfl) (some 85) rfl 11 #[.pointer (some ⟨g1, 0, none⟩), .int .u64 ((X j : Nat) : Int)] (.int .i64 (my s q9 (X j))) (fun _ => by kernel_rfl) (fun w M => call_val (d_May0 g1 s (X j) w M.laid (M.get 2 rfl)) (by rw [my_nil, hq, my_nil])) ?_
              intro u8 M
              refine pl_nil ?_
              refine au_then ?_
              refine ⟨(M.drop (.cons _ (.cons _ (.cons _ (.slnil))))), ?_⟩
              refine hl_val (M.drop (.cons _ (.cons _ (.cons _ (.slnil))))) 12 rfl (by decide) (by kernel_rfl) (by kernel_rfl) (want_no rfl) (some 86) rfl (.bool false) (fun w _ => (fun w => Eq.trans (b := .ok (.value (.bool (!(decide ((my s q9 (X j)) = (my s q9 (X j))))))) w) (by kernel_rfl) (by rw [decide_eq_true rfl]; rfl)) w) ?_
              refine hl_val (M.drop (.cons _ (.cons _ (.cons _ (.slnil))))) 13 rfl (by decide) (by kernel_rfl) (by kernel_rfl) (want_no rfl) (some 87) rfl (.bool false) (fun _ _ => by kernel_rfl) ?_
              refine hl_val (M.drop (.cons _ (.cons _ (.cons _ (.slnil))))) 14 rfl (by decide) (by kernel_rfl) (by kernel_rfl) (want_on 13 false rfl 87 rfl (by kernel_rfl)) (some 88) rfl (.pointer (some ⟨gc, 0, none⟩)) (fun _ _ => by kernel_rfl) ?_
              refine hl_val (M.drop (.cons _ (.cons _ (.cons _ (.slnil))))) 15 rfl (by decide) (by kernel_rfl) (by kernel_rfl) (want_on 13 false rfl 87 rfl (by kernel_rfl)) (some 89) rfl (.slice l0 len lc) (fun _ _ => by kernel_rfl) ?_
              refine hl_val (M.drop (.cons _ (.cons _ (.cons _ (.slnil))))) 16 rfl (by decide) (by kernel_rfl) (by kernel_rfl) (want_on 13 false rfl 87 rfl (by kernel_rfl)) (some 90) rfl (.int .i64 (j : Int)) (fun _ _ => by kernel_rfl) ?_
              refine hl_val (M.drop (.cons _ (.cons _ (.cons _ (.slnil))))) 17 rfl (by decide) (by kernel_rfl) (by kernel_rfl) (want_on 13 false rfl 87 rfl (by kernel_rfl)) (some 91) rfl (.pointer (some ⟨b, (o + j * 1), none⟩)) (fun w _ => (run_ixK 22 23 1 Try.underlying22 inz23 _ _ rfl l0 b o len lc (by kernel_rfl) (hl0 (by omega)) .i64 j (by kernel_rfl) (by omega)) w) ?_
              refine hl_cell (M.drop (.cons _ (.cons _ (.cons _ (.slnil))))) 18 rfl (by decide) (by kernel_rfl) (by kernel_rfl) (want_on 13 false rfl 87 rfl (by kernel_rfl)) (some 92) rfl 23 _ rfl b (o + j * 1) (by kernel_rfl) (.int .u64 ((X j : Nat) : Int)) (fun _ => by kernel_rfl) (fun w M => M.oldc (hX j (by omega)) (by simp)) ?_
              refine hl_val (M.drop (.cons _ (.cons _ (.cons _ (.slnil))))) 20 rfl (by decide) (by kernel_rfl) (by kernel_rfl) (want_on 13 false rfl 87 rfl (by kernel_rfl)) (some 94) rfl (.pointer (some ⟨g1, 0, none⟩)) (fun _ _ => by kernel_rfl) ?_
              refine hl_val (M.drop (.cons _ (.cons _ (.cons _ (.slnil))))) 21 rfl (by decide) (by kernel_rfl) (by kernel_rfl) (want_on 13 false rfl 87 rfl (by kernel_rfl)) (some 95) rfl (.slice l0 len lc) (fun _ _ => by kernel_rfl) ?_
              refine hl_val (M.drop (.cons _ (.cons _ (.cons _ (.slnil))))) 22 rfl (by decide) (by kernel_rfl) (by kernel_rfl) (want_on 13 false rfl 87 rfl (by kernel_rfl)) (some 96) rfl (.int .i64 (j : Int)) (fun _ _ => by kernel_rfl) ?_
              refine hl_val (M.drop (.cons _ (.cons _ (.cons _ (.slnil))))) 23 rfl (by decide) (by kernel_rfl) (by kernel_rfl) (want_on 13 false rfl 87 rfl (by kernel_rfl)) (some 97) rfl (.pointer (some ⟨b, (o + j * 1), none⟩)) (fun w _ => (run_ixK 22 23 1 Try.underlying22 inz23 _ _ rfl l0 b o len lc (by kernel_rfl) (hl0 (by omega)) .i64 j (by kernel_rfl) (by omega)) w) ?_
              refine hl_cell (M.drop (.cons _ (.cons _ (.cons _ (.slnil))))) 24 rfl (by decide) (by kernel_rfl) (by kernel_rfl) (want_on 13 false rfl 87 rfl (by kernel_rfl)) (some 98) rfl 23 _ rfl b (o + j * 1) (by kernel_rfl) (.int .u64 ((X j : Nat) : Int)) (fun _ => by kernel_rfl) (fun w M => M.oldc (hX j (by omega)) (by simp)) ?_
              refine hl_one 19 (by decide) (by kernel_rfl) rfl ?_
              refine pl_call2X M (want_on 13 false rfl 87 rfl (by kernel_rfl)) (some 93) rfl 9 #[.pointer (some ⟨gc, 0, none⟩), .int .u64 ((X j : Nat) : Int)] (.int .i64 (my s q9 (X j))) 0 1 gc kc _ _ (fun x : Nat × (Nat → Int) => .cells (av 3 (ls [.int .u64 (s : Int), .int .u64 (x.1 : Int), .slice (some ⟨kc, 0, none⟩) (nW s) capc])) 44) (fun x => .cells (av capc (w64 x.2)) 23) (fun x => Inv s x.1 x.2 (mk s q9 (X j)) ∧ x.1 < 18446744073709551616) rfl rfl (fun _ => by kernel_rfl) (fun w M => a_Mark gc kc s h7 capc (cpF (nW s) m7) (X j) q9 (my s q9 (X j)) (mk s q9 (X j)) hs hcc hh7 (hX0 j (by omega)) (inv_copy I7 hs) (rfl) (rfl) w M.laid (M.get 0 rfl) (M.get 1 rfl) (nodup_at M.nodup (i := 0) (j := 1) rfl rfl (by decide))) ?_
              rintro ⟨h6, m6⟩ u9 ⟨I6, hh6⟩ M
              replace M : Mem ⟨w, []⟩ [⟨gc, .cells (av 3 (ls [.int .u64 (s : Int), .int .u64 (h6 : Int), .slice (some ⟨kc, 0, none⟩) (nW s) capc])) 44⟩, ⟨kc, .cells (av capc (w64 m6)) 23⟩, ⟨g1, .cells (av 2 (ls [.int .i64 (s : Int), .slice none 0 0])) 31⟩] u9 := M
              refine pl_nil ?_
              refine au_then ?_
              refine ⟨(M.drop (.cons _ (.cons _ (.cons _ (.slnil))))), ?_⟩
              refine hl_one 25 (by decide) (by kernel_rfl) rfl ?_
              refine pl_callX (L := [⟨gc, .cells (av 3 (ls [.int .u64 (s : Int), .int .u64 (h6 : Int), .slice (some ⟨kc, 0, none⟩) (nW s) capc])) 44⟩, ⟨kc, .cells (av capc (w64 m6)) 23⟩]) (T := [⟨g1, .cells (av 2 (ls [.int .i64 (s : Int), .slice none 0 0])) 31⟩]) M (want_on 13 false rfl 87 rfl (by kernel_rfl)) (some 99) rfl 12 #[.pointer (some ⟨g1, 0, none⟩), .int .u64 ((X j : Nat) : Int)] (fun _ : Nat × Nat × Obj => .int .i64 (my s q9 (X j))) (fun x => [⟨g1, .cells (av 2 (ls [.int .i64 (s : Int), .slice (some ⟨x.1, 0, none⟩) (mk s q9 (X j)).length x.2.1])) 31⟩, ⟨x.1, x.2.2⟩]) (fun x => SB x.2.2 x.2.1 (vsU (mk s q9 (X j)))) (fun _ => by kernel_rfl) (fun w M => (by have h := d_Mark0 g1 s (X j) w M.laid (M.get 2 rfl); rw [hq]; exact h)) ?_
              rintro ⟨k8, cap8, Z8⟩ u10 hZ8 M
              replace M : Mem ⟨w, []⟩ [⟨gc, .cells (av 3 (ls [.int .u64 (s : Int), .int .u64 (h6 : Int), .slice (some ⟨kc, 0, none⟩) (nW s) capc])) 44⟩, ⟨kc, .cells (av capc (w64 m6)) 23⟩, ⟨g1, .cells (av 2 (ls [.int .i64 (s : Int), .slice (some ⟨k8, 0, none⟩) (mk s q9 (X j)).length cap8])) 31⟩, ⟨k8, Z8⟩] u10 := M
              refine pl_nil ?_
              refine au_then ?_
              refine ⟨(M.drop (.cons _ (.cons _ (.cons _ (.cons _ (.slnil)))))), ?_⟩
              refine hl_val (M.drop (.cons _ (.cons _ (.cons _ (.cons _ (.slnil)))))) 26 rfl (by decide) (by kernel_rfl) (by kernel_rfl) (want_on 13 false rfl 87 rfl (by kernel_rfl)) (some 100) rfl (.bool false) (fun w _ => (fun w => Eq.trans (b := .ok (.value (.bool (!(decide ((my s q9 (X j)) = (my s q9 (X j))))))) w) (by kernel_rfl) (by rw [decide_eq_true rfl]; rfl)) w) ?_
              refine hl_end (by kernel_rfl) (by kernel_rfl) rfl ?_
              refine pl_val (want_no rfl) (some 101) rfl (.bool false) (fun _ => by kernel_rfl) ?_
              refine pl_nil ?_
              refine au_then ?_
              refine au_then ?_
              refine wp_cond_false (by kernel_rfl) ?_
              refine wp_skip ?_
              refine au_then ?_
              refine wp_seq ?_
              refine rg_lit ?_
              refine pl_val (want_no rfl) (some 103) rfl (.pointer (some ⟨gc, 0, none⟩)) (fun _ => by kernel_rfl) ?_
              refine pl_call M (want_no rfl) (some 104) rfl 13 #[.pointer (some ⟨gc, 0, none⟩)] (.tuple #[.int .u64 ((mx (mk s q9 (X j)) : Nat) : Int), .bool true]) (fun _ => by kernel_rfl) (fun w M => a_Highest gc kc s h6 capc m6 (mk s q9 (X j)) (mx (mk s q9 (X j))) true hs hcc hh6 I6 (rfl) (mk_ne s (X j) q9) w M.laid (M.get 0 rfl) (M.get 1 rfl) (nodup_at M.nodup (i := 0) (j := 1) rfl rfl (by decide))) ?_
              intro u11 M
              refine pl_val (want_no rfl) (some 102) rfl (.tuple #[.int .u64 ((mx (mk s q9 (X j)) : Nat) : Int), .bool true]) (fun _ => by kernel_rfl) ?_
              refine pl_val (want_no rfl) (some 105) rfl (.int .u64 ((mx (mk s q9 (X j)) : Nat) : Int)) (fun _ => by kernel_rfl) ?_
              refine pl_val (want_no rfl) (some 106) rfl (.bool true) (fun _ => by kernel_rfl) ?_
              refine pl_val (want_no rfl) (some 12) rfl (.int .u64 ((mx (mk s q9 (X j)) : Nat) : Int)) (fun _ => by kernel_rfl) ?_
              refine pl_val (want_no rfl) (some 13) rfl (.bool true) (fun _ => by kernel_rfl) ?_
              refine pl_nil ?_
              refine au_then ?_
              refine wp_seq ?_
              refine rg_lit ?_
              refine pl_val (want_no rfl) (some 108) rfl (.pointer (some ⟨g1, 0, none⟩)) (fun _ => by kernel_rfl) ?_
              refine pl_call M (want_no rfl) (some 109) rfl 14 #[.pointer (some ⟨g1, 0, none⟩)] (.tuple #[.int .u64 ((mx (mk s q9 (X j)) : Nat) : Int), .bool true]) (fun _ => by kernel_rfl) (fun w M => d_Highest1 g1 s (mk s q9 (X j)) k8 cap8 Z8 hZ8 (mk_pos _ _ _) (by have := mk_len s (X j) q9; omega) w M.laid (M.get 2 rfl) (M.get 3 rfl) (nodup_at M.nodup (i := 2) (j := 3) rfl rfl (by decide))) ?_
              intro u12 M
              refine pl_val (want_no rfl) (some 107) rfl (.tuple #[.int .u64 ((mx (mk s q9 (X j)) : Nat) : Int), .bool true]) (fun _ => by kernel_rfl) ?_
              refine pl_val (want_no rfl) (some 110) rfl (.int .u64 ((mx (mk s q9 (X j)) : Nat) : Int)) (fun _ => by kernel_rfl) ?_
              refine pl_val (want_no rfl) (some 111) rfl (.bool true) (fun _ => by kernel_rfl) ?_
              refine pl_val (want_no rfl) (some 14) rfl (.int .u64 ((mx (mk s q9 (X j)) : Nat) : Int)) (fun _ => by kernel_rfl) ?_
              refine pl_val (want_no rfl) (some 15) rfl (.bool true) (fun _ => by kernel_rfl) ?_
              refine pl_nil ?_
              refine au_then ?_
              refine wp_seq ?_
              refine rg_lit ?_
              refine pl_val (want_no rfl) (some 112) rfl (.int .u64 ((mx (mk s q9 (X j)) : Nat) : Int)) (fun _ => by kernel_rfl) ?_
              refine pl_val (want_no rfl) (some 113) rfl (.int .u64 ((mx (mk s q9 (X j)) : Nat) : Int)) (fun _ => by kernel_rfl) ?_
              refine pl_val (want_no rfl) (some 114) rfl (.bool false) (fun w => Eq.trans (b := .ok (.value (.bool (!(decide (((mx (mk s q9 (X j)) : Nat) : Int) = ((mx (mk s q9 (X j)) : Nat) : Int)))))) w) (by kernel_rfl) (by rw [decide_eq_true rfl]; rfl)) ?_
              refine pl_val (want_no rfl) (some 115) rfl (.bool false) (fun _ => by kernel_rfl) ?_
              refine pl_val (want_on 3 false rfl 115 rfl (by kernel_rfl)) (some 116) rfl (.bool true) (fun _ => by kernel_rfl) ?_
              refine pl_val (want_on 3 false rfl 115 rfl (by kernel_rfl)) (some 117) rfl (.bool true) (fun _ => by kernel_rfl) ?_
              refine pl_val (want_on 3 false rfl 115 rfl (by kernel_rfl)) (some 118) rfl (.bool false) (fun _ => by kernel_rfl) ?_
              refine pl_val (want_no rfl) (some 119) rfl (.bool false) (fun _ => by kernel_rfl) ?_
              refine pl_nil ?_
              refine au_then ?_
              refine wp_cond_false (by kernel_rfl) ?_
              refine wp_skip ?_
              refine au_block ?_
              refine au_then ?_
              refine rg_lit ?_
              refine pl_val (want_no rfl) (some 53) rfl (.int .i64 (j : Int)) (fun _ => by kernel_rfl) ?_
              refine pl_val (want_no rfl) (some 54) rfl (.int .i64 ((j + 1 : Nat) : Int)) (fun w => Eq.trans (b := .ok (.value (.int .i64 (IntKind.wrap .i64 ((j : Int) + 1)))) w) (by kernel_rfl) (by rw [wrap64 (by omega) (by omega)]; rfl)) ?_
              refine pl_val (want_no rfl) (some 10) rfl (.int .i64 ((j + 1 : Nat) : Int)) (fun _ => by kernel_rfl) ?_
              refine pl_nil ?_
              refine au_then ?_
              exact ⟨fun k_ => ([v1 6, undef, undef, undef, undef, .pointer (some ⟨gc, 0, none⟩), .int .u64 ((mx (mk s q9 (X j)) : Nat) : Int), .bool true, .int .u64 ((mx (mk s q9 (X j)) : Nat) : Int), .bool true, undef, undef, undef, undef, undef, undef, undef, undef, undef, undef, undef, undef, undef, undef, undef, undef, undef, undef, undef, undef, undef, undef, undef, undef, undef, undef, undef, undef, undef, undef, undef, undef, undef, .int .i64 (j : Int), .slice l0 len lc, .int .i64 (len : Int), .bool true, .int .i64 (j : Int), .int .i64 ((j + 1 : Nat) : Int), .int .u64 (c : Int), .int .i64 (j : Int), .int .i64 ((j % 64 : Nat) : Int), .int .u64 ((j % 64 : Nat) : Int), .int .u64 (sr (c : Int) (j % 64)), .int .u64 (un (sr (c : Int) (j % 64)) 1), .bool true, .pointer (some ⟨g7, 0, none⟩), .pointer (some ⟨gc, 0, none⟩), .pointer (some ⟨g7, 0, none⟩), .slice l0 len lc, .int .i64 (j : Int), .pointer (some ⟨b, (o + j * 1), none⟩), .int .u64 ((X j : Nat) : Int), .int .u64 (((X j + 1) % 18446744073709551616 : Nat) : Int), .int .i64 (my s q9 ((X j + 1) % 18446744073709551616)), .pointer (some ⟨g7, 0, none⟩), .int .i64 (my s (mk s q9 ((X j + 1) % 18446744073709551616)) 0), .pointer (some ⟨gc, 0, none⟩), .pointer (some ⟨gc, 0, none⟩), .slice l0 len lc, .int .i64 (j : Int), .pointer (some ⟨b, (o + j * 1), none⟩), .int .u64 ((X j : Nat) : Int), .int .i64 (my s q9 (X j)), .pointer (some ⟨g1, 0, none⟩), .slice l0 len lc, .int .i64 (j : Int), .pointer (some ⟨b, (o + j * 1), none⟩), .int .u64 ((X j : Nat) : Int), .int .i64 (my s q9 (X j)), .bool false, .bool false, .pointer (some ⟨gc, 0, none⟩), .slice l0 len lc, .int .i64 (j : Int), .pointer (some ⟨b, (o + j * 1), none⟩), .int .u64 ((X j : Nat) : Int), .int .i64 (my s q9 (X j)), .pointer (some ⟨g1, 0, none⟩), .slice l0 len lc, .int .i64 (j : Int), .pointer (some ⟨b, (o + j * 1), none⟩), .int .u64 ((X j : Nat) : Int), .int .i64 (my s q9 (X j)), .bool false, .bool false, .tuple #[.int .u64 ((mx (mk s q9 (X j)) : Nat) : Int), .bool true], .pointer (some ⟨gc, 0, none⟩), .tuple #[.int .u64 ((mx (mk s q9 (X j)) : Nat) : Int), .bool true], .int .u64 ((mx (mk s q9 (X j)) : Nat) : Int), .bool true, .tuple #[.int .u64 ((mx (mk s q9 (X j)) : Nat) : Int), .bool true], .pointer (some ⟨g1, 0, none⟩), .tuple #[.int .u64 ((mx (mk s q9 (X j)) : Nat) : Int), .bool true], .int .u64 ((mx (mk s q9 (X j)) : Nat) : Int), .bool true, .int .u64 ((mx (mk s q9 (X j)) : Nat) : Int), .int .u64 ((mx (mk s q9 (X j)) : Nat) : Int), .bool false, .bool false, .bool true, .bool true, .bool false, .bool false] : List Value).getD (k_ - 6) undef, gc, kc, capc, h6, m6, mk s q9 (X j), by kernel_rfl, hcc, hh6, I6, mk_lt hqM (hX0 j (by omega)), by have := mk_len s (X j) q9; omega, .inr ⟨k8, cap8, Z8, hZ8, mk_pos _ _ _, M⟩⟩
            · skip
              refine pl_val (want_no rfl) (some 61) rfl (.bool false) (fun w => Eq.trans (b := .ok (.value (.bool (decide ((un (sr (c : Int) (j % 64)) 1) = 1)))) w) (by kernel_rfl) (by rw [decide_eq_false (c4)])) ?_
              refine pl_nil ?_
              refine au_then ?_
              refine wp_cond_false (by kernel_rfl) ?_
              refine wp_skip ?_
              refine au_then ?_
              refine wp_seq ?_
              refine wp_seq ?_
              refine rg_held M [] 27 rfl (by kernel_rfl) (by kernel_rfl) (fun _ _ d _ _ h => by cases d <;> exact h) ?_
              intro u3 M
              replace M : Mem ⟨w, []⟩ [⟨g7, .cells (av 3 (ls [.int .u64 (s : Int), .int .u64 (h7 : Int), .slice (some ⟨k7, 0, none⟩) (nW s) cap7])) 44⟩, ⟨k7, .cells (av cap7 (w64 m7)) 23⟩, ⟨g1, .cells (av 2 (ls [.int .i64 (s : Int), .slice none 0 0])) 31⟩] u3 := M
              refine hl_val (M.drop (.cons _ (.cons _ (.cons _ (.slnil))))) 0 rfl (by decide) (by kernel_rfl) (by kernel_rfl) (want_no rfl) (some 74) rfl (.pointer (some ⟨g7, 0, none⟩)) (fun _ _ => by kernel_rfl) ?_
              refine hl_val (M.drop (.cons _ (.cons _ (.cons _ (.slnil))))) 1 rfl (by decide) (by kernel_rfl) (by kernel_rfl) (want_no rfl) (some 75) rfl (.slice l0 len lc) (fun _ _ => by kernel_rfl) ?_
              refine hl_val (M.drop (.cons _ (.cons _ (.cons _ (.slnil))))) 2 rfl (by decide) (by kernel_rfl) (by kernel_rfl) (want_no rfl) (some 76) rfl (.int .i64 (j : Int)) (fun _ _ => by kernel_rfl) ?_
              refine hl_val (M.drop (.cons _ (.cons _ (.cons _ (.slnil))))) 3 rfl (by decide) (by kernel_rfl) (by kernel_rfl) (want_no rfl) (some 77) rfl (.pointer (some ⟨b, (o + j * 1), none⟩)) (fun w _ => (run_ixK 22 23 1 Try.underlying22 inz23 _ _ rfl l0 b o len lc (by kernel_rfl) (hl0 (by omega)) .i64 j (by kernel_rfl) (by omega)) w) ?_
              refine hl_cell (M.drop (.cons _ (.cons _ (.cons _ (.slnil))))) 4 rfl (by decide) (by kernel_rfl) (by kernel_rfl) (want_no rfl) (some 78) rfl 23 _ rfl b (o + j * 1) (by kernel_rfl) (.int .u64 ((X j : Nat) : Int)) (fun _ => by kernel_rfl) (fun w M => M.oldc (hX j (by omega)) (by simp)) ?_
              refine hl_val (M.drop (.cons _ (.cons _ (.cons _ (.slnil))))) 6 rfl (by decide) (by kernel_rfl) (by kernel_rfl) (want_no rfl) (some 80) rfl (.pointer (some ⟨g1, 0, none⟩)) (fun _ _ => by kernel_rfl) ?_
              refine hl_val (M.drop (.cons _ (.cons _ (.cons _ (.slnil))))) 7 rfl (by decide) (by kernel_rfl) (by kernel_rfl) (want_no rfl) (some 81) rfl (.slice l0 len lc) (fun _ _ => by kernel_rfl) ?_
              refine hl_val (M.drop (.cons _ (.cons _ (.cons _ (.slnil))))) 8 rfl (by decide) (by kernel_rfl) (by kernel_rfl) (want_no rfl) (some 82) rfl (.int .i64 (j : Int)) (fun _ _ => by kernel_rfl) ?_
              refine hl_val (M.drop (.cons _ (.cons _ (.cons _ (.slnil))))) 9 rfl (by decide) (by kernel_rfl) (by kernel_rfl) (want_no rfl) (some 83) rfl (.pointer (some ⟨b, (o + j * 1), none⟩)) (fun w _ => (run_ixK 22 23 1 Try.underlying22 inz23 _ _ rfl l0 b o len lc (by kernel_rfl) (hl0 (by omega)) .i64 j (by kernel_rfl) (by omega)) w) ?_
              refine hl_cell (M.drop (.cons _ (.cons _ (.cons _ (.slnil))))) 10 rfl (by decide) (by kernel_rfl) (by kernel_rfl) (want_no rfl) (some 84) rfl 23 _ rfl b (o + j * 1) (by kernel_rfl) (.int .u64 ((X j : Nat) : Int)) (fun _ => by kernel_rfl) (fun w M => M.oldc (hX j (by omega)) (by simp)) ?_
              refine hl_one 5 (by decide) (by kernel_rfl) rfl ?_
              refine pl_call M (want_no rfl) (some 79) rfl 10 #[.pointer (some ⟨g7, 0, none⟩), .int .u64 ((X j : Nat) : Int)] (.int .i64 (my s q9 (X j))) (fun _ => by kernel_rfl) (fun w M => a_May g7 k7 s h7 cap7 m7 (X j) q9 (my s q9 (X j)) hs hc7 hh7 (hX0 j (by omega)) I7 (rfl) w M.laid (M.get 0 rfl) (M.get 1 rfl) (nodup_at M.nodup (i := 0) (j := 1) rfl rfl (by decide))) ?_
              intro u4 M
              refine pl_nil ?_
              refine au_then ?_
              refine ⟨(M.drop (.cons _ (.cons _ (.cons _ (.slnil))))), ?_⟩
              refine hl_one 11 (by decide) (by kernel_rfl) rfl ?_
              refine pl_call M (want_no rfl) (some 85) rfl 11 #[.pointer (some ⟨g1, 0, none⟩), .int .u64 ((X j : Nat) : Int)] (.int .i64 (my s q9 (X j))) (fun _ => by kernel_rfl) (fun w M => call_val (d_May0 g1 s (X j) w M.laid (M.get 2 rfl)) (by rw [my_nil, hq, my_nil])) ?_
              intro u5 M
              refine pl_nil ?_
              refine au_then ?_
              refine ⟨(M.drop (.cons _ (.cons _ (.cons _ (.slnil))))), ?_⟩
              refine hl_val (M.drop (.cons _ (.cons _ (.cons _ (.slnil))))) 12 rfl (by decide) (by kernel_rfl) (by kernel_rfl) (want_no rfl) (some 86) rfl (.bool false) (fun w _ => (fun w => Eq.trans (b := .ok (.value (.bool (!(decide ((my s q9 (X j)) = (my s q9 (X j))))))) w) (by kernel_rfl) (by rw [decide_eq_true rfl]; rfl)) w) ?_
              refine hl_val (M.drop (.cons _ (.cons _ (.cons _ (.slnil))))) 13 rfl (by decide) (by kernel_rfl) (by kernel_rfl) (want_no rfl) (some 87) rfl (.bool false) (fun _ _ => by kernel_rfl) ?_
              refine hl_val (M.drop (.cons _ (.cons _ (.cons _ (.slnil))))) 14 rfl (by decide) (by kernel_rfl) (by kernel_rfl) (want_on 13 false rfl 87 rfl (by kernel_rfl)) (some 88) rfl (.pointer (some ⟨g7, 0, none⟩)) (fun _ _ => by kernel_rfl) ?_
              refine hl_val (M.drop (.cons _ (.cons _ (.cons _ (.slnil))))) 15 rfl (by decide) (by kernel_rfl) (by kernel_rfl) (want_on 13 false rfl 87 rfl (by kernel_rfl)) (some 89) rfl (.slice l0 len lc) (fun _ _ => by kernel_rfl) ?_
              refine hl_val (M.drop (.cons _ (.cons _ (.cons _ (.slnil))))) 16 rfl (by decide) (by kernel_rfl) (by kernel_rfl) (want_on 13 false rfl 87 rfl (by kernel_rfl)) (some 90) rfl (.int .i64 (j : Int)) (fun _ _ => by kernel_rfl) ?_
              refine hl_val (M.drop (.cons _ (.cons _ (.cons _ (.slnil))))) 17 rfl (by decide) (by kernel_rfl) (by kernel_rfl) (want_on 13 false rfl 87 rfl (by kernel_rfl)) (some 91) rfl (.pointer (some ⟨b, (o + j * 1), none⟩)) (fun w _ => (run_ixK 22 23 1 Try.underlying22 inz23 _ _ rfl l0 b o len lc (by kernel_rfl) (hl0 (by omega)) .i64 j (by kernel_rfl) (by omega)) w) ?_
              refine hl_cell (M.drop (.cons _ (.cons _ (.cons _ (.slnil))))) 18 rfl (by decide) (by kernel_rfl) (by kernel_rfl) (want_on 13 false rfl 87 rfl (by kernel_rfl)) (some 92) rfl 23 _ rfl b (o + j * 1) (by kernel_rfl) (.int .u64 ((X j : Nat) : Int)) (fun _ => by kernel_rfl) (fun w M => M.oldc (hX j (by omega)) (by simp)) ?_
              refine hl_val (M.drop (.cons _ (.cons _ (.cons _ (.slnil))))) 20 rfl (by decide) (by kernel_rfl) (by kernel_rfl) (want_on 13 false rfl 87 rfl (by kernel_rfl)) (some 94) rfl (.pointer (some ⟨g1, 0, none⟩)) (fun _ _ => by kernel_rfl) ?_
              refine hl_val (M.drop (.cons _ (.cons _ (.cons _ (.slnil))))) 21 rfl (by decide) (by kernel_rfl) (by kernel_rfl) (want_on 13 false rfl 87 rfl (by kernel_rfl)) (some 95) rfl (.slice l0 len lc) (fun _ _ => by kernel_rfl) ?_
              refine hl_val (M.drop (.cons _ (.cons _ (.cons _ (.slnil))))) 22 rfl (by decide) (by kernel_rfl) (by kernel_rfl) (want_on 13 false rfl 87 rfl (by kernel_rfl)) (some 96) rfl (.int .i64 (j : Int)) (fun _ _ => by kernel_rfl) ?_
              refine hl_val (M.drop (.cons _ (.cons _ (.cons _ (.slnil))))) 23 rfl (by decide) (by kernel_rfl) (by kernel_rfl) (want_on 13 false rfl 87 rfl (by kernel_rfl)) (some 97) rfl (.pointer (some ⟨b, (o + j * 1), none⟩)) (fun w _ => (run_ixK 22 23 1 Try.underlying22 inz23 _ _ rfl l0 b o len lc (by kernel_rfl) (hl0 (by omega)) .i64 j (by kernel_rfl) (by omega)) w) ?_
              refine hl_cell (M.drop (.cons _ (.cons _ (.cons _ (.slnil))))) 24 rfl (by decide) (by kernel_rfl) (by kernel_rfl) (want_on 13 false rfl 87 rfl (by kernel_rfl)) (some 98) rfl 23 _ rfl b (o + j * 1) (by kernel_rfl) (.int .u64 ((X j : Nat) : Int)) (fun _ => by kernel_rfl) (fun w M => M.oldc (hX j (by omega)) (by simp)) ?_
              refine hl_one 19 (by decide) (by kernel_rfl) rfl ?_
              refine pl_call2X M (want_on 13 false rfl 87 rfl (by kernel_rfl)) (some 93) rfl 9 #[.pointer (some ⟨g7, 0, none⟩), .int .u64 ((X j : Nat) : Int)] (.int .i64 (my s q9 (X j))) 0 1 g7 k7 _ _ (fun x : Nat × (Nat → Int) => .cells (av 3 (ls [.int .u64 (s : Int), .int .u64 (x.1 : Int), .slice (some ⟨k7, 0, none⟩) (nW s) cap7])) 44) (fun x => .cells (av cap7 (w64 x.2)) 23) (fun x => Inv s x.1 x.2 (mk s q9 (X j)) ∧ x.1 < 18446744073709551616) rfl rfl (fun _ => by kernel_rfl) (fun w M => a_Mark g7 k7 s h7 cap7 m7 (X j) q9 (my s q9 (X j)) (mk s q9 (X j)) hs hc7 hh7 (hX0 j (by omega)) I7 (rfl) (rfl) w M.laid (M.get 0 rfl) (M.get 1 rfl) (nodup_at M.nodup (i := 0) (j := 1) rfl rfl (by decide))) ?_
              rintro ⟨h1, m1⟩ u6 ⟨I1, hh1⟩ M
              replace M : Mem ⟨w, []⟩ [⟨g7, .cells (av 3 (ls [.int .u64 (s : Int), .int .u64 (h1 : Int), .slice (some ⟨k7, 0, none⟩) (nW s) cap7])) 44⟩, ⟨k7, .cells (av cap7 (w64 m1)) 23⟩, ⟨g1, .cells (av 2 (ls [.int .i64 (s : Int), .slice none 0 0])) 31⟩] u6 := M
              refine pl_nil ?_
              refine au_then ?_
              refine ⟨(M.drop (.cons _ (.cons _ (.cons _ (.slnil))))), ?_⟩
              refine hl_one 25 (by decide) (by kernel_rfl) rfl ?_
              refine pl_callX (L := [⟨g7, .cells (av 3 (ls [.int .u64 (s : Int), .int .u64 (h1 : Int), .slice (some ⟨k7, 0, none⟩) (nW s) cap7])) 44⟩, ⟨k7, .cells (av cap7 (w64 m1)) 23⟩]) (T := [⟨g1, .cells (av 2 (ls [.int .i64 (s : Int), .slice none 0 0])) 31⟩]) M (want_on 13 false rfl 87 rfl (by kernel_rfl)) (some 99) rfl 12 #[.pointer (some ⟨g1, 0, none⟩), .int .u64 ((X j : Nat) : Int)] (fun _ : Nat × Nat × Obj => .int .i64 (my s q9 (X j))) (fun x => [⟨g1, .cells (av 2 (ls [.int .i64 (s : Int), .slice (some ⟨x.1, 0, none⟩) (mk s q9 (X j)).length x.2.1])) 31⟩, ⟨x.1, x.2.2⟩]) (fun x => SB x.2.2 x.2.1 (vsU (mk s q9 (X j)))) (fun _ => by kernel_rfl) (fun w M => (by have h := d_Mark0 g1 s (X j) w M.laid (M.get 2 rfl); rw [hq]; exact h)) ?_
              rintro ⟨k8, cap8, Z8⟩ u7 hZ8 M
              replace M : Mem ⟨w, []⟩ [⟨g7, .cells (av 3 (ls [.int .u64 (s : Int), .int .u64 (h1 : Int), .slice (some ⟨k7, 0, none⟩) (nW s) cap7])) 44⟩, ⟨k7, .cells (av cap7 (w64 m1)) 23⟩, ⟨g1, .cells (av 2 (ls [.int .i64 (s : Int), .slice (some ⟨k8, 0, none⟩) (mk s q9 (X j)).length cap8])) 31⟩, ⟨k8, Z8⟩] u7 := M
              refine pl_nil ?_
              refine au_then ?_
              refine ⟨(M.drop (.cons _ (.cons _ (.cons _ (.cons _ (.slnil)))))), ?_⟩
              refine hl_val (M.drop (.cons _ (.cons _ (.cons _ (.cons _ (.slnil)))))) 26 rfl (by decide) (by kernel_rfl) (by kernel_rfl) (want_on 13 false rfl 87 rfl (by kernel_rfl)) (some 100) rfl (.bool false) (fun w _ => (fun w => Eq.trans (b := .ok (.value (.bool (!(decide ((my s q9 (X j)) = (my s q9 (X j))))))) w) (by kernel_rfl) (by rw [decide_eq_true rfl]; rfl)) w) ?_
              refine hl_end (by kernel_rfl) (by kernel_rfl) rfl ?_
              refine pl_val (want_no rfl) (some 101) rfl (.bool false) (fun _ => by kernel_rfl) ?_
              refine pl_nil ?_
              refine au_then ?_
              refine au_then ?_
              refine wp_cond_false (by kernel_rfl) ?_
              refine wp_skip ?_
              refine au_then ?_
              refine wp_seq ?_
              refine rg_lit ?_
              refine pl_val (want_no rfl) (some 103) rfl (.pointer (some ⟨g7, 0, none⟩)) (fun _ => by kernel_rfl) ?_
              refine pl_call M (want_no rfl) (some 104) rfl 13 #[.pointer (some ⟨g7, 0, none⟩)] (.tuple #[.int .u64 ((mx (mk s q9 (X j)) : Nat) : Int), .bool true]) (fun _ => by kernel_rfl) (fun w M => a_Highest g7 k7 s h1 cap7 m1 (mk s q9 (X j)) (mx (mk s q9 (X j))) true hs hc7 hh1 I1 (rfl) (mk_ne s (X j) q9) w M.laid (M.get 0 rfl) (M.get 1 rfl) (nodup_at M.nodup (i := 0) (j := 1) rfl rfl (by decide))) ?_
              intro u8 M
              refine pl_val (want_no rfl) (some 102) rfl (.tuple #[.int .u64 ((mx (mk s q9 (X j)) : Nat) : Int), .bool true]) (fun _ => by kernel_rfl) ?_
              refine pl_val (want_no rfl) (some 105) rfl (.int .u64 ((mx (mk s q9 (X j)) : Nat) : Int)) (fun _ => by kernel_rfl) ?_
              refine pl_val (want_no rfl) (some 106) rfl (.bool true) (fun _ => by kernel_rfl) ?_
              refine pl_val (want_no rfl) (some 12) rfl (.int .u64 ((mx (mk s q9 (X j)) : Nat) : Int)) (fun _ => by kernel_rfl) ?_
              refine pl_val (want_no rfl) (some 13) rfl (.bool true) (fun _ => by kernel_rfl) ?_
              refine pl_nil ?_
              refine au_then ?_
              refine wp_seq ?_
              refine rg_lit ?_
              refine pl_val (want_no rfl) (some 108) rfl (.pointer (some ⟨g1, 0, none⟩)) (fun _ => by kernel_rfl) ?_
              refine pl_call M (want_no rfl) (some 109) rfl 14 #[.pointer (some ⟨g1, 0, none⟩)] (.tuple #[.int .u64 ((mx (mk s q9 (X j)) : Nat) : Int), .bool true]) (fun _ => by kernel_rfl) (fun w M => d_Highest1 g1 s (mk s q9 (X j)) k8 cap8 Z8 hZ8 (mk_pos _ _ _) (by have := mk_len s (X j) q9; omega) w M.laid (M.get 2 rfl) (M.get 3 rfl) (nodup_at M.nodup (i := 2) (j := 3) rfl rfl (by decide))) ?_
              intro u9 M
              refine pl_val (want_no rfl) (some 107) rfl (.tuple #[.int .u64 ((mx (mk s q9 (X j)) : Nat) : Int), .bool true]) (fun _ => by kernel_rfl) ?_
              refine pl_val (want_no rfl) (some 110) rfl (.int .u64 ((mx (mk s q9 (X j)) : Nat) : Int)) (fun _ => by kernel_rfl) ?_
              refine pl_val (want_no rfl) (some 111) rfl (.bool true) (fun _ => by kernel_rfl) ?_
              refine pl_val (want_no rfl) (some 14) rfl (.int .u64 ((mx (mk s q9 (X j)) : Nat) : Int)) (fun _ => by kernel_rfl) ?_
              refine pl_val (want_no rfl) (some 15) rfl (.bool true) (fun _ => by kernel_rfl) ?_
              refine pl_nil ?_
              refine au_then ?_
              refine wp_seq ?_
              refine rg_lit ?_
              refine pl_val (want_no rfl) (some 112) rfl (.int .u64 ((mx (mk s q9 (X j)) : Nat) : Int)) (fun _ => by kernel_rfl) ?_
              refine pl_val (want_no rfl) (some 113) rfl (.int .u64 ((mx (mk s q9 (X j)) : Nat) : Int)) (fun _ => by kernel_rfl) ?_
              refine pl_val (want_no rfl) (some 114) rfl (.bool false) (fun w => Eq.trans (b := .ok (.value (.bool (!(decide (((mx (mk s q9 (X j)) : Nat) : Int) = ((mx (mk s q9 (X j)) : Nat) : Int)))))) w) (by kernel_rfl) (by rw [decide_eq_true rfl]; rfl)) ?_
              refine pl_val (want_no rfl) (some 115) rfl (.bool false) (fun _ => by kernel_rfl) ?_
              refine pl_val (want_on 3 false rfl 115 rfl (by kernel_rfl)) (some 116) rfl (.bool true) (fun _ => by kernel_rfl) ?_
              refine pl_val (want_on 3 false rfl 115 rfl (by kernel_rfl)) (some 117) rfl (.bool true) (fun _ => by kernel_rfl) ?_
              refine pl_val (want_on 3 false rfl 115 rfl (by kernel_rfl)) (some 118) rfl (.bool false) (fun _ => by kernel_rfl) ?_
              refine pl_val (want_no rfl) (some 119) rfl (.bool false) (fun _ => by kernel_rfl) ?_
              refine pl_nil ?_
              refine au_then ?_
              refine wp_cond_false (by kernel_rfl) ?_
              refine wp_skip ?_
              refine au_block ?_
              refine au_then ?_
              refine rg_lit ?_
              refine pl_val (want_no rfl) (some 53) rfl (.int .i64 (j : Int)) (fun _ => by kernel_rfl) ?_
              refine pl_val (want_no rfl) (some 54) rfl (.int .i64 ((j + 1 : Nat) : Int)) (fun w => Eq.trans (b := .ok (.value (.int .i64 (IntKind.wrap .i64 ((j : Int) + 1)))) w) (by kernel_rfl) (by rw [wrap64 (by omega) (by omega)]; rfl)) ?_
              refine pl_val (want_no rfl) (some 10) rfl (.int .i64 ((j + 1 : Nat) : Int)) (fun _ => by kernel_rfl) ?_
              refine pl_nil ?_
              refine au_then ?_
              exact ⟨fun k_ => ([v1 6, undef, undef, undef, undef, v1 11, .int .u64 ((mx (mk s q9 (X j)) : Nat) : Int), .bool true, .int .u64 ((mx (mk s q9 (X j)) : Nat) : Int), .bool true, undef, undef, undef, undef, undef, undef, undef, undef, undef, undef, undef, undef, undef, undef, undef, undef, undef, undef, undef, undef, undef, undef, undef, undef, undef, undef, undef, undef, undef, undef, undef, undef, undef, .int .i64 (j : Int), .slice l0 len lc, .int .i64 (len : Int), .bool true, .int .i64 (j : Int), .int .i64 ((j + 1 : Nat) : Int), .int .u64 (c : Int), .int .i64 (j : Int), .int .i64 ((j % 64 : Nat) : Int), .int .u64 ((j % 64 : Nat) : Int), .int .u64 (sr (c : Int) (j % 64)), .int .u64 (un (sr (c : Int) (j % 64)) 1), .bool false, v1 62, v1 63, v1 64, v1 65, v1 66, v1 67, v1 68, v1 69, v1 70, v1 71, v1 72, v1 73, .pointer (some ⟨g7, 0, none⟩), .slice l0 len lc, .int .i64 (j : Int), .pointer (some ⟨b, (o + j * 1), none⟩), .int .u64 ((X j : Nat) : Int), .int .i64 (my s q9 (X j)), .pointer (some ⟨g1, 0, none⟩), .slice l0 len lc, .int .i64 (j : Int), .pointer (some ⟨b, (o + j * 1), none⟩), .int .u64 ((X j : Nat) : Int), .int .i64 (my s q9 (X j)), .bool false, .bool false, .pointer (some ⟨g7, 0, none⟩), .slice l0 len lc, .int .i64 (j : Int), .pointer (some ⟨b, (o + j * 1), none⟩), .int .u64 ((X j : Nat) : Int), .int .i64 (my s q9 (X j)), .pointer (some ⟨g1, 0, none⟩), .slice l0 len lc, .int .i64 (j : Int), .pointer (some ⟨b, (o + j * 1), none⟩), .int .u64 ((X j : Nat) : Int), .int .i64 (my s q9 (X j)), .bool false, .bool false, .tuple #[.int .u64 ((mx (mk s q9 (X j)) : Nat) : Int), .bool true], .pointer (some ⟨g7, 0, none⟩), .tuple #[.int .u64 ((mx (mk s q9 (X j)) : Nat) : Int), .bool true], .int .u64 ((mx (mk s q9 (X j)) : Nat) : Int), .bool true, .tuple #[.int .u64 ((mx (mk s q9 (X j)) : Nat) : Int), .bool true], .pointer (some ⟨g1, 0, none⟩), .tuple #[.int .u64 ((mx (mk s q9 (X j)) : Nat) : Int), .bool true], .int .u64 ((mx (mk s q9 (X j)) : Nat) : Int), .bool true, .int .u64 ((mx (mk s q9 (X j)) : Nat) : Int), .int .u64 ((mx (mk s q9 (X j)) : Nat) : Int), .bool false, .bool false, .bool true, .bool true, .bool false, .bool false] : List Value).getD (k_ - 6) undef, g7, k7, cap7, h1, m1, mk s q9 (X j), by kernel_rfl, hc7, hh1, I1, mk_lt hqM (hX0 j (by omega)), by have := mk_len s (X j) q9; omega, .inr ⟨k8, cap8, Z8, hZ8, mk_pos _ _ _, M⟩⟩
          · skip
            have hql : q9.length < 1000000 := by omega
            refine wp_seq ?_
            refine wp_seq ?_
            refine rg_lit ?_
            refine pl_val (want_no rfl) (some 49) rfl (.int .i64 (j : Int)) (fun _ => by kernel_rfl) ?_
            refine pl_val (want_no rfl) (some 50) rfl (.slice l0 len lc) (fun _ => by kernel_rfl) ?_
            refine pl_val (want_no rfl) (some 51) rfl (.int .i64 (len : Int)) (fun _ => by kernel_rfl) ?_
            refine pl_val (want_no rfl) (some 52) rfl (.bool true) (fun w => Eq.trans (b := .ok (.value (.bool (decide ((j : Int) < (len : Int))))) w) (by kernel_rfl) (by rw [decide_eq_true (by omega)])) ?_
            refine pl_nil ?_
            refine au_then ?_
            refine wp_cond_true (by kernel_rfl) ?_
            refine wp_skip ?_
            refine au_then ?_
            refine wp_seq ?_
            refine wp_block ?_
            refine wp_seq ?_
            refine wp_seq ?_
            refine rg_lit ?_
            refine pl_val (want_no rfl) (some 55) rfl (.int .u64 (c : Int)) (fun _ => by kernel_rfl) ?_
            refine pl_val (want_no rfl) (some 56) rfl (.int .i64 (j : Int)) (fun _ => by kernel_rfl) ?_
            refine pl_val (want_no rfl) (some 57) rfl (.int .i64 ((j % 64 : Nat) : Int)) (run_remN 3 3 _ _ rfl j 64 (by kernel_rfl) (by kernel_rfl) (by decide)) ?_
            refine pl_val (want_no rfl) (some 58) rfl (.int .u64 ((j % 64 : Nat) : Int)) (fun w => Eq.trans (b := .ok (.value (.int .u64 (cv .u64 ((j % 64 : Nat) : Int)))) w) (by kernel_rfl) (by rw [cv_u64, Int.emod_eq_of_lt (by omega) (by omega)])) ?_
            refine pl_val (want_no rfl) (some 59) rfl (.int .u64 (sr (c : Int) (j % 64))) (run_shrV 23 32 _ _ rfl (c : Int) .u64 (j % 64) (by kernel_rfl) (by kernel_rfl) (by omega)) ?_
            refine pl_val (want_no rfl) (some 60) rfl (.int .u64 (un (sr (c : Int) (j % 64)) 1)) (fun _ => by kernel_rfl) ?_
            by_cases c4 : (un (sr (c : Int) (j % 64)) 1) = 1
            · skip
              refine pl_val (want_no rfl) (some 61) rfl (.bool true) (fun w => Eq.trans (b := .ok (.value (.bool (decide ((un (sr (c : Int) (j % 64)) 1) = 1)))) w) (by kernel_rfl) (by rw [decide_eq_true (c4)])) ?_
              refine pl_nil ?_
              refine au_then ?_
              refine wp_cond_true (by kernel_rfl) ?_
              refine wp_seq ?_
              refine rg_lit ?_
              refine pl_val (want_no rfl) (some 62) rfl (.pointer (some ⟨g7, 0, none⟩)) (fun _ => by kernel_rfl) ?_
              refine pl_callX (L := [⟨g7, .cells (av 3 (ls [.int .u64 (s : Int), .int .u64 (h7 : Int), .slice (some ⟨k7, 0, none⟩) (nW s) cap7])) 44⟩, ⟨k7, .cells (av cap7 (w64 m7)) 23⟩, ⟨g1, .cells (av 2 (ls [.int .i64 (s : Int), .slice (some ⟨k9, 0, none⟩) q9.length cap9])) 31⟩, ⟨k9, Z9⟩]) (T := []) M (want_no rfl) (some 63) rfl 8 #[.pointer (some ⟨g7, 0, none⟩)] (fun x : Nat × Nat × Nat => .pointer (some ⟨x.1, 0, none⟩)) (fun x => [⟨x.1, .cells (av 3 (ls [.int .u64 (s : Int), .int .u64 (h7 : Int), .slice (some ⟨x.2.1, 0, none⟩) (nW s) x.2.2])) 44⟩, ⟨x.2.1, .cells (av x.2.2 (w64 (cpF (nW s) m7))) 23⟩]) (fun x => nW s ≤ x.2.2) (fun _ => by kernel_rfl) (fun w M => a_Copy g7 k7 s h7 cap7 m7 hs hs4 hc7 w M.laid (M.get 0 rfl) (M.get 1 rfl) (nodup_at M.nodup (i := 0) (j := 1) rfl rfl (by decide))) ?_
              rintro ⟨gc, kc, capc⟩ u3 hcc M
              replace M : Mem ⟨w, []⟩ [⟨g7, .cells (av 3 (ls [.int .u64 (s : Int), .int .u64 (h7 : Int), .slice (some ⟨k7, 0, none⟩) (nW s) cap7])) 44⟩, ⟨k7, .cells (av cap7 (w64 m7)) 23⟩, ⟨g1, .cells (av 2 (ls [.int .i64 (s : Int), .slice (some ⟨k9, 0, none⟩) q9.length cap9])) 31⟩, ⟨k9, Z9⟩, ⟨gc, .cells (av 3 (ls [.int .u64 (s : Int), .int .u64 (h7 : Int), .slice (some ⟨kc, 0, none⟩) (nW s) capc])) 44⟩, ⟨kc, .cells (av capc (w64 (cpF (nW s) m7))) 23⟩] u3 := M
              refine pl_val (want_no rfl) (some 11) rfl (.pointer (some ⟨gc, 0, none⟩)) (fun _ => by kernel_rfl) ?_
              refine pl_nil ?_
              refine au_then ?_
              refine wp_seq ?_
              refine rg_lit ?_
              refine pl_val (want_no rfl) (some 64) rfl (.pointer (some ⟨g7, 0, none⟩)) (fun _ => by kernel_rfl) ?_
              refine pl_val (want_no rfl) (some 65) rfl (.slice l0 len lc) (fun _ => by kernel_rfl) ?_
              refine pl_val (want_no rfl) (some 66) rfl (.int .i64 (j : Int)) (fun _ => by kernel_rfl) ?_
              refine pl_val (want_no rfl) (some 67) rfl (.pointer (some ⟨b, (o + j * 1), none⟩)) (run_ixK 22 23 1 Try.underlying22 inz23 _ _ rfl l0 b o len lc (by kernel_rfl) (hl0 (by omega)) .i64 j (by kernel_rfl) (by omega)) ?_
              refine pl_cell M (want_no rfl) (some 68) rfl 23 _ rfl b (o + j * 1) (by kernel_rfl) (.int .u64 ((X j : Nat) : Int)) (fun _ => by kernel_rfl) (fun w M => M.oldc (hX j (by omega)) (by simp)) ?_
              refine pl_val (want_no rfl) (some 69) rfl (.int .u64 (((X j + 1) % 18446744073709551616 : Nat) : Int)) (fun w => Eq.trans (b := .ok (.value (.int .u64 (IntKind.wrap .u64 (((X j : Nat) : Int) + 1)))) w) (by kernel_rfl) (by rw [wrapU_one])) ?_
              refine pl_call2X M (want_no rfl) (some 70) rfl 9 #[.pointer (some ⟨g7, 0, none⟩), .int .u64 (((X j + 1) % 18446744073709551616 : Nat) : Int)] (.int .i64 (my s q9 ((X j + 1) % 18446744073709551616))) 0 1 g7 k7 _ _ (fun x : Nat × (Nat → Int) => .cells (av 3 (ls [.int .u64 (s : Int), .int .u64 (x.1 : Int), .slice (some ⟨k7, 0, none⟩) (nW s) cap7])) 44) (fun x => .cells (av cap7 (w64 x.2)) 23) (fun x => Inv s x.1 x.2 (mk s q9 ((X j + 1) % 18446744073709551616)) ∧ x.1 < 18446744073709551616) rfl rfl (fun _ => by kernel_rfl) (fun w M => a_Mark g7 k7 s h7 cap7 m7 ((X j + 1) % 18446744073709551616) q9 (my s q9 ((X j + 1) % 18446744073709551616)) (mk s q9 ((X j + 1) % 18446744073709551616)) hs hc7 hh7 (Nat.mod_lt _ (by decide)) I7 (rfl) (rfl) w M.laid (M.get 0 rfl) (M.get 1 rfl) (nodup_at M.nodup (i := 0) (j := 1) rfl rfl (by decide))) ?_
              rintro ⟨h1, m1⟩ u4 ⟨I1, hh1⟩ M
              replace M : Mem ⟨w, []⟩ [⟨g7, .cells (av 3 (ls [.int .u64 (s : Int), .int .u64 (h1 : Int), .slice (some ⟨k7, 0, none⟩) (nW s) cap7])) 44⟩, ⟨k7, .cells (av cap7 (w64 m1)) 23⟩, ⟨g1, .cells (av 2 (ls [.int .i64 (s : Int), .slice (some ⟨k9, 0, none⟩) q9.length cap9])) 31⟩, ⟨k9, Z9⟩, ⟨gc, .cells (av 3 (ls [.int .u64 (s : Int), .int .u64 (h7 : Int), .slice (some ⟨kc, 0, none⟩) (nW s) capc])) 44⟩, ⟨kc, .cells (av capc (w64 (cpF (nW s) m7))) 23⟩] u4 := M
              refine pl_nil ?_
              refine au_then ?_
              refine wp_seq ?_
              refine rg_lit ?_
              refine pl_val (want_no rfl) (some 71) rfl (.pointer (some ⟨g7, 0, none⟩)) (fun _ => by kernel_rfl) ?_
              refine pl_call2X M (want_no rfl) (some 72) rfl 9 #[.pointer (some ⟨g7, 0, none⟩), .int .u64 (0 : Int)] (.int .i64 (my s (mk s q9 ((X j + 1) % 18446744073709551616)) 0)) 0 1 g7 k7 _ _ (fun x : Nat × (Nat → Int) => .cells (av 3 (ls [.int .u64 (s : Int), .int .u64 (x.1 : Int), .slice (some ⟨k7, 0, none⟩) (nW s) cap7])) 44) (fun x => .cells (av cap7 (w64 x.2)) 23) (fun x => Inv s x.1 x.2 (mk s (mk s q9 ((X j + 1) % 18446744073709551616)) 0) ∧ x.1 < 18446744073709551616) rfl rfl (fun _ => by kernel_rfl) (fun w M => a_Mark g7 k7 s h1 cap7 m1 0 (mk s q9 ((X j + 1) % 18446744073709551616)) (my s (mk s q9 ((X j + 1) % 18446744073709551616)) 0) (mk s (mk s q9 ((X j + 1) % 18446744073709551616)) 0) hs hc7 hh1 (by decide) I1 (rfl) (rfl) w M.laid (M.get 0 rfl) (M.get 1 rfl) (nodup_at M.nodup (i := 0) (j := 1) rfl rfl (by decide))) ?_
              rintro ⟨h2, m2⟩ u5 ⟨I2, hh2⟩ M
              replace M : Mem ⟨w, []⟩ [⟨g7, .cells (av 3 (ls [.int .u64 (s : Int), .int .u64 (h2 : Int), .slice (some ⟨k7, 0, none⟩) (nW s) cap7])) 44⟩, ⟨k7, .cells (av cap7 (w64 m2)) 23⟩, ⟨g1, .cells (av 2 (ls [.int .i64 (s : Int), .slice (some ⟨k9, 0, none⟩) q9.length cap9])) 31⟩, ⟨k9, Z9⟩, ⟨gc, .cells (av 3 (ls [.int .u64 (s : Int), .int .u64 (h7 : Int), .slice (some ⟨kc, 0, none⟩) (nW s) capc])) 44⟩, ⟨kc, .cells (av capc (w64 (cpF (nW s) m7))) 23⟩] u5 := M
              refine pl_nil ?_
              refine au_then ?_
              refine rg_lit ?_
              refine pl_val (want_no rfl) (some 73) rfl (.pointer (some ⟨gc, 0, none⟩)) (fun _ => by kernel_rfl) ?_
              refine pl_val (want_no rfl) (some 7) rfl (.pointer (some ⟨gc, 0, none⟩)) (fun _ => by kernel_rfl) ?_
              refine pl_nil ?_
              replace M := (M.drop (.cons _ (.cons _ (List.Sublist.refl _)))).perm (List.perm_append_comm : ([_, _] ++ [_, _]).Perm ([_, _] ++ [_, _]))
              replace M : Mem ⟨w, []⟩ [⟨gc, .cells (av 3 (ls [.int .u64 (s : Int), .int .u64 (h7 : Int), .slice (some ⟨kc, 0, none⟩) (nW s) capc])) 44⟩, ⟨kc, .cells (av capc (w64 (cpF (nW s) m7))) 23⟩, ⟨g1, .cells (av 2 (ls [.int .i64 (s : Int), .slice (some ⟨k9, 0, none⟩) q9.length cap9])) 31⟩, ⟨k9, Z9⟩] u5 := M
              refine au_then ?_
              refine wp_seq ?_
              refine wp_seq ?_
              refine rg_held M [] 27 rfl (by kernel_rfl) (by kernel_rfl) (fun _ _ d _ _ h => by cases d <;> exact h) ?_
              intro u6 M
              replace M : Mem ⟨w, []⟩ [⟨gc, .cells (av 3 (ls [.int .u64 (s : Int), .int .u64 (h7 : Int), .slice (some ⟨kc, 0, none⟩) (nW s) capc])) 44⟩, ⟨kc, .cells (av capc (w64 (cpF (nW s) m7))) 23⟩, ⟨g1, .cells (av 2 (ls [.int .i64 (s : Int), .slice (some ⟨k9, 0, none⟩) q9.length cap9])) 31⟩, ⟨k9, Z9⟩] u6 := M
              refine hl_val (M.drop (.cons _ (.cons _ (.cons _ (.cons _ (.slnil)))))) 0 rfl (by decide) (by kernel_rfl) (by kernel_rfl) (want_no rfl) (some 74) rfl (.pointer (some ⟨gc, 0, none⟩)) (fun _ _ => by kernel_rfl) ?_
              refine hl_val (M.drop (.cons _ (.cons _ (.cons _ (.cons _ (.slnil)))))) 1 rfl (by decide) (by kernel_rfl) (by kernel_rfl) (want_no rfl) (some 75) rfl (.slice l0 len lc) (fun _ _ => by kernel_rfl) ?_
              refine hl_val (M.drop (.cons _ (.cons _ (.cons _ (.cons _ (.slnil)))))) 2 rfl (by decide) (by kernel_rfl) (by kernel_rfl) (want_no rfl) (some 76) rfl (.int .i64 (j : Int)) (fun _ _ => by kernel_rfl) ?_
              refine hl_val (M.drop (.cons _ (.cons _ (.cons _ (.cons _ (.slnil)))))) 3 rfl (by decide) (by kernel_rfl) (by kernel_rfl) (want_no rfl) (some 77) rfl (.pointer (some ⟨b, (o + j * 1), none⟩)) (fun w _ => (run_ixK 22 23 1 Try.underlying22 inz23 _ _ rfl l0 b o len lc (by kernel_rfl) (hl0 (by omega)) .i64 j (by kernel_rfl) (by omega)) w) ?_
              refine hl_cell (M.drop (.cons _ (.cons _ (.cons _ (.cons _ (.slnil)))))) 4 rfl (by decide) (by kernel_rfl) (by kernel_rfl) (want_no rfl) (some 78) rfl 23 _ rfl b (o + j * 1) (by kernel_rfl) (.int .u64 ((X j : Nat) : Int)) (fun _ => by kernel_rfl) (fun w M => M.oldc (hX j (by omega)) (by simp)) ?_
              refine hl_val (M.drop (.cons _ (.cons _ (.cons _ (.cons _ (.slnil)))))) 6 rfl (by decide) (by kernel_rfl) (by kernel_rfl) (want_no rfl) (some 80) rfl (.pointer (some ⟨g1, 0, none⟩)) (fun _ _ => by kernel_rfl) ?_
              refine hl_val (M.drop (.cons _ (.cons _ (.cons _ (.cons _ (.slnil)))))) 7 rfl (by decide) (by kernel_rfl) (by kernel_rfl) (want_no rfl) (some 81) rfl (.slice l0 len lc) (fun _ _ => by kernel_rfl) ?_
              refine hl_val (M.drop (.cons _ (.cons _ (.cons _ (.cons _ (.slnil)))))) 8 rfl (by decide) (by kernel_rfl) (by kernel_rfl) (want_no rfl) (some 82) rfl (.int .i64 (j : Int)) (fun _ _ => by kernel_rfl) ?_
              refine hl_val (M.drop (.cons _ (.cons _ (.cons _ (.cons _ (.slnil)))))) 9 rfl (by decide) (by kernel_rfl) (by kernel_rfl) (want_no rfl) (some 83) rfl (.pointer (some ⟨b, (o + j * 1), none⟩)) (fun w _ => (run_ixK 22 23 1 Try.underlying22 inz23 _ _ rfl l0 b o len lc (by kernel_rfl) (hl0 (by omega)) .i64 j (by kernel_rfl) (by omega)) w) ?_
              refine hl_cell (M.drop (.cons _ (.cons _ (.cons _ (.cons _ (.slnil)))))) 10 rfl (by decide) (by kernel_rfl) (by kernel_rfl) (want_no rfl) (some 84) rfl 23 _ rfl b (o + j * 1) (by kernel_rfl) (.int .u64 ((X j : Nat) : Int)) (fun _ => by kernel_rfl) (fun w M => M.oldc (hX j (by omega)) (by simp)) ?_
              refine hl_one 5 (by decide) (by kernel_rfl) rfl ?_
              refine pl_call M (want_no rfl) (some 79) rfl 10 #[.pointer (some ⟨gc, 0, none⟩), .int .u64 ((X j : Nat) : Int)] (.int .i64 (my s q9 (X j))) (fun _ => by kernel_rfl) (fun w M => a_May gc kc s h7 capc (cpF (nW s) m7) (X j) q9 (my s q9 (X j)) hs hcc hh7 (hX0 j (by omega)) (inv_copy I7 hs) (rfl) w M.laid (M.get 0 rfl) (M.get 1 rfl) (nodup_at M.nodup (i := 0) (j := 1) rfl rfl (by decide))) ?_
              intro u7 M
              refine pl_nil ?_
              refine au_then ?_
              refine ⟨(M.drop (.cons _ (.cons _ (.cons _ (.cons _ (.slnil)))))), ?_⟩
              refine hl_one 11 (by decide) (by kernel_rfl) rfl ?_
              refine pl_call M (want_no rfl) (some 85) rfl 11 #[.pointer (some ⟨g1, 0, none⟩), .int .u64 ((X j : Nat) : Int)] (.int .i64 (my s q9 (X j))) (fun _ => by kernel_rfl) (fun w M => d_May1 g1 s (X j) hs hs4 q9 k9 cap9 Z9 hZ9 hq0 hql hqM w M.laid (M.get 2 rfl) (M.get 3 rfl) (nodup_at M.nodup (i := 2) (j := 3) rfl rfl (by decide))) ?_
              intro u8 M
              refine pl_nil ?_
              refine au_then ?_
              refine ⟨(M.drop (.cons _ (.cons _ (.cons _ (.cons _ (.slnil)))))), ?_⟩
              refine hl_val (M.drop (.cons _ (.cons _ (.cons _ (.cons _ (.slnil)))))) 12 rfl (by decide) (by kernel_rfl) (by kernel_rfl) (want_no rfl) (some 86) rfl (.bool false) (fun w _ => (fun w => Eq.trans (b := .ok (.value (.bool (!(decide ((my s q9 (X j)) = (my s q9 (X j))))))) w) (by kernel_rfl) (by rw [decide_eq_true rfl]; rfl)) w) ?_
              refine hl_val (M.drop (.cons _ (.cons _ (.cons _ (.cons _ (.slnil)))))) 13 rfl (by decide) (by kernel_rfl) (by kernel_rfl) (want_no rfl) (some 87) rfl (.bool false) (fun _ _ => by kernel_rfl) ?_
              refine hl_val (M.drop (.cons _ (.cons _ (.cons _ (.cons _ (.slnil)))))) 14 rfl (by decide) (by kernel_rfl) (by kernel_rfl) (want_on 13 false rfl 87 rfl (by kernel_rfl)) (some 88) rfl (.pointer (some ⟨gc, 0, none⟩)) (fun _ _ => by kernel_rfl) ?_
              refine hl_val (M.drop (.cons _ (.cons _ (.cons _ (.cons _ (.slnil)))))) 15 rfl (by decide) (by kernel_rfl) (by kernel_rfl) (want_on 13 false rfl 87 rfl (by kernel_rfl)) (some 89) rfl (.slice l0 len lc) (fun _ _ => by kernel_rfl) ?_
              refine hl_val (M.drop (.cons _ (.cons _ (.cons _ (.cons _ (.slnil)))))) 16 rfl (by decide) (by kernel_rfl) (by kernel_rfl) (want_on 13 false rfl 87 rfl (by kernel_rfl)) (some 90) rfl (.int .i64 (j : Int)) (fun _ _ => by kernel_rfl) ?_
              refine hl_val (M.drop (.cons _ (.cons _ (.cons _ (.cons _ (.slnil)))))) 17 rfl (by decide) (by kernel_rfl) (by kernel_rfl) (want_on 13 false rfl 87 rfl (by kernel_rfl)) (some 91) rfl (.pointer (some ⟨b, (o + j * 1), none⟩)) (fun w _ => (run_ixK 22 23 1 Try.underlying22 inz23 _ _ rfl l0 b o len lc (by kernel_rfl) (hl0 (by omega)) .i64 j (by kernel_rfl) (by omega)) w) ?_
              refine hl_cell (M.drop (.cons _ (.cons _ (.cons _ (.cons _ (.slnil)))))) 18 rfl (by decide) (by kernel_rfl) (by kernel_rfl) (want_on 13 false rfl 87 rfl (by kernel_rfl)) (some 92) rfl 23 _ rfl b (o + j * 1) (by kernel_rfl) (.int .u64 ((X j : Nat) : Int)) (fun _ => by kernel_rfl) (fun w M => M.oldc (hX j (by omega)) (by simp)) ?_
              refine hl_val (M.drop (.cons _ (.cons _ (.cons _ (.cons _ (.slnil)))))) 20 rfl (by decide) (by kernel_rfl) (by kernel_rfl) (want_on 13 false rfl 87 rfl (by kernel_rfl)) (some 94) rfl (.pointer (some ⟨g1, 0, none⟩)) (fun _ _ => by kernel_rfl) ?_
              refine hl_val (M.drop (.cons _ (.cons _ (.cons _ (.cons _ (.slnil)))))) 21 rfl (by decide) (by kernel_rfl) (by kernel_rfl) (want_on 13 false rfl 87 rfl (by kernel_rfl)) (some 95) rfl (.slice l0 len lc) (fun _ _ => by kernel_rfl) ?_
              refine hl_val (M.drop (.cons _ (.cons _ (.cons _ (.cons _ (.slnil)))))) 22 rfl (by decide) (by kernel_rfl) (by kernel_rfl) (want_on 13 false rfl 87 rfl (by kernel_rfl)) (some 96) rfl (.int .i64 (j : Int)) (fun _ _ => by kernel_rfl) ?_
              refine hl_val (M.drop (.cons _ (.cons _ (.cons _ (.cons _ (.slnil)))))) 23 rfl (by decide) (by kernel_rfl) (by kernel_rfl) (want_on 13 false rfl 87 rfl (by kernel_rfl)) (some 97) rfl (.pointer (some ⟨b, (o + j * 1), none⟩)) (fun w _ => (run_ixK 22 23 1 Try.underlying22 inz23 _ _ rfl l0 b o len lc (by kernel_rfl) (hl0 (by omega)) .i64 j (by kernel_rfl) (by omega)) w) ?_
              refine hl_cell (M.drop (.cons _ (.cons _ (.cons _ (.cons _ (.slnil)))))) 24 rfl (by decide) (by kernel_rfl) (by kernel_rfl) (want_on 13 false rfl 87 rfl (by kernel_rfl)) (some 98) rfl 23 _ rfl b (o + j * 1) (by kernel_rfl) (.int .u64 ((X j : Nat) : Int)) (fun _ => by kernel_rfl) (fun w M => M.oldc (hX j (by omega)) (by simp)) ?_
              refine hl_one 19 (by decide) (by kernel_rfl) rfl ?_
              refine pl_call2X M (want_on 13 false rfl 87 rfl (by kernel_rfl)) (some 93) rfl 9 #[.pointer (some ⟨gc, 0, none⟩), .int .u64 ((X j : Nat) : Int)] (.int .i64 (my s q9 (X j))) 0 1 gc kc _ _ (fun x : Nat × (Nat → Int) => .cells (av 3 (ls [.int .u64 (s : Int), .int .u64 (x.1 : Int), .slice (some ⟨kc, 0, none⟩) (nW s) capc])) 44) (fun x => .cells (av capc (w64 x.2)) 23) (fun x => Inv s x.1 x.2 (mk s q9 (X j)) ∧ x.1 < 18446744073709551616) rfl rfl (fun _ => by kernel_rfl) (fun w M => a_Mark gc kc s h7 capc (cpF (nW s) m7) (X j) q9 (my s q9 (X j)) (mk s q9 (X j)) hs hcc hh7 (hX0 j (by omega)) (inv_copy I7 hs) (rfl) (rfl) w M.laid (M.get 0 rfl) (M.get 1 rfl) (nodup_at M.nodup (i := 0) (j := 1) rfl rfl (by decide))) ?_
              rintro ⟨h6, m6⟩ u9 ⟨I6, hh6⟩ M
              replace M : Mem ⟨w, []⟩ [⟨gc, .cells (av 3 (ls [.int .u64 (s : Int), .int .u64 (h6 : Int), .slice (some ⟨kc, 0, none⟩) (nW s) capc])) 44⟩, ⟨kc, .cells (av capc (w64 m6)) 23⟩, ⟨g1, .cells (av 2 (ls [.int .i64 (s : Int), .slice (some ⟨k9, 0, none⟩) q9.length cap9])) 31⟩, ⟨k9, Z9⟩] u9 := M
              refine pl_nil ?_
              refine au_then ?_
              refine ⟨(M.drop (.cons _ (.cons _ (.cons _ (.cons _ (.slnil)))))), ?_⟩
              refine hl_one 25 (by decide) (by kernel_rfl) rfl ?_
              refine pl_callX (L := [⟨gc, .cells (av 3 (ls [.int .u64 (s : Int), .int .u64 (h6 : Int), .slice (some ⟨kc, 0, none⟩) (nW s) capc])) 44⟩, ⟨kc, .cells (av capc (w64 m6)) 23⟩]) (T := [⟨g1, .cells (av 2 (ls [.int .i64 (s : Int), .slice (some ⟨k9, 0, none⟩) q9.length cap9])) 31⟩, ⟨k9, Z9⟩]) M (want_on 13 false rfl 87 rfl (by kernel_rfl)) (some 99) rfl 12 #[.pointer (some ⟨g1, 0, none⟩), .int .u64 ((X j : Nat) : Int)] (fun _ : Nat × Nat × Obj => .int .i64 (my s q9 (X j))) (fun x => [⟨g1, .cells (av 2 (ls [.int .i64 (s : Int), .slice (some ⟨x.1, 0, none⟩) (mk s q9 (X j)).length x.2.1])) 31⟩, ⟨x.1, x.2.2⟩]) (fun x => SB x.2.2 x.2.1 (vsU (mk s q9 (X j)))) (fun _ => by kernel_rfl) (fun w M => d_Mark1 g1 s (X j) hs hs4 q9 k9 cap9 Z9 hZ9 hq0 hql hqM w M.laid (M.get 2 rfl) (M.get 3 rfl) (nodup_at M.nodup (i := 2) (j := 3) rfl rfl (by decide))) ?_
              rintro ⟨k8, cap8, Z8⟩ u10 hZ8 M
              replace M : Mem ⟨w, []⟩ [⟨gc, .cells (av 3 (ls [.int .u64 (s : Int), .int .u64 (h6 : Int), .slice (some ⟨kc, 0, none⟩) (nW s) capc])) 44⟩, ⟨kc, .cells (av capc (w64 m6)) 23⟩, ⟨g1, .cells (av 2 (ls [.int .i64 (s : Int), .slice (some ⟨k8, 0, none⟩) (mk s q9 (X j)).length cap8])) 31⟩, ⟨k8, Z8⟩] u10 := M
              refine pl_nil ?_
              refine au_then ?_
              refine ⟨(M.drop (.cons _ (.cons _ (.cons _ (.cons _ (.slnil)))))), ?_⟩
              refine hl_val (M.drop (.cons _ (.cons _ (.cons _ (.cons _ (.slnil)))))) 26 rfl (by decide) (by kernel_rfl) (by kernel_rfl) (want_on 13 false rfl 87 rfl (by kernel_rfl)) (some 100) rfl (.bool false) (fun w _ => (fun w => Eq.trans (b := .ok (.value (.bool (!(decide ((my s q9 (X j)) = (my s q9 (X j))))))) w) (by kernel_rfl) (by rw [decide_eq_true rfl]; rfl)) w) ?_
              refine hl_end (by kernel_rfl) (by kernel_rfl) rfl ?_
              refine pl_val (want_no rfl) (some 101) rfl (.bool false) (fun _ => by kernel_rfl) ?_
              refine pl_nil ?_
              refine au_then ?_
              refine au_then ?_
              refine wp_cond_false (by kernel_rfl) ?_
              refine wp_skip ?_
              refine au_then ?_
              refine wp_seq ?_
              refine rg_lit ?_
              refine pl_val (want_no rfl) (some 103) rfl (.pointer (some ⟨gc, 0, none⟩)) (fun _ => by kernel_rfl) ?_
              refine pl_call M (want_no rfl) (some 104) rfl 13 #[.pointer (some ⟨gc, 0, none⟩)] (.tuple #[.int .u64 ((mx (mk s q9 (X j)) : Nat) : Int), .bool true]) (fun _ => by kernel_rfl) (fun w M => a_Highest gc kc s h6 capc m6 (mk s q9 (X j)) (mx (mk s q9 (X j))) true hs hcc hh6 I6 (rfl) (mk_ne s (X j) q9) w M.laid (M.get 0 rfl) (M.get 1 rfl) (nodup_at M.nodup (i := 0) (j := 1) rfl rfl (by decide))) ?_
              intro u11 M
              refine pl_val (want_no rfl) (some 102) rfl (.tuple #[.int .u64 ((mx (mk s q9 (X j)) : Nat) : Int), .bool true]) (fun _ => by kernel_rfl) ?_
              refine pl_val (want_no rfl) (some 105) rfl (.int .u64 ((mx (mk s q9 (X j)) : Nat) : Int)) (fun _ => by kernel_rfl) ?_
              refine pl_val (want_no rfl) (some 106) rfl (.bool true) (fun _ => by kernel_rfl) ?_
              refine pl_val (want_no rfl) (some 12) rfl (.int .u64 ((mx (mk s q9 (X j)) : Nat) : Int)) (fun _ => by kernel_rfl) ?_
              refine pl_val (want_no rfl) (some 13) rfl (.bool true) (fun _ => by kernel_rfl) ?_
              refine pl_nil ?_
              refine au_then ?_
              refine wp_seq ?_
              refine rg_lit ?_
              refine pl_val (want_no rfl) (some 108) rfl (.pointer (some ⟨g1, 0, none⟩)) (fun _ => by kernel_rfl) ?_
              refine pl_call M (want_no rfl) (some 109) rfl 14 #[.pointer (some ⟨g1, 0, none⟩)] (.tuple #[.int .u64 ((mx (mk s q9 (X j)) : Nat) : Int), .bool true]) (fun _ => by kernel_rfl) (fun w M => d_Highest1 g1 s (mk s q9 (X j)) k8 cap8 Z8 hZ8 (mk_pos _ _ _) (by have := mk_len s (X j) q9; omega) w M.laid (M.get 2 rfl) (M.get 3 rfl) (nodup_at M.nodup (i := 2) (j := 3) rfl rfl (by decide))) ?_
              intro u12 M
              refine pl_val (want_no rfl) (some 107) rfl (.tuple #[.int .u64 ((mx (mk s q9 (X j)) : Nat) : Int), .bool true]) (fun _ => by kernel_rfl) ?_
              refine pl_val (want_no rfl) (some 110) rfl (.int .u64 ((mx (mk s q9 (X j)) : Nat) : Int)) (fun _ => by kernel_rfl) ?_
              refine pl_val (want_no rfl) (some 111) rfl (.bool true) (fun _ => by kernel_rfl) ?_
              refine pl_val (want_no rfl) (some 14) rfl (.int .u64 ((mx (mk s q9 (X j)) : Nat) : Int)) (fun _ => by kernel_rfl) ?_
              refine pl_val (want_no rfl) (some 15) rfl (.bool true) (fun _ => by kernel_rfl) ?_
              refine pl_nil ?_
              refine au_then ?_
              refine wp_seq ?_
              refine rg_lit ?_
              refine pl_val (want_no rfl) (some 112) rfl (.int .u64 ((mx (mk s q9 (X j)) : Nat) : Int)) (fun _ => by kernel_rfl) ?_
              refine pl_val (want_no rfl) (some 113) rfl (.int .u64 ((mx (mk s q9 (X j)) : Nat) : Int)) (fun _ => by kernel_rfl) ?_
              refine pl_val (want_no rfl) (some 114) rfl (.bool false) (fun w => Eq.trans (b := .ok (.value (.bool (!(decide (((mx (mk s q9 (X j)) : Nat) : Int) = ((mx (mk s q9 (X j)) : Nat) : Int)))))) w) (by kernel_rfl) (by rw [decide_eq_true rfl]; rfl)) ?_
              refine pl_val (want_no rfl) (some 115) rfl (.bool false) (fun _ => by kernel_rfl) ?_
              refine pl_val (want_on 3 false rfl 115 rfl (by kernel_rfl)) (some 116) rfl (.bool true) (fun _ => by kernel_rfl) ?_
              refine pl_val (want_on 3 false rfl 115 rfl (by kernel_rfl)) (some 117) rfl (.bool true) (fun _ => by kernel_rfl) ?_
              refine pl_val (want_on 3 false rfl 115 rfl (by kernel_rfl)) (some 118) rfl (.bool false) (fun _ => by kernel_rfl) ?_
              refine pl_val (want_no rfl) (some 119) rfl (.bool false) (fun _ => by kernel_rfl) ?_
              refine pl_nil ?_
              refine au_then ?_
              refine wp_cond_false (by kernel_rfl) ?_
              refine wp_skip ?_
              refine au_block ?_
              refine au_then ?_
              refine rg_lit ?_
              refine pl_val (want_no rfl) (some 53) rfl (.int .i64 (j : Int)) (fun _ => by kernel_rfl) ?_
              refine pl_val (want_no rfl) (some 54) rfl (.int .i64 ((j + 1 : Nat) : Int)) (fun w => Eq.trans (b := .ok (.value (.int .i64 (IntKind.wrap .i64 ((j : Int) + 1)))) w) (by kernel_rfl) (by rw [wrap64 (by omega) (by omega)]; rfl)) ?_
              refine pl_val (want_no rfl) (some 10) rfl (.int .i64 ((j + 1 : Nat) : Int)) (fun _ => by kernel_rfl) ?_
              refine pl_nil ?_
              refine au_then ?_
              exact ⟨fun k_ => ([v1 6, undef, undef, undef, undef, .pointer (some ⟨gc, 0, none⟩), .int .u64 ((mx (mk s q9 (X j)) : Nat) : Int), .bool true, .int .u64 ((mx (mk s q9 (X j)) : Nat) : Int), .bool true, undef, undef, undef, undef, undef, undef, undef, undef, undef, undef, undef, undef, undef, undef, undef, undef, undef, undef, undef, undef, undef, undef, undef, undef, undef, undef, undef, undef, undef, undef, undef, undef, undef, .int .i64 (j : Int), .slice l0 len lc, .int .i64 (len : Int), .bool true, .int .i64 (j : Int), .int .i64 ((j + 1 : Nat) : Int), .int .u64 (c : Int), .int .i64 (j : Int), .int .i64 ((j % 64 : Nat) : Int), .int .u64 ((j % 64 : Nat) : Int), .int .u64 (sr (c : Int) (j % 64)), .int .u64 (un (sr (c : Int) (j % 64)) 1), .bool true, .pointer (some ⟨g7, 0, none⟩), .pointer (some ⟨gc, 0, none⟩), .pointer (some ⟨g7, 0, none⟩), .slice l0 len lc, .int .i64 (j : Int), .pointer (some ⟨b, (o + j * 1), none⟩), .int .u64 ((X j : Nat) : Int), .int .u64 (((X j + 1) % 18446744073709551616 : Nat) : Int), .int .i64 (my s q9 ((X j + 1) % 18446744073709551616)), .pointer (some ⟨g7, 0, none⟩), .int .i64 (my s (mk s q9 ((X j + 1) % 18446744073709551616)) 0), .pointer (some ⟨gc, 0, none⟩), .pointer (some ⟨gc, 0, none⟩), .slice l0 len lc, .int .i64 (j : Int), .pointer (some ⟨b, (o + j * 1), none⟩), .int .u64 ((X j : Nat) : Int), .int .i64 (my s q9 (X j)), .pointer (some ⟨g1, 0, none⟩), .slice l0 len lc, .int .i64 (j : Int), .pointer (some ⟨b, (o + j * 1), none⟩), .int .u64 ((X j : Nat) : Int), .int .i64 (my s q9 (X j)), .bool false, .bool false, .pointer (some ⟨gc, 0, none⟩), .slice l0 len lc, .int .i64 (j : Int), .pointer (some ⟨b, (o + j * 1), none⟩), .int .u64 ((X j : Nat) : Int), .int .i64 (my s q9 (X j)), .pointer (some ⟨g1, 0, none⟩), .slice l0 len lc, .int .i64 (j : Int), .pointer (some ⟨b, (o + j * 1), none⟩), .int .u64 ((X j : Nat) : Int), .int .i64 (my s q9 (X j)), .bool false, .bool false, .tuple #[.int .u64 ((mx (mk s q9 (X j)) : Nat) : Int), .bool true], .pointer (some ⟨gc, 0, none⟩), .tuple #[.int .u64 ((mx (mk s q9 (X j)) : Nat) : Int), .bool true], .int .u64 ((mx (mk s q9 (X j)) : Nat) : Int), .bool true, .tuple #[.int .u64 ((mx (mk s q9 (X j)) : Nat) : Int), .bool true], .pointer (some ⟨g1, 0, none⟩), .tuple #[.int .u64 ((mx (mk s q9 (X j)) : Nat) : Int), .bool true], .int .u64 ((mx (mk s q9 (X j)) : Nat) : Int), .bool true, .int .u64 ((mx (mk s q9 (X j)) : Nat) : Int), .int .u64 ((mx (mk s q9 (X j)) : Nat) : Int), .bool false, .bool false, .bool true, .bool true, .bool false, .bool false] : List Value).getD (k_ - 6) undef, gc, kc, capc, h6, m6, mk s q9 (X j), by kernel_rfl, hcc, hh6, I6, mk_lt hqM (hX0 j (by omega)), by have := mk_len s (X j) q9; omega, .inr ⟨k8, cap8, Z8, hZ8, mk_pos _ _ _, M⟩⟩
            · skip
              refine pl_val (want_no rfl) (some 61) rfl (.bool false) (fun w => Eq.trans (b := .ok (.value (.bool (decide ((un (sr (c : Int) (j % 64)) 1) = 1)))) w) (by kernel_rfl) (by rw [decide_eq_false (c4)])) ?_
              refine pl_nil ?_
              refine au_then ?_
              refine wp_cond_false (by kernel_rfl) ?_
              refine wp_skip ?_
              refine au_then ?_
              refine wp_seq ?_
              refine wp_seq ?_
              refine rg_held M [] 27 rfl (by kernel_rfl) (by kernel_rfl) (fun _ _ d _ _ h => by cases d <;> exact h) ?_
              intro u3 M
              replace M : Mem ⟨w, []⟩ [⟨g7, .cells (av 3 (ls [.int .u64 (s : Int), .int .u64 (h7 : Int), .slice (some ⟨k7, 0, none⟩) (nW s) cap7])) 44⟩, ⟨k7, .cells (av cap7 (w64 m7)) 23⟩, ⟨g1, .cells (av 2 (ls [.int .i64 (s : Int), .slice (some ⟨k9, 0, none⟩) q9.length cap9])) 31⟩, ⟨k9, Z9⟩] u3 := M
              refine hl_val (M.drop (.cons _ (.cons _ (.cons _ (.cons _ (.slnil)))))) 0 rfl (by decide) (by kernel_rfl) (by kernel_rfl) (want_no rfl) (some 74) rfl (.pointer (some ⟨g7, 0, none⟩)) (fun _ _ => by kernel_rfl) ?_
              refine hl_val (M.drop (.cons _ (.cons _ (.cons _ (.cons _ (.slnil)))))) 1 rfl (by decide) (by kernel_rfl) (by kernel_rfl) (want_no rfl) (some 75) rfl (.slice l0 len lc) (fun _ _ => by kernel_rfl) ?_
              refine hl_val (M.drop (.cons _ (.cons _ (.cons _ (.cons _ (.slnil)))))) 2 rfl (by decide) (by kernel_rfl) (by kernel_rfl) (want_no rfl) (some 76) rfl (.int .i64 (j : Int)) (fun _ _ => by kernel_rfl) ?_
              refine hl_val (M.drop (.cons _ (.cons _ (.cons _ (.cons _ (.slnil)))))) 3 rfl (by decide) (by kernel_rfl) (by kernel_rfl) (want_no rfl) (some 77) rfl (.pointer (some ⟨b, (o + j * 1), none⟩)) (fun w _ => (run_ixK 22 23 1 Try.underlying22 inz23 _ _ rfl l0 b o len lc (by kernel_rfl) (hl0 (by omega)) .i64 j (by kernel_rfl) (by omega)) w) ?_
              refine hl_cell (M.drop (.cons _ (.cons _ (.cons _ (.cons _ (.slnil)))))) 4 rfl (by decide) (by kernel_rfl) (by kernel_rfl) (want_no rfl) (some 78) rfl 23 _ rfl b (o + j * 1) (by kernel_rfl) (.int .u64 ((X j : Nat) : Int)) (fun _ => by kernel_rfl) (fun w M => M.oldc (hX j (by omega)) (by simp)) ?_
              refine hl_val (M.drop (.cons _ (.cons _ (.cons _ (.cons _ (.slnil)))))) 6 rfl (by decide) (by kernel_rfl) (by kernel_rfl) (want_no rfl) (some 80) rfl (.pointer (some ⟨g1, 0, none⟩)) (fun _ _ => by kernel_rfl) ?_
              refine hl_val (M.drop (.cons _ (.cons _ (.cons _ (.cons _ (.slnil)))))) 7 rfl (by decide) (by kernel_rfl) (by kernel_rfl) (want_no rfl) (some 81) rfl (.slice l0 len lc) (fun _ _ => by kernel_rfl) ?_
              refine hl_val (M.drop (.cons _ (.cons _ (.cons _ (.cons _ (.slnil)))))) 8 rfl (by decide) (by kernel_rfl) (by kernel_rfl) (want_no rfl) (some 82) rfl (.int .i64 (j : Int)) (fun _ _ => by kernel_rfl) ?_
              refine hl_val (M.drop (.cons _ (.cons _ (.cons _ (.cons _ (.slnil)))))) 9 rfl (by decide) (by kernel_rfl) (by kernel_rfl) (want_no rfl) (some 83) rfl (.pointer (some ⟨b, (o + j * 1), none⟩)) (fun w _ => (run_ixK 22 23 1 Try.underlying22 inz23 _ _ rfl l0 b o len lc (by kernel_rfl) (hl0 (by omega)) .i64 j (by kernel_rfl) (by omega)) w) ?_
              refine hl_cell (M.drop (.cons _ (.cons _ (.cons _ (.cons _ (.slnil)))))) 10 rfl (by decide) (by kernel_rfl) (by kernel_rfl) (want_no rfl) (some 84) rfl 23 _ rfl b (o + j * 1) (by kernel_rfl) (.int .u64 ((X j : Nat) : Int)) (fun _ => by kernel_rfl) (fun w M => M.oldc (hX j (by omega)) (by simp)) ?_
              refine hl_one 5 (by decide) (by kernel_rfl) rfl ?_
              refine pl_call M (want_no rfl) (some 79) rfl 10 #[.pointer (some ⟨g7, 0, none⟩), .int .u64 ((X j : Nat) : Int)] (.int .i64 (my s q9 (X j))) (fun _ => by kernel_rfl) (fun w M => a_May g7 k7 s h7 cap7 m7 (X j) q9 (my s q9 (X j)) hs hc7 hh7 (hX0 j (by omega)) I7 (rfl) w M.laid (M.get 0 rfl) (M.get 1 rfl) (nodup_at M.nodup (i := 0) (j := 1) rfl rfl (by decide))) ?_
              intro u4 M
              refine pl_nil ?_
              refine au_then ?_
              refine ⟨(M.drop (.cons _ (.cons _ (.cons _ (.cons _ (.slnil)))))), ?_⟩
              refine hl_one 11 (by decide) (by kernel_rfl) rfl ?_
              refine pl_call M (want_no rfl) (some 85) rfl 11 #[.pointer (some ⟨g1, 0, none⟩), .int .u64 ((X j : Nat) : Int)] (.int .i64 (my s q9 (X j))) (fun _ => by kernel_rfl) (fun w M => d_May1 g1 s (X j) hs hs4 q9 k9 cap9 Z9 hZ9 hq0 hql hqM w M.laid (M.get 2 rfl) (M.get 3 rfl) (nodup_at M.nodup (i := 2) (j := 3) rfl rfl (by decide))) ?_
              intro u5 M
              refine pl_nil ?_
              refine au_then ?_
              refine ⟨(M.drop (.cons _ (.cons _ (.cons _ (.cons _ (.slnil)))))), ?_⟩
              refine hl_val (M.drop (.cons _ (.cons _ (.cons _ (.cons _ (.slnil)))))) 12 rfl (by decide) (by kernel_rfl) (by kernel_rfl) (want_no rfl) (some 86) rfl (.bool false) (fun w _ => (fun w => Eq.trans (b := .ok (.value (.bool (!(decide ((my s q9 (X j)) = (my s q9 (X j))))))) w) (by kernel_rfl) (by rw [decide_eq_true rfl]; rfl)) w) ?_
              refine hl_val (M.drop (.cons _ (.cons _ (.cons _ (.cons _ (.slnil)))))) 13 rfl (by decide) (by kernel_rfl) (by kernel_rfl) (want_no rfl) (some 87) rfl (.bool false) (fun _ _ => by kernel_rfl) ?_
              refine hl_val (M.drop (.cons _ (.cons _ (.cons _ (.cons _ (.slnil)))))) 14 rfl (by decide) (by kernel_rfl) (by kernel_rfl) (want_on 13 false rfl 87 rfl (by kernel_rfl)) (some 88) rfl (.pointer (some ⟨g7, 0, none⟩)) (fun _ _ => by kernel_rfl) ?_
              refine hl_val (M.drop (.cons _ (.cons _ (.cons _ (.cons _ (.slnil)))))) 15 rfl (by decide) (by kernel_rfl) (by kernel_rfl) (want_on 13 false rfl 87 rfl (by kernel_rfl)) (some 89) rfl (.slice l0 len lc) (fun _ _ => by kernel_rfl) ?_
              refine hl_val (M.drop (.cons _ (.cons _ (.cons _ (.cons _ (.slnil)))))) 16 rfl (by decide) (by kernel_rfl) (by kernel_rfl) (want_on 13 false rfl 87 rfl (by kernel_rfl)) (some 90) rfl (.int .i64 (j : Int)) (fun _ _ => by kernel_rfl) ?_
              refine hl_val (M.drop (.cons _ (.cons _ (.cons _ (.cons _ (.slnil)))))) 17 rfl (by decide) (by kernel_rfl) (by kernel_rfl) (want_on 13 false rfl 87 rfl (by kernel_rfl)) (some 91) rfl (.pointer (some ⟨b, (o + j * 1), none⟩)) (fun w _ => (run_ixK 22 23 1 Try.underlying22 inz23 _ _ rfl l0 b o len lc (by kernel_rfl) (hl0 (by omega)) .i64 j (by kernel_rfl) (by omega)) w) ?_
              refine hl_cell (M.drop (.cons _ (.cons _ (.cons _ (.cons _ (.slnil)))))) 18 rfl (by decide) (by kernel_rfl) (by kernel_rfl) (want_on 13 false rfl 87 rfl (by kernel_rfl)) (some 92) rfl 23 _ rfl b (o + j * 1) (by kernel_rfl) (.int .u64 ((X j : Nat) : Int)) (fun _ => by kernel_rfl) (fun w M => M.oldc (hX j (by omega)) (by simp)) ?_
              refine hl_val (M.drop (.cons _ (.cons _ (.cons _ (.cons _ (.slnil)))))) 20 rfl (by decide) (by kernel_rfl) (by kernel_rfl) (want_on 13 false rfl 87 rfl (by kernel_rfl)) (some 94) rfl (.pointer (some ⟨g1, 0, none⟩)) (fun _ _ => by kernel_rfl) ?_
              refine hl_val (M.drop (.cons _ (.cons _ (.cons _ (.cons _ (.slnil)))))) 21 rfl (by decide) (by kernel_rfl) (by kernel_rfl) (want_on 13 false rfl 87 rfl (by kernel_rfl)) (some 95) rfl (.slice l0 len lc) (fun _ _ => by kernel_rfl) ?_
              refine hl_val (M.drop (.cons _ (.cons _ (.cons _ (.cons _ (.slnil)))))) 22 rfl (by decide) (by kernel_rfl) (by kernel_rfl) (want_on 13 false rfl 87 rfl (by kernel_rfl)) (some 96) rfl (.int .i64 (j : Int)) (fun _ _ => by kernel_rfl) ?_
              refine hl_val (M.drop (.cons _ (.cons _ (.cons _ (.cons _ (.slnil)))))) 23 rfl (by decide) (by kernel_rfl) (by kernel_rfl) (want_on 13 false rfl 87 rfl (by kernel_rfl)) (some 97) rfl (.pointer (some ⟨b, (o + j * 1), none⟩)) (fun w _ => (run_ixK 22 23 1 Try.underlying22 inz23 _ _ rfl l0 b o len lc (by kernel_rfl) (hl0 (by omega)) .i64 j (by kernel_rfl) (by omega)) w) ?_
              refine hl_cell (M.drop (.cons _ (.cons _ (.cons _ (.cons _ (.slnil)))))) 24 rfl (by decide) (by kernel_rfl) (by kernel_rfl) (want_on 13 false rfl 87 rfl (by kernel_rfl)) (some 98) rfl 23 _ rfl b (o + j * 1) (by kernel_rfl) (.int .u64 ((X j : Nat) : Int)) (fun _ => by kernel_rfl) (fun w M => M.oldc (hX j (by omega)) (by simp)) ?_
              refine hl_one 19 (by decide) (by kernel_rfl) rfl ?_
              refine pl_call2X M (want_on 13 false rfl 87 rfl (by kernel_rfl)) (some 93) rfl 9 #[.pointer (some ⟨g7, 0, none⟩), .int .u64 ((X j : Nat) : Int)] (.int .i64 (my s q9 (X j))) 0 1 g7 k7 _ _ (fun x : Nat × (Nat → Int) => .cells (av 3 (ls [.int .u64 (s : Int), .int .u64 (x.1 : Int), .slice (some ⟨k7, 0, none⟩) (nW s) cap7])) 44) (fun x => .cells (av cap7 (w64 x.2)) 23) (fun x => Inv s x.1 x.2 (mk s q9 (X j)) ∧ x.1 < 18446744073709551616) rfl rfl (fun _ => by kernel_rfl) (fun w M => a_Mark g7 k7 s h7 cap7 m7 (X j) q9 (my s q9 (X j)) (mk s q9 (X j)) hs hc7 hh7 (hX0 j (by omega)) I7 (rfl) (rfl) w M.laid (M.get 0 rfl) (M.get 1 rfl) (nodup_at M.nodup (i := 0) (j := 1) rfl rfl (by decide))) ?_
              rintro ⟨h1, m1⟩ u6 ⟨I1, hh1⟩ M
              replace M : Mem ⟨w, []⟩ [⟨g7, .cells (av 3 (ls [.int .u64 (s : Int), .int .u64 (h1 : Int), .slice (some ⟨k7, 0, none⟩) (nW s) cap7])) 44⟩, ⟨k7, .cells (av cap7 (w64 m1)) 23⟩, ⟨g1, .cells (av 2 (ls [.int .i64 (s : Int), .slice (some ⟨k9, 0, none⟩) q9.length cap9])) 31⟩, ⟨k9, Z9⟩] u6 := M
              refine pl_nil ?_
              refine au_then ?_
              refine ⟨(M.drop (.cons _ (.cons _ (.cons _ (.cons _ (.slnil)))))), ?_⟩
              refine hl_one 25 (by decide) (by kernel_rfl) rfl ?_
              refine pl_callX (L := [⟨g7, .cells (av 3 (ls [.int .u64 (s : Int), .int .u64 (h1 : Int), .slice (some ⟨k7, 0, none⟩) (nW s) cap7])) 44⟩, ⟨k7, .cells (av cap7 (w64 m1)) 23⟩]) (T := [⟨g1, .cells (av 2 (ls [.int .i64 (s : Int), .slice (some ⟨k9, 0, none⟩) q9.length cap9])) 31⟩, ⟨k9, Z9⟩]) M (want_on 13 false rfl 87 rfl (by kernel_rfl)) (some 99) rfl 12 #[.pointer (some ⟨g1, 0, none⟩), .int .u64 ((X j : Nat) : Int)] (fun _ : Nat × Nat × Obj => .int .i64 (my s q9 (X j))) (fun x => [⟨g1, .cells (av 2 (ls [.int .i64 (s : Int), .slice (some ⟨x.1, 0, none⟩) (mk s q9 (X j)).length x.2.1])) 31⟩, ⟨x.1, x.2.2⟩]) (fun x => SB x.2.2 x.2.1 (vsU (mk s q9 (X j)))) (fun _ => by kernel_rfl) (fun w M => d_Mark1 g1 s (X j) hs hs4 q9 k9 cap9 Z9 hZ9 hq0 hql hqM w M.laid (M.get 2 rfl) (M.get 3 rfl) (nodup_at M.nodup (i := 2) (j := 3) rfl rfl (by decide))) ?_
              rintro ⟨k8, cap8, Z8⟩ u7 hZ8 M
              replace M : Mem ⟨w, []⟩ [⟨g7, .cells (av 3 (ls [.int .u64 (s : Int), .int .u64 (h1 : Int), .slice (some ⟨k7, 0, none⟩) (nW s) cap7])) 44⟩, ⟨k7, .cells (av cap7 (w64 m1)) 23⟩, ⟨g1, .cells (av 2 (ls [.int .i64 (s : Int), .slice (some ⟨k8, 0, none⟩) (mk s q9 (X j)).length cap8])) 31⟩, ⟨k8, Z8⟩] u7 := M
              refine pl_nil ?_
              refine au_then ?_
              refine ⟨(M.drop (.cons _ (.cons _ (.cons _ (.cons _ (.slnil)))))), ?_⟩
              refine hl_val (M.drop (.cons _ (.cons _ (.cons _ (.cons _ (.slnil)))))) 26 rfl (by decide) (by kernel_rfl) (by kernel_rfl) (want_on 13 false rfl 87 rfl (by kernel_rfl)) (some 100) rfl (.bool false) (fun w _ => (fun w => Eq.trans (b := .ok (.value (.bool (!(decide ((my s q9 (X j)) = (my s q9 (X j))))))) w) (by kernel_rfl) (by rw [decide_eq_true rfl]; rfl)) w) ?_
              refine hl_end (by kernel_rfl) (by kernel_rfl) rfl ?_
              refine pl_val (want_no rfl) (some 101) rfl (.bool false) (fun _ => by kernel_rfl) ?_
              refine pl_nil ?_
              refine au_then ?_
              refine au_then ?_
              refine wp_cond_false (by kernel_rfl) ?_
              refine wp_skip ?_
              refine au_then ?_
              refine wp_seq ?_
              refine rg_lit ?_
              refine pl_val (want_no rfl) (some 103) rfl (.pointer (some ⟨g7, 0, none⟩)) (fun _ => by kernel_rfl) ?_
              refine pl_call M (want_no rfl) (some 104) rfl 13 #[.pointer (some ⟨g7, 0, none⟩)] (.tuple #[.int .u64 ((mx (mk s q9 (X j)) : Nat) : Int), .bool true]) (fun _ => by kernel_rfl) (fun w M => a_Highest g7 k7 s h1 cap7 m1 (mk s q9 (X j)) (mx (mk s q9 (X j))) true hs hc7 hh1 I1 (rfl) (mk_ne s (X j) q9) w M.laid (M.get 0 rfl) (M.get 1 rfl) (nodup_at M.nodup (i := 0) (j := 1) rfl rfl (by decide))) ?_
              intro u8 M
              refine pl_val (want_no rfl) (some 102) rfl (.tuple #[.int .u64 ((mx (mk s q9 (X j)) : Nat) : Int), .bool true]) (fun _ => by kernel_rfl) ?_
              refine pl_val (want_no rfl) (some 105) rfl (.int .u64 ((mx (mk s q9 (X j)) : Nat) : Int)) (fun _ => by kernel_rfl) ?_
              refine pl_val (want_no rfl) (some 106) rfl (.bool true) (fun _ => by kernel_rfl) ?_
              refine pl_val (want_no rfl) (some 12) rfl (.int .u64 ((mx (mk s q9 (X j)) : Nat) : Int)) (fun _ => by kernel_rfl) ?_
              refine pl_val (want_no rfl) (some 13) rfl (.bool true) (fun _ => by kernel_rfl) ?_
              refine pl_nil ?_
              refine au_then ?_
              refine wp_seq ?_
              refine rg_lit ?_
              refine pl_val (want_no rfl) (some 108) rfl (.pointer (some ⟨g1, 0, none⟩)) (fun _ => by kernel_rfl) ?_
              refine pl_call M (want_no rfl) (some 109) rfl 14 #[.pointer (some ⟨g1, 0, none⟩)] (.tuple #[.int .u64 ((mx (mk s q9 (X j)) : Nat) : Int), .bool true]) (fun _ => by kernel_rfl) (fun w M => d_Highest1 g1 s (mk s q9 (X j)) k8 cap8 Z8 hZ8 (mk_pos _ _ _) (by have := mk_len s (X j) q9; omega) w M.laid (M.get 2 rfl) (M.get 3 rfl) (nodup_at M.nodup (i := 2) (j := 3) rfl rfl (by decide))) ?_
              intro u9 M
              refine pl_val (want_no rfl) (some 107) rfl (.tuple #[.int .u64 ((mx (mk s q9 (X j)) : Nat) : Int), .bool true]) (fun _ => by kernel_rfl) ?_
              refine pl_val (want_no rfl) (some 110) rfl (.int .u64 ((mx (mk s q9 (X j)) : Nat) : Int)) (fun _ => by kernel_rfl) ?_
              refine pl_val (want_no rfl) (some 111) rfl (.bool true) (fun _ => by kernel_rfl) ?_
              refine pl_val (want_no rfl) (some 14) rfl (.int .u64 ((mx (mk s q9 (X j)) : Nat) : Int)) (fun _ => by kernel_rfl) ?_
              refine pl_val (want_no rfl) (some 15) rfl (.bool true) (fun _ => by kernel_rfl) ?_
              refine pl_nil ?_
              refine au_then ?_
              refine wp_seq ?_
              refine rg_lit ?_
              refine pl_val (want_no rfl) (some 112) rfl (.int .u64 ((mx (mk s q9 (X j)) : Nat) : Int)) (fun _ => by kernel_rfl) ?_
              refine pl_val (want_no rfl) (some 113) rfl (.int .u64 ((mx (mk s q9 (X j)) : Nat) : Int)) (fun _ => by kernel_rfl) ?_
              refine pl_val (want_no rfl) (some 114) rfl (.bool false) (fun w => Eq.trans (b := .ok (.value (.bool (!(decide (((mx (mk s q9 (X j)) : Nat) : Int) = ((mx (mk s q9 (X j)) : Nat) : Int)))))) w) (by kernel_rfl) (by rw [decide_eq_true rfl]; rfl)) ?_
              refine pl_val (want_no rfl) (some 115) rfl (.bool false) (fun _ => by kernel_rfl) ?_
              refine pl_val (want_on 3 false rfl 115 rfl (by kernel_rfl)) (some 116) rfl (.bool true) (fun _ => by kernel_rfl) ?_
              refine pl_val (want_on 3 false rfl 115 rfl (by kernel_rfl)) (some 117) rfl (.bool true) (fun _ => by kernel_rfl) ?_
              refine pl_val (want_on 3 false rfl 115 rfl (by kernel_rfl)) (some 118) rfl (.bool false) (fun _ => by kernel_rfl) ?_
              refine pl_val (want_no rfl) (some 119) rfl (.bool false) (fun _ => by kernel_rfl) ?_
              refine pl_nil ?_
              refine au_then ?_
              refine wp_cond_false (by kernel_rfl) ?_
              refine wp_skip ?_
              refine au_block ?_
              refine au_then ?_
              refine rg_lit ?_
              refine pl_val (want_no rfl) (some 53) rfl (.int .i64 (j : Int)) (fun _ => by kernel_rfl) ?_
              refine pl_val (want_no rfl) (some 54) rfl (.int .i64 ((j + 1 : Nat) : Int)) (fun w => Eq.trans (b := .ok (.value (.int .i64 (IntKind.wrap .i64 ((j : Int) + 1)))) w) (by kernel_rfl) (by rw [wrap64 (by omega) (by omega)]; rfl)) ?_
              refine pl_val (want_no rfl) (some 10) rfl (.int .i64 ((j + 1 : Nat) : Int)) (fun _ => by kernel_rfl) ?_
              refine pl_nil ?_
              refine au_then ?_
              exact ⟨fun k_ => ([v1 6, undef, undef, undef, undef, v1 11, .int .u64 ((mx (mk s q9 (X j)) : Nat) : Int), .bool true, .int .u64 ((mx (mk s q9 (X j)) : Nat) : Int), .bool true, undef, undef, undef, undef, undef, undef, undef, undef, undef, undef, undef, undef, undef, undef, undef, undef, undef, undef, undef, undef, undef, undef, undef, undef, undef, undef, undef, undef, undef, undef, undef, undef, undef, .int .i64 (j : Int), .slice l0 len lc, .int .i64 (len : Int), .bool true, .int .i64 (j : Int), .int .i64 ((j + 1 : Nat) : Int), .int .u64 (c : Int), .int .i64 (j : Int), .int .i64 ((j % 64 : Nat) : Int), .int .u64 ((j % 64 : Nat) : Int), .int .u64 (sr (c : Int) (j % 64)), .int .u64 (un (sr (c : Int) (j % 64)) 1), .bool false, v1 62, v1 63, v1 64, v1 65, v1 66, v1 67, v1 68, v1 69, v1 70, v1 71, v1 72, v1 73, .pointer (some ⟨g7, 0, none⟩), .slice l0 len lc, .int .i64 (j : Int), .pointer (some ⟨b, (o + j * 1), none⟩), .int .u64 ((X j : Nat) : Int), .int .i64 (my s q9 (X j)), .pointer (some ⟨g1, 0, none⟩), .slice l0 len lc, .int .i64 (j : Int), .pointer (some ⟨b, (o + j * 1), none⟩), .int .u64 ((X j : Nat) : Int), .int .i64 (my s q9 (X j)), .bool false, .bool false, .pointer (some ⟨g7, 0, none⟩), .slice l0 len lc, .int .i64 (j : Int), .pointer (some ⟨b, (o + j * 1), none⟩), .int .u64 ((X j : Nat) : Int), .int .i64 (my s q9 (X j)), .pointer (some ⟨g1, 0, none⟩), .slice l0 len lc, .int .i64 (j : Int), .pointer (some ⟨b, (o + j * 1), none⟩), .int .u64 ((X j : Nat) : Int), .int .i64 (my s q9 (X j)), .bool false, .bool false, .tuple #[.int .u64 ((mx (mk s q9 (X j)) : Nat) : Int), .bool true], .pointer (some ⟨g7, 0, none⟩), .tuple #[.int .u64 ((mx (mk s q9 (X j)) : Nat) : Int), .bool true], .int .u64 ((mx (mk s q9 (X j)) : Nat) : Int), .bool true, .tuple #[.int .u64 ((mx (mk s q9 (X j)) : Nat) : Int), .bool true], .pointer (some ⟨g1, 0, none⟩), .tuple #[.int .u64 ((mx (mk s q9 (X j)) : Nat) : Int), .bool true], .int .u64 ((mx (mk s q9 (X j)) : Nat) : Int), .bool true, .int .u64 ((mx (mk s q9 (X j)) : Nat) : Int), .int .u64 ((mx (mk s q9 (X j)) : Nat) : Int), .bool false, .bool false, .bool true, .bool true, .bool false, .bool false] : List Value).getD (k_ - 6) undef, g7, k7, cap7, h1, m1, mk s q9 (X j), by kernel_rfl, hc7, hh1, I1, mk_lt hqM (hX0 j (by omega)), by have := mk_len s (X j) q9; omega, .inr ⟨k8, cap8, Z8, hZ8, mk_pos _ _ _, M⟩⟩
        · intro a u0 hI
          obtain ⟨v1, g7, k7, cap7, h7, m7, q9, rfl, hc7, hh7, I7, hqM, hqj, hD⟩ := hI
          rcases hD with ⟨hq, M⟩ | ⟨k9, cap9, Z9, hZ9, hq0, M⟩
          · skip
            refine wp_seq ?_
            refine wp_seq ?_
            refine rg_lit ?_
            refine pl_val (want_no rfl) (some 49) rfl (.int .i64 (len : Int)) (fun _ => by kernel_rfl) ?_
            refine pl_val (want_no rfl) (some 50) rfl (.slice l0 len lc) (fun _ => by kernel_rfl) ?_
            refine pl_val (want_no rfl) (some 51) rfl (.int .i64 (len : Int)) (fun _ => by kernel_rfl) ?_
            refine pl_val (want_no rfl) (some 52) rfl (.bool false) (fun w => Eq.trans (b := .ok (.value (.bool (decide ((len : Int) < (len : Int))))) w) (by kernel_rfl) (by rw [decide_eq_false (by omega)])) ?_
            refine pl_nil ?_
            refine au_then ?_
            refine wp_cond_false (by kernel_rfl) ?_
            refine wp_exit ?_
            refine au_then_exit ?_
            refine au_then_exit ?_
            refine au_block_exit ?_
            refine au_then ?_
            refine wp_seq ?_
            refine rg_lit ?_
            refine pl_call M (want_no rfl) (some 120) rfl 6 #[] (.bool true) (fun _ => by kernel_rfl) (fun w M => c_alive w M.laid) ?_
            intro u3 M
            refine pl_val (want_no rfl) (some 6) rfl (.bool true) (fun _ => by kernel_rfl) ?_
            refine pl_nil ?_
            refine au_then ?_
            refine wp_ret ?_
            exact bodyPost_ret (v := .bool true) (results_tmp1 Try.results3 _ _ _ (by kernel_rfl)) (by kernel_rfl) ⟨rfl, below_grown M.old⟩
          · skip
            have hql : q9.length < 1000000 := by omega
            refine wp_seq ?_
            refine wp_seq ?_
            refine rg_lit ?_
            refine pl_val (want_no rfl) (some 49) rfl (.int .i64 (len : Int)) (fun _ => by kernel_rfl) ?_
            refine pl_val (want_no rfl) (some 50) rfl (.slice l0 len lc) (fun _ => by kernel_rfl) ?_
            refine pl_val (want_no rfl) (some 51) rfl (.int .i64 (len : Int)) (fun _ => by kernel_rfl) ?_
            refine pl_val (want_no rfl) (some 52) rfl (.bool false) (fun w => Eq.trans (b := .ok (.value (.bool (decide ((len : Int) < (len : Int))))) w) (by kernel_rfl) (by rw [decide_eq_false (by omega)])) ?_
            refine pl_nil ?_
            refine au_then ?_
            refine wp_cond_false (by kernel_rfl) ?_
            refine wp_exit ?_
            refine au_then_exit ?_
            refine au_then_exit ?_
            refine au_block_exit ?_
            refine au_then ?_
            refine wp_seq ?_
            refine rg_lit ?_
            refine pl_call M (want_no rfl) (some 120) rfl 6 #[] (.bool true) (fun _ => by kernel_rfl) (fun w M => c_alive w M.laid) ?_
            intro u3 M
            refine pl_val (want_no rfl) (some 6) rfl (.bool true) (fun _ => by kernel_rfl) ?_
            refine pl_nil ?_
            refine au_then ?_
            refine wp_ret ?_
            exact bodyPost_ret (v := .bool true) (results_tmp1 Try.results3 _ _ _ (by kernel_rfl)) (by kernel_rfl) ⟨rfl, below_grown M.old⟩


end Go.Proofs.Ytpcdnagonpnpmaa
