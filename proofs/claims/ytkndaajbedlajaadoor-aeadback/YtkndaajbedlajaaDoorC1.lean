/- Words are turned and mixed; the first words of a block; a block: the walks of RotateLeft32, mix, round, put, firstWords and blockOf. -/
import Derived.Test.YtkndaajbedlajaaDoorC0
namespace Go.Proofs.YtkndaajbedlajaaDoor
open Go.RowKit

/-- x turned to the left by n. -/
def rl (x : Int) (n : Nat) : Int := vo (vl x n) (sr x (32 - n))
def tr0 : Nat → Value := wi fun j => TF (0 * 2 + j)
def tr1 : Nat → Value := wi fun j => TF (1 * 2 + j)
def mA1 (v : Nat → Int) (i j : Nat) : Int := va (v i) (v j)
def mD1 (v : Nat → Int) (i j l : Nat) : Int := rl (vx (v l) (mA1 v i j)) 16
def mC1 (v : Nat → Int) (i j k l : Nat) : Int := va (v k) (mD1 v i j l)
def mB1 (v : Nat → Int) (i j k l : Nat) : Int := rl (vx (v j) (mC1 v i j k l)) 12
def mA2 (v : Nat → Int) (i j k l : Nat) : Int := va (mA1 v i j) (mB1 v i j k l)
def mD2 (v : Nat → Int) (i j k l : Nat) : Int := rl (vx (mD1 v i j l) (mA2 v i j k l)) 8
def mC2 (v : Nat → Int) (i j k l : Nat) : Int := va (mC1 v i j k l) (mD2 v i j k l)
def mB2 (v : Nat → Int) (i j k l : Nat) : Int := rl (vx (mB1 v i j k l) (mC2 v i j k l)) 7
/-- Four words of the sixteen, mixed. -/
def mxF (v : Nat → Int) (i j k l : Nat) : Nat → Int := upd (upd (upd (upd v i (mA2 v i j k l)) j (mB2 v i j k l)) k (mC2 v i j k l)) l (mD2 v i j k l)
set_option maxRecDepth 100000 in
set_option maxHeartbeats 4000000 in
theorem c_rl16 (x : Int) (w : World) (hL : Laid w)  :
    Calls Tryd.prog 64 #[.int .u32 x, .int .i64 16] w fun r w' => r = .returned (.int .u32 (rl x 16)) ∧ Below w.heap.size w w' := by
  go_enter Tryd.func64, Tryd.ntmps64
  have M := Mem.start hL
  refine wp_seq ?_
  refine rg_lit ?_
  refine pl_val (want_no rfl) (some 4) rfl (.int .u32 0) (fun _ => by kernel_rfl) ?_
  refine pl_nil ?_
  refine au_then ?_
  refine wp_seq ?_
  refine rg_lit ?_
  refine pl_val (want_no rfl) (some 6) rfl (.int .i64 16) (fun _ => by kernel_rfl) ?_
  refine pl_val (want_no rfl) (some 7) rfl (.int .u64 16) (fun _ => by kernel_rfl) ?_
  refine pl_val (want_no rfl) (some 8) rfl (.int .u64 16) (fun _ => by kernel_rfl) ?_
  refine pl_val (want_no rfl) (some 5) rfl (.int .u64 16) (fun _ => by kernel_rfl) ?_
  refine pl_nil ?_
  refine au_then ?_
  refine wp_seq ?_
  refine rg_lit ?_
  refine pl_val (want_no rfl) (some 9) rfl (.int .u32 x) (fun _ => by kernel_rfl) ?_
  refine pl_val (want_no rfl) (some 10) rfl (.int .u64 16) (fun _ => by kernel_rfl) ?_
  refine pl_val (want_no rfl) (some 11) rfl (.int .u32 (vl x 16)) (fun _ => by kernel_rfl) ?_
  refine pl_val (want_no rfl) (some 12) rfl (.int .u32 x) (fun _ => by kernel_rfl) ?_
  refine pl_val (want_no rfl) (some 13) rfl (.int .u64 16) (fun _ => by kernel_rfl) ?_
  refine pl_val (want_no rfl) (some 14) rfl (.int .u64 16) (fun _ => by kernel_rfl) ?_
  refine pl_val (want_no rfl) (some 15) rfl (.int .u32 (sr x 16)) (fun _ => by kernel_rfl) ?_
  refine pl_val (want_no rfl) (some 16) rfl (.int .u32 (vo (vl x 16) (sr x 16))) (fun _ => by kernel_rfl) ?_
  refine pl_val (want_no rfl) (some 4) rfl (.int .u32 (vo (vl x 16) (sr x 16))) (fun _ => by kernel_rfl) ?_
  refine pl_nil ?_
  refine au_then ?_
  refine wp_ret ?_
  exact bodyPost_ret (v := .int .u32 (vo (vl x 16) (sr x 16))) (results_tmp1 Tryd.results64 _ _ _ (by kernel_rfl)) (by kernel_rfl) ⟨rfl, below_grown M.old⟩

set_option maxRecDepth 100000 in
set_option maxHeartbeats 4000000 in
theorem c_rl12 (x : Int) (w : World) (hL : Laid w)  :
    Calls Tryd.prog 64 #[.int .u32 x, .int .i64 12] w fun r w' => r = .returned (.int .u32 (rl x 12)) ∧ Below w.heap.size w w' := by
  go_enter Tryd.func64, Tryd.ntmps64
  have M := Mem.start hL
  refine wp_seq ?_
  refine rg_lit ?_
  refine pl_val (want_no rfl) (some 4) rfl (.int .u32 0) (fun _ => by kernel_rfl) ?_
  refine pl_nil ?_
  refine au_then ?_
  refine wp_seq ?_
  refine rg_lit ?_
  refine pl_val (want_no rfl) (some 6) rfl (.int .i64 12) (fun _ => by kernel_rfl) ?_
  refine pl_val (want_no rfl) (some 7) rfl (.int .u64 12) (fun _ => by kernel_rfl) ?_
  refine pl_val (want_no rfl) (some 8) rfl (.int .u64 12) (fun _ => by kernel_rfl) ?_
  refine pl_val (want_no rfl) (some 5) rfl (.int .u64 12) (fun _ => by kernel_rfl) ?_
  refine pl_nil ?_
  refine au_then ?_
  refine wp_seq ?_
  refine rg_lit ?_
  refine pl_val (want_no rfl) (some 9) rfl (.int .u32 x) (fun _ => by kernel_rfl) ?_
  refine pl_val (want_no rfl) (some 10) rfl (.int .u64 12) (fun _ => by kernel_rfl) ?_
  refine pl_val (want_no rfl) (some 11) rfl (.int .u32 (vl x 12)) (fun _ => by kernel_rfl) ?_
  refine pl_val (want_no rfl) (some 12) rfl (.int .u32 x) (fun _ => by kernel_rfl) ?_
  refine pl_val (want_no rfl) (some 13) rfl (.int .u64 12) (fun _ => by kernel_rfl) ?_
  refine pl_val (want_no rfl) (some 14) rfl (.int .u64 20) (fun _ => by kernel_rfl) ?_
  refine pl_val (want_no rfl) (some 15) rfl (.int .u32 (sr x 20)) (fun _ => by kernel_rfl) ?_
  refine pl_val (want_no rfl) (some 16) rfl (.int .u32 (vo (vl x 12) (sr x 20))) (fun _ => by kernel_rfl) ?_
  refine pl_val (want_no rfl) (some 4) rfl (.int .u32 (vo (vl x 12) (sr x 20))) (fun _ => by kernel_rfl) ?_
  refine pl_nil ?_
  refine au_then ?_
  refine wp_ret ?_
  exact bodyPost_ret (v := .int .u32 (vo (vl x 12) (sr x 20))) (results_tmp1 Tryd.results64 _ _ _ (by kernel_rfl)) (by kernel_rfl) ⟨rfl, below_grown M.old⟩

set_option maxRecDepth 100000 in
set_option maxHeartbeats 4000000 in
theorem c_rl8 (x : Int) (w : World) (hL : Laid w)  :
    Calls Tryd.prog 64 #[.int .u32 x, .int .i64 8] w fun r w' => r = .returned (.int .u32 (rl x 8)) ∧ Below w.heap.size w w' := by
  go_enter Tryd.func64, Tryd.ntmps64
  have M := Mem.start hL
  refine wp_seq ?_
  refine rg_lit ?_
  refine pl_val (want_no rfl) (some 4) rfl (.int .u32 0) (fun _ => by kernel_rfl) ?_
  refine pl_nil ?_
  refine au_then ?_
  refine wp_seq ?_
  refine rg_lit ?_
  refine pl_val (want_no rfl) (some 6) rfl (.int .i64 8) (fun _ => by kernel_rfl) ?_
  refine pl_val (want_no rfl) (some 7) rfl (.int .u64 8) (fun _ => by kernel_rfl) ?_
  refine pl_val (want_no rfl) (some 8) rfl (.int .u64 8) (fun _ => by kernel_rfl) ?_
  refine pl_val (want_no rfl) (some 5) rfl (.int .u64 8) (fun _ => by kernel_rfl) ?_
  refine pl_nil ?_
  refine au_then ?_
  refine wp_seq ?_
  refine rg_lit ?_
  refine pl_val (want_no rfl) (some 9) rfl (.int .u32 x) (fun _ => by kernel_rfl) ?_
  refine pl_val (want_no rfl) (some 10) rfl (.int .u64 8) (fun _ => by kernel_rfl) ?_
  refine pl_val (want_no rfl) (some 11) rfl (.int .u32 (vl x 8)) (fun _ => by kernel_rfl) ?_
  refine pl_val (want_no rfl) (some 12) rfl (.int .u32 x) (fun _ => by kernel_rfl) ?_
  refine pl_val (want_no rfl) (some 13) rfl (.int .u64 8) (fun _ => by kernel_rfl) ?_
  refine pl_val (want_no rfl) (some 14) rfl (.int .u64 24) (fun _ => by kernel_rfl) ?_
  refine pl_val (want_no rfl) (some 15) rfl (.int .u32 (sr x 24)) (fun _ => by kernel_rfl) ?_
  refine pl_val (want_no rfl) (some 16) rfl (.int .u32 (vo (vl x 8) (sr x 24))) (fun _ => by kernel_rfl) ?_
  refine pl_val (want_no rfl) (some 4) rfl (.int .u32 (vo (vl x 8) (sr x 24))) (fun _ => by kernel_rfl) ?_
  refine pl_nil ?_
  refine au_then ?_
  refine wp_ret ?_
  exact bodyPost_ret (v := .int .u32 (vo (vl x 8) (sr x 24))) (results_tmp1 Tryd.results64 _ _ _ (by kernel_rfl)) (by kernel_rfl) ⟨rfl, below_grown M.old⟩

set_option maxRecDepth 100000 in
set_option maxHeartbeats 4000000 in
theorem c_rl7 (x : Int) (w : World) (hL : Laid w)  :
    Calls Tryd.prog 64 #[.int .u32 x, .int .i64 7] w fun r w' => r = .returned (.int .u32 (rl x 7)) ∧ Below w.heap.size w w' := by
  go_enter Tryd.func64, Tryd.ntmps64
  have M := Mem.start hL
  refine wp_seq ?_
  refine rg_lit ?_
  refine pl_val (want_no rfl) (some 4) rfl (.int .u32 0) (fun _ => by kernel_rfl) ?_
  refine pl_nil ?_
  refine au_then ?_
  refine wp_seq ?_
  refine rg_lit ?_
  refine pl_val (want_no rfl) (some 6) rfl (.int .i64 7) (fun _ => by kernel_rfl) ?_
  refine pl_val (want_no rfl) (some 7) rfl (.int .u64 7) (fun _ => by kernel_rfl) ?_
  refine pl_val (want_no rfl) (some 8) rfl (.int .u64 7) (fun _ => by kernel_rfl) ?_
  refine pl_val (want_no rfl) (some 5) rfl (.int .u64 7) (fun _ => by kernel_rfl) ?_
  refine pl_nil ?_
  refine au_then ?_
  refine wp_seq ?_
  refine rg_lit ?_
  refine pl_val (want_no rfl) (some 9) rfl (.int .u32 x) (fun _ => by kernel_rfl) ?_
  refine pl_val (want_no rfl) (some 10) rfl (.int .u64 7) (fun _ => by kernel_rfl) ?_
  refine pl_val (want_no rfl) (some 11) rfl (.int .u32 (vl x 7)) (fun _ => by kernel_rfl) ?_
  refine pl_val (want_no rfl) (some 12) rfl (.int .u32 x) (fun _ => by kernel_rfl) ?_
  refine pl_val (want_no rfl) (some 13) rfl (.int .u64 7) (fun _ => by kernel_rfl) ?_
  refine pl_val (want_no rfl) (some 14) rfl (.int .u64 25) (fun _ => by kernel_rfl) ?_
  refine pl_val (want_no rfl) (some 15) rfl (.int .u32 (sr x 25)) (fun _ => by kernel_rfl) ?_
  refine pl_val (want_no rfl) (some 16) rfl (.int .u32 (vo (vl x 7) (sr x 25))) (fun _ => by kernel_rfl) ?_
  refine pl_val (want_no rfl) (some 4) rfl (.int .u32 (vo (vl x 7) (sr x 25))) (fun _ => by kernel_rfl) ?_
  refine pl_nil ?_
  refine au_then ?_
  refine wp_ret ?_
  exact bodyPost_ret (v := .int .u32 (vo (vl x 7) (sr x 25))) (results_tmp1 Tryd.results64 _ _ _ (by kernel_rfl)) (by kernel_rfl) ⟨rfl, below_grown M.old⟩

set_option maxRecDepth 100000 in
set_option maxHeartbeats 4000000 in
theorem c_mix (v : Nat → Int) (p0 p1 p2 p3 : Nat) (h4 : p0 < 16) (h1 : p1 < 16) (h2 : p2 < 16) (h3 : p3 < 16) (g : Nat) (w : World) (hL : Laid w) (hg : w.heap[g]? = some (.cells (av 16 (w32 v)) 44)) (h0 : g ≠ 1) :
    Calls Tryd.prog 63 #[.pointer (some ⟨g, 0, none⟩), .int .i64 (p0 : Int), .int .i64 (p1 : Int), .int .i64 (p2 : Int), .int .i64 (p3 : Int)] w fun r w' => r = .returned (.tuple #[]) ∧ Grw w w' [g] ∧ w'.heap[g]? = some (.cells (av 16 (w32 (mxF v p0 p1 p2 p3))) 44) := by
  go_enter Tryd.func63, Tryd.ntmps63
  have M := Mem.startp hL hg h0
  refine wp_seq ?_
  refine rg_held M [⟨g, .cells (av 16 (w32 v)) 44⟩] 23 rfl (by kernel_rfl) (by kernel_rfl) (fun _ _ d _ _ h => by cases d <;> exact h) ?_
  intro u1 M
  replace M : Mem ⟨w, [g]⟩ [⟨g, .cells (av 16 (w32 v)) 44⟩] u1 := M
  refine hl_val M 0 rfl (by decide) (by kernel_rfl) (by kernel_rfl) (want_no rfl) (some 16) rfl (.pointer (some ⟨g, 0, none⟩)) (fun _ _ => by kernel_rfl) ?_
  refine hl_val M 1 rfl (by decide) (by kernel_rfl) (by kernel_rfl) (want_no rfl) (some 17) rfl (.int .i64 (p0 : Int)) (fun _ _ => by kernel_rfl) ?_
  refine hl_val M 2 rfl (by decide) (by kernel_rfl) (by kernel_rfl) (want_no rfl) (some 18) rfl (.pointer (some ⟨g, 0, none⟩)) (fun _ _ => by kernel_rfl) ?_
  refine hl_val M 3 rfl (by decide) (by kernel_rfl) (by kernel_rfl) (want_no rfl) (some 19) rfl (.pointer (some ⟨g, p0, none⟩)) (fun w _ => (run_ix1 44 16 37 Tryd.underlying44 inz37 _ _ rfl g (by kernel_rfl) .i64 (p0) (by kernel_rfl) (by omega)) w) ?_
  refine hl_cell M 4 rfl (by decide) (by kernel_rfl) (by kernel_rfl) (want_no rfl) (some 20) rfl 37 _ rfl g p0 (by kernel_rfl) (.int .u32 (v p0)) (fun _ => by kernel_rfl) (fun w M => M.cell 0 rfl (by omega) rfl) ?_
  refine hl_val M 5 rfl (by decide) (by kernel_rfl) (by kernel_rfl) (want_no rfl) (some 21) rfl (.pointer (some ⟨g, 0, none⟩)) (fun _ _ => by kernel_rfl) ?_
  refine hl_val M 6 rfl (by decide) (by kernel_rfl) (by kernel_rfl) (want_no rfl) (some 22) rfl (.int .i64 (p1 : Int)) (fun _ _ => by kernel_rfl) ?_
  refine hl_val M 7 rfl (by decide) (by kernel_rfl) (by kernel_rfl) (want_no rfl) (some 23) rfl (.pointer (some ⟨g, 0, none⟩)) (fun _ _ => by kernel_rfl) ?_
  refine hl_val M 8 rfl (by decide) (by kernel_rfl) (by kernel_rfl) (want_no rfl) (some 24) rfl (.pointer (some ⟨g, p1, none⟩)) (fun w _ => (run_ix1 44 16 37 Tryd.underlying44 inz37 _ _ rfl g (by kernel_rfl) .i64 (p1) (by kernel_rfl) (by omega)) w) ?_
  refine hl_cell M 9 rfl (by decide) (by kernel_rfl) (by kernel_rfl) (want_no rfl) (some 25) rfl 37 _ rfl g p1 (by kernel_rfl) (.int .u32 (v p1)) (fun _ => by kernel_rfl) (fun w M => M.cell 0 rfl (by omega) rfl) ?_
  refine hl_val M 10 rfl (by decide) (by kernel_rfl) (by kernel_rfl) (want_no rfl) (some 26) rfl (.pointer (some ⟨g, 0, none⟩)) (fun _ _ => by kernel_rfl) ?_
  refine hl_val M 11 rfl (by decide) (by kernel_rfl) (by kernel_rfl) (want_no rfl) (some 27) rfl (.int .i64 (p2 : Int)) (fun _ _ => by kernel_rfl) ?_
  refine hl_val M 12 rfl (by decide) (by kernel_rfl) (by kernel_rfl) (want_no rfl) (some 28) rfl (.pointer (some ⟨g, 0, none⟩)) (fun _ _ => by kernel_rfl) ?_
  refine hl_val M 13 rfl (by decide) (by kernel_rfl) (by kernel_rfl) (want_no rfl) (some 29) rfl (.pointer (some ⟨g, p2, none⟩)) (fun w _ => (run_ix1 44 16 37 Tryd.underlying44 inz37 _ _ rfl g (by kernel_rfl) .i64 (p2) (by kernel_rfl) (by omega)) w) ?_
  refine hl_cell M 14 rfl (by decide) (by kernel_rfl) (by kernel_rfl) (want_no rfl) (some 30) rfl 37 _ rfl g p2 (by kernel_rfl) (.int .u32 (v p2)) (fun _ => by kernel_rfl) (fun w M => M.cell 0 rfl (by omega) rfl) ?_
  refine hl_val M 15 rfl (by decide) (by kernel_rfl) (by kernel_rfl) (want_no rfl) (some 31) rfl (.pointer (some ⟨g, 0, none⟩)) (fun _ _ => by kernel_rfl) ?_
  refine hl_val M 16 rfl (by decide) (by kernel_rfl) (by kernel_rfl) (want_no rfl) (some 32) rfl (.int .i64 (p3 : Int)) (fun _ _ => by kernel_rfl) ?_
  refine hl_val M 17 rfl (by decide) (by kernel_rfl) (by kernel_rfl) (want_no rfl) (some 33) rfl (.pointer (some ⟨g, 0, none⟩)) (fun _ _ => by kernel_rfl) ?_
  refine hl_val M 18 rfl (by decide) (by kernel_rfl) (by kernel_rfl) (want_no rfl) (some 34) rfl (.pointer (some ⟨g, p3, none⟩)) (fun w _ => (run_ix1 44 16 37 Tryd.underlying44 inz37 _ _ rfl g (by kernel_rfl) .i64 (p3) (by kernel_rfl) (by omega)) w) ?_
  refine hl_cell M 19 rfl (by decide) (by kernel_rfl) (by kernel_rfl) (want_no rfl) (some 35) rfl 37 _ rfl g p3 (by kernel_rfl) (.int .u32 (v p3)) (fun _ => by kernel_rfl) (fun w M => M.cell 0 rfl (by omega) rfl) ?_
  refine hl_val M 20 rfl (by decide) (by kernel_rfl) (by kernel_rfl) (want_no rfl) (some 10) rfl (.int .u32 (v p0)) (fun _ _ => by kernel_rfl) ?_
  refine hl_val M 21 rfl (by decide) (by kernel_rfl) (by kernel_rfl) (want_no rfl) (some 11) rfl (.int .u32 (v p1)) (fun _ _ => by kernel_rfl) ?_
  refine hl_val M 22 rfl (by decide) (by kernel_rfl) (by kernel_rfl) (want_no rfl) (some 12) rfl (.int .u32 (v p2)) (fun _ _ => by kernel_rfl) ?_
  refine hl_end (by kernel_rfl) (by kernel_rfl) rfl ?_
  refine pl_val (want_no rfl) (some 13) rfl (.int .u32 (v p3)) (fun _ => by kernel_rfl) ?_
  refine pl_nil ?_
  refine au_then ?_
  refine au_then ?_
  refine wp_seq ?_
  refine wp_seq ?_
  refine rg_lit ?_
  refine pl_laid M (want_no rfl) (some 36) rfl 106 _ rfl (by kernel_rfl) _ Tryd.underlying106 rfl inz106 ?_
  refine pl_val (want_no rfl) (some 37) rfl (.int .i64 0) (fun _ => by kernel_rfl) ?_
  refine pl_nil ?_
  refine au_then ?_
  refine wp_block ?_
  refine wp_loop_rounds 3 ?_
  refine rounds_go ?_
  refine wp_seq ?_
  refine rg_lit ?_
  refine pl_val (want_no rfl) (some 38) rfl (.bool true) (fun _ => by kernel_rfl) ?_
  refine pl_nil ?_
  refine au_then ?_
  refine wp_seq ?_
  refine wp_cond_true (by kernel_rfl) ?_
  refine wp_skip ?_
  refine au_then ?_
  refine wp_seq ?_
  refine wp_block ?_
  refine wp_seq ?_
  refine rg_lit ?_
  refine pl_val (want_no rfl) (some 39) rfl (.agg (av 2 tr0)) (fun w => Eq.trans (run_ixP 106 2 105 2 Tryd.underlying106 inz105 (fun _ => by kernel_rfl) _ _ rfl (wi TF) 4 (by kernel_rfl) .i64 0 (by kernel_rfl) (by omega) (by omega) w) (by kernel_rfl)) ?_
  refine pl_new M (want_no rfl) (some 15) rfl (.cells (av 2 (wi (fun _ => 0))) 105) (fun _ => by kernel_rfl) ?_
  intro g1 u2 M
  replace M : Mem ⟨w, [g]⟩ [⟨g, .cells (av 16 (w32 v)) 44⟩, ⟨g1, .cells (av 2 (wi (fun _ => 0))) 105⟩] u2 := M
  refine pl_put M (want_no rfl) rfl 105 _ _ rfl 1 g1 0 (by kernel_rfl) 2 105 (wi (fun _ => 0)) rfl 2 tr0 tr0 (by kernel_rfl) inz105 (by decide) (fun _ _ => rfl) (fun j hj => by rw [if_pos (by omega), Nat.sub_zero]) ?_
  intro u3 M
  replace M : Mem ⟨w, [g]⟩ [⟨g, .cells (av 16 (w32 v)) 44⟩, ⟨g1, .cells (av 2 tr0) 105⟩] u3 := M
  refine pl_nil ?_
  refine au_then ?_
  refine wp_seq ?_
  refine rg_lit ?_
  refine pl_val (want_no rfl) (some 40) rfl (.int .u32 (v p0)) (fun _ => by kernel_rfl) ?_
  refine pl_val (want_no rfl) (some 41) rfl (.int .u32 (v p1)) (fun _ => by kernel_rfl) ?_
  refine pl_val (want_no rfl) (some 42) rfl (.int .u32 (mA1 v p0 p1)) (fun _ => by kernel_rfl) ?_
  refine pl_val (want_no rfl) (some 10) rfl (.int .u32 (mA1 v p0 p1)) (fun _ => by kernel_rfl) ?_
  refine pl_nil ?_
  refine au_then ?_
  refine wp_seq ?_
  refine rg_lit ?_
  refine pl_val (want_no rfl) (some 43) rfl (.int .u32 (v p3)) (fun _ => by kernel_rfl) ?_
  refine pl_val (want_no rfl) (some 44) rfl (.int .u32 (mA1 v p0 p1)) (fun _ => by kernel_rfl) ?_
  refine pl_val (want_no rfl) (some 45) rfl (.int .u32 (vx (v p3) (mA1 v p0 p1))) (fun _ => by kernel_rfl) ?_
  refine pl_val (want_no rfl) (some 46) rfl (.pointer (some ⟨g1, 0, none⟩)) (fun _ => by kernel_rfl) ?_
  refine pl_cell M (want_no rfl) (some 47) rfl 3 _ rfl g1 0 (by kernel_rfl) (.int .i64 16) (fun _ => by kernel_rfl) (fun w M => M.cell 1 rfl (by decide) rfl) ?_
  refine pl_call M (want_no rfl) (some 48) rfl 64 #[.int .u32 (vx (v p3) (mA1 v p0 p1)), .int .i64 16] (.int .u32 (mD1 v p0 p1 p3)) (fun _ => by kernel_rfl) (fun w M => c_rl16 _ w M.laid) ?_
  intro u4 M
  refine pl_val (want_no rfl) (some 13) rfl (.int .u32 (mD1 v p0 p1 p3)) (fun _ => by kernel_rfl) ?_
  refine pl_nil ?_
  refine au_then ?_
  refine wp_seq ?_
  refine rg_lit ?_
  refine pl_val (want_no rfl) (some 49) rfl (.int .u32 (v p2)) (fun _ => by kernel_rfl) ?_
  refine pl_val (want_no rfl) (some 50) rfl (.int .u32 (mD1 v p0 p1 p3)) (fun _ => by kernel_rfl) ?_
  refine pl_val (want_no rfl) (some 51) rfl (.int .u32 (mC1 v p0 p1 p2 p3)) (fun _ => by kernel_rfl) ?_
  refine pl_val (want_no rfl) (some 12) rfl (.int .u32 (mC1 v p0 p1 p2 p3)) (fun _ => by kernel_rfl) ?_
  refine pl_nil ?_
  refine au_then ?_
  refine rg_lit ?_
  refine pl_val (want_no rfl) (some 52) rfl (.int .u32 (v p1)) (fun _ => by kernel_rfl) ?_
  refine pl_val (want_no rfl) (some 53) rfl (.int .u32 (mC1 v p0 p1 p2 p3)) (fun _ => by kernel_rfl) ?_
  refine pl_val (want_no rfl) (some 54) rfl (.int .u32 (vx (v p1) (mC1 v p0 p1 p2 p3))) (fun _ => by kernel_rfl) ?_
  refine pl_val (want_no rfl) (some 55) rfl (.pointer (some ⟨g1, 1, none⟩)) (fun _ => by kernel_rfl) ?_
  refine pl_cell M (want_no rfl) (some 56) rfl 3 _ rfl g1 1 (by kernel_rfl) (.int .i64 12) (fun _ => by kernel_rfl) (fun w M => M.cell 1 rfl (by decide) rfl) ?_
  refine pl_call M (want_no rfl) (some 57) rfl 64 #[.int .u32 (vx (v p1) (mC1 v p0 p1 p2 p3)), .int .i64 12] (.int .u32 (mB1 v p0 p1 p2 p3)) (fun _ => by kernel_rfl) (fun w M => c_rl12 _ w M.laid) ?_
  intro u5 M
  refine pl_val (want_no rfl) (some 11) rfl (.int .u32 (mB1 v p0 p1 p2 p3)) (fun _ => by kernel_rfl) ?_
  refine pl_nil ?_
  refine au_block ?_
  refine au_then ?_
  refine rg_lit ?_
  refine pl_val (want_no rfl) (some 58) rfl (.int .i64 1) (fun _ => by kernel_rfl) ?_
  refine pl_val (want_no rfl) (some 37) rfl (.int .i64 1) (fun _ => by kernel_rfl) ?_
  refine pl_nil ?_
  refine au_then ?_
  refine rounds_go ?_
  refine wp_seq ?_
  refine rg_lit ?_
  refine pl_val (want_no rfl) (some 38) rfl (.bool true) (fun _ => by kernel_rfl) ?_
  refine pl_nil ?_
  refine au_then ?_
  refine wp_seq ?_
  refine wp_cond_true (by kernel_rfl) ?_
  refine wp_skip ?_
  refine au_then ?_
  refine wp_seq ?_
  refine wp_block ?_
  refine wp_seq ?_
  refine rg_lit ?_
  refine pl_val (want_no rfl) (some 39) rfl (.agg (av 2 tr1)) (fun w => Eq.trans (run_ixP 106 2 105 2 Tryd.underlying106 inz105 (fun _ => by kernel_rfl) _ _ rfl (wi TF) 4 (by kernel_rfl) .i64 1 (by kernel_rfl) (by omega) (by omega) w) (by kernel_rfl)) ?_
  refine pl_new M (want_no rfl) (some 15) rfl (.cells (av 2 (wi (fun _ => 0))) 105) (fun _ => by kernel_rfl) ?_
  intro g2 u6 M
  replace M : Mem ⟨w, [g]⟩ [⟨g, .cells (av 16 (w32 v)) 44⟩, ⟨g1, .cells (av 2 tr0) 105⟩, ⟨g2, .cells (av 2 (wi (fun _ => 0))) 105⟩] u6 := M
  refine pl_put M (want_no rfl) rfl 105 _ _ rfl 2 g2 0 (by kernel_rfl) 2 105 (wi (fun _ => 0)) rfl 2 tr1 tr1 (by kernel_rfl) inz105 (by decide) (fun _ _ => rfl) (fun j hj => by rw [if_pos (by omega), Nat.sub_zero]) ?_
  intro u7 M
  replace M : Mem ⟨w, [g]⟩ [⟨g, .cells (av 16 (w32 v)) 44⟩, ⟨g1, .cells (av 2 tr0) 105⟩, ⟨g2, .cells (av 2 tr1) 105⟩] u7 := M
  refine pl_nil ?_
  refine au_then ?_
  refine wp_seq ?_
  refine rg_lit ?_
  refine pl_val (want_no rfl) (some 40) rfl (.int .u32 (mA1 v p0 p1)) (fun _ => by kernel_rfl) ?_
  refine pl_val (want_no rfl) (some 41) rfl (.int .u32 (mB1 v p0 p1 p2 p3)) (fun _ => by kernel_rfl) ?_
  refine pl_val (want_no rfl) (some 42) rfl (.int .u32 (mA2 v p0 p1 p2 p3)) (fun _ => by kernel_rfl) ?_
  refine pl_val (want_no rfl) (some 10) rfl (.int .u32 (mA2 v p0 p1 p2 p3)) (fun _ => by kernel_rfl) ?_
  refine pl_nil ?_
  refine au_then ?_
  refine wp_seq ?_
  refine rg_lit ?_
  refine pl_val (want_no rfl) (some 43) rfl (.int .u32 (mD1 v p0 p1 p3)) (fun _ => by kernel_rfl) ?_
  refine pl_val (want_no rfl) (some 44) rfl (.int .u32 (mA2 v p0 p1 p2 p3)) (fun _ => by kernel_rfl) ?_
  refine pl_val (want_no rfl) (some 45) rfl (.int .u32 (vx (mD1 v p0 p1 p3) (mA2 v p0 p1 p2 p3))) (fun _ => by kernel_rfl) ?_
  refine pl_val (want_no rfl) (some 46) rfl (.pointer (some ⟨g2, 0, none⟩)) (fun _ => by kernel_rfl) ?_
  refine pl_cell M (want_no rfl) (some 47) rfl 3 _ rfl g2 0 (by kernel_rfl) (.int .i64 8) (fun _ => by kernel_rfl) (fun w M => M.cell 2 rfl (by decide) rfl) ?_
  refine pl_call M (want_no rfl) (some 48) rfl 64 #[.int .u32 (vx (mD1 v p0 p1 p3) (mA2 v p0 p1 p2 p3)), .int .i64 8] (.int .u32 (mD2 v p0 p1 p2 p3)) (fun _ => by kernel_rfl) (fun w M => c_rl8 _ w M.laid) ?_
  intro u8 M
  refine pl_val (want_no rfl) (some 13) rfl (.int .u32 (mD2 v p0 p1 p2 p3)) (fun _ => by kernel_rfl) ?_
  refine pl_nil ?_
  refine au_then ?_
  refine wp_seq ?_
  refine rg_lit ?_
  refine pl_val (want_no rfl) (some 49) rfl (.int .u32 (mC1 v p0 p1 p2 p3)) (fun _ => by kernel_rfl) ?_
  refine pl_val (want_no rfl) (some 50) rfl (.int .u32 (mD2 v p0 p1 p2 p3)) (fun _ => by kernel_rfl) ?_
  refine pl_val (want_no rfl) (some 51) rfl (.int .u32 (mC2 v p0 p1 p2 p3)) (fun _ => by kernel_rfl) ?_
  refine pl_val (want_no rfl) (some 12) rfl (.int .u32 (mC2 v p0 p1 p2 p3)) (fun _ => by kernel_rfl) ?_
  refine pl_nil ?_
  refine au_then ?_
  refine rg_lit ?_
  refine pl_val (want_no rfl) (some 52) rfl (.int .u32 (mB1 v p0 p1 p2 p3)) (fun _ => by kernel_rfl) ?_
  refine pl_val (want_no rfl) (some 53) rfl (.int .u32 (mC2 v p0 p1 p2 p3)) (fun _ => by kernel_rfl) ?_
  refine pl_val (want_no rfl) (some 54) rfl (.int .u32 (vx (mB1 v p0 p1 p2 p3) (mC2 v p0 p1 p2 p3))) (fun _ => by kernel_rfl) ?_
  refine pl_val (want_no rfl) (some 55) rfl (.pointer (some ⟨g2, 1, none⟩)) (fun _ => by kernel_rfl) ?_
  refine pl_cell M (want_no rfl) (some 56) rfl 3 _ rfl g2 1 (by kernel_rfl) (.int .i64 7) (fun _ => by kernel_rfl) (fun w M => M.cell 2 rfl (by decide) rfl) ?_
  refine pl_call M (want_no rfl) (some 57) rfl 64 #[.int .u32 (vx (mB1 v p0 p1 p2 p3) (mC2 v p0 p1 p2 p3)), .int .i64 7] (.int .u32 (mB2 v p0 p1 p2 p3)) (fun _ => by kernel_rfl) (fun w M => c_rl7 _ w M.laid) ?_
  intro u9 M
  refine pl_val (want_no rfl) (some 11) rfl (.int .u32 (mB2 v p0 p1 p2 p3)) (fun _ => by kernel_rfl) ?_
  refine pl_nil ?_
  refine au_block ?_
  refine au_then ?_
  refine rg_lit ?_
  refine pl_val (want_no rfl) (some 58) rfl (.int .i64 2) (fun _ => by kernel_rfl) ?_
  refine pl_val (want_no rfl) (some 37) rfl (.int .i64 2) (fun _ => by kernel_rfl) ?_
  refine pl_nil ?_
  refine au_then ?_
  refine rounds_go ?_
  refine wp_seq ?_
  refine rg_lit ?_
  refine pl_val (want_no rfl) (some 38) rfl (.bool false) (fun _ => by kernel_rfl) ?_
  refine pl_nil ?_
  refine au_then ?_
  refine wp_seq ?_
  refine wp_cond_false (by kernel_rfl) ?_
  refine wp_exit ?_
  refine au_then_exit ?_
  refine au_then_exit ?_
  refine au_block_exit ?_
  refine au_then ?_
  refine rg_held M [⟨g1, .cells (av 2 tr0) 105⟩, ⟨g2, .cells (av 2 tr1) 105⟩] 23 rfl (by kernel_rfl) (by kernel_rfl) (fun _ _ d _ _ h => by cases d <;> exact h) ?_
  intro u10 M
  replace M : Mem ⟨w, [g]⟩ [⟨g, .cells (av 16 (w32 v)) 44⟩, ⟨g1, .cells (av 2 tr0) 105⟩, ⟨g2, .cells (av 2 tr1) 105⟩] u10 := M
  refine hl_val (M.drop (.cons _ (.cons_cons _ (.cons_cons _ (.slnil))))) 0 rfl (by decide) (by kernel_rfl) (by kernel_rfl) (want_no rfl) (some 59) rfl (.pointer (some ⟨g, 0, none⟩)) (fun _ _ => by kernel_rfl) ?_
  refine hl_val (M.drop (.cons _ (.cons_cons _ (.cons_cons _ (.slnil))))) 1 rfl (by decide) (by kernel_rfl) (by kernel_rfl) (want_no rfl) (some 60) rfl (.int .i64 (p0 : Int)) (fun _ _ => by kernel_rfl) ?_
  refine hl_val (M.drop (.cons _ (.cons_cons _ (.cons_cons _ (.slnil))))) 2 rfl (by decide) (by kernel_rfl) (by kernel_rfl) (want_no rfl) (some 61) rfl (.pointer (some ⟨g, 0, none⟩)) (fun _ _ => by kernel_rfl) ?_
  refine hl_val (M.drop (.cons _ (.cons_cons _ (.cons_cons _ (.slnil))))) 3 rfl (by decide) (by kernel_rfl) (by kernel_rfl) (want_no rfl) (some 62) rfl (.int .i64 (p1 : Int)) (fun _ _ => by kernel_rfl) ?_
  refine hl_val (M.drop (.cons _ (.cons_cons _ (.cons_cons _ (.slnil))))) 4 rfl (by decide) (by kernel_rfl) (by kernel_rfl) (want_no rfl) (some 63) rfl (.pointer (some ⟨g, 0, none⟩)) (fun _ _ => by kernel_rfl) ?_
  refine hl_val (M.drop (.cons _ (.cons_cons _ (.cons_cons _ (.slnil))))) 5 rfl (by decide) (by kernel_rfl) (by kernel_rfl) (want_no rfl) (some 64) rfl (.int .i64 (p2 : Int)) (fun _ _ => by kernel_rfl) ?_
  refine hl_val (M.drop (.cons _ (.cons_cons _ (.cons_cons _ (.slnil))))) 6 rfl (by decide) (by kernel_rfl) (by kernel_rfl) (want_no rfl) (some 65) rfl (.pointer (some ⟨g, 0, none⟩)) (fun _ _ => by kernel_rfl) ?_
  refine hl_val (M.drop (.cons _ (.cons_cons _ (.cons_cons _ (.slnil))))) 7 rfl (by decide) (by kernel_rfl) (by kernel_rfl) (want_no rfl) (some 66) rfl (.int .i64 (p3 : Int)) (fun _ _ => by kernel_rfl) ?_
  refine hl_val (M.drop (.cons _ (.cons_cons _ (.cons_cons _ (.slnil))))) 8 rfl (by decide) (by kernel_rfl) (by kernel_rfl) (want_no rfl) (some 67) rfl (.int .u32 (mA2 v p0 p1 p2 p3)) (fun _ _ => by kernel_rfl) ?_
  refine hl_val (M.drop (.cons _ (.cons_cons _ (.cons_cons _ (.slnil))))) 9 rfl (by decide) (by kernel_rfl) (by kernel_rfl) (want_no rfl) (some 68) rfl (.int .u32 (mB2 v p0 p1 p2 p3)) (fun _ _ => by kernel_rfl) ?_
  refine hl_val (M.drop (.cons _ (.cons_cons _ (.cons_cons _ (.slnil))))) 10 rfl (by decide) (by kernel_rfl) (by kernel_rfl) (want_no rfl) (some 69) rfl (.int .u32 (mC2 v p0 p1 p2 p3)) (fun _ _ => by kernel_rfl) ?_
  refine hl_val (M.drop (.cons _ (.cons_cons _ (.cons_cons _ (.slnil))))) 11 rfl (by decide) (by kernel_rfl) (by kernel_rfl) (want_no rfl) (some 70) rfl (.int .u32 (mD2 v p0 p1 p2 p3)) (fun _ _ => by kernel_rfl) ?_
  refine hl_val (M.drop (.cons _ (.cons_cons _ (.cons_cons _ (.slnil))))) 12 rfl (by decide) (by kernel_rfl) (by kernel_rfl) (want_no rfl) (some 71) rfl (.pointer (some ⟨g, 0, none⟩)) (fun _ _ => by kernel_rfl) ?_
  refine hl_val (M.drop (.cons _ (.cons_cons _ (.cons_cons _ (.slnil))))) 13 rfl (by decide) (by kernel_rfl) (by kernel_rfl) (want_no rfl) (some 72) rfl (.pointer (some ⟨g, p0, none⟩)) (fun w _ => (run_ix1 44 16 37 Tryd.underlying44 inz37 _ _ rfl g (by kernel_rfl) .i64 (p0) (by kernel_rfl) (by omega)) w) ?_
  refine hl_val (M.drop (.cons _ (.cons_cons _ (.cons_cons _ (.slnil))))) 15 rfl (by decide) (by kernel_rfl) (by kernel_rfl) (want_no rfl) (some 73) rfl (.pointer (some ⟨g, 0, none⟩)) (fun _ _ => by kernel_rfl) ?_
  refine hl_val (M.drop (.cons _ (.cons_cons _ (.cons_cons _ (.slnil))))) 18 rfl (by decide) (by kernel_rfl) (by kernel_rfl) (want_no rfl) (some 75) rfl (.pointer (some ⟨g, 0, none⟩)) (fun _ _ => by kernel_rfl) ?_
  refine hl_val (M.drop (.cons _ (.cons_cons _ (.cons_cons _ (.slnil))))) 21 rfl (by decide) (by kernel_rfl) (by kernel_rfl) (want_no rfl) (some 77) rfl (.pointer (some ⟨g, 0, none⟩)) (fun _ _ => by kernel_rfl) ?_
  refine hl_one 14 (by decide) (by kernel_rfl) rfl ?_
  refine pl_put1 M (want_no rfl) rfl 37 _ _ rfl 0 g p0 (by kernel_rfl) 16 44 (w32 v) rfl (.int .u32 (mA2 v p0 p1 p2 p3)) (w32 (upd v p0 (mA2 v p0 p1 p2 p3))) (by kernel_rfl) inz37 (by omega) rfl rfl (fun j _ => put_w32 _ _ _ j) ?_
  intro u11 M
  replace M : Mem ⟨w, [g]⟩ [⟨g, .cells (av 16 (w32 (upd v p0 (mA2 v p0 p1 p2 p3)))) 44⟩, ⟨g1, .cells (av 2 tr0) 105⟩, ⟨g2, .cells (av 2 tr1) 105⟩] u11 := M
  refine pl_nil ?_
  refine au_then ?_
  refine ⟨(M.drop (.cons _ (.cons_cons _ (.cons_cons _ (.slnil))))), ?_⟩
  refine hl_val (M.drop (.cons _ (.cons_cons _ (.cons_cons _ (.slnil))))) 16 rfl (by decide) (by kernel_rfl) (by kernel_rfl) (want_no rfl) (some 74) rfl (.pointer (some ⟨g, p1, none⟩)) (fun w _ => (run_ix1 44 16 37 Tryd.underlying44 inz37 _ _ rfl g (by kernel_rfl) .i64 (p1) (by kernel_rfl) (by omega)) w) ?_
  refine hl_one 17 (by decide) (by kernel_rfl) rfl ?_
  refine pl_put1 M (want_no rfl) rfl 37 _ _ rfl 0 g p1 (by kernel_rfl) 16 44 (w32 (upd v p0 (mA2 v p0 p1 p2 p3))) rfl (.int .u32 (mB2 v p0 p1 p2 p3)) (w32 (upd (upd v p0 (mA2 v p0 p1 p2 p3)) p1 (mB2 v p0 p1 p2 p3))) (by kernel_rfl) inz37 (by omega) rfl rfl (fun j _ => put_w32 _ _ _ j) ?_
  intro u12 M
  replace M : Mem ⟨w, [g]⟩ [⟨g, .cells (av 16 (w32 (upd (upd v p0 (mA2 v p0 p1 p2 p3)) p1 (mB2 v p0 p1 p2 p3)))) 44⟩, ⟨g1, .cells (av 2 tr0) 105⟩, ⟨g2, .cells (av 2 tr1) 105⟩] u12 := M
  refine pl_nil ?_
  refine au_then ?_
  refine ⟨(M.drop (.cons _ (.cons_cons _ (.cons_cons _ (.slnil))))), ?_⟩
  refine hl_val (M.drop (.cons _ (.cons_cons _ (.cons_cons _ (.slnil))))) 19 rfl (by decide) (by kernel_rfl) (by kernel_rfl) (want_no rfl) (some 76) rfl (.pointer (some ⟨g, p2, none⟩)) (fun w _ => (run_ix1 44 16 37 Tryd.underlying44 inz37 _ _ rfl g (by kernel_rfl) .i64 (p2) (by kernel_rfl) (by omega)) w) ?_
  refine hl_one 20 (by decide) (by kernel_rfl) rfl ?_
  refine pl_put1 M (want_no rfl) rfl 37 _ _ rfl 0 g p2 (by kernel_rfl) 16 44 (w32 (upd (upd v p0 (mA2 v p0 p1 p2 p3)) p1 (mB2 v p0 p1 p2 p3))) rfl (.int .u32 (mC2 v p0 p1 p2 p3)) (w32 (upd (upd (upd v p0 (mA2 v p0 p1 p2 p3)) p1 (mB2 v p0 p1 p2 p3)) p2 (mC2 v p0 p1 p2 p3))) (by kernel_rfl) inz37 (by omega) rfl rfl (fun j _ => put_w32 _ _ _ j) ?_
  intro u13 M
  replace M : Mem ⟨w, [g]⟩ [⟨g, .cells (av 16 (w32 (upd (upd (upd v p0 (mA2 v p0 p1 p2 p3)) p1 (mB2 v p0 p1 p2 p3)) p2 (mC2 v p0 p1 p2 p3)))) 44⟩, ⟨g1, .cells (av 2 tr0) 105⟩, ⟨g2, .cells (av 2 tr1) 105⟩] u13 := M
  refine pl_nil ?_
  refine au_then ?_
  refine ⟨(M.drop (.cons _ (.cons_cons _ (.cons_cons _ (.slnil))))), ?_⟩
  refine hl_val (M.drop (.cons _ (.cons_cons _ (.cons_cons _ (.slnil))))) 22 rfl (by decide) (by kernel_rfl) (by kernel_rfl) (want_no rfl) (some 78) rfl (.pointer (some ⟨g, p3, none⟩)) (fun w _ => (run_ix1 44 16 37 Tryd.underlying44 inz37 _ _ rfl g (by kernel_rfl) .i64 (p3) (by kernel_rfl) (by omega)) w) ?_
  refine hl_end (by kernel_rfl) (by kernel_rfl) rfl ?_
  refine pl_put1 M (want_no rfl) rfl 37 _ _ rfl 0 g p3 (by kernel_rfl) 16 44 (w32 (upd (upd (upd v p0 (mA2 v p0 p1 p2 p3)) p1 (mB2 v p0 p1 p2 p3)) p2 (mC2 v p0 p1 p2 p3))) rfl (.int .u32 (mD2 v p0 p1 p2 p3)) (w32 (upd (upd (upd (upd v p0 (mA2 v p0 p1 p2 p3)) p1 (mB2 v p0 p1 p2 p3)) p2 (mC2 v p0 p1 p2 p3)) p3 (mD2 v p0 p1 p2 p3))) (by kernel_rfl) inz37 (by omega) rfl rfl (fun j _ => put_w32 _ _ _ j) ?_
  intro u14 M
  replace M : Mem ⟨w, [g]⟩ [⟨g, .cells (av 16 (w32 (upd (upd (upd (upd v p0 (mA2 v p0 p1 p2 p3)) p1 (mB2 v p0 p1 p2 p3)) p2 (mC2 v p0 p1 p2 p3)) p3 (mD2 v p0 p1 p2 p3)))) 44⟩, ⟨g1, .cells (av 2 tr0) 105⟩, ⟨g2, .cells (av 2 tr1) 105⟩] u14 := M
  refine pl_nil ?_
  refine au_then ?_
  exact bodyPost_end (v := .tuple #[]) (results_none Tryd.results63 _ _) (by kernel_rfl) ⟨rfl, M.old, M.get 0 rfl⟩

def rn1 (v : Nat → Int) : Nat → Int := mxF v 0 4 8 12
def rn2 (v : Nat → Int) : Nat → Int := mxF (rn1 v) 1 5 9 13
def rn3 (v : Nat → Int) : Nat → Int := mxF (rn2 v) 2 6 10 14
def rn4 (v : Nat → Int) : Nat → Int := mxF (rn3 v) 3 7 11 15
def rn5 (v : Nat → Int) : Nat → Int := mxF (rn4 v) 0 5 10 15
def rn6 (v : Nat → Int) : Nat → Int := mxF (rn5 v) 1 6 11 12
def rn7 (v : Nat → Int) : Nat → Int := mxF (rn6 v) 2 7 8 13
def rn8 (v : Nat → Int) : Nat → Int := mxF (rn7 v) 3 4 9 14
/-- The sixteen words behind some rounds. -/
def rd (v : Nat → Int) : Nat → (Nat → Int)
  | 0 => v
  | j + 1 => rn8 (rd v j)

set_option maxRecDepth 100000 in
set_option maxHeartbeats 4000000 in
theorem c_round (v : Nat → Int) (g : Nat) (w : World) (hL : Laid w) (hg : w.heap[g]? = some (.cells (av 16 (w32 v)) 44)) (h0 : g ≠ 1) :
    Calls Tryd.prog 56 #[.pointer (some ⟨g, 0, none⟩)] w fun r w' => r = .returned (.tuple #[]) ∧ Grw w w' [g] ∧ w'.heap[g]? = some (.cells (av 16 (w32 (rn8 v))) 44) := by
  go_enter Tryd.func56, Tryd.ntmps56
  have M := Mem.startp hL hg h0
  refine wp_seq ?_
  refine rg_lit ?_
  refine pl_val (want_no rfl) (some 2) rfl (.pointer (some ⟨g, 0, none⟩)) (fun _ => by kernel_rfl) ?_
  refine pl_callp M (want_no rfl) (some 3) rfl 63 #[.pointer (some ⟨g, 0, none⟩), .int .i64 0, .int .i64 4, .int .i64 8, .int .i64 12] (.tuple #[]) 0 g (.cells (av 16 (w32 v)) 44) (.cells (av 16 (w32 (rn1 v))) 44) rfl (fun _ => by kernel_rfl) (fun w M => c_mix v 0 4 8 12 (by decide) (by decide) (by decide) (by decide) g w M.laid (M.get 0 rfl) (M.ne0 0 rfl)) ?_
  intro u1 M
  replace M : Mem ⟨w, [g]⟩ [⟨g, .cells (av 16 (w32 (rn1 v))) 44⟩] u1 := M
  refine pl_nil ?_
  refine au_then ?_
  refine wp_seq ?_
  refine rg_lit ?_
  refine pl_val (want_no rfl) (some 4) rfl (.pointer (some ⟨g, 0, none⟩)) (fun _ => by kernel_rfl) ?_
  refine pl_callp M (want_no rfl) (some 5) rfl 63 #[.pointer (some ⟨g, 0, none⟩), .int .i64 1, .int .i64 5, .int .i64 9, .int .i64 13] (.tuple #[]) 0 g (.cells (av 16 (w32 (rn1 v))) 44) (.cells (av 16 (w32 (rn2 v))) 44) rfl (fun _ => by kernel_rfl) (fun w M => c_mix (rn1 v) 1 5 9 13 (by decide) (by decide) (by decide) (by decide) g w M.laid (M.get 0 rfl) (M.ne0 0 rfl)) ?_
  intro u2 M
  replace M : Mem ⟨w, [g]⟩ [⟨g, .cells (av 16 (w32 (rn2 v))) 44⟩] u2 := M
  refine pl_nil ?_
  refine au_then ?_
  refine wp_seq ?_
  refine rg_lit ?_
  refine pl_val (want_no rfl) (some 6) rfl (.pointer (some ⟨g, 0, none⟩)) (fun _ => by kernel_rfl) ?_
  refine pl_callp M (want_no rfl) (some 7) rfl 63 #[.pointer (some ⟨g, 0, none⟩), .int .i64 2, .int .i64 6, .int .i64 10, .int .i64 14] (.tuple #[]) 0 g (.cells (av 16 (w32 (rn2 v))) 44) (.cells (av 16 (w32 (rn3 v))) 44) rfl (fun _ => by kernel_rfl) (fun w M => c_mix (rn2 v) 2 6 10 14 (by decide) (by decide) (by decide) (by decide) g w M.laid (M.get 0 rfl) (M.ne0 0 rfl)) ?_
  intro u3 M
  replace M : Mem ⟨w, [g]⟩ [⟨g, .cells (av 16 (w32 (rn3 v))) 44⟩] u3 := M
  refine pl_nil ?_
  refine au_then ?_
  refine wp_seq ?_
  refine rg_lit ?_
  refine pl_val (want_no rfl) (some 8) rfl (.pointer (some ⟨g, 0, none⟩)) (fun _ => by kernel_rfl) ?_
  refine pl_callp M (want_no rfl) (some 9) rfl 63 #[.pointer (some ⟨g, 0, none⟩), .int .i64 3, .int .i64 7, .int .i64 11, .int .i64 15] (.tuple #[]) 0 g (.cells (av 16 (w32 (rn3 v))) 44) (.cells (av 16 (w32 (rn4 v))) 44) rfl (fun _ => by kernel_rfl) (fun w M => c_mix (rn3 v) 3 7 11 15 (by decide) (by decide) (by decide) (by decide) g w M.laid (M.get 0 rfl) (M.ne0 0 rfl)) ?_
  intro u4 M
  replace M : Mem ⟨w, [g]⟩ [⟨g, .cells (av 16 (w32 (rn4 v))) 44⟩] u4 := M
  refine pl_nil ?_
  refine au_then ?_
  refine wp_seq ?_
  refine rg_lit ?_
  refine pl_val (want_no rfl) (some 10) rfl (.pointer (some ⟨g, 0, none⟩)) (fun _ => by kernel_rfl) ?_
  refine pl_callp M (want_no rfl) (some 11) rfl 63 #[.pointer (some ⟨g, 0, none⟩), .int .i64 0, .int .i64 5, .int .i64 10, .int .i64 15] (.tuple #[]) 0 g (.cells (av 16 (w32 (rn4 v))) 44) (.cells (av 16 (w32 (rn5 v))) 44) rfl (fun _ => by kernel_rfl) (fun w M => c_mix (rn4 v) 0 5 10 15 (by decide) (by decide) (by decide) (by decide) g w M.laid (M.get 0 rfl) (M.ne0 0 rfl)) ?_
  intro u5 M
  replace M : Mem ⟨w, [g]⟩ [⟨g, .cells (av 16 (w32 (rn5 v))) 44⟩] u5 := M
  refine pl_nil ?_
  refine au_then ?_
  refine wp_seq ?_
  refine rg_lit ?_
  refine pl_val (want_no rfl) (some 12) rfl (.pointer (some ⟨g, 0, none⟩)) (fun _ => by kernel_rfl) ?_
  refine pl_callp M (want_no rfl) (some 13) rfl 63 #[.pointer (some ⟨g, 0, none⟩), .int .i64 1, .int .i64 6, .int .i64 11, .int .i64 12] (.tuple #[]) 0 g (.cells (av 16 (w32 (rn5 v))) 44) (.cells (av 16 (w32 (rn6 v))) 44) rfl (fun _ => by kernel_rfl) (fun w M => c_mix (rn5 v) 1 6 11 12 (by decide) (by decide) (by decide) (by decide) g w M.laid (M.get 0 rfl) (M.ne0 0 rfl)) ?_
  intro u6 M
  replace M : Mem ⟨w, [g]⟩ [⟨g, .cells (av 16 (w32 (rn6 v))) 44⟩] u6 := M
  refine pl_nil ?_
  refine au_then ?_
  refine wp_seq ?_
  refine rg_lit ?_
  refine pl_val (want_no rfl) (some 14) rfl (.pointer (some ⟨g, 0, none⟩)) (fun _ => by kernel_rfl) ?_
  refine pl_callp M (want_no rfl) (some 15) rfl 63 #[.pointer (some ⟨g, 0, none⟩), .int .i64 2, .int .i64 7, .int .i64 8, .int .i64 13] (.tuple #[]) 0 g (.cells (av 16 (w32 (rn6 v))) 44) (.cells (av 16 (w32 (rn7 v))) 44) rfl (fun _ => by kernel_rfl) (fun w M => c_mix (rn6 v) 2 7 8 13 (by decide) (by decide) (by decide) (by decide) g w M.laid (M.get 0 rfl) (M.ne0 0 rfl)) ?_
  intro u7 M
  replace M : Mem ⟨w, [g]⟩ [⟨g, .cells (av 16 (w32 (rn7 v))) 44⟩] u7 := M
  refine pl_nil ?_
  refine au_then ?_
  refine rg_lit ?_
  refine pl_val (want_no rfl) (some 16) rfl (.pointer (some ⟨g, 0, none⟩)) (fun _ => by kernel_rfl) ?_
  refine pl_callp M (want_no rfl) (some 17) rfl 63 #[.pointer (some ⟨g, 0, none⟩), .int .i64 3, .int .i64 4, .int .i64 9, .int .i64 14] (.tuple #[]) 0 g (.cells (av 16 (w32 (rn7 v))) 44) (.cells (av 16 (w32 (rn8 v))) 44) rfl (fun _ => by kernel_rfl) (fun w M => c_mix (rn7 v) 3 4 9 14 (by decide) (by decide) (by decide) (by decide) g w M.laid (M.get 0 rfl) (M.ne0 0 rfl)) ?_
  intro u8 M
  replace M : Mem ⟨w, [g]⟩ [⟨g, .cells (av 16 (w32 (rn8 v))) 44⟩] u8 := M
  refine pl_nil ?_
  exact bodyPost_end (v := .tuple #[]) (results_none Tryd.results56 _ _) (by kernel_rfl) ⟨rfl, M.old, M.get 0 rfl⟩

/-- Bytes laid into words, the lowest first. -/
def pw (v : Nat → Int) (p : Nat) (b : Nat → Int) : Nat → (Nat → Int)
  | 0 => v
  | j + 1 => upd (pw v p b j) (p + j / 4) (vo (pw v p b j (p + j / 4)) (vl (cv .u32 (b j)) (j % 4 * 8)))

set_option maxRecDepth 100000 in
set_option maxHeartbeats 4000000 in
theorem c_put (v : Nat → Int) (p : Nat) (s : ByteArray) (hp : p + (s.size + 3) / 4 ≤ 16) (g : Nat) (w : World) (hL : Laid w) (hg : w.heap[g]? = some (.cells (av 16 (w32 v)) 44)) (h0 : g ≠ 1) :
    Calls Tryd.prog 36 #[.pointer (some ⟨g, 0, none⟩), .int .i64 (p : Int), .string s] w fun r w' => r = .returned (.tuple #[]) ∧ Grw w w' [g] ∧ w'.heap[g]? = some (.cells (av 16 (w32 (pw v p (bt s) s.size))) 44) := by
  go_enter Tryd.func36, Tryd.ntmps36
  have M := Mem.startp hL hg h0
  refine wp_seq ?_
  refine rg_lit ?_
  refine pl_val (want_no rfl) (some 7) rfl (.string s) (fun _ => by kernel_rfl) ?_
  refine pl_val (want_no rfl) (some 8) rfl (.int .i64 (s.size : Int)) (fun _ => by kernel_rfl) ?_
  refine pl_val (want_no rfl) (some 9) rfl (.int .i64 0) (fun _ => by kernel_rfl) ?_
  refine pl_nil ?_
  refine au_then ?_
  refine wp_block ?_
  refine au_loop (fun j a w' => ∃ v1 : Nat → Value, a = ⟨#[.pointer (some ⟨g, 0, none⟩), .int .i64 (p : Int), .string s, undef, undef, undef, v1 6, .string s, .int .i64 (s.size : Int), .int .i64 (j : Int), v1 10, v1 11, v1 12, v1 13, v1 14, v1 15, v1 16, v1 17, v1 18, v1 19, v1 20, v1 21, v1 22, v1 23, v1 24, v1 25, v1 26, v1 27, v1 28, v1 29, v1 30, v1 31], []⟩ ∧ Mem ⟨w, [g]⟩ [⟨g, .cells (av 16 (w32 (pw v p (bt s) j))) 44⟩] w') s.size ⟨fun k_ => ([undef, undef, undef, undef, undef, undef, undef, undef, undef, undef, undef, undef, undef, undef, undef, undef, undef, undef, undef, undef, undef, undef, undef, undef, undef, undef] : List Value).getD (k_ - 6) undef, by kernel_rfl, M⟩ ?_ ?_
  · intro j a u0 hj hI
    obtain ⟨v1, rfl, M⟩ := hI
    refine wp_seq ?_
    refine rg_lit ?_
    refine pl_val (want_no rfl) (some 10) rfl (.bool true) (fun w => Eq.trans (b := .ok (.value (.bool (decide ((j : Int) < (s.size : Int))))) w) (by kernel_rfl) (by rw [decide_eq_true (by omega)])) ?_
    refine pl_nil ?_
    refine au_then ?_
    refine wp_seq ?_
    refine wp_cond_true (by kernel_rfl) ?_
    refine wp_skip ?_
    refine au_then ?_
    refine wp_seq ?_
    refine wp_block ?_
    refine wp_seq ?_
    refine rg_lit ?_
    refine pl_val (want_no rfl) (some 11) rfl (.int .i64 (j : Int)) (fun _ => by kernel_rfl) ?_
    refine pl_val (want_no rfl) (some 6) rfl (.int .i64 (j : Int)) (fun _ => by kernel_rfl) ?_
    refine pl_nil ?_
    refine au_then ?_
    refine rg_tail M 19 (by kernel_rfl) (by kernel_rfl) ?_
    simp only [List.take_succ_cons, List.take_zero]
    refine k_val (want_no rfl) (some 12) rfl (.pointer (some ⟨g, 0, none⟩)) (fun _ => by kernel_rfl) ?_
    refine k_val (want_no rfl) (some 13) rfl (.int .i64 (p : Int)) (fun _ => by kernel_rfl) ?_
    refine k_val (want_no rfl) (some 14) rfl (.int .i64 (j : Int)) (fun _ => by kernel_rfl) ?_
    refine k_val (want_no rfl) (some 15) rfl (.int .i64 ((j / 4 : Nat) : Int)) (fun w => Eq.trans (b := .ok (.value (.int .i64 (IntKind.wrap .i64 ((j : Int).tdiv 4)))) w) (by kernel_rfl) (by rw [quo4 j (by omega)])) ?_
    refine k_val (want_no rfl) (some 16) rfl (.int .i64 ((p + j / 4 : Nat) : Int)) (fun w => Eq.trans (b := .ok (.value (.int .i64 (IntKind.wrap .i64 ((p : Int) + ((j / 4 : Nat) : Int))))) w) (by kernel_rfl) (by rw [wrap64 (by omega) (by omega)]; congr 3 <;> omega)) ?_
    refine k_val (want_no rfl) (some 17) rfl (.pointer (some ⟨g, 0, none⟩)) (fun _ => by kernel_rfl) ?_
    refine k_val (want_no rfl) (some 18) rfl (.pointer (some ⟨g, ((p + j / 4 : Nat)), none⟩)) (run_ix1 44 16 37 Tryd.underlying44 inz37 _ _ rfl g (by kernel_rfl) .i64 ((p + j / 4 : Nat)) (by kernel_rfl) (by omega)) ?_
    refine k_cell M (want_no rfl) (some 19) rfl 37 _ rfl g ((p + j / 4 : Nat)) (by kernel_rfl) (.int .u32 ((pw v p (bt s) j) ((p + j / 4 : Nat)))) (fun _ => by kernel_rfl) (fun w M => M.cell 0 rfl (by omega) rfl) ?_
    refine k_val (want_no rfl) (some 20) rfl (.string s) (fun _ => by kernel_rfl) ?_
    refine k_val (want_no rfl) (some 21) rfl (.int .i64 (j : Int)) (fun _ => by kernel_rfl) ?_
    refine k_val (want_no rfl) (some 22) rfl (.int .u8 (bt s j)) (run_ixS 9 Tryd.underlying9 _ _ rfl s (by kernel_rfl) .i64 j (by kernel_rfl) hj) ?_
    refine k_val (want_no rfl) (some 23) rfl (.int .u32 (cv .u32 (bt s j))) (fun _ => by kernel_rfl) ?_
    refine k_val (want_no rfl) (some 24) rfl (.int .i64 (j : Int)) (fun _ => by kernel_rfl) ?_
    refine k_val (want_no rfl) (some 25) rfl (.int .i64 ((j % 4 : Nat) : Int)) (fun w => Eq.trans (b := .ok (.value (.int .i64 (Int.tmod (j : Int) 4))) w) (by kernel_rfl) (by rw [rem4 j])) ?_
    refine k_val (want_no rfl) (some 26) rfl (.int .i64 ((j % 4 * 8 : Nat) : Int)) (fun w => Eq.trans (b := .ok (.value (.int .i64 (IntKind.wrap .i64 (((j % 4 : Nat) : Int) * 8)))) w) (by kernel_rfl) (by rw [wrap64 (by omega) (by omega)]; congr 3 <;> omega)) ?_
    refine k_val (want_no rfl) (some 27) rfl (.int .u32 (vl (cv .u32 (bt s j)) (j % 4 * 8))) (run_shlV 37 3 _ _ rfl _ .i64 (j % 4 * 8) (by kernel_rfl) (by kernel_rfl) (by omega)) ?_
    refine k_val (want_no rfl) (some 28) rfl (.int .u32 (vo ((pw v p (bt s) j) ((p + j / 4 : Nat))) (vl (cv .u32 (bt s j)) (j % 4 * 8)))) (fun _ => by kernel_rfl) ?_
    refine k_val (want_no rfl) (some 29) rfl (.pointer (some ⟨g, 0, none⟩)) (fun _ => by kernel_rfl) ?_
    refine k_val (want_no rfl) (some 30) rfl (.pointer (some ⟨g, ((p + j / 4 : Nat)), none⟩)) (run_ix1 44 16 37 Tryd.underlying44 inz37 _ _ rfl g (by kernel_rfl) .i64 ((p + j / 4 : Nat)) (by kernel_rfl) (by omega)) ?_
    refine kl_nil ?_
    intro u1 M
    replace M : Mem ⟨w, [g]⟩ [⟨g, .cells (av 16 (w32 (pw v p (bt s) j))) 44⟩] u1 := M
    refine pl_put1 M (want_no rfl) rfl 37 _ _ rfl 0 g ((p + j / 4 : Nat)) (by kernel_rfl) 16 44 (w32 (pw v p (bt s) j)) rfl (.int .u32 (vo ((pw v p (bt s) j) ((p + j / 4 : Nat))) (vl (cv .u32 (bt s j)) (j % 4 * 8)))) (w32 (upd (pw v p (bt s) j) ((p + j / 4 : Nat)) (vo ((pw v p (bt s) j) ((p + j / 4 : Nat))) (vl (cv .u32 (bt s j)) (j % 4 * 8))))) (by kernel_rfl) inz37 (by omega) rfl rfl (fun j _ => put_w32 _ _ _ j) ?_
    intro u2 M
    replace M : Mem ⟨w, [g]⟩ [⟨g, .cells (av 16 (w32 (upd (pw v p (bt s) j) ((p + j / 4 : Nat)) (vo ((pw v p (bt s) j) ((p + j / 4 : Nat))) (vl (cv .u32 (bt s j)) (j % 4 * 8)))))) 44⟩] u2 := M
    refine pl_nil ?_
    refine au_block ?_
    refine au_then ?_
    refine rg_lit ?_
    refine pl_val (want_no rfl) (some 31) rfl (.int .i64 ((j + 1 : Nat) : Int)) (fun w => Eq.trans (b := .ok (.value (.int .i64 (IntKind.wrap .i64 ((j : Int) + 1)))) w) (by kernel_rfl) (by rw [wrap64 (by omega) (by omega)]; congr 3)) ?_
    refine pl_val (want_no rfl) (some 9) rfl (.int .i64 ((j + 1 : Nat) : Int)) (fun _ => by kernel_rfl) ?_
    refine pl_nil ?_
    refine au_then ?_
    exact ⟨fun k_ => ([.int .i64 (j : Int), undef, undef, undef, .bool true, .int .i64 (j : Int), .pointer (some ⟨g, 0, none⟩), .int .i64 (p : Int), .int .i64 (j : Int), .int .i64 ((j / 4 : Nat) : Int), .int .i64 ((p + j / 4 : Nat) : Int), .pointer (some ⟨g, 0, none⟩), .pointer (some ⟨g, ((p + j / 4 : Nat)), none⟩), .int .u32 ((pw v p (bt s) j) ((p + j / 4 : Nat))), .string s, .int .i64 (j : Int), .int .u8 (bt s j), .int .u32 (cv .u32 (bt s j)), .int .i64 (j : Int), .int .i64 ((j % 4 : Nat) : Int), .int .i64 ((j % 4 * 8 : Nat) : Int), .int .u32 (vl (cv .u32 (bt s j)) (j % 4 * 8)), .int .u32 (vo ((pw v p (bt s) j) ((p + j / 4 : Nat))) (vl (cv .u32 (bt s j)) (j % 4 * 8))), .pointer (some ⟨g, 0, none⟩), .pointer (some ⟨g, ((p + j / 4 : Nat)), none⟩), .int .i64 ((j + 1 : Nat) : Int)] : List Value).getD (k_ - 6) undef, by kernel_rfl, M⟩
  · intro a u0 hI
    obtain ⟨v1, rfl, M⟩ := hI
    refine wp_seq ?_
    refine rg_lit ?_
    refine pl_val (want_no rfl) (some 10) rfl (.bool false) (fun w => Eq.trans (b := .ok (.value (.bool (decide ((s.size : Int) < (s.size : Int))))) w) (by kernel_rfl) (by rw [decide_eq_false (by omega)])) ?_
    refine pl_nil ?_
    refine au_then ?_
    refine wp_seq ?_
    refine wp_cond_false (by kernel_rfl) ?_
    refine wp_exit ?_
    refine au_then_exit ?_
    refine au_then_exit ?_
    refine au_block_exit ?_
    exact bodyPost_end (v := .tuple #[]) (results_none Tryd.results36 _ _) (by kernel_rfl) ⟨rfl, M.old, M.get 0 rfl⟩

def strK : ByteArray := ⟨#[101, 120, 112, 97, 110, 100, 32, 51, 50, 45, 98, 121, 116, 101, 32, 107]⟩
def f1 : Nat → Int := pw (fun _ => 0) 0 (bt strK) 16
def f2 (key : ByteArray) : Nat → Int := pw f1 4 (bt key) key.size
/-- The first words of a block. -/
def fw (key nonce : ByteArray) (n : Int) : Nat → Int := pw (upd (f2 key) 12 n) 13 (bt nonce) nonce.size

set_option maxRecDepth 100000 in
set_option maxHeartbeats 4000000 in
theorem c_first (key nonce : ByteArray) (n : Int) (hk : key.size = 32) (hn : nonce.size = 12) (w : World) (hL : Laid w)  :
    Calls Tryd.prog 25 #[.string key, .string nonce, .int .u32 n] w fun r w' => r = .returned (.agg (av 16 (w32 (fw key nonce n)))) ∧ Below w.heap.size w w' := by
  go_enter Tryd.func25, Tryd.ntmps25
  have M := Mem.start hL
  refine wp_seq ?_
  refine rg_lit ?_
  refine pl_new M (want_no rfl) (some 6) rfl (.cells (av 16 (w32 (fun _ => 0))) 44) (fun _ => by kernel_rfl) ?_
  intro g1 u1 M
  replace M : Mem ⟨w, []⟩ [⟨g1, .cells (av 16 (w32 (fun _ => 0))) 44⟩] u1 := M
  refine pl_nil ?_
  refine au_then ?_
  refine wp_seq ?_
  refine rg_lit ?_
  refine pl_new M (want_no rfl) (some 7) rfl (.cells (av 16 (w32 (fun _ => 0))) 44) (fun _ => by kernel_rfl) ?_
  intro g2 u2 M
  replace M : Mem ⟨w, []⟩ [⟨g1, .cells (av 16 (w32 (fun _ => 0))) 44⟩, ⟨g2, .cells (av 16 (w32 (fun _ => 0))) 44⟩] u2 := M
  refine pl_nil ?_
  refine au_then ?_
  refine wp_seq ?_
  refine rg_lit ?_
  refine pl_callp M (want_no rfl) (some 8) rfl 36 #[.pointer (some ⟨g2, 0, none⟩), .int .i64 0, .string ⟨#[101, 120, 112, 97, 110, 100, 32, 51, 50, 45, 98, 121, 116, 101, 32, 107]⟩] (.tuple #[]) 1 g2 (.cells (av 16 (w32 (fun _ => 0))) 44) (.cells (av 16 (w32 f1)) 44) rfl (fun _ => by kernel_rfl) (fun w M => c_put (fun _ => 0) 0 strK (by decide) g2 w M.laid (M.get 1 rfl) (M.ne0 1 rfl)) ?_
  intro u3 M
  replace M : Mem ⟨w, []⟩ [⟨g1, .cells (av 16 (w32 (fun _ => 0))) 44⟩, ⟨g2, .cells (av 16 (w32 f1)) 44⟩] u3 := M
  refine pl_nil ?_
  refine au_then ?_
  refine wp_seq ?_
  refine rg_lit ?_
  refine pl_val (want_no rfl) (some 9) rfl (.string key) (fun _ => by kernel_rfl) ?_
  refine pl_callp M (want_no rfl) (some 10) rfl 36 #[.pointer (some ⟨g2, 0, none⟩), .int .i64 4, .string key] (.tuple #[]) 1 g2 (.cells (av 16 (w32 f1)) 44) (.cells (av 16 (w32 (f2 key))) 44) rfl (fun _ => by kernel_rfl) (fun w M => c_put f1 4 key (by omega) g2 w M.laid (M.get 1 rfl) (M.ne0 1 rfl)) ?_
  intro u4 M
  replace M : Mem ⟨w, []⟩ [⟨g1, .cells (av 16 (w32 (fun _ => 0))) 44⟩, ⟨g2, .cells (av 16 (w32 (f2 key))) 44⟩] u4 := M
  refine pl_nil ?_
  refine au_then ?_
  refine wp_seq ?_
  refine rg_lit ?_
  refine pl_val (want_no rfl) (some 11) rfl (.int .u32 n) (fun _ => by kernel_rfl) ?_
  refine pl_val (want_no rfl) (some 12) rfl (.pointer (some ⟨g2, 12, none⟩)) (fun _ => by kernel_rfl) ?_
  refine pl_put1 M (want_no rfl) rfl 37 _ _ rfl 1 g2 12 (by kernel_rfl) 16 44 (w32 (f2 key)) rfl (.int .u32 n) (w32 (upd (f2 key) 12 n)) (by kernel_rfl) inz37 (by decide) rfl rfl (fun j _ => put_w32 _ _ _ j) ?_
  intro u5 M
  replace M : Mem ⟨w, []⟩ [⟨g1, .cells (av 16 (w32 (fun _ => 0))) 44⟩, ⟨g2, .cells (av 16 (w32 (upd (f2 key) 12 n))) 44⟩] u5 := M
  refine pl_nil ?_
  refine au_then ?_
  refine wp_seq ?_
  refine rg_lit ?_
  refine pl_val (want_no rfl) (some 13) rfl (.string nonce) (fun _ => by kernel_rfl) ?_
  refine pl_callp M (want_no rfl) (some 14) rfl 36 #[.pointer (some ⟨g2, 0, none⟩), .int .i64 13, .string nonce] (.tuple #[]) 1 g2 (.cells (av 16 (w32 (upd (f2 key) 12 n))) 44) (.cells (av 16 (w32 (fw key nonce n))) 44) rfl (fun _ => by kernel_rfl) (fun w M => c_put (upd (f2 key) 12 n) 13 nonce (by omega) g2 w M.laid (M.get 1 rfl) (M.ne0 1 rfl)) ?_
  intro u6 M
  replace M : Mem ⟨w, []⟩ [⟨g1, .cells (av 16 (w32 (fun _ => 0))) 44⟩, ⟨g2, .cells (av 16 (w32 (fw key nonce n))) 44⟩] u6 := M
  refine pl_nil ?_
  refine au_then ?_
  refine wp_seq ?_
  refine rg_lit ?_
  refine pl_load M (want_no rfl) (some 15) rfl 44 _ rfl 1 g2 0 (by kernel_rfl) 16 44 (w32 (fw key nonce n)) rfl 16 (w32 (fw key nonce n)) (fun j _ => by rw [Nat.zero_add]) (by decide) _ Tryd.underlying44 rfl inz44 ?_
  refine pl_put M (want_no rfl) rfl 44 _ _ rfl 0 g1 0 (by kernel_rfl) 16 44 (w32 (fun _ => 0)) rfl 16 (w32 (fw key nonce n)) (w32 (fw key nonce n)) (by kernel_rfl) inz44 (by decide) (fun _ _ => rfl) (fun j hj => by rw [if_pos (by omega), Nat.sub_zero]) ?_
  intro u7 M
  replace M : Mem ⟨w, []⟩ [⟨g1, .cells (av 16 (w32 (fw key nonce n))) 44⟩, ⟨g2, .cells (av 16 (w32 (fw key nonce n))) 44⟩] u7 := M
  refine pl_nil ?_
  refine au_then ?_
  refine wp_ret ?_
  exact bodyPost_ret (v := .agg (av 16 (w32 (fw key nonce n)))) (results_cell_row Tryd.results25 _ _ g1 44 (av 16 (w32 (fw key nonce n))) (0, 0) _ (by kernel_rfl) (M.get 0 rfl) Tryd.underlying44 rfl (by rw [av_size]; exact inz44)) (by kernel_rfl) ⟨rfl, below_grown M.old⟩

/-- The bytes of a block, up to a place. -/
def bk (f v : Nat → Int) : Nat → (Nat → Int)
  | 0 => fun _ => 0
  | j + 1 => upd (bk f v j) j (cv .u8 (sr (va (v (j / 4)) (f (j / 4))) (j % 4 * 8)))
/-- A byte of a block. -/
def bl (f : Nat → Int) (i : Nat) : Int := cv .u8 (sr (va (rd f 10 (i / 4)) (f (i / 4))) (i % 4 * 8))
theorem bk_at (f v : Nat → Int) : ∀ n, ∀ i, i < n → bk f v n i = cv .u8 (sr (va (v (i / 4)) (f (i / 4))) (i % 4 * 8))
  | 0, i, h => absurd h (by omega)
  | n + 1, i, h => by
    unfold bk upd
    by_cases e : i = n
    · rw [if_pos e, e]
    · rw [if_neg e, bk_at f v n i (by omega)]
theorem bk_av (f : Nat → Int) : av 64 (w8 (bk f (rd f 10) 64)) = av 64 (w8 (bl f)) := av_congr fun i hi => by
  unfold w8 bl
  rw [bk_at _ _ 64 i hi]

set_option maxRecDepth 100000 in
set_option maxHeartbeats 4000000 in
theorem c_block (f : Nat → Int) (w : World) (hL : Laid w)  :
    Calls Tryd.prog 37 #[.agg (av 16 (w32 f))] w fun r w' => r = .returned (.agg (av 64 (w8 (bl f)))) ∧ Below w.heap.size w w' := by
  go_enter Tryd.func37, Tryd.ntmps37
  have M := Mem.start hL
  refine wp_seq ?_
  refine rg_lit ?_
  refine pl_new M (want_no rfl) (some 1) rfl (.cells (av 16 (w32 f)) 44) (fun _ => by kernel_rfl) ?_
  intro g1 u1 M
  replace M : Mem ⟨w, []⟩ [⟨g1, .cells (av 16 (w32 f)) 44⟩] u1 := M
  refine pl_new M (want_no rfl) (some 2) rfl (.cells (av 64 (w8 (fun _ => 0))) 61) (fun _ => by kernel_rfl) ?_
  intro g2 u2 M
  replace M : Mem ⟨w, []⟩ [⟨g1, .cells (av 16 (w32 f)) 44⟩, ⟨g2, .cells (av 64 (w8 (fun _ => 0))) 61⟩] u2 := M
  refine pl_nil ?_
  refine au_then ?_
  refine wp_seq ?_
  refine rg_lit ?_
  refine pl_load M (want_no rfl) (some 6) rfl 44 _ rfl 0 g1 0 (by kernel_rfl) 16 44 (w32 f) rfl 16 (w32 f) (fun j _ => by rw [Nat.zero_add]) (by decide) _ Tryd.underlying44 rfl inz44 ?_
  refine pl_new M (want_no rfl) (some 3) rfl (.cells (av 16 (w32 (fun _ => 0))) 44) (fun _ => by kernel_rfl) ?_
  intro g3 u3 M
  replace M : Mem ⟨w, []⟩ [⟨g1, .cells (av 16 (w32 f)) 44⟩, ⟨g2, .cells (av 64 (w8 (fun _ => 0))) 61⟩, ⟨g3, .cells (av 16 (w32 (fun _ => 0))) 44⟩] u3 := M
  refine pl_put M (want_no rfl) rfl 44 _ _ rfl 2 g3 0 (by kernel_rfl) 16 44 (w32 (fun _ => 0)) rfl 16 (w32 f) (w32 f) (by kernel_rfl) inz44 (by decide) (fun _ _ => rfl) (fun j hj => by rw [if_pos (by omega), Nat.sub_zero]) ?_
  intro u4 M
  replace M : Mem ⟨w, []⟩ [⟨g1, .cells (av 16 (w32 f)) 44⟩, ⟨g2, .cells (av 64 (w8 (fun _ => 0))) 61⟩, ⟨g3, .cells (av 16 (w32 f)) 44⟩] u4 := M
  refine pl_nil ?_
  refine au_then ?_
  refine wp_seq ?_
  refine wp_seq ?_
  refine rg_lit ?_
  refine pl_val (want_no rfl) (some 7) rfl (.int .i64 0) (fun _ => by kernel_rfl) ?_
  refine pl_nil ?_
  refine au_then ?_
  refine wp_block ?_
  refine au_loop (fun j a w' => ∃ v1 : Nat → Value, a = ⟨#[.agg (av 16 (w32 f)), .pointer (some ⟨g1, 0, none⟩), .pointer (some ⟨g2, 0, none⟩), .pointer (some ⟨g3, 0, none⟩), undef, undef, .agg (av 16 (w32 f)), .int .i64 (j : Int), v1 8, v1 9, v1 10, undef, undef, undef, undef, undef, undef, undef, undef, undef, undef, undef, undef, undef, undef, undef, undef, undef, undef, undef, undef, undef], []⟩ ∧ Mem ⟨w, []⟩ [⟨g1, .cells (av 16 (w32 f)) 44⟩, ⟨g2, .cells (av 64 (w8 (fun _ => 0))) 61⟩, ⟨g3, .cells (av 16 (w32 (rd f j))) 44⟩] w') 10 ⟨fun k_ => ([undef, undef, undef] : List Value).getD (k_ - 8) undef, by kernel_rfl, M⟩ ?_ ?_
  · intro j a u0 hj hI
    obtain ⟨v1, rfl, M⟩ := hI
    refine wp_seq ?_
    refine rg_lit ?_
    refine pl_val (want_no rfl) (some 8) rfl (.bool true) (fun w => Eq.trans (b := .ok (.value (.bool (decide ((j : Int) < 10)))) w) (by kernel_rfl) (by rw [decide_eq_true (by omega)])) ?_
    refine pl_nil ?_
    refine au_then ?_
    refine wp_seq ?_
    refine wp_cond_true (by kernel_rfl) ?_
    refine wp_skip ?_
    refine au_then ?_
    refine wp_seq ?_
    refine wp_block ?_
    refine rg_lit ?_
    refine pl_callp M (want_no rfl) (some 9) rfl 56 #[.pointer (some ⟨g3, 0, none⟩)] (.tuple #[]) 2 g3 (.cells (av 16 (w32 (rd f j))) 44) (.cells (av 16 (w32 (rd f (j + 1)))) 44) rfl (fun _ => by kernel_rfl) (fun w M => c_round (rd f j) g3 w M.laid (M.get 2 rfl) (M.ne0 2 rfl)) ?_
    intro u5 M
    replace M : Mem ⟨w, []⟩ [⟨g1, .cells (av 16 (w32 f)) 44⟩, ⟨g2, .cells (av 64 (w8 (fun _ => 0))) 61⟩, ⟨g3, .cells (av 16 (w32 (rd f (j + 1)))) 44⟩] u5 := M
    refine pl_nil ?_
    refine au_block ?_
    refine au_then ?_
    refine rg_lit ?_
    refine pl_val (want_no rfl) (some 10) rfl (.int .i64 ((j + 1 : Nat) : Int)) (fun w => Eq.trans (b := .ok (.value (.int .i64 (IntKind.wrap .i64 ((j : Int) + 1)))) w) (by kernel_rfl) (by rw [wrap64 (by omega) (by omega)]; congr 3)) ?_
    refine pl_val (want_no rfl) (some 7) rfl (.int .i64 ((j + 1 : Nat) : Int)) (fun _ => by kernel_rfl) ?_
    refine pl_nil ?_
    refine au_then ?_
    exact ⟨fun k_ => ([.bool true, .tuple #[], .int .i64 ((j + 1 : Nat) : Int)] : List Value).getD (k_ - 8) undef, by kernel_rfl, M⟩
  · intro a u0 hI
    obtain ⟨v1, rfl, M⟩ := hI
    refine wp_seq ?_
    refine rg_lit ?_
    refine pl_val (want_no rfl) (some 8) rfl (.bool false) (fun w => Eq.trans (b := .ok (.value (.bool (decide (10 < 10)))) w) (by kernel_rfl) (by rw [decide_eq_false (by omega)])) ?_
    refine pl_nil ?_
    refine au_then ?_
    refine wp_seq ?_
    refine wp_cond_false (by kernel_rfl) ?_
    refine wp_exit ?_
    refine au_then_exit ?_
    refine au_then_exit ?_
    refine au_block_exit ?_
    refine au_then ?_
    refine wp_seq ?_
    refine rg_lit ?_
    refine pl_new M (want_no rfl) (some 4) rfl (.cells (av 64 (w8 (fun _ => 0))) 61) (fun _ => by kernel_rfl) ?_
    intro g4 u6 M
    replace M : Mem ⟨w, []⟩ [⟨g1, .cells (av 16 (w32 f)) 44⟩, ⟨g2, .cells (av 64 (w8 (fun _ => 0))) 61⟩, ⟨g3, .cells (av 16 (w32 (rd f 10))) 44⟩, ⟨g4, .cells (av 64 (w8 (fun _ => 0))) 61⟩] u6 := M
    refine pl_nil ?_
    refine au_then ?_
    refine wp_seq ?_
    refine wp_seq ?_
    refine rg_lit ?_
    refine pl_val (want_no rfl) (some 11) rfl (.int .i64 0) (fun _ => by kernel_rfl) ?_
    refine pl_nil ?_
    refine au_then ?_
    refine wp_block ?_
    refine au_loop (fun j a w' => ∃ v2 : Nat → Value, a = ⟨#[.agg (av 16 (w32 f)), .pointer (some ⟨g1, 0, none⟩), .pointer (some ⟨g2, 0, none⟩), .pointer (some ⟨g3, 0, none⟩), .pointer (some ⟨g4, 0, none⟩), v2 5, .agg (av 16 (w32 f)), .int .i64 (10 : Int), .bool false, v1 9, v1 10, .int .i64 (j : Int), v2 12, v2 13, v2 14, v2 15, v2 16, v2 17, v2 18, v2 19, v2 20, v2 21, v2 22, v2 23, v2 24, v2 25, v2 26, v2 27, v2 28, v2 29, v2 30, undef], []⟩ ∧ Mem ⟨w, []⟩ [⟨g1, .cells (av 16 (w32 f)) 44⟩, ⟨g2, .cells (av 64 (w8 (fun _ => 0))) 61⟩, ⟨g3, .cells (av 16 (w32 (rd f 10))) 44⟩, ⟨g4, .cells (av 64 (w8 (bk f (rd f 10) j))) 61⟩] w') 64 ⟨fun k_ => ([undef, undef, undef, undef, undef, undef, undef, undef, undef, undef, undef, undef, undef, undef, undef, undef, undef, undef, undef, undef, undef, undef, undef, undef, undef, undef] : List Value).getD (k_ - 5) undef, by kernel_rfl, M⟩ ?_ ?_
    · intro j a u0 hj hI
      obtain ⟨v2, rfl, M⟩ := hI
      refine wp_seq ?_
      refine rg_lit ?_
      refine pl_val (want_no rfl) (some 12) rfl (.bool true) (fun w => Eq.trans (b := .ok (.value (.bool (decide ((j : Int) < 64)))) w) (by kernel_rfl) (by rw [decide_eq_true (by omega)])) ?_
      refine pl_nil ?_
      refine au_then ?_
      refine wp_seq ?_
      refine wp_cond_true (by kernel_rfl) ?_
      refine wp_skip ?_
      refine au_then ?_
      refine wp_seq ?_
      refine wp_block ?_
      refine wp_seq ?_
      refine rg_lit ?_
      refine pl_val (want_no rfl) (some 13) rfl (.int .i64 (j : Int)) (fun _ => by kernel_rfl) ?_
      refine pl_val (want_no rfl) (some 5) rfl (.int .i64 (j : Int)) (fun _ => by kernel_rfl) ?_
      refine pl_nil ?_
      refine au_then ?_
      refine rg_tail M 16 (by kernel_rfl) (by kernel_rfl) ?_
      simp only [List.take_succ_cons, List.take_zero]
      refine k_val (want_no rfl) (some 14) rfl (.int .i64 (j : Int)) (fun _ => by kernel_rfl) ?_
      refine k_val (want_no rfl) (some 15) rfl (.int .i64 (j : Int)) (fun _ => by kernel_rfl) ?_
      refine k_val (want_no rfl) (some 16) rfl (.int .i64 ((j / 4 : Nat) : Int)) (fun w => Eq.trans (b := .ok (.value (.int .i64 (IntKind.wrap .i64 ((j : Int).tdiv 4)))) w) (by kernel_rfl) (by rw [quo4 j (by omega)])) ?_
      refine k_val (want_no rfl) (some 17) rfl (.pointer (some ⟨g3, ((j / 4 : Nat)), none⟩)) (run_ix1 44 16 37 Tryd.underlying44 inz37 _ _ rfl g3 (by kernel_rfl) .i64 ((j / 4 : Nat)) (by kernel_rfl) (by omega)) ?_
      refine k_cell M (want_no rfl) (some 18) rfl 37 _ rfl g3 ((j / 4 : Nat)) (by kernel_rfl) (.int .u32 ((rd f 10) ((j / 4 : Nat)))) (fun _ => by kernel_rfl) (fun w M => M.cell 2 rfl (by omega) rfl) ?_
      refine k_val (want_no rfl) (some 19) rfl (.int .i64 (j : Int)) (fun _ => by kernel_rfl) ?_
      refine k_val (want_no rfl) (some 20) rfl (.int .i64 ((j / 4 : Nat) : Int)) (fun w => Eq.trans (b := .ok (.value (.int .i64 (IntKind.wrap .i64 ((j : Int).tdiv 4)))) w) (by kernel_rfl) (by rw [quo4 j (by omega)])) ?_
      refine k_val (want_no rfl) (some 21) rfl (.pointer (some ⟨g1, ((j / 4 : Nat)), none⟩)) (run_ix1 44 16 37 Tryd.underlying44 inz37 _ _ rfl g1 (by kernel_rfl) .i64 ((j / 4 : Nat)) (by kernel_rfl) (by omega)) ?_
      refine k_cell M (want_no rfl) (some 22) rfl 37 _ rfl g1 ((j / 4 : Nat)) (by kernel_rfl) (.int .u32 (f ((j / 4 : Nat)))) (fun _ => by kernel_rfl) (fun w M => M.cell 0 rfl (by omega) rfl) ?_
      refine k_val (want_no rfl) (some 23) rfl (.int .u32 (va ((rd f 10) ((j / 4 : Nat))) (f ((j / 4 : Nat))))) (fun _ => by kernel_rfl) ?_
      refine k_val (want_no rfl) (some 24) rfl (.int .i64 (j : Int)) (fun _ => by kernel_rfl) ?_
      refine k_val (want_no rfl) (some 25) rfl (.int .i64 ((j % 4 : Nat) : Int)) (fun w => Eq.trans (b := .ok (.value (.int .i64 (Int.tmod (j : Int) 4))) w) (by kernel_rfl) (by rw [rem4 j])) ?_
      refine k_val (want_no rfl) (some 26) rfl (.int .i64 ((j % 4 * 8 : Nat) : Int)) (fun w => Eq.trans (b := .ok (.value (.int .i64 (IntKind.wrap .i64 (((j % 4 : Nat) : Int) * 8)))) w) (by kernel_rfl) (by rw [wrap64 (by omega) (by omega)]; congr 3 <;> omega)) ?_
      refine k_val (want_no rfl) (some 27) rfl (.int .u32 (sr (va (rd f 10 (j / 4)) (f (j / 4))) (j % 4 * 8))) (run_shrV 37 3 _ _ rfl _ .i64 (j % 4 * 8) (by kernel_rfl) (by kernel_rfl) (by omega)) ?_
      refine k_val (want_no rfl) (some 28) rfl (.int .u8 (cv .u8 (sr (va (rd f 10 (j / 4)) (f (j / 4))) (j % 4 * 8)))) (fun _ => by kernel_rfl) ?_
      refine k_val (want_no rfl) (some 29) rfl (.pointer (some ⟨g4, j, none⟩)) (run_ix1 61 64 5 Tryd.underlying61 inz5 _ _ rfl g4 (by kernel_rfl) .i64 (j) (by kernel_rfl) (by omega)) ?_
      refine kl_nil ?_
      intro u7 M
      replace M : Mem ⟨w, []⟩ [⟨g1, .cells (av 16 (w32 f)) 44⟩, ⟨g2, .cells (av 64 (w8 (fun _ => 0))) 61⟩, ⟨g3, .cells (av 16 (w32 (rd f 10))) 44⟩, ⟨g4, .cells (av 64 (w8 (bk f (rd f 10) j))) 61⟩] u7 := M
      refine pl_put1 M (want_no rfl) rfl 5 _ _ rfl 3 g4 j (by kernel_rfl) 64 61 (w8 (bk f (rd f 10) j)) rfl (.int .u8 (cv .u8 (sr (va (rd f 10 (j / 4)) (f (j / 4))) (j % 4 * 8)))) (w8 (upd (bk f (rd f 10) j) j (cv .u8 (sr (va (rd f 10 (j / 4)) (f (j / 4))) (j % 4 * 8))))) (by kernel_rfl) inz5 (by omega) rfl rfl (fun j _ => put_w8 _ _ _ j) ?_
      intro u8 M
      replace M : Mem ⟨w, []⟩ [⟨g1, .cells (av 16 (w32 f)) 44⟩, ⟨g2, .cells (av 64 (w8 (fun _ => 0))) 61⟩, ⟨g3, .cells (av 16 (w32 (rd f 10))) 44⟩, ⟨g4, .cells (av 64 (w8 (upd (bk f (rd f 10) j) j (cv .u8 (sr (va (rd f 10 (j / 4)) (f (j / 4))) (j % 4 * 8)))))) 61⟩] u8 := M
      refine pl_nil ?_
      refine au_block ?_
      refine au_then ?_
      refine rg_lit ?_
      refine pl_val (want_no rfl) (some 30) rfl (.int .i64 ((j + 1 : Nat) : Int)) (fun w => Eq.trans (b := .ok (.value (.int .i64 (IntKind.wrap .i64 ((j : Int) + 1)))) w) (by kernel_rfl) (by rw [wrap64 (by omega) (by omega)]; congr 3)) ?_
      refine pl_val (want_no rfl) (some 11) rfl (.int .i64 ((j + 1 : Nat) : Int)) (fun _ => by kernel_rfl) ?_
      refine pl_nil ?_
      refine au_then ?_
      exact ⟨fun k_ => ([.int .i64 (j : Int), undef, undef, undef, undef, undef, undef, .bool true, .int .i64 (j : Int), .int .i64 (j : Int), .int .i64 (j : Int), .int .i64 ((j / 4 : Nat) : Int), .pointer (some ⟨g3, ((j / 4 : Nat)), none⟩), .int .u32 ((rd f 10) ((j / 4 : Nat))), .int .i64 (j : Int), .int .i64 ((j / 4 : Nat) : Int), .pointer (some ⟨g1, ((j / 4 : Nat)), none⟩), .int .u32 (f ((j / 4 : Nat))), .int .u32 (va ((rd f 10) ((j / 4 : Nat))) (f ((j / 4 : Nat)))), .int .i64 (j : Int), .int .i64 ((j % 4 : Nat) : Int), .int .i64 ((j % 4 * 8 : Nat) : Int), .int .u32 (sr (va (rd f 10 (j / 4)) (f (j / 4))) (j % 4 * 8)), .int .u8 (cv .u8 (sr (va (rd f 10 (j / 4)) (f (j / 4))) (j % 4 * 8))), .pointer (some ⟨g4, j, none⟩), .int .i64 ((j + 1 : Nat) : Int)] : List Value).getD (k_ - 5) undef, by kernel_rfl, M⟩
    · intro a u0 hI
      obtain ⟨v2, rfl, M⟩ := hI
      refine wp_seq ?_
      refine rg_lit ?_
      refine pl_val (want_no rfl) (some 12) rfl (.bool false) (fun w => Eq.trans (b := .ok (.value (.bool (decide (64 < 64)))) w) (by kernel_rfl) (by rw [decide_eq_false (by omega)])) ?_
      refine pl_nil ?_
      refine au_then ?_
      refine wp_seq ?_
      refine wp_cond_false (by kernel_rfl) ?_
      refine wp_exit ?_
      refine au_then_exit ?_
      refine au_then_exit ?_
      refine au_block_exit ?_
      refine au_then ?_
      refine wp_seq ?_
      refine rg_lit ?_
      refine pl_load M (want_no rfl) (some 31) rfl 61 _ rfl 3 g4 0 (by kernel_rfl) 64 61 (w8 (bk f (rd f 10) 64)) rfl 64 (w8 (bk f (rd f 10) 64)) (fun j _ => by rw [Nat.zero_add]) (by decide) _ Tryd.underlying61 rfl inz61 ?_
      refine pl_put M (want_no rfl) rfl 61 _ _ rfl 1 g2 0 (by kernel_rfl) 64 61 (w8 (fun _ => 0)) rfl 64 (w8 (bk f (rd f 10) 64)) (w8 (bk f (rd f 10) 64)) (by kernel_rfl) inz61 (by decide) (fun _ _ => rfl) (fun j hj => by rw [if_pos (by omega), Nat.sub_zero]) ?_
      intro u9 M
      replace M : Mem ⟨w, []⟩ [⟨g1, .cells (av 16 (w32 f)) 44⟩, ⟨g2, .cells (av 64 (w8 (bk f (rd f 10) 64))) 61⟩, ⟨g3, .cells (av 16 (w32 (rd f 10))) 44⟩, ⟨g4, .cells (av 64 (w8 (bk f (rd f 10) 64))) 61⟩] u9 := M
      refine pl_nil ?_
      refine au_then ?_
      refine wp_ret ?_
      refine bodyPost_ret (v := .agg (av 64 (w8 (bl f)))) (Eq.trans (b := .ok (.agg (av 64 (w8 (bk f (rd f 10) 64)))) _) (results_cell_row Tryd.results37 _ _ g2 61 (av 64 (w8 (bk f (rd f 10) 64))) (0, 0) _ (by kernel_rfl) (M.get 1 rfl) Tryd.underlying61 rfl (by rw [av_size]; exact inz61)) (by rw [bk_av])) (by kernel_rfl) ⟨rfl, below_grown M.old⟩


end Go.Proofs.YtkndaajbedlajaaDoor
