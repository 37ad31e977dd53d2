/- Words are turned and mixed; the first words of a block; a block: the walks of RotateLeft32, mix, round, put, firstWords and blockOf. -/
import Derived.Test.YtenafinbaanicaaDoorC0
namespace Go.Proofs.YtenafinbaanicaaDoor
open Go.RowKit

/-- x turned to the left by n. -/
def rl (x : Int) (n : Nat) : Int := vo (vl x n) (sr x (32 - n))
def tr0 : Nat → Value := wi fun j => TF (0 * 2 + j)
def tr1 : Nat → Value := wi fun j => TF (1 * 2 + j)
def mA1 (v : Nat → Int) (i j : Nat) : Int := va (v i) (v j)
def mD1 (v : Nat → Int) (i j l : Nat) : Int := rl (vx (v l) (mA1 v i j)) 16
def mC1 (v : Nat → Int) (i j k l : Nat) : Int := va (v k) (mD1 v i j l)
def mB1 (v : Nat → Int) (i j k l : Nat) : Int := rl (vx (v j) (mC1 v i j k l)) 12
def mA2 (v : Nat → Int) (i j k l : Nat) : Int := va (mA1 v i j) (mB1 v i j k l)
def mD2 (v : Nat → Int) (i j k l : Nat) : Int := rl (vx (mD1 v i j l) (mA2 v i j k l)) 8
def mC2 (v : Nat → Int) (i j k l : Nat) : Int := va (mC1 v i j k l) (mD2 v i j k l)
def mB2 (v : Nat → Int) (i j k l : Nat) : Int := rl (vx (mB1 v i j k l) (mC2 v i j k l)) 7
/-- Four words of the sixteen, mixed. -/
def mxF (v : Nat → Int) (i j k l : Nat) : Nat → Int := upd (upd (upd (upd v i (mA2 v i j k l)) j (mB2 v i j k l)) k (mC2 v i j k l)) l (mD2 v i j k l)
set_option maxRecDepth 100000 in
set_option maxHeartbeats 4000000 in
theorem c_rl16 (x : Int) (w : World) (hL : Laid w)  :
    Calls Tryd.prog 96 #[.int .u32 x, .int .i64 16] w fun r w' => r = .returned (.int .u32 (rl x 16)) ∧ Below w.heap.size w w' := by
  go_enter Tryd.func96, Tryd.ntmps96
  have M := Mem.start hL
  refine sq ?_
  refine sq ?_
  refine sq ?_
  refine wp_ret ?_
  exact b1 M

set_option maxRecDepth 100000 in
set_option maxHeartbeats 4000000 in
theorem c_rl12 (x : Int) (w : World) (hL : Laid w)  :
    Calls Tryd.prog 96 #[.int .u32 x, .int .i64 12] w fun r w' => r = .returned (.int .u32 (rl x 12)) ∧ Below w.heap.size w w' := by
  go_enter Tryd.func96, Tryd.ntmps96
  have M := Mem.start hL
  refine sq ?_
  refine sq ?_
  refine sq ?_
  refine wp_ret ?_
  exact b1 M

set_option maxRecDepth 100000 in
set_option maxHeartbeats 4000000 in
theorem c_rl8 (x : Int) (w : World) (hL : Laid w)  :
    Calls Tryd.prog 96 #[.int .u32 x, .int .i64 8] w fun r w' => r = .returned (.int .u32 (rl x 8)) ∧ Below w.heap.size w w' := by
  go_enter Tryd.func96, Tryd.ntmps96
  have M := Mem.start hL
  refine sq ?_
  refine sq ?_
  refine sq ?_
  refine wp_ret ?_
  exact b1 M

set_option maxRecDepth 100000 in
set_option maxHeartbeats 4000000 in
theorem c_rl7 (x : Int) (w : World) (hL : Laid w)  :
    Calls Tryd.prog 96 #[.int .u32 x, .int .i64 7] w fun r w' => r = .returned (.int .u32 (rl x 7)) ∧ Below w.heap.size w w' := by
  go_enter Tryd.func96, Tryd.ntmps96
  have M := Mem.start hL
  refine sq ?_
  refine sq ?_
  refine sq ?_
  refine wp_ret ?_
  exact b1 M

set_option maxRecDepth 100000 in
set_option maxHeartbeats 4000000 in
theorem c_mix (v : Nat → Int) (p0 p1 p2 p3 : Nat) (h4 : p0 < 16) (h1 : p1 < 16) (h2 : p2 < 16) (h3 : p3 < 16) (g : Nat) (w : World) (hL : Laid w) (hg : w.heap[g]? = some (.cells (av 16 (w32 v)) 101)) (h0 : 1 < g) :
    Calls Tryd.prog 95 #[.pointer (some ⟨g, 0, none⟩), .int .i64 (p0 : Int), .int .i64 (p1 : Int), .int .i64 (p2 : Int), .int .i64 (p3 : Int)] w fun r w' => r = .returned (.tuple #[]) ∧ Grw w w' [g] ∧ w'.heap[g]? = some (.cells (av 16 (w32 (mxF v p0 p1 p2 p3))) 101) := by
  go_enter Tryd.func95, Tryd.ntmps95
  have M := Mem.startp hL hg h0
  refine wp_seq ?_
  refine rgh M [⟨g, .cells (av 16 (w32 v)) 101⟩] 23 fun u1 M => ?_
  refine qV M 0 16 (.pointer (some ⟨g, 0, none⟩)) ?_
  refine qV M 1 17 (.int .i64 (p0 : Int)) ?_
  refine qV M 2 18 (.pointer (some ⟨g, 0, none⟩)) ?_
  refine qH M 3 19 (.pointer (some ⟨g, p0, none⟩)) (fun w _ => (run_ix1 101 16 46 Tryd.underlying101 inz46 _ _ rfl g (by kernel_rfl) .i64 (p0) (by kernel_rfl) (by omega)) w) ?_
  refine qE M 4 20 0 p0 ?_
  refine qV M 5 21 (.pointer (some ⟨g, 0, none⟩)) ?_
  refine qV M 6 22 (.int .i64 (p1 : Int)) ?_
  refine qV M 7 23 (.pointer (some ⟨g, 0, none⟩)) ?_
  refine qH M 8 24 (.pointer (some ⟨g, p1, none⟩)) (fun w _ => (run_ix1 101 16 46 Tryd.underlying101 inz46 _ _ rfl g (by kernel_rfl) .i64 (p1) (by kernel_rfl) (by omega)) w) ?_
  refine qE M 9 25 0 p1 ?_
  refine qV M 10 26 (.pointer (some ⟨g, 0, none⟩)) ?_
  refine qV M 11 27 (.int .i64 (p2 : Int)) ?_
  refine qV M 12 28 (.pointer (some ⟨g, 0, none⟩)) ?_
  refine qH M 13 29 (.pointer (some ⟨g, p2, none⟩)) (fun w _ => (run_ix1 101 16 46 Tryd.underlying101 inz46 _ _ rfl g (by kernel_rfl) .i64 (p2) (by kernel_rfl) (by omega)) w) ?_
  refine qE M 14 30 0 p2 ?_
  refine qV M 15 31 (.pointer (some ⟨g, 0, none⟩)) ?_
  refine qV M 16 32 (.int .i64 (p3 : Int)) ?_
  refine qV M 17 33 (.pointer (some ⟨g, 0, none⟩)) ?_
  refine qH M 18 34 (.pointer (some ⟨g, p3, none⟩)) (fun w _ => (run_ix1 101 16 46 Tryd.underlying101 inz46 _ _ rfl g (by kernel_rfl) .i64 (p3) (by kernel_rfl) (by omega)) w) ?_
  refine qE M 19 35 0 p3 ?_
  refine qV M 20 10 (.int .u32 (v p0)) ?_
  refine qV M 21 11 (.int .u32 (v p1)) ?_
  refine qV M 22 12 (.int .u32 (v p2)) ?_
  refine qZ ?_
  refine rV 1 ?_
  refine nT ?_
  refine au_then ?_
  refine wp_seq ?_
  refine sR ?_
  refine pl_laid M (want_no rfl) (some 36) rfl 151 _ rfl (by kernel_rfl) _ Tryd.underlying151 rfl inz151 ?_
  refine rV 1 ?_
  refine nT ?_
  refine wp_block ?_
  refine wp_loop_rounds 3 ?_
  refine rounds_go ?_
  refine sq ?_
  refine wp_seq ?_
  refine wp_cond_true (by kernel_rfl) ?_
  refine wp_skip ?_
  refine au_then ?_
  refine wp_seq ?_
  refine wp_block ?_
  refine sR ?_
  refine pH 39 (.agg (av 2 tr0)) (fun w => Eq.trans (run_ixP 151 2 150 2 Tryd.underlying151 inz150 (fun _ => by kernel_rfl) _ _ rfl (wi TF) 4 (by kernel_rfl) .i64 0 (by kernel_rfl) (by omega) (by omega) w) (by kernel_rfl)) ?_
  refine pN M 15 (.cells (av 2 (wi (fun _ => 0))) 150) fun g1 u2 M => ?_
  refine ZG M 1 2 tr0 fun u3 M => ?_
  refine nT ?_
  refine sq ?_
  refine sR ?_
  refine rV 4 ?_
  refine ZE M 47 1 0 ?_
  refine pC M 48 96 #[.int .u32 (vx (v p3) (mA1 v p0 p1)), .int .i64 16] (.int .u32 (mD1 v p0 p1 p3)) (fun w M => c_rl16 _ w M.laid) fun u4 M => ?_
  refine rV 1 ?_
  refine nT ?_
  refine sq ?_
  refine rg_lit ?_
  refine rV 4 ?_
  refine ZE M 56 1 1 ?_
  refine pC M 57 96 #[.int .u32 (vx (v p1) (mC1 v p0 p1 p2 p3)), .int .i64 12] (.int .u32 (mB1 v p0 p1 p2 p3)) (fun w M => c_rl12 _ w M.laid) fun u5 M => ?_
  refine rV 1 ?_
  refine pl_nil ?_
  refine au_block ?_
  refine au_then ?_
  refine rg_lit ?_
  refine rV 2 ?_
  refine nT ?_
  refine rounds_go ?_
  refine sq ?_
  refine wp_seq ?_
  refine wp_cond_true (by kernel_rfl) ?_
  refine wp_skip ?_
  refine au_then ?_
  refine wp_seq ?_
  refine wp_block ?_
  refine sR ?_
  refine pH 39 (.agg (av 2 tr1)) (fun w => Eq.trans (run_ixP 151 2 150 2 Tryd.underlying151 inz150 (fun _ => by kernel_rfl) _ _ rfl (wi TF) 4 (by kernel_rfl) .i64 1 (by kernel_rfl) (by omega) (by omega) w) (by kernel_rfl)) ?_
  refine pN M 15 (.cells (av 2 (wi (fun _ => 0))) 150) fun g2 u6 M => ?_
  refine ZG M 2 2 tr1 fun u7 M => ?_
  refine nT ?_
  refine sq ?_
  refine sR ?_
  refine rV 4 ?_
  refine ZE M 47 2 0 ?_
  refine pC M 48 96 #[.int .u32 (vx (mD1 v p0 p1 p3) (mA2 v p0 p1 p2 p3)), .int .i64 8] (.int .u32 (mD2 v p0 p1 p2 p3)) (fun w M => c_rl8 _ w M.laid) fun u8 M => ?_
  refine rV 1 ?_
  refine nT ?_
  refine sq ?_
  refine rg_lit ?_
  refine rV 4 ?_
  refine ZE M 56 2 1 ?_
  refine pC M 57 96 #[.int .u32 (vx (mB1 v p0 p1 p2 p3) (mC2 v p0 p1 p2 p3)), .int .i64 7] (.int .u32 (mB2 v p0 p1 p2 p3)) (fun w M => c_rl7 _ w M.laid) fun u9 M => ?_
  refine rV 1 ?_
  refine pl_nil ?_
  refine au_block ?_
  refine au_then ?_
  refine rg_lit ?_
  refine rV 2 ?_
  refine nT ?_
  refine rounds_go ?_
  refine sq ?_
  refine wp_seq ?_
  refine wp_cond_false (by kernel_rfl) ?_
  refine wp_exit ?_
  refine au_then_exit ?_
  refine au_then_exit ?_
  refine au_block_exit ?_
  refine au_then ?_
  refine rgh M [⟨g1, .cells (av 2 tr0) 150⟩, ⟨g2, .cells (av 2 tr1) 150⟩] 23 fun u10 M => ?_
  have qM := M.drop (.cons _ (.cons_cons _ (.cons_cons _ (.slnil))))
  refine qV qM 0 59 (.pointer (some ⟨g, 0, none⟩)) ?_
  refine qV qM 1 60 (.int .i64 (p0 : Int)) ?_
  refine qV qM 2 61 (.pointer (some ⟨g, 0, none⟩)) ?_
  refine qV qM 3 62 (.int .i64 (p1 : Int)) ?_
  refine qV qM 4 63 (.pointer (some ⟨g, 0, none⟩)) ?_
  refine qV qM 5 64 (.int .i64 (p2 : Int)) ?_
  refine qV qM 6 65 (.pointer (some ⟨g, 0, none⟩)) ?_
  refine qV qM 7 66 (.int .i64 (p3 : Int)) ?_
  refine qV qM 8 67 (.int .u32 (mA2 v p0 p1 p2 p3)) ?_
  refine qV qM 9 68 (.int .u32 (mB2 v p0 p1 p2 p3)) ?_
  refine qV qM 10 69 (.int .u32 (mC2 v p0 p1 p2 p3)) ?_
  refine qV qM 11 70 (.int .u32 (mD2 v p0 p1 p2 p3)) ?_
  refine qV qM 12 71 (.pointer (some ⟨g, 0, none⟩)) ?_
  refine qH qM 13 72 (.pointer (some ⟨g, p0, none⟩)) (fun w _ => (run_ix1 101 16 46 Tryd.underlying101 inz46 _ _ rfl g (by kernel_rfl) .i64 (p0) (by kernel_rfl) (by omega)) w) ?_
  refine qV qM 15 73 (.pointer (some ⟨g, 0, none⟩)) ?_
  refine qV qM 18 75 (.pointer (some ⟨g, 0, none⟩)) ?_
  refine qV qM 21 77 (.pointer (some ⟨g, 0, none⟩)) ?_
  refine qO 14 ?_
  refine ZP32 M 0 p0 (mA2 v p0 p1 p2 p3) fun u11 M => ?_
  refine nT ?_
  refine ⟨(M.drop (.cons _ (.cons_cons _ (.cons_cons _ (.slnil))))), ?_⟩
  refine qH (M.drop (.cons _ (.cons_cons _ (.cons_cons _ (.slnil))))) 16 74 (.pointer (some ⟨g, p1, none⟩)) (fun w _ => (run_ix1 101 16 46 Tryd.underlying101 inz46 _ _ rfl g (by kernel_rfl) .i64 (p1) (by kernel_rfl) (by omega)) w) ?_
  refine qO 17 ?_
  refine ZP32 M 0 p1 (mB2 v p0 p1 p2 p3) fun u12 M => ?_
  refine nT ?_
  refine ⟨(M.drop (.cons _ (.cons_cons _ (.cons_cons _ (.slnil))))), ?_⟩
  refine qH (M.drop (.cons _ (.cons_cons _ (.cons_cons _ (.slnil))))) 19 76 (.pointer (some ⟨g, p2, none⟩)) (fun w _ => (run_ix1 101 16 46 Tryd.underlying101 inz46 _ _ rfl g (by kernel_rfl) .i64 (p2) (by kernel_rfl) (by omega)) w) ?_
  refine qO 20 ?_
  refine ZP32 M 0 p2 (mC2 v p0 p1 p2 p3) fun u13 M => ?_
  refine nT ?_
  refine ⟨(M.drop (.cons _ (.cons_cons _ (.cons_cons _ (.slnil))))), ?_⟩
  refine qH (M.drop (.cons _ (.cons_cons _ (.cons_cons _ (.slnil))))) 22 78 (.pointer (some ⟨g, p3, none⟩)) (fun w _ => (run_ix1 101 16 46 Tryd.underlying101 inz46 _ _ rfl g (by kernel_rfl) .i64 (p3) (by kernel_rfl) (by omega)) w) ?_
  refine qZ ?_
  refine ZP32 M 0 p3 (mD2 v p0 p1 p2 p3) fun u14 M => ?_
  refine nT ?_
  exact bodyPost_end (v := .tuple #[]) (results_none Tryd.results95 _ _) (by kernel_rfl) ⟨rfl, M.old, M.get 0 rfl⟩

def rn1 (v : Nat → Int) : Nat → Int := mxF v 0 4 8 12
def rn2 (v : Nat → Int) : Nat → Int := mxF (rn1 v) 1 5 9 13
def rn3 (v : Nat → Int) : Nat → Int := mxF (rn2 v) 2 6 10 14
def rn4 (v : Nat → Int) : Nat → Int := mxF (rn3 v) 3 7 11 15
def rn5 (v : Nat → Int) : Nat → Int := mxF (rn4 v) 0 5 10 15
def rn6 (v : Nat → Int) : Nat → Int := mxF (rn5 v) 1 6 11 12
def rn7 (v : Nat → Int) : Nat → Int := mxF (rn6 v) 2 7 8 13
def rn8 (v : Nat → Int) : Nat → Int := mxF (rn7 v) 3 4 9 14
/-- The sixteen words behind some rounds. -/
def rd (v : Nat → Int) : Nat → (Nat → Int)
  | 0 => v
  | j + 1 => rn8 (rd v j)

set_option maxRecDepth 100000 in
set_option maxHeartbeats 4000000 in
theorem c_round (v : Nat → Int) (g : Nat) (w : World) (hL : Laid w) (hg : w.heap[g]? = some (.cells (av 16 (w32 v)) 101)) (h0 : 1 < g) :
    Calls Tryd.prog 88 #[.pointer (some ⟨g, 0, none⟩)] w fun r w' => r = .returned (.tuple #[]) ∧ Grw w w' [g] ∧ w'.heap[g]? = some (.cells (av 16 (w32 (rn8 v))) 101) := by
  go_enter Tryd.func88, Tryd.ntmps88
  have M := Mem.startp hL hg h0
  refine sR ?_
  refine rV 1 ?_
  refine ZY M 3 0 (.tuple #[]) (.cells (av 16 (w32 (rn1 v))) 101) (fun w M => c_mix v 0 4 8 12 (by decide) (by decide) (by decide) (by decide) g w M.laid (M.get 0 rfl) (M.ne0 0 rfl)) fun u1 M => ?_
  refine nT ?_
  refine sR ?_
  refine rV 1 ?_
  refine ZY M 5 0 (.tuple #[]) (.cells (av 16 (w32 (rn2 v))) 101) (fun w M => c_mix (rn1 v) 1 5 9 13 (by decide) (by decide) (by decide) (by decide) g w M.laid (M.get 0 rfl) (M.ne0 0 rfl)) fun u2 M => ?_
  refine nT ?_
  refine sR ?_
  refine rV 1 ?_
  refine ZY M 7 0 (.tuple #[]) (.cells (av 16 (w32 (rn3 v))) 101) (fun w M => c_mix (rn2 v) 2 6 10 14 (by decide) (by decide) (by decide) (by decide) g w M.laid (M.get 0 rfl) (M.ne0 0 rfl)) fun u3 M => ?_
  refine nT ?_
  refine sR ?_
  refine rV 1 ?_
  refine ZY M 9 0 (.tuple #[]) (.cells (av 16 (w32 (rn4 v))) 101) (fun w M => c_mix (rn3 v) 3 7 11 15 (by decide) (by decide) (by decide) (by decide) g w M.laid (M.get 0 rfl) (M.ne0 0 rfl)) fun u4 M => ?_
  refine nT ?_
  refine sR ?_
  refine rV 1 ?_
  refine ZY M 11 0 (.tuple #[]) (.cells (av 16 (w32 (rn5 v))) 101) (fun w M => c_mix (rn4 v) 0 5 10 15 (by decide) (by decide) (by decide) (by decide) g w M.laid (M.get 0 rfl) (M.ne0 0 rfl)) fun u5 M => ?_
  refine nT ?_
  refine sR ?_
  refine rV 1 ?_
  refine ZY M 13 0 (.tuple #[]) (.cells (av 16 (w32 (rn6 v))) 101) (fun w M => c_mix (rn5 v) 1 6 11 12 (by decide) (by decide) (by decide) (by decide) g w M.laid (M.get 0 rfl) (M.ne0 0 rfl)) fun u6 M => ?_
  refine nT ?_
  refine sR ?_
  refine rV 1 ?_
  refine ZY M 15 0 (.tuple #[]) (.cells (av 16 (w32 (rn7 v))) 101) (fun w M => c_mix (rn6 v) 2 7 8 13 (by decide) (by decide) (by decide) (by decide) g w M.laid (M.get 0 rfl) (M.ne0 0 rfl)) fun u7 M => ?_
  refine nT ?_
  refine rg_lit ?_
  refine rV 1 ?_
  refine ZY M 17 0 (.tuple #[]) (.cells (av 16 (w32 (rn8 v))) 101) (fun w M => c_mix (rn7 v) 3 4 9 14 (by decide) (by decide) (by decide) (by decide) g w M.laid (M.get 0 rfl) (M.ne0 0 rfl)) fun u8 M => ?_
  refine pl_nil ?_
  exact bodyPost_end (v := .tuple #[]) (results_none Tryd.results88 _ _) (by kernel_rfl) ⟨rfl, M.old, M.get 0 rfl⟩

/-- Bytes laid into words, the lowest first. -/
def pw (v : Nat → Int) (p : Nat) (b : Nat → Int) : Nat → (Nat → Int)
  | 0 => v
  | j + 1 => upd (pw v p b j) (p + j / 4) (vo (pw v p b j (p + j / 4)) (vl (cv .u32 (b j)) (j % 4 * 8)))

set_option maxRecDepth 100000 in
set_option maxHeartbeats 4000000 in
theorem c_put (v : Nat → Int) (p : Nat) (s : ByteArray) (hp : p + (s.size + 3) / 4 ≤ 16) (g : Nat) (w : World) (hL : Laid w) (hg : w.heap[g]? = some (.cells (av 16 (w32 v)) 101)) (h0 : 1 < g) :
    Calls Tryd.prog 73 #[.pointer (some ⟨g, 0, none⟩), .int .i64 (p : Int), .string s] w fun r w' => r = .returned (.tuple #[]) ∧ Grw w w' [g] ∧ w'.heap[g]? = some (.cells (av 16 (w32 (pw v p (bt s) s.size))) 101) := by
  go_enter Tryd.func73, Tryd.ntmps73
  have M := Mem.startp hL hg h0
  refine sq ?_
  refine wp_block ?_
  refine au_loop (fun j a w' => ∃ v1 : Nat → Value, a = (fm ([.pointer (some ⟨g, 0, none⟩), .int .i64 (p : Int), .string s] ++ vr v1 3 5 ++ [.int .i64 (s.size : Int), .int .i64 (j : Int)] ++ vr v1 10 22)) ∧ Mem ⟨w, [g]⟩ [⟨g, .cells (av 16 (w32 (pw v p (bt s) j))) 101⟩] w') s.size (exS M) ?_ ?_
  · intro j a u0 hj hI
    obtain ⟨v1, rfl, M⟩ := hI
    refine sR ?_
    refine ZT 10 ((j : Int) < (s.size : Int)) ?_
    refine nT ?_
    refine wp_seq ?_
    refine wp_cond_true (by kernel_rfl) ?_
    refine wp_skip ?_
    refine au_then ?_
    refine wp_seq ?_
    refine wp_block ?_
    refine sq ?_
    refine rg_tail M 19 (by kernel_rfl) (by kernel_rfl) ?_
    simp only [List.take_succ_cons, List.take_zero]
    refine kR 3 ?_
    refine eQ 15 .i64 (IntKind.wrap .i64 ((j : Int).tdiv 4)) (quo4 j (by omega)) ?_
    refine eI 16 ((p : Int) + ((j / 4 : Nat) : Int)) ((p + j / 4 : Nat) : Int) ?_
    refine kR 1 ?_
    refine eX 18 .i64 g ((p + j / 4 : Nat)) 16 ?_
    refine eE M 19 0 ((p + j / 4 : Nat)) ?_
    refine kR 2 ?_
    refine kH 22 (.int .u8 (bt s j)) (run_ixS 9 Tryd.underlying9 _ _ rfl s (by kernel_rfl) .i64 j (by kernel_rfl) hj) ?_
    refine kR 2 ?_
    refine eQ 25 .i64 (Int.tmod (j : Int) 4) (rem4 j) ?_
    refine eI 26 (((j % 4 : Nat) : Int) * 8) ((j % 4 * 8 : Nat) : Int) ?_
    refine kH 27 (.int .u32 (vl (cv .u32 (bt s j)) (j % 4 * 8))) (run_shlV 46 3 _ _ rfl _ .i64 (j % 4 * 8) (by kernel_rfl) (by kernel_rfl) (by omega)) ?_
    refine kR 2 ?_
    refine eX 30 .i64 g ((p + j / 4 : Nat)) 16 ?_
    refine kl_nil fun u1 M => ?_
    refine ZP32 M 0 ((p + j / 4 : Nat)) (vo ((pw v p (bt s) j) ((p + j / 4 : Nat))) (vl (cv .u32 (bt s j)) (j % 4 * 8))) fun u2 M => ?_
    refine pl_nil ?_
    refine au_block ?_
    refine au_then ?_
    refine rg_lit ?_
    refine ZI 31 ((j : Int) + 1) ((j + 1 : Nat) : Int) ?_
    refine rV 1 ?_
    refine nT ?_
    exact exS M
  · intro a u0 hI
    obtain ⟨v1, rfl, M⟩ := hI
    refine sR ?_
    refine ZF 10 ((s.size : Int) < (s.size : Int)) ?_
    refine nT ?_
    refine wp_seq ?_
    refine wp_cond_false (by kernel_rfl) ?_
    refine wp_exit ?_
    refine au_then_exit ?_
    refine au_then_exit ?_
    refine au_block_exit ?_
    exact bodyPost_end (v := .tuple #[]) (results_none Tryd.results73 _ _) (by kernel_rfl) ⟨rfl, M.old, M.get 0 rfl⟩

def strK : ByteArray := ⟨#[101, 120, 112, 97, 110, 100, 32, 51, 50, 45, 98, 121, 116, 101, 32, 107]⟩
def f1 : Nat → Int := pw (fun _ => 0) 0 (bt strK) 16
def f2 (key : ByteArray) : Nat → Int := pw f1 4 (bt key) key.size
/-- The first words of a block. -/
def fw (key nonce : ByteArray) (n : Int) : Nat → Int := pw (upd (f2 key) 12 n) 13 (bt nonce) nonce.size

set_option maxRecDepth 100000 in
set_option maxHeartbeats 4000000 in
theorem c_first (key nonce : ByteArray) (n : Int) (hk : key.size = 32) (hn : nonce.size = 12) (w : World) (hL : Laid w)  :
    Calls Tryd.prog 63 #[.string key, .string nonce, .int .u32 n] w fun r w' => r = .returned (.agg (av 16 (w32 (fw key nonce n)))) ∧ Below w.heap.size w w' := by
  go_enter Tryd.func63, Tryd.ntmps63
  have M := Mem.start hL
  refine sR ?_
  refine pN M 6 (.cells (av 16 (w32 (fun _ => 0))) 101) fun g1 u1 M => ?_
  refine nT ?_
  refine sR ?_
  refine pN M 7 (.cells (av 16 (w32 (fun _ => 0))) 101) fun g2 u2 M => ?_
  refine nT ?_
  refine sR ?_
  refine ZY M 8 1 (.tuple #[]) (.cells (av 16 (w32 f1)) 101) (fun w M => c_put (fun _ => 0) 0 strK (by decide) g2 w M.laid (M.get 1 rfl) (M.ne0 1 rfl)) fun u3 M => ?_
  refine nT ?_
  refine sR ?_
  refine rV 1 ?_
  refine ZY M 10 1 (.tuple #[]) (.cells (av 16 (w32 (f2 key))) 101) (fun w M => c_put f1 4 key (by omega) g2 w M.laid (M.get 1 rfl) (M.ne0 1 rfl)) fun u4 M => ?_
  refine nT ?_
  refine sR ?_
  refine rV 2 ?_
  refine ZP32 M 1 12 n fun u5 M => ?_
  refine nT ?_
  refine sR ?_
  refine rV 1 ?_
  refine ZY M 14 1 (.tuple #[]) (.cells (av 16 (w32 (fw key nonce n))) 101) (fun w M => c_put (upd (f2 key) 12 n) 13 nonce (by omega) g2 w M.laid (M.get 1 rfl) (M.ne0 1 rfl)) fun u6 M => ?_
  refine nT ?_
  refine sR ?_
  refine pA M 15 1 16 (w32 (fw key nonce n)) ?_
  refine ZG M 0 16 (w32 (fw key nonce n)) fun u7 M => ?_
  refine nT ?_
  refine wp_ret ?_
  exact bc Tryd.results63 M 0 16 (w32 (fw key nonce n)) ⟨rfl, below_grown M.old⟩

/-- The bytes of a block, up to a place. -/
def bk (f v : Nat → Int) : Nat → (Nat → Int)
  | 0 => fun _ => 0
  | j + 1 => upd (bk f v j) j (cv .u8 (sr (va (v (j / 4)) (f (j / 4))) (j % 4 * 8)))
/-- A byte of a block. -/
def bl (f : Nat → Int) (i : Nat) : Int := cv .u8 (sr (va (rd f 10 (i / 4)) (f (i / 4))) (i % 4 * 8))
theorem bk_at (f v : Nat → Int) : ∀ n, ∀ i, i < n → bk f v n i = cv .u8 (sr (va (v (i / 4)) (f (i / 4))) (i % 4 * 8))
  | 0, i, h => absurd h (by omega)
  | n + 1, i, h => by
    unfold bk upd
    by_cases e : i = n
    · rw [if_pos e, e]
    · rw [if_neg e, bk_at f v n i (by omega)]
theorem bk_av (f : Nat → Int) : av 64 (w8 (bk f (rd f 10) 64)) = av 64 (w8 (bl f)) := av_congr fun i hi => by
  unfold w8 bl
  rw [bk_at _ _ 64 i hi]

set_option maxRecDepth 100000 in
set_option maxHeartbeats 4000000 in
theorem c_block (f : Nat → Int) (w : World) (hL : Laid w)  :
    Calls Tryd.prog 74 #[.agg (av 16 (w32 f))] w fun r w' => r = .returned (.agg (av 64 (w8 (bl f)))) ∧ Below w.heap.size w w' := by
  go_enter Tryd.func74, Tryd.ntmps74
  have M := Mem.start hL
  refine sR ?_
  refine pN M 1 (.cells (av 16 (w32 f)) 101) fun g1 u1 M => ?_
  refine pN M 2 (.cells (av 64 (w8 (fun _ => 0))) 114) fun g2 u2 M => ?_
  refine nT ?_
  refine sR ?_
  refine pA M 6 0 16 (w32 f) ?_
  refine pN M 3 (.cells (av 16 (w32 (fun _ => 0))) 101) fun g3 u3 M => ?_
  refine ZG M 2 16 (w32 f) fun u4 M => ?_
  refine nT ?_
  refine wp_seq ?_
  refine sq ?_
  refine wp_block ?_
  refine au_loop (fun j a w' => ∃ v1 : Nat → Value, a = (fm ([.agg (av 16 (w32 f)), .pointer (some ⟨g1, 0, none⟩), .pointer (some ⟨g2, 0, none⟩), .pointer (some ⟨g3, 0, none⟩)] ++ vr v1 4 3 ++ [.int .i64 (j : Int)] ++ vr v1 8 24)) ∧ Mem ⟨w, []⟩ [⟨g1, .cells (av 16 (w32 f)) 101⟩, ⟨g2, .cells (av 64 (w8 (fun _ => 0))) 114⟩, ⟨g3, .cells (av 16 (w32 (rd f j))) 101⟩] w') 10 (exS M) ?_ ?_
  · intro j a u0 hj hI
    obtain ⟨v1, rfl, M⟩ := hI
    refine sR ?_
    refine ZT 8 ((j : Int) < 10) ?_
    refine nT ?_
    refine wp_seq ?_
    refine wp_cond_true (by kernel_rfl) ?_
    refine wp_skip ?_
    refine au_then ?_
    refine wp_seq ?_
    refine wp_block ?_
    refine rg_lit ?_
    refine ZY M 9 2 (.tuple #[]) (.cells (av 16 (w32 (rd f (j + 1)))) 101) (fun w M => c_round (rd f j) g3 w M.laid (M.get 2 rfl) (M.ne0 2 rfl)) fun u5 M => ?_
    refine pl_nil ?_
    refine au_block ?_
    refine au_then ?_
    refine rg_lit ?_
    refine ZI 10 ((j : Int) + 1) ((j + 1 : Nat) : Int) ?_
    refine rV 1 ?_
    refine nT ?_
    exact exS M
  · intro a u0 hI
    obtain ⟨v1, rfl, M⟩ := hI
    refine sR ?_
    refine ZF 8 (10 < 10) ?_
    refine nT ?_
    refine wp_seq ?_
    refine wp_cond_false (by kernel_rfl) ?_
    refine wp_exit ?_
    refine au_then_exit ?_
    refine au_then_exit ?_
    refine au_block_exit ?_
    refine au_then ?_
    refine sR ?_
    refine pN M 4 (.cells (av 64 (w8 (fun _ => 0))) 114) fun g4 u6 M => ?_
    refine nT ?_
    refine wp_seq ?_
    refine sq ?_
    refine wp_block ?_
    refine au_loop (fun j a w' => ∃ v2 : Nat → Value, a = (fm ([.agg (av 16 (w32 f)), .pointer (some ⟨g1, 0, none⟩), .pointer (some ⟨g2, 0, none⟩), .pointer (some ⟨g3, 0, none⟩), .pointer (some ⟨g4, 0, none⟩)] ++ vr v2 5 2 ++ [.int .i64 (10 : Int)] ++ vr v2 8 3 ++ [.int .i64 (j : Int)] ++ vr v2 12 20)) ∧ Mem ⟨w, []⟩ [⟨g1, .cells (av 16 (w32 f)) 101⟩, ⟨g2, .cells (av 64 (w8 (fun _ => 0))) 114⟩, ⟨g3, .cells (av 16 (w32 (rd f 10))) 101⟩, ⟨g4, .cells (av 64 (w8 (bk f (rd f 10) j))) 114⟩] w') 64 (exS M) ?_ ?_
    · intro j a u0 hj hI
      obtain ⟨v2, rfl, M⟩ := hI
      refine sR ?_
      refine ZT 12 ((j : Int) < 64) ?_
      refine nT ?_
      refine wp_seq ?_
      refine wp_cond_true (by kernel_rfl) ?_
      refine wp_skip ?_
      refine au_then ?_
      refine wp_seq ?_
      refine wp_block ?_
      refine sq ?_
      refine rg_tail M 16 (by kernel_rfl) (by kernel_rfl) ?_
      simp only [List.take_succ_cons, List.take_zero]
      refine kR 2 ?_
      refine eQ 16 .i64 (IntKind.wrap .i64 ((j : Int).tdiv 4)) (quo4 j (by omega)) ?_
      refine eX 17 .i64 g3 ((j / 4 : Nat)) 16 ?_
      refine eE M 18 2 ((j / 4 : Nat)) ?_
      refine kR 1 ?_
      refine eQ 20 .i64 (IntKind.wrap .i64 ((j : Int).tdiv 4)) (quo4 j (by omega)) ?_
      refine eX 21 .i64 g1 ((j / 4 : Nat)) 16 ?_
      refine eE M 22 0 ((j / 4 : Nat)) ?_
      refine kR 2 ?_
      refine eQ 25 .i64 (Int.tmod (j : Int) 4) (rem4 j) ?_
      refine eI 26 (((j % 4 : Nat) : Int) * 8) ((j % 4 * 8 : Nat) : Int) ?_
      refine kH 27 (.int .u32 (sr (va (rd f 10 (j / 4)) (f (j / 4))) (j % 4 * 8))) (run_shrV 46 3 _ _ rfl _ .i64 (j % 4 * 8) (by kernel_rfl) (by kernel_rfl) (by omega)) ?_
      refine kR 1 ?_
      refine eX 29 .i64 g4 (j) 64 ?_
      refine kl_nil fun u7 M => ?_
      refine ZP8 M 3 j (cv .u8 (sr (va (rd f 10 (j / 4)) (f (j / 4))) (j % 4 * 8))) fun u8 M => ?_
      refine pl_nil ?_
      refine au_block ?_
      refine au_then ?_
      refine rg_lit ?_
      refine ZI 30 ((j : Int) + 1) ((j + 1 : Nat) : Int) ?_
      refine rV 1 ?_
      refine nT ?_
      exact exS M
    · intro a u0 hI
      obtain ⟨v2, rfl, M⟩ := hI
      refine sR ?_
      refine ZF 12 (64 < 64) ?_
      refine nT ?_
      refine wp_seq ?_
      refine wp_cond_false (by kernel_rfl) ?_
      refine wp_exit ?_
      refine au_then_exit ?_
      refine au_then_exit ?_
      refine au_block_exit ?_
      refine au_then ?_
      refine sR ?_
      refine pA M 31 3 64 (w8 (bk f (rd f 10) 64)) ?_
      refine ZG M 1 64 (w8 (bk f (rd f 10) 64)) fun u9 M => ?_
      refine nT ?_
      refine wp_ret ?_
      refine bodyPost_ret (v := .agg (av 64 (w8 (bl f)))) (Eq.trans (b := .ok (.agg (av 64 (w8 (bk f (rd f 10) 64)))) _) (results_cell_row Tryd.results74 _ _ g2 114 (av 64 (w8 (bk f (rd f 10) 64))) (0, 0) _ (by kernel_rfl) (M.get 1 rfl) Tryd.underlying114 rfl (by rw [av_size]; exact inz114)) (by rw [bk_av])) (by kernel_rfl) ⟨rfl, below_grown M.old⟩


end Go.Proofs.YtenafinbaanicaaDoor
