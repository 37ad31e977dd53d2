/- Words are turned: the walks of turner, of its closure, of turnedThrice and of turnedAndMoved. -/
import Derived.Test.YtghobmgdadpplaaDoorOps
namespace Go.Proofs.YtghobmgdadpplaaDoor
open Go.RowKit

theorem inz25 : (Tryd.prog.info? 25).map (·.size) = some 1 := by kernel_rfl
theorem inz5 : (Tryd.prog.info? 5).map (·.size) = some 1 := by kernel_rfl
theorem inz26 : (Tryd.prog.info? 26).map (·.size) = some 80 := by kernel_rfl
theorem inz28 : (Tryd.prog.info? 28).map (·.size) = some 8 := by kernel_rfl
theorem inz45 : (Tryd.prog.info? 45).map (·.size) = some 128 := by kernel_rfl
theorem inz47 : (Tryd.prog.info? 47).map (·.size) = some 138 := by kernel_rfl
theorem inz52 : (Tryd.prog.info? 52).map (·.size) = some 16 := by kernel_rfl
theorem inz3 : (Tryd.prog.info? 3).map (·.size) = some 1 := by kernel_rfl
theorem inz4 : (Tryd.prog.info? 4).map (·.size) = some 1 := by kernel_rfl
theorem inz9 : (Tryd.prog.info? 9).map (·.size) = some 1 := by kernel_rfl

theorem Mem.oldc {c : Ctx} {L : List Blk} {W : World} (M : Mem c L W) {g k : Nat} {v : Value} (hc : c.w.cell? ⟨g, k, none⟩ = some v) (hr : c.r ≠ some g) : W.cell? ⟨g, k, none⟩ = some v := by
  have hlt : g < c.w.heap.size := by
    refine Classical.byContradiction fun hn => ?_
    have : c.w.heap[g]? = none := Array.getElem?_eq_none (by omega)
    simp [World.cell?, this] at hc
  rw [← hc]
  unfold World.cell?
  simp only
  rw [M.old.block g hlt (fun e => hr e.symm)]

/-- x turned to the right by n. -/
def rot (x : Int) (n : Nat) : Int := uo (sl x (64 - n)) (sr x n)

set_option maxRecDepth 100000 in
set_option maxHeartbeats 4000000 in
theorem c_rl1 (x : Int) (w : World) (hL : Laid w)  :
    Calls Tryd.prog 46 #[.int .u64 x, .int .i64 (-1)] w fun r w' => r = .returned (.int .u64 (rot x 1)) ∧ Below w.heap.size w w' := by
  go_enter Tryd.func46, Tryd.ntmps46
  have M := Mem.start hL
  refine wp_seq ?_
  refine rg_lit ?_
  refine pl_val (want_no rfl) (some 4) rfl (.int .u64 0) (fun _ => by kernel_rfl) ?_
  refine pl_nil ?_
  refine au_then ?_
  refine wp_seq ?_
  refine rg_lit ?_
  refine pl_val (want_no rfl) (some 6) rfl (.int .i64 (-1)) (fun _ => by kernel_rfl) ?_
  refine pl_val (want_no rfl) (some 7) rfl (.int .u64 18446744073709551615) (fun _ => by kernel_rfl) ?_
  refine pl_val (want_no rfl) (some 8) rfl (.int .u64 63) (fun _ => by kernel_rfl) ?_
  refine pl_val (want_no rfl) (some 5) rfl (.int .u64 63) (fun _ => by kernel_rfl) ?_
  refine pl_nil ?_
  refine au_then ?_
  refine wp_seq ?_
  refine rg_lit ?_
  refine pl_val (want_no rfl) (some 9) rfl (.int .u64 x) (fun _ => by kernel_rfl) ?_
  refine pl_val (want_no rfl) (some 10) rfl (.int .u64 63) (fun _ => by kernel_rfl) ?_
  refine pl_val (want_no rfl) (some 11) rfl (.int .u64 (sl x 63)) (fun _ => by kernel_rfl) ?_
  refine pl_val (want_no rfl) (some 12) rfl (.int .u64 x) (fun _ => by kernel_rfl) ?_
  refine pl_val (want_no rfl) (some 13) rfl (.int .u64 63) (fun _ => by kernel_rfl) ?_
  refine pl_val (want_no rfl) (some 14) rfl (.int .u64 1) (fun _ => by kernel_rfl) ?_
  refine pl_val (want_no rfl) (some 15) rfl (.int .u64 (sr x 1)) (fun _ => by kernel_rfl) ?_
  refine pl_val (want_no rfl) (some 16) rfl (.int .u64 (uo (sl x 63) (sr x 1))) (fun _ => by kernel_rfl) ?_
  refine pl_val (want_no rfl) (some 4) rfl (.int .u64 (uo (sl x 63) (sr x 1))) (fun _ => by kernel_rfl) ?_
  refine pl_nil ?_
  refine au_then ?_
  refine wp_ret ?_
  exact bodyPost_ret (v := .int .u64 (uo (sl x 63) (sr x 1))) (results_tmp1 Tryd.results46 _ _ _ (by kernel_rfl)) (by kernel_rfl) ⟨rfl, below_grown M.old⟩

set_option maxRecDepth 100000 in
set_option maxHeartbeats 4000000 in
theorem c_by1 (x : Int) (g : Nat) (w : World) (hL : Laid w) (hg : w.heap[g]? = some (.cells (av 1 (fun _ => .int .u64 x)) 25)) :
    Calls Tryd.prog 45 #[.int .i64 1, .pointer (some ⟨g, 0, none⟩)] w fun r w' => r = .returned (.int .u64 (rot x 1)) ∧ Below w.heap.size w w' := by
  go_enter Tryd.func45, Tryd.ntmps45
  have M := Mem.start hL
  refine wp_seq ?_
  refine rg_lit ?_
  refine pl_val (want_no rfl) (some 3) rfl (.int .u64 0) (fun _ => by kernel_rfl) ?_
  refine pl_nil ?_
  refine au_then ?_
  refine wp_seq ?_
  refine rg_lit ?_
  refine pl_cell M (want_no rfl) (some 4) rfl 25 _ rfl g 0 (by kernel_rfl) (.int .u64 x) (fun _ => by kernel_rfl) (fun w M => M.oldc (cell_av hg (by decide)) (by simp)) ?_
  refine pl_val (want_no rfl) (some 5) rfl (.int .i64 1) (fun _ => by kernel_rfl) ?_
  refine pl_val (want_no rfl) (some 6) rfl (.int .i64 (-1)) (fun _ => by kernel_rfl) ?_
  refine pl_call M (want_no rfl) (some 7) rfl 46 #[.int .u64 x, .int .i64 (-1)] (.int .u64 (rot x 1)) (fun _ => by kernel_rfl) (fun w M => c_rl1 x w M.laid) ?_
  intro u1 M
  refine pl_val (want_no rfl) (some 3) rfl (.int .u64 (rot x 1)) (fun _ => by kernel_rfl) ?_
  refine pl_nil ?_
  refine au_then ?_
  refine wp_ret ?_
  exact bodyPost_ret (v := .int .u64 (rot x 1)) (results_tmp1 Tryd.results45 _ _ _ (by kernel_rfl)) (by kernel_rfl) ⟨rfl, below_grown M.old⟩

set_option maxRecDepth 100000 in
set_option maxHeartbeats 4000000 in
theorem c_rl8 (x : Int) (w : World) (hL : Laid w)  :
    Calls Tryd.prog 46 #[.int .u64 x, .int .i64 (-8)] w fun r w' => r = .returned (.int .u64 (rot x 8)) ∧ Below w.heap.size w w' := by
  go_enter Tryd.func46, Tryd.ntmps46
  have M := Mem.start hL
  refine wp_seq ?_
  refine rg_lit ?_
  refine pl_val (want_no rfl) (some 4) rfl (.int .u64 0) (fun _ => by kernel_rfl) ?_
  refine pl_nil ?_
  refine au_then ?_
  refine wp_seq ?_
  refine rg_lit ?_
  refine pl_val (want_no rfl) (some 6) rfl (.int .i64 (-8)) (fun _ => by kernel_rfl) ?_
  refine pl_val (want_no rfl) (some 7) rfl (.int .u64 18446744073709551608) (fun _ => by kernel_rfl) ?_
  refine pl_val (want_no rfl) (some 8) rfl (.int .u64 56) (fun _ => by kernel_rfl) ?_
  refine pl_val (want_no rfl) (some 5) rfl (.int .u64 56) (fun _ => by kernel_rfl) ?_
  refine pl_nil ?_
  refine au_then ?_
  refine wp_seq ?_
  refine rg_lit ?_
  refine pl_val (want_no rfl) (some 9) rfl (.int .u64 x) (fun _ => by kernel_rfl) ?_
  refine pl_val (want_no rfl) (some 10) rfl (.int .u64 56) (fun _ => by kernel_rfl) ?_
  refine pl_val (want_no rfl) (some 11) rfl (.int .u64 (sl x 56)) (fun _ => by kernel_rfl) ?_
  refine pl_val (want_no rfl) (some 12) rfl (.int .u64 x) (fun _ => by kernel_rfl) ?_
  refine pl_val (want_no rfl) (some 13) rfl (.int .u64 56) (fun _ => by kernel_rfl) ?_
  refine pl_val (want_no rfl) (some 14) rfl (.int .u64 8) (fun _ => by kernel_rfl) ?_
  refine pl_val (want_no rfl) (some 15) rfl (.int .u64 (sr x 8)) (fun _ => by kernel_rfl) ?_
  refine pl_val (want_no rfl) (some 16) rfl (.int .u64 (uo (sl x 56) (sr x 8))) (fun _ => by kernel_rfl) ?_
  refine pl_val (want_no rfl) (some 4) rfl (.int .u64 (uo (sl x 56) (sr x 8))) (fun _ => by kernel_rfl) ?_
  refine pl_nil ?_
  refine au_then ?_
  refine wp_ret ?_
  exact bodyPost_ret (v := .int .u64 (uo (sl x 56) (sr x 8))) (results_tmp1 Tryd.results46 _ _ _ (by kernel_rfl)) (by kernel_rfl) ⟨rfl, below_grown M.old⟩

set_option maxRecDepth 100000 in
set_option maxHeartbeats 4000000 in
theorem c_by8 (x : Int) (g : Nat) (w : World) (hL : Laid w) (hg : w.heap[g]? = some (.cells (av 1 (fun _ => .int .u64 x)) 25)) :
    Calls Tryd.prog 45 #[.int .i64 8, .pointer (some ⟨g, 0, none⟩)] w fun r w' => r = .returned (.int .u64 (rot x 8)) ∧ Below w.heap.size w w' := by
  go_enter Tryd.func45, Tryd.ntmps45
  have M := Mem.start hL
  refine wp_seq ?_
  refine rg_lit ?_
  refine pl_val (want_no rfl) (some 3) rfl (.int .u64 0) (fun _ => by kernel_rfl) ?_
  refine pl_nil ?_
  refine au_then ?_
  refine wp_seq ?_
  refine rg_lit ?_
  refine pl_cell M (want_no rfl) (some 4) rfl 25 _ rfl g 0 (by kernel_rfl) (.int .u64 x) (fun _ => by kernel_rfl) (fun w M => M.oldc (cell_av hg (by decide)) (by simp)) ?_
  refine pl_val (want_no rfl) (some 5) rfl (.int .i64 8) (fun _ => by kernel_rfl) ?_
  refine pl_val (want_no rfl) (some 6) rfl (.int .i64 (-8)) (fun _ => by kernel_rfl) ?_
  refine pl_call M (want_no rfl) (some 7) rfl 46 #[.int .u64 x, .int .i64 (-8)] (.int .u64 (rot x 8)) (fun _ => by kernel_rfl) (fun w M => c_rl8 x w M.laid) ?_
  intro u1 M
  refine pl_val (want_no rfl) (some 3) rfl (.int .u64 (rot x 8)) (fun _ => by kernel_rfl) ?_
  refine pl_nil ?_
  refine au_then ?_
  refine wp_ret ?_
  exact bodyPost_ret (v := .int .u64 (rot x 8)) (results_tmp1 Tryd.results45 _ _ _ (by kernel_rfl)) (by kernel_rfl) ⟨rfl, below_grown M.old⟩

set_option maxRecDepth 100000 in
set_option maxHeartbeats 4000000 in
theorem c_rl19 (x : Int) (w : World) (hL : Laid w)  :
    Calls Tryd.prog 46 #[.int .u64 x, .int .i64 (-19)] w fun r w' => r = .returned (.int .u64 (rot x 19)) ∧ Below w.heap.size w w' := by
  go_enter Tryd.func46, Tryd.ntmps46
  have M := Mem.start hL
  refine wp_seq ?_
  refine rg_lit ?_
  refine pl_val (want_no rfl) (some 4) rfl (.int .u64 0) (fun _ => by kernel_rfl) ?_
  refine pl_nil ?_
  refine au_then ?_
  refine wp_seq ?_
  refine rg_lit ?_
  refine pl_val (want_no rfl) (some 6) rfl (.int .i64 (-19)) (fun _ => by kernel_rfl) ?_
  refine pl_val (want_no rfl) (some 7) rfl (.int .u64 18446744073709551597) (fun _ => by kernel_rfl) ?_
  refine pl_val (want_no rfl) (some 8) rfl (.int .u64 45) (fun _ => by kernel_rfl) ?_
  refine pl_val (want_no rfl) (some 5) rfl (.int .u64 45) (fun _ => by kernel_rfl) ?_
  refine pl_nil ?_
  refine au_then ?_
  refine wp_seq ?_
  refine rg_lit ?_
  refine pl_val (want_no rfl) (some 9) rfl (.int .u64 x) (fun _ => by kernel_rfl) ?_
  refine pl_val (want_no rfl) (some 10) rfl (.int .u64 45) (fun _ => by kernel_rfl) ?_
  refine pl_val (want_no rfl) (some 11) rfl (.int .u64 (sl x 45)) (fun _ => by kernel_rfl) ?_
  refine pl_val (want_no rfl) (some 12) rfl (.int .u64 x) (fun _ => by kernel_rfl) ?_
  refine pl_val (want_no rfl) (some 13) rfl (.int .u64 45) (fun _ => by kernel_rfl) ?_
  refine pl_val (want_no rfl) (some 14) rfl (.int .u64 19) (fun _ => by kernel_rfl) ?_
  refine pl_val (want_no rfl) (some 15) rfl (.int .u64 (sr x 19)) (fun _ => by kernel_rfl) ?_
  refine pl_val (want_no rfl) (some 16) rfl (.int .u64 (uo (sl x 45) (sr x 19))) (fun _ => by kernel_rfl) ?_
  refine pl_val (want_no rfl) (some 4) rfl (.int .u64 (uo (sl x 45) (sr x 19))) (fun _ => by kernel_rfl) ?_
  refine pl_nil ?_
  refine au_then ?_
  refine wp_ret ?_
  exact bodyPost_ret (v := .int .u64 (uo (sl x 45) (sr x 19))) (results_tmp1 Tryd.results46 _ _ _ (by kernel_rfl)) (by kernel_rfl) ⟨rfl, below_grown M.old⟩

set_option maxRecDepth 100000 in
set_option maxHeartbeats 4000000 in
theorem c_by19 (x : Int) (g : Nat) (w : World) (hL : Laid w) (hg : w.heap[g]? = some (.cells (av 1 (fun _ => .int .u64 x)) 25)) :
    Calls Tryd.prog 45 #[.int .i64 19, .pointer (some ⟨g, 0, none⟩)] w fun r w' => r = .returned (.int .u64 (rot x 19)) ∧ Below w.heap.size w w' := by
  go_enter Tryd.func45, Tryd.ntmps45
  have M := Mem.start hL
  refine wp_seq ?_
  refine rg_lit ?_
  refine pl_val (want_no rfl) (some 3) rfl (.int .u64 0) (fun _ => by kernel_rfl) ?_
  refine pl_nil ?_
  refine au_then ?_
  refine wp_seq ?_
  refine rg_lit ?_
  refine pl_cell M (want_no rfl) (some 4) rfl 25 _ rfl g 0 (by kernel_rfl) (.int .u64 x) (fun _ => by kernel_rfl) (fun w M => M.oldc (cell_av hg (by decide)) (by simp)) ?_
  refine pl_val (want_no rfl) (some 5) rfl (.int .i64 19) (fun _ => by kernel_rfl) ?_
  refine pl_val (want_no rfl) (some 6) rfl (.int .i64 (-19)) (fun _ => by kernel_rfl) ?_
  refine pl_call M (want_no rfl) (some 7) rfl 46 #[.int .u64 x, .int .i64 (-19)] (.int .u64 (rot x 19)) (fun _ => by kernel_rfl) (fun w M => c_rl19 x w M.laid) ?_
  intro u1 M
  refine pl_val (want_no rfl) (some 3) rfl (.int .u64 (rot x 19)) (fun _ => by kernel_rfl) ?_
  refine pl_nil ?_
  refine au_then ?_
  refine wp_ret ?_
  exact bodyPost_ret (v := .int .u64 (rot x 19)) (results_tmp1 Tryd.results45 _ _ _ (by kernel_rfl)) (by kernel_rfl) ⟨rfl, below_grown M.old⟩

set_option maxRecDepth 100000 in
set_option maxHeartbeats 4000000 in
theorem c_rl61 (x : Int) (w : World) (hL : Laid w)  :
    Calls Tryd.prog 46 #[.int .u64 x, .int .i64 (-61)] w fun r w' => r = .returned (.int .u64 (rot x 61)) ∧ Below w.heap.size w w' := by
  go_enter Tryd.func46, Tryd.ntmps46
  have M := Mem.start hL
  refine wp_seq ?_
  refine rg_lit ?_
  refine pl_val (want_no rfl) (some 4) rfl (.int .u64 0) (fun _ => by kernel_rfl) ?_
  refine pl_nil ?_
  refine au_then ?_
  refine wp_seq ?_
  refine rg_lit ?_
  refine pl_val (want_no rfl) (some 6) rfl (.int .i64 (-61)) (fun _ => by kernel_rfl) ?_
  refine pl_val (want_no rfl) (some 7) rfl (.int .u64 18446744073709551555) (fun _ => by kernel_rfl) ?_
  refine pl_val (want_no rfl) (some 8) rfl (.int .u64 3) (fun _ => by kernel_rfl) ?_
  refine pl_val (want_no rfl) (some 5) rfl (.int .u64 3) (fun _ => by kernel_rfl) ?_
  refine pl_nil ?_
  refine au_then ?_
  refine wp_seq ?_
  refine rg_lit ?_
  refine pl_val (want_no rfl) (some 9) rfl (.int .u64 x) (fun _ => by kernel_rfl) ?_
  refine pl_val (want_no rfl) (some 10) rfl (.int .u64 3) (fun _ => by kernel_rfl) ?_
  refine pl_val (want_no rfl) (some 11) rfl (.int .u64 (sl x 3)) (fun _ => by kernel_rfl) ?_
  refine pl_val (want_no rfl) (some 12) rfl (.int .u64 x) (fun _ => by kernel_rfl) ?_
  refine pl_val (want_no rfl) (some 13) rfl (.int .u64 3) (fun _ => by kernel_rfl) ?_
  refine pl_val (want_no rfl) (some 14) rfl (.int .u64 61) (fun _ => by kernel_rfl) ?_
  refine pl_val (want_no rfl) (some 15) rfl (.int .u64 (sr x 61)) (fun _ => by kernel_rfl) ?_
  refine pl_val (want_no rfl) (some 16) rfl (.int .u64 (uo (sl x 3) (sr x 61))) (fun _ => by kernel_rfl) ?_
  refine pl_val (want_no rfl) (some 4) rfl (.int .u64 (uo (sl x 3) (sr x 61))) (fun _ => by kernel_rfl) ?_
  refine pl_nil ?_
  refine au_then ?_
  refine wp_ret ?_
  exact bodyPost_ret (v := .int .u64 (uo (sl x 3) (sr x 61))) (results_tmp1 Tryd.results46 _ _ _ (by kernel_rfl)) (by kernel_rfl) ⟨rfl, below_grown M.old⟩

set_option maxRecDepth 100000 in
set_option maxHeartbeats 4000000 in
theorem c_by61 (x : Int) (g : Nat) (w : World) (hL : Laid w) (hg : w.heap[g]? = some (.cells (av 1 (fun _ => .int .u64 x)) 25)) :
    Calls Tryd.prog 45 #[.int .i64 61, .pointer (some ⟨g, 0, none⟩)] w fun r w' => r = .returned (.int .u64 (rot x 61)) ∧ Below w.heap.size w w' := by
  go_enter Tryd.func45, Tryd.ntmps45
  have M := Mem.start hL
  refine wp_seq ?_
  refine rg_lit ?_
  refine pl_val (want_no rfl) (some 3) rfl (.int .u64 0) (fun _ => by kernel_rfl) ?_
  refine pl_nil ?_
  refine au_then ?_
  refine wp_seq ?_
  refine rg_lit ?_
  refine pl_cell M (want_no rfl) (some 4) rfl 25 _ rfl g 0 (by kernel_rfl) (.int .u64 x) (fun _ => by kernel_rfl) (fun w M => M.oldc (cell_av hg (by decide)) (by simp)) ?_
  refine pl_val (want_no rfl) (some 5) rfl (.int .i64 61) (fun _ => by kernel_rfl) ?_
  refine pl_val (want_no rfl) (some 6) rfl (.int .i64 (-61)) (fun _ => by kernel_rfl) ?_
  refine pl_call M (want_no rfl) (some 7) rfl 46 #[.int .u64 x, .int .i64 (-61)] (.int .u64 (rot x 61)) (fun _ => by kernel_rfl) (fun w M => c_rl61 x w M.laid) ?_
  intro u1 M
  refine pl_val (want_no rfl) (some 3) rfl (.int .u64 (rot x 61)) (fun _ => by kernel_rfl) ?_
  refine pl_nil ?_
  refine au_then ?_
  refine wp_ret ?_
  exact bodyPost_ret (v := .int .u64 (rot x 61)) (results_tmp1 Tryd.results45 _ _ _ (by kernel_rfl)) (by kernel_rfl) ⟨rfl, below_grown M.old⟩

set_option maxRecDepth 100000 in
set_option maxHeartbeats 4000000 in
theorem c_rl14 (x : Int) (w : World) (hL : Laid w)  :
    Calls Tryd.prog 46 #[.int .u64 x, .int .i64 (-14)] w fun r w' => r = .returned (.int .u64 (rot x 14)) ∧ Below w.heap.size w w' := by
  go_enter Tryd.func46, Tryd.ntmps46
  have M := Mem.start hL
  refine wp_seq ?_
  refine rg_lit ?_
  refine pl_val (want_no rfl) (some 4) rfl (.int .u64 0) (fun _ => by kernel_rfl) ?_
  refine pl_nil ?_
  refine au_then ?_
  refine wp_seq ?_
  refine rg_lit ?_
  refine pl_val (want_no rfl) (some 6) rfl (.int .i64 (-14)) (fun _ => by kernel_rfl) ?_
  refine pl_val (want_no rfl) (some 7) rfl (.int .u64 18446744073709551602) (fun _ => by kernel_rfl) ?_
  refine pl_val (want_no rfl) (some 8) rfl (.int .u64 50) (fun _ => by kernel_rfl) ?_
  refine pl_val (want_no rfl) (some 5) rfl (.int .u64 50) (fun _ => by kernel_rfl) ?_
  refine pl_nil ?_
  refine au_then ?_
  refine wp_seq ?_
  refine rg_lit ?_
  refine pl_val (want_no rfl) (some 9) rfl (.int .u64 x) (fun _ => by kernel_rfl) ?_
  refine pl_val (want_no rfl) (some 10) rfl (.int .u64 50) (fun _ => by kernel_rfl) ?_
  refine pl_val (want_no rfl) (some 11) rfl (.int .u64 (sl x 50)) (fun _ => by kernel_rfl) ?_
  refine pl_val (want_no rfl) (some 12) rfl (.int .u64 x) (fun _ => by kernel_rfl) ?_
  refine pl_val (want_no rfl) (some 13) rfl (.int .u64 50) (fun _ => by kernel_rfl) ?_
  refine pl_val (want_no rfl) (some 14) rfl (.int .u64 14) (fun _ => by kernel_rfl) ?_
  refine pl_val (want_no rfl) (some 15) rfl (.int .u64 (sr x 14)) (fun _ => by kernel_rfl) ?_
  refine pl_val (want_no rfl) (some 16) rfl (.int .u64 (uo (sl x 50) (sr x 14))) (fun _ => by kernel_rfl) ?_
  refine pl_val (want_no rfl) (some 4) rfl (.int .u64 (uo (sl x 50) (sr x 14))) (fun _ => by kernel_rfl) ?_
  refine pl_nil ?_
  refine au_then ?_
  refine wp_ret ?_
  exact bodyPost_ret (v := .int .u64 (uo (sl x 50) (sr x 14))) (results_tmp1 Tryd.results46 _ _ _ (by kernel_rfl)) (by kernel_rfl) ⟨rfl, below_grown M.old⟩

set_option maxRecDepth 100000 in
set_option maxHeartbeats 4000000 in
theorem c_by14 (x : Int) (g : Nat) (w : World) (hL : Laid w) (hg : w.heap[g]? = some (.cells (av 1 (fun _ => .int .u64 x)) 25)) :
    Calls Tryd.prog 45 #[.int .i64 14, .pointer (some ⟨g, 0, none⟩)] w fun r w' => r = .returned (.int .u64 (rot x 14)) ∧ Below w.heap.size w w' := by
  go_enter Tryd.func45, Tryd.ntmps45
  have M := Mem.start hL
  refine wp_seq ?_
  refine rg_lit ?_
  refine pl_val (want_no rfl) (some 3) rfl (.int .u64 0) (fun _ => by kernel_rfl) ?_
  refine pl_nil ?_
  refine au_then ?_
  refine wp_seq ?_
  refine rg_lit ?_
  refine pl_cell M (want_no rfl) (some 4) rfl 25 _ rfl g 0 (by kernel_rfl) (.int .u64 x) (fun _ => by kernel_rfl) (fun w M => M.oldc (cell_av hg (by decide)) (by simp)) ?_
  refine pl_val (want_no rfl) (some 5) rfl (.int .i64 14) (fun _ => by kernel_rfl) ?_
  refine pl_val (want_no rfl) (some 6) rfl (.int .i64 (-14)) (fun _ => by kernel_rfl) ?_
  refine pl_call M (want_no rfl) (some 7) rfl 46 #[.int .u64 x, .int .i64 (-14)] (.int .u64 (rot x 14)) (fun _ => by kernel_rfl) (fun w M => c_rl14 x w M.laid) ?_
  intro u1 M
  refine pl_val (want_no rfl) (some 3) rfl (.int .u64 (rot x 14)) (fun _ => by kernel_rfl) ?_
  refine pl_nil ?_
  refine au_then ?_
  refine wp_ret ?_
  exact bodyPost_ret (v := .int .u64 (rot x 14)) (results_tmp1 Tryd.results45 _ _ _ (by kernel_rfl)) (by kernel_rfl) ⟨rfl, below_grown M.old⟩

set_option maxRecDepth 100000 in
set_option maxHeartbeats 4000000 in
theorem c_rl18 (x : Int) (w : World) (hL : Laid w)  :
    Calls Tryd.prog 46 #[.int .u64 x, .int .i64 (-18)] w fun r w' => r = .returned (.int .u64 (rot x 18)) ∧ Below w.heap.size w w' := by
  go_enter Tryd.func46, Tryd.ntmps46
  have M := Mem.start hL
  refine wp_seq ?_
  refine rg_lit ?_
  refine pl_val (want_no rfl) (some 4) rfl (.int .u64 0) (fun _ => by kernel_rfl) ?_
  refine pl_nil ?_
  refine au_then ?_
  refine wp_seq ?_
  refine rg_lit ?_
  refine pl_val (want_no rfl) (some 6) rfl (.int .i64 (-18)) (fun _ => by kernel_rfl) ?_
  refine pl_val (want_no rfl) (some 7) rfl (.int .u64 18446744073709551598) (fun _ => by kernel_rfl) ?_
  refine pl_val (want_no rfl) (some 8) rfl (.int .u64 46) (fun _ => by kernel_rfl) ?_
  refine pl_val (want_no rfl) (some 5) rfl (.int .u64 46) (fun _ => by kernel_rfl) ?_
  refine pl_nil ?_
  refine au_then ?_
  refine wp_seq ?_
  refine rg_lit ?_
  refine pl_val (want_no rfl) (some 9) rfl (.int .u64 x) (fun _ => by kernel_rfl) ?_
  refine pl_val (want_no rfl) (some 10) rfl (.int .u64 46) (fun _ => by kernel_rfl) ?_
  refine pl_val (want_no rfl) (some 11) rfl (.int .u64 (sl x 46)) (fun _ => by kernel_rfl) ?_
  refine pl_val (want_no rfl) (some 12) rfl (.int .u64 x) (fun _ => by kernel_rfl) ?_
  refine pl_val (want_no rfl) (some 13) rfl (.int .u64 46) (fun _ => by kernel_rfl) ?_
  refine pl_val (want_no rfl) (some 14) rfl (.int .u64 18) (fun _ => by kernel_rfl) ?_
  refine pl_val (want_no rfl) (some 15) rfl (.int .u64 (sr x 18)) (fun _ => by kernel_rfl) ?_
  refine pl_val (want_no rfl) (some 16) rfl (.int .u64 (uo (sl x 46) (sr x 18))) (fun _ => by kernel_rfl) ?_
  refine pl_val (want_no rfl) (some 4) rfl (.int .u64 (uo (sl x 46) (sr x 18))) (fun _ => by kernel_rfl) ?_
  refine pl_nil ?_
  refine au_then ?_
  refine wp_ret ?_
  exact bodyPost_ret (v := .int .u64 (uo (sl x 46) (sr x 18))) (results_tmp1 Tryd.results46 _ _ _ (by kernel_rfl)) (by kernel_rfl) ⟨rfl, below_grown M.old⟩

set_option maxRecDepth 100000 in
set_option maxHeartbeats 4000000 in
theorem c_by18 (x : Int) (g : Nat) (w : World) (hL : Laid w) (hg : w.heap[g]? = some (.cells (av 1 (fun _ => .int .u64 x)) 25)) :
    Calls Tryd.prog 45 #[.int .i64 18, .pointer (some ⟨g, 0, none⟩)] w fun r w' => r = .returned (.int .u64 (rot x 18)) ∧ Below w.heap.size w w' := by
  go_enter Tryd.func45, Tryd.ntmps45
  have M := Mem.start hL
  refine wp_seq ?_
  refine rg_lit ?_
  refine pl_val (want_no rfl) (some 3) rfl (.int .u64 0) (fun _ => by kernel_rfl) ?_
  refine pl_nil ?_
  refine au_then ?_
  refine wp_seq ?_
  refine rg_lit ?_
  refine pl_cell M (want_no rfl) (some 4) rfl 25 _ rfl g 0 (by kernel_rfl) (.int .u64 x) (fun _ => by kernel_rfl) (fun w M => M.oldc (cell_av hg (by decide)) (by simp)) ?_
  refine pl_val (want_no rfl) (some 5) rfl (.int .i64 18) (fun _ => by kernel_rfl) ?_
  refine pl_val (want_no rfl) (some 6) rfl (.int .i64 (-18)) (fun _ => by kernel_rfl) ?_
  refine pl_call M (want_no rfl) (some 7) rfl 46 #[.int .u64 x, .int .i64 (-18)] (.int .u64 (rot x 18)) (fun _ => by kernel_rfl) (fun w M => c_rl18 x w M.laid) ?_
  intro u1 M
  refine pl_val (want_no rfl) (some 3) rfl (.int .u64 (rot x 18)) (fun _ => by kernel_rfl) ?_
  refine pl_nil ?_
  refine au_then ?_
  refine wp_ret ?_
  exact bodyPost_ret (v := .int .u64 (rot x 18)) (results_tmp1 Tryd.results45 _ _ _ (by kernel_rfl)) (by kernel_rfl) ⟨rfl, below_grown M.old⟩

set_option maxRecDepth 100000 in
set_option maxHeartbeats 4000000 in
theorem c_rl41 (x : Int) (w : World) (hL : Laid w)  :
    Calls Tryd.prog 46 #[.int .u64 x, .int .i64 (-41)] w fun r w' => r = .returned (.int .u64 (rot x 41)) ∧ Below w.heap.size w w' := by
  go_enter Tryd.func46, Tryd.ntmps46
  have M := Mem.start hL
  refine wp_seq ?_
  refine rg_lit ?_
  refine pl_val (want_no rfl) (some 4) rfl (.int .u64 0) (fun _ => by kernel_rfl) ?_
  refine pl_nil ?_
  refine au_then ?_
  refine wp_seq ?_
  refine rg_lit ?_
  refine pl_val (want_no rfl) (some 6) rfl (.int .i64 (-41)) (fun _ => by kernel_rfl) ?_
  refine pl_val (want_no rfl) (some 7) rfl (.int .u64 18446744073709551575) (fun _ => by kernel_rfl) ?_
  refine pl_val (want_no rfl) (some 8) rfl (.int .u64 23) (fun _ => by kernel_rfl) ?_
  refine pl_val (want_no rfl) (some 5) rfl (.int .u64 23) (fun _ => by kernel_rfl) ?_
  refine pl_nil ?_
  refine au_then ?_
  refine wp_seq ?_
  refine rg_lit ?_
  refine pl_val (want_no rfl) (some 9) rfl (.int .u64 x) (fun _ => by kernel_rfl) ?_
  refine pl_val (want_no rfl) (some 10) rfl (.int .u64 23) (fun _ => by kernel_rfl) ?_
  refine pl_val (want_no rfl) (some 11) rfl (.int .u64 (sl x 23)) (fun _ => by kernel_rfl) ?_
  refine pl_val (want_no rfl) (some 12) rfl (.int .u64 x) (fun _ => by kernel_rfl) ?_
  refine pl_val (want_no rfl) (some 13) rfl (.int .u64 23) (fun _ => by kernel_rfl) ?_
  refine pl_val (want_no rfl) (some 14) rfl (.int .u64 41) (fun _ => by kernel_rfl) ?_
  refine pl_val (want_no rfl) (some 15) rfl (.int .u64 (sr x 41)) (fun _ => by kernel_rfl) ?_
  refine pl_val (want_no rfl) (some 16) rfl (.int .u64 (uo (sl x 23) (sr x 41))) (fun _ => by kernel_rfl) ?_
  refine pl_val (want_no rfl) (some 4) rfl (.int .u64 (uo (sl x 23) (sr x 41))) (fun _ => by kernel_rfl) ?_
  refine pl_nil ?_
  refine au_then ?_
  refine wp_ret ?_
  exact bodyPost_ret (v := .int .u64 (uo (sl x 23) (sr x 41))) (results_tmp1 Tryd.results46 _ _ _ (by kernel_rfl)) (by kernel_rfl) ⟨rfl, below_grown M.old⟩

set_option maxRecDepth 100000 in
set_option maxHeartbeats 4000000 in
theorem c_by41 (x : Int) (g : Nat) (w : World) (hL : Laid w) (hg : w.heap[g]? = some (.cells (av 1 (fun _ => .int .u64 x)) 25)) :
    Calls Tryd.prog 45 #[.int .i64 41, .pointer (some ⟨g, 0, none⟩)] w fun r w' => r = .returned (.int .u64 (rot x 41)) ∧ Below w.heap.size w w' := by
  go_enter Tryd.func45, Tryd.ntmps45
  have M := Mem.start hL
  refine wp_seq ?_
  refine rg_lit ?_
  refine pl_val (want_no rfl) (some 3) rfl (.int .u64 0) (fun _ => by kernel_rfl) ?_
  refine pl_nil ?_
  refine au_then ?_
  refine wp_seq ?_
  refine rg_lit ?_
  refine pl_cell M (want_no rfl) (some 4) rfl 25 _ rfl g 0 (by kernel_rfl) (.int .u64 x) (fun _ => by kernel_rfl) (fun w M => M.oldc (cell_av hg (by decide)) (by simp)) ?_
  refine pl_val (want_no rfl) (some 5) rfl (.int .i64 41) (fun _ => by kernel_rfl) ?_
  refine pl_val (want_no rfl) (some 6) rfl (.int .i64 (-41)) (fun _ => by kernel_rfl) ?_
  refine pl_call M (want_no rfl) (some 7) rfl 46 #[.int .u64 x, .int .i64 (-41)] (.int .u64 (rot x 41)) (fun _ => by kernel_rfl) (fun w M => c_rl41 x w M.laid) ?_
  intro u1 M
  refine pl_val (want_no rfl) (some 3) rfl (.int .u64 (rot x 41)) (fun _ => by kernel_rfl) ?_
  refine pl_nil ?_
  refine au_then ?_
  refine wp_ret ?_
  exact bodyPost_ret (v := .int .u64 (rot x 41)) (results_tmp1 Tryd.results45 _ _ _ (by kernel_rfl)) (by kernel_rfl) ⟨rfl, below_grown M.old⟩

set_option maxRecDepth 100000 in
set_option maxHeartbeats 4000000 in
theorem c_rl28 (x : Int) (w : World) (hL : Laid w)  :
    Calls Tryd.prog 46 #[.int .u64 x, .int .i64 (-28)] w fun r w' => r = .returned (.int .u64 (rot x 28)) ∧ Below w.heap.size w w' := by
  go_enter Tryd.func46, Tryd.ntmps46
  have M := Mem.start hL
  refine wp_seq ?_
  refine rg_lit ?_
  refine pl_val (want_no rfl) (some 4) rfl (.int .u64 0) (fun _ => by kernel_rfl) ?_
  refine pl_nil ?_
  refine au_then ?_
  refine wp_seq ?_
  refine rg_lit ?_
  refine pl_val (want_no rfl) (some 6) rfl (.int .i64 (-28)) (fun _ => by kernel_rfl) ?_
  refine pl_val (want_no rfl) (some 7) rfl (.int .u64 18446744073709551588) (fun _ => by kernel_rfl) ?_
  refine pl_val (want_no rfl) (some 8) rfl (.int .u64 36) (fun _ => by kernel_rfl) ?_
  refine pl_val (want_no rfl) (some 5) rfl (.int .u64 36) (fun _ => by kernel_rfl) ?_
  refine pl_nil ?_
  refine au_then ?_
  refine wp_seq ?_
  refine rg_lit ?_
  refine pl_val (want_no rfl) (some 9) rfl (.int .u64 x) (fun _ => by kernel_rfl) ?_
  refine pl_val (want_no rfl) (some 10) rfl (.int .u64 36) (fun _ => by kernel_rfl) ?_
  refine pl_val (want_no rfl) (some 11) rfl (.int .u64 (sl x 36)) (fun _ => by kernel_rfl) ?_
  refine pl_val (want_no rfl) (some 12) rfl (.int .u64 x) (fun _ => by kernel_rfl) ?_
  refine pl_val (want_no rfl) (some 13) rfl (.int .u64 36) (fun _ => by kernel_rfl) ?_
  refine pl_val (want_no rfl) (some 14) rfl (.int .u64 28) (fun _ => by kernel_rfl) ?_
  refine pl_val (want_no rfl) (some 15) rfl (.int .u64 (sr x 28)) (fun _ => by kernel_rfl) ?_
  refine pl_val (want_no rfl) (some 16) rfl (.int .u64 (uo (sl x 36) (sr x 28))) (fun _ => by kernel_rfl) ?_
  refine pl_val (want_no rfl) (some 4) rfl (.int .u64 (uo (sl x 36) (sr x 28))) (fun _ => by kernel_rfl) ?_
  refine pl_nil ?_
  refine au_then ?_
  refine wp_ret ?_
  exact bodyPost_ret (v := .int .u64 (uo (sl x 36) (sr x 28))) (results_tmp1 Tryd.results46 _ _ _ (by kernel_rfl)) (by kernel_rfl) ⟨rfl, below_grown M.old⟩

set_option maxRecDepth 100000 in
set_option maxHeartbeats 4000000 in
theorem c_by28 (x : Int) (g : Nat) (w : World) (hL : Laid w) (hg : w.heap[g]? = some (.cells (av 1 (fun _ => .int .u64 x)) 25)) :
    Calls Tryd.prog 45 #[.int .i64 28, .pointer (some ⟨g, 0, none⟩)] w fun r w' => r = .returned (.int .u64 (rot x 28)) ∧ Below w.heap.size w w' := by
  go_enter Tryd.func45, Tryd.ntmps45
  have M := Mem.start hL
  refine wp_seq ?_
  refine rg_lit ?_
  refine pl_val (want_no rfl) (some 3) rfl (.int .u64 0) (fun _ => by kernel_rfl) ?_
  refine pl_nil ?_
  refine au_then ?_
  refine wp_seq ?_
  refine rg_lit ?_
  refine pl_cell M (want_no rfl) (some 4) rfl 25 _ rfl g 0 (by kernel_rfl) (.int .u64 x) (fun _ => by kernel_rfl) (fun w M => M.oldc (cell_av hg (by decide)) (by simp)) ?_
  refine pl_val (want_no rfl) (some 5) rfl (.int .i64 28) (fun _ => by kernel_rfl) ?_
  refine pl_val (want_no rfl) (some 6) rfl (.int .i64 (-28)) (fun _ => by kernel_rfl) ?_
  refine pl_call M (want_no rfl) (some 7) rfl 46 #[.int .u64 x, .int .i64 (-28)] (.int .u64 (rot x 28)) (fun _ => by kernel_rfl) (fun w M => c_rl28 x w M.laid) ?_
  intro u1 M
  refine pl_val (want_no rfl) (some 3) rfl (.int .u64 (rot x 28)) (fun _ => by kernel_rfl) ?_
  refine pl_nil ?_
  refine au_then ?_
  refine wp_ret ?_
  exact bodyPost_ret (v := .int .u64 (rot x 28)) (results_tmp1 Tryd.results45 _ _ _ (by kernel_rfl)) (by kernel_rfl) ⟨rfl, below_grown M.old⟩

set_option maxRecDepth 100000 in
set_option maxHeartbeats 4000000 in
theorem c_rl34 (x : Int) (w : World) (hL : Laid w)  :
    Calls Tryd.prog 46 #[.int .u64 x, .int .i64 (-34)] w fun r w' => r = .returned (.int .u64 (rot x 34)) ∧ Below w.heap.size w w' := by
  go_enter Tryd.func46, Tryd.ntmps46
  have M := Mem.start hL
  refine wp_seq ?_
  refine rg_lit ?_
  refine pl_val (want_no rfl) (some 4) rfl (.int .u64 0) (fun _ => by kernel_rfl) ?_
  refine pl_nil ?_
  refine au_then ?_
  refine wp_seq ?_
  refine rg_lit ?_
  refine pl_val (want_no rfl) (some 6) rfl (.int .i64 (-34)) (fun _ => by kernel_rfl) ?_
  refine pl_val (want_no rfl) (some 7) rfl (.int .u64 18446744073709551582) (fun _ => by kernel_rfl) ?_
  refine pl_val (want_no rfl) (some 8) rfl (.int .u64 30) (fun _ => by kernel_rfl) ?_
  refine pl_val (want_no rfl) (some 5) rfl (.int .u64 30) (fun _ => by kernel_rfl) ?_
  refine pl_nil ?_
  refine au_then ?_
  refine wp_seq ?_
  refine rg_lit ?_
  refine pl_val (want_no rfl) (some 9) rfl (.int .u64 x) (fun _ => by kernel_rfl) ?_
  refine pl_val (want_no rfl) (some 10) rfl (.int .u64 30) (fun _ => by kernel_rfl) ?_
  refine pl_val (want_no rfl) (some 11) rfl (.int .u64 (sl x 30)) (fun _ => by kernel_rfl) ?_
  refine pl_val (want_no rfl) (some 12) rfl (.int .u64 x) (fun _ => by kernel_rfl) ?_
  refine pl_val (want_no rfl) (some 13) rfl (.int .u64 30) (fun _ => by kernel_rfl) ?_
  refine pl_val (want_no rfl) (some 14) rfl (.int .u64 34) (fun _ => by kernel_rfl) ?_
  refine pl_val (want_no rfl) (some 15) rfl (.int .u64 (sr x 34)) (fun _ => by kernel_rfl) ?_
  refine pl_val (want_no rfl) (some 16) rfl (.int .u64 (uo (sl x 30) (sr x 34))) (fun _ => by kernel_rfl) ?_
  refine pl_val (want_no rfl) (some 4) rfl (.int .u64 (uo (sl x 30) (sr x 34))) (fun _ => by kernel_rfl) ?_
  refine pl_nil ?_
  refine au_then ?_
  refine wp_ret ?_
  exact bodyPost_ret (v := .int .u64 (uo (sl x 30) (sr x 34))) (results_tmp1 Tryd.results46 _ _ _ (by kernel_rfl)) (by kernel_rfl) ⟨rfl, below_grown M.old⟩

set_option maxRecDepth 100000 in
set_option maxHeartbeats 4000000 in
theorem c_by34 (x : Int) (g : Nat) (w : World) (hL : Laid w) (hg : w.heap[g]? = some (.cells (av 1 (fun _ => .int .u64 x)) 25)) :
    Calls Tryd.prog 45 #[.int .i64 34, .pointer (some ⟨g, 0, none⟩)] w fun r w' => r = .returned (.int .u64 (rot x 34)) ∧ Below w.heap.size w w' := by
  go_enter Tryd.func45, Tryd.ntmps45
  have M := Mem.start hL
  refine wp_seq ?_
  refine rg_lit ?_
  refine pl_val (want_no rfl) (some 3) rfl (.int .u64 0) (fun _ => by kernel_rfl) ?_
  refine pl_nil ?_
  refine au_then ?_
  refine wp_seq ?_
  refine rg_lit ?_
  refine pl_cell M (want_no rfl) (some 4) rfl 25 _ rfl g 0 (by kernel_rfl) (.int .u64 x) (fun _ => by kernel_rfl) (fun w M => M.oldc (cell_av hg (by decide)) (by simp)) ?_
  refine pl_val (want_no rfl) (some 5) rfl (.int .i64 34) (fun _ => by kernel_rfl) ?_
  refine pl_val (want_no rfl) (some 6) rfl (.int .i64 (-34)) (fun _ => by kernel_rfl) ?_
  refine pl_call M (want_no rfl) (some 7) rfl 46 #[.int .u64 x, .int .i64 (-34)] (.int .u64 (rot x 34)) (fun _ => by kernel_rfl) (fun w M => c_rl34 x w M.laid) ?_
  intro u1 M
  refine pl_val (want_no rfl) (some 3) rfl (.int .u64 (rot x 34)) (fun _ => by kernel_rfl) ?_
  refine pl_nil ?_
  refine au_then ?_
  refine wp_ret ?_
  exact bodyPost_ret (v := .int .u64 (rot x 34)) (results_tmp1 Tryd.results45 _ _ _ (by kernel_rfl)) (by kernel_rfl) ⟨rfl, below_grown M.old⟩

set_option maxRecDepth 100000 in
set_option maxHeartbeats 4000000 in
theorem c_rl39 (x : Int) (w : World) (hL : Laid w)  :
    Calls Tryd.prog 46 #[.int .u64 x, .int .i64 (-39)] w fun r w' => r = .returned (.int .u64 (rot x 39)) ∧ Below w.heap.size w w' := by
  go_enter Tryd.func46, Tryd.ntmps46
  have M := Mem.start hL
  refine wp_seq ?_
  refine rg_lit ?_
  refine pl_val (want_no rfl) (some 4) rfl (.int .u64 0) (fun _ => by kernel_rfl) ?_
  refine pl_nil ?_
  refine au_then ?_
  refine wp_seq ?_
  refine rg_lit ?_
  refine pl_val (want_no rfl) (some 6) rfl (.int .i64 (-39)) (fun _ => by kernel_rfl) ?_
  refine pl_val (want_no rfl) (some 7) rfl (.int .u64 18446744073709551577) (fun _ => by kernel_rfl) ?_
  refine pl_val (want_no rfl) (some 8) rfl (.int .u64 25) (fun _ => by kernel_rfl) ?_
  refine pl_val (want_no rfl) (some 5) rfl (.int .u64 25) (fun _ => by kernel_rfl) ?_
  refine pl_nil ?_
  refine au_then ?_
  refine wp_seq ?_
  refine rg_lit ?_
  refine pl_val (want_no rfl) (some 9) rfl (.int .u64 x) (fun _ => by kernel_rfl) ?_
  refine pl_val (want_no rfl) (some 10) rfl (.int .u64 25) (fun _ => by kernel_rfl) ?_
  refine pl_val (want_no rfl) (some 11) rfl (.int .u64 (sl x 25)) (fun _ => by kernel_rfl) ?_
  refine pl_val (want_no rfl) (some 12) rfl (.int .u64 x) (fun _ => by kernel_rfl) ?_
  refine pl_val (want_no rfl) (some 13) rfl (.int .u64 25) (fun _ => by kernel_rfl) ?_
  refine pl_val (want_no rfl) (some 14) rfl (.int .u64 39) (fun _ => by kernel_rfl) ?_
  refine pl_val (want_no rfl) (some 15) rfl (.int .u64 (sr x 39)) (fun _ => by kernel_rfl) ?_
  refine pl_val (want_no rfl) (some 16) rfl (.int .u64 (uo (sl x 25) (sr x 39))) (fun _ => by kernel_rfl) ?_
  refine pl_val (want_no rfl) (some 4) rfl (.int .u64 (uo (sl x 25) (sr x 39))) (fun _ => by kernel_rfl) ?_
  refine pl_nil ?_
  refine au_then ?_
  refine wp_ret ?_
  exact bodyPost_ret (v := .int .u64 (uo (sl x 25) (sr x 39))) (results_tmp1 Tryd.results46 _ _ _ (by kernel_rfl)) (by kernel_rfl) ⟨rfl, below_grown M.old⟩

set_option maxRecDepth 100000 in
set_option maxHeartbeats 4000000 in
theorem c_by39 (x : Int) (g : Nat) (w : World) (hL : Laid w) (hg : w.heap[g]? = some (.cells (av 1 (fun _ => .int .u64 x)) 25)) :
    Calls Tryd.prog 45 #[.int .i64 39, .pointer (some ⟨g, 0, none⟩)] w fun r w' => r = .returned (.int .u64 (rot x 39)) ∧ Below w.heap.size w w' := by
  go_enter Tryd.func45, Tryd.ntmps45
  have M := Mem.start hL
  refine wp_seq ?_
  refine rg_lit ?_
  refine pl_val (want_no rfl) (some 3) rfl (.int .u64 0) (fun _ => by kernel_rfl) ?_
  refine pl_nil ?_
  refine au_then ?_
  refine wp_seq ?_
  refine rg_lit ?_
  refine pl_cell M (want_no rfl) (some 4) rfl 25 _ rfl g 0 (by kernel_rfl) (.int .u64 x) (fun _ => by kernel_rfl) (fun w M => M.oldc (cell_av hg (by decide)) (by simp)) ?_
  refine pl_val (want_no rfl) (some 5) rfl (.int .i64 39) (fun _ => by kernel_rfl) ?_
  refine pl_val (want_no rfl) (some 6) rfl (.int .i64 (-39)) (fun _ => by kernel_rfl) ?_
  refine pl_call M (want_no rfl) (some 7) rfl 46 #[.int .u64 x, .int .i64 (-39)] (.int .u64 (rot x 39)) (fun _ => by kernel_rfl) (fun w M => c_rl39 x w M.laid) ?_
  intro u1 M
  refine pl_val (want_no rfl) (some 3) rfl (.int .u64 (rot x 39)) (fun _ => by kernel_rfl) ?_
  refine pl_nil ?_
  refine au_then ?_
  refine wp_ret ?_
  exact bodyPost_ret (v := .int .u64 (rot x 39)) (results_tmp1 Tryd.results45 _ _ _ (by kernel_rfl)) (by kernel_rfl) ⟨rfl, below_grown M.old⟩

set_option maxRecDepth 100000 in
set_option maxHeartbeats 4000000 in
theorem c_turner (x : Int) (w : World) (hL : Laid w)  :
    Calls Tryd.prog 42 #[.int .u64 x] w fun r w' => ∃ g, r = .returned (.func (.func 45) #[] #[.pointer (some ⟨g, 0, none⟩)]) ∧ w.heap.size ≤ g ∧ w'.heap[g]? = some (.cells (av 1 (fun _ => .int .u64 x)) 25) ∧ Below w.heap.size w w' := by
  go_enter Tryd.func42, Tryd.ntmps42
  have M := Mem.start hL
  refine wp_seq ?_
  refine rg_lit ?_
  refine pl_new M (want_no rfl) (some 1) rfl (.cells (av 1 (fun _ => .int .u64 x)) 25) (fun _ => by kernel_rfl) ?_
  intro g1 u1 M
  replace M : Mem ⟨w, none⟩ [⟨g1, .cells (av 1 (fun _ => .int .u64 x)) 25⟩] u1 := M
  refine pl_val (want_no rfl) (some 2) rfl (Value.nilFunc) (fun _ => by kernel_rfl) ?_
  refine pl_nil ?_
  refine au_then ?_
  refine wp_seq ?_
  refine rg_lit ?_
  refine pl_val (want_no rfl) (some 3) rfl (.func (.func 45) #[] #[.pointer (some ⟨g1, 0, none⟩)]) (fun _ => by kernel_rfl) ?_
  refine pl_val (want_no rfl) (some 2) rfl (.func (.func 45) #[] #[.pointer (some ⟨g1, 0, none⟩)]) (fun _ => by kernel_rfl) ?_
  refine pl_nil ?_
  refine au_then ?_
  refine wp_ret ?_
  exact bodyPost_ret (v := .func (.func 45) #[] #[.pointer (some ⟨g1, 0, none⟩)]) (results_tmp1 Tryd.results42 _ _ _ (by kernel_rfl)) (by kernel_rfl) ⟨g1, rfl, (M.ge _ (List.mem_singleton.2 rfl)).elim id (fun h => by cases h), M.get 0 rfl, below_grown M.old⟩

set_option maxRecDepth 100000 in
set_option maxHeartbeats 4000000 in
theorem c_thr14 (x : Int) (w : World) (hL : Laid w)  :
    Calls Tryd.prog 36 #[.int .u64 x, .int .i64 14, .int .i64 18, .int .i64 41] w fun r w' => r = .returned (.int .u64 (ux (ux (rot x 14) (rot x 18)) (rot x 41))) ∧ Below w.heap.size w w' := by
  go_enter Tryd.func36, Tryd.ntmps36
  have M := Mem.start hL
  refine wp_seq ?_
  refine rg_lit ?_
  refine pl_val (want_no rfl) (some 8) rfl (.int .u64 0) (fun _ => by kernel_rfl) ?_
  refine pl_nil ?_
  refine au_then ?_
  refine wp_seq ?_
  refine rg_lit ?_
  refine pl_val (want_no rfl) (some 10) rfl (.int .u64 x) (fun _ => by kernel_rfl) ?_
  refine pl_calln M (want_no rfl) (some 11) rfl 42 #[.int .u64 x] (fun g1 => .func (.func 45) #[] #[.pointer (some ⟨g1, 0, none⟩)]) (.cells (av 1 (fun _ => .int .u64 x)) 25) (fun _ => by kernel_rfl) (fun w M => c_turner x w M.laid) ?_
  intro g1 u1 M
  replace M : Mem ⟨w, none⟩ [⟨g1, .cells (av 1 (fun _ => .int .u64 x)) 25⟩] u1 := M
  refine pl_val (want_no rfl) (some 9) rfl (.func (.func 45) #[] #[.pointer (some ⟨g1, 0, none⟩)]) (fun _ => by kernel_rfl) ?_
  refine pl_nil ?_
  refine au_then ?_
  refine wp_seq ?_
  refine rg_lit ?_
  refine pl_val (want_no rfl) (some 12) rfl (.func (.func 45) #[] #[.pointer (some ⟨g1, 0, none⟩)]) (fun _ => by kernel_rfl) ?_
  refine pl_val (want_no rfl) (some 13) rfl (.int .i64 14) (fun _ => by kernel_rfl) ?_
  refine pl_call M (want_no rfl) (some 14) rfl 45 #[.int .i64 14, .pointer (some ⟨g1, 0, none⟩)] (.int .u64 (rot x 14)) (fun _ => by kernel_rfl) (fun w M => c_by14 x g1 w M.laid (M.get 0 rfl)) ?_
  intro u2 M
  refine pl_val (want_no rfl) (some 15) rfl (.func (.func 45) #[] #[.pointer (some ⟨g1, 0, none⟩)]) (fun _ => by kernel_rfl) ?_
  refine pl_val (want_no rfl) (some 16) rfl (.int .i64 18) (fun _ => by kernel_rfl) ?_
  refine pl_call M (want_no rfl) (some 17) rfl 45 #[.int .i64 18, .pointer (some ⟨g1, 0, none⟩)] (.int .u64 (rot x 18)) (fun _ => by kernel_rfl) (fun w M => c_by18 x g1 w M.laid (M.get 0 rfl)) ?_
  intro u3 M
  refine pl_val (want_no rfl) (some 18) rfl (.int .u64 (ux (rot x 14) (rot x 18))) (fun _ => by kernel_rfl) ?_
  refine pl_val (want_no rfl) (some 19) rfl (.func (.func 45) #[] #[.pointer (some ⟨g1, 0, none⟩)]) (fun _ => by kernel_rfl) ?_
  refine pl_val (want_no rfl) (some 20) rfl (.int .i64 41) (fun _ => by kernel_rfl) ?_
  refine pl_call M (want_no rfl) (some 21) rfl 45 #[.int .i64 41, .pointer (some ⟨g1, 0, none⟩)] (.int .u64 (rot x 41)) (fun _ => by kernel_rfl) (fun w M => c_by41 x g1 w M.laid (M.get 0 rfl)) ?_
  intro u4 M
  refine pl_val (want_no rfl) (some 22) rfl (.int .u64 (ux (ux (rot x 14) (rot x 18)) (rot x 41))) (fun _ => by kernel_rfl) ?_
  refine pl_val (want_no rfl) (some 8) rfl (.int .u64 (ux (ux (rot x 14) (rot x 18)) (rot x 41))) (fun _ => by kernel_rfl) ?_
  refine pl_nil ?_
  refine au_then ?_
  refine wp_ret ?_
  exact bodyPost_ret (v := .int .u64 (ux (ux (rot x 14) (rot x 18)) (rot x 41))) (results_tmp1 Tryd.results36 _ _ _ (by kernel_rfl)) (by kernel_rfl) ⟨rfl, below_grown M.old⟩

set_option maxRecDepth 100000 in
set_option maxHeartbeats 4000000 in
theorem c_thr28 (x : Int) (w : World) (hL : Laid w)  :
    Calls Tryd.prog 36 #[.int .u64 x, .int .i64 28, .int .i64 34, .int .i64 39] w fun r w' => r = .returned (.int .u64 (ux (ux (rot x 28) (rot x 34)) (rot x 39))) ∧ Below w.heap.size w w' := by
  go_enter Tryd.func36, Tryd.ntmps36
  have M := Mem.start hL
  refine wp_seq ?_
  refine rg_lit ?_
  refine pl_val (want_no rfl) (some 8) rfl (.int .u64 0) (fun _ => by kernel_rfl) ?_
  refine pl_nil ?_
  refine au_then ?_
  refine wp_seq ?_
  refine rg_lit ?_
  refine pl_val (want_no rfl) (some 10) rfl (.int .u64 x) (fun _ => by kernel_rfl) ?_
  refine pl_calln M (want_no rfl) (some 11) rfl 42 #[.int .u64 x] (fun g1 => .func (.func 45) #[] #[.pointer (some ⟨g1, 0, none⟩)]) (.cells (av 1 (fun _ => .int .u64 x)) 25) (fun _ => by kernel_rfl) (fun w M => c_turner x w M.laid) ?_
  intro g1 u1 M
  replace M : Mem ⟨w, none⟩ [⟨g1, .cells (av 1 (fun _ => .int .u64 x)) 25⟩] u1 := M
  refine pl_val (want_no rfl) (some 9) rfl (.func (.func 45) #[] #[.pointer (some ⟨g1, 0, none⟩)]) (fun _ => by kernel_rfl) ?_
  refine pl_nil ?_
  refine au_then ?_
  refine wp_seq ?_
  refine rg_lit ?_
  refine pl_val (want_no rfl) (some 12) rfl (.func (.func 45) #[] #[.pointer (some ⟨g1, 0, none⟩)]) (fun _ => by kernel_rfl) ?_
  refine pl_val (want_no rfl) (some 13) rfl (.int .i64 28) (fun _ => by kernel_rfl) ?_
  refine pl_call M (want_no rfl) (some 14) rfl 45 #[.int .i64 28, .pointer (some ⟨g1, 0, none⟩)] (.int .u64 (rot x 28)) (fun _ => by kernel_rfl) (fun w M => c_by28 x g1 w M.laid (M.get 0 rfl)) ?_
  intro u2 M
  refine pl_val (want_no rfl) (some 15) rfl (.func (.func 45) #[] #[.pointer (some ⟨g1, 0, none⟩)]) (fun _ => by kernel_rfl) ?_
  refine pl_val (want_no rfl) (some 16) rfl (.int .i64 34) (fun _ => by kernel_rfl) ?_
  refine pl_call M (want_no rfl) (some 17) rfl 45 #[.int .i64 34, .pointer (some ⟨g1, 0, none⟩)] (.int .u64 (rot x 34)) (fun _ => by kernel_rfl) (fun w M => c_by34 x g1 w M.laid (M.get 0 rfl)) ?_
  intro u3 M
  refine pl_val (want_no rfl) (some 18) rfl (.int .u64 (ux (rot x 28) (rot x 34))) (fun _ => by kernel_rfl) ?_
  refine pl_val (want_no rfl) (some 19) rfl (.func (.func 45) #[] #[.pointer (some ⟨g1, 0, none⟩)]) (fun _ => by kernel_rfl) ?_
  refine pl_val (want_no rfl) (some 20) rfl (.int .i64 39) (fun _ => by kernel_rfl) ?_
  refine pl_call M (want_no rfl) (some 21) rfl 45 #[.int .i64 39, .pointer (some ⟨g1, 0, none⟩)] (.int .u64 (rot x 39)) (fun _ => by kernel_rfl) (fun w M => c_by39 x g1 w M.laid (M.get 0 rfl)) ?_
  intro u4 M
  refine pl_val (want_no rfl) (some 22) rfl (.int .u64 (ux (ux (rot x 28) (rot x 34)) (rot x 39))) (fun _ => by kernel_rfl) ?_
  refine pl_val (want_no rfl) (some 8) rfl (.int .u64 (ux (ux (rot x 28) (rot x 34)) (rot x 39))) (fun _ => by kernel_rfl) ?_
  refine pl_nil ?_
  refine au_then ?_
  refine wp_ret ?_
  exact bodyPost_ret (v := .int .u64 (ux (ux (rot x 28) (rot x 34)) (rot x 39))) (results_tmp1 Tryd.results36 _ _ _ (by kernel_rfl)) (by kernel_rfl) ⟨rfl, below_grown M.old⟩

set_option maxRecDepth 100000 in
set_option maxHeartbeats 4000000 in
theorem c_mov1 (x : Int) (w : World) (hL : Laid w)  :
    Calls Tryd.prog 35 #[.int .u64 x, .int .i64 1, .int .i64 8, .int .i64 7] w fun r w' => r = .returned (.int .u64 (ux (ux (rot x 1) (rot x 8)) (sr x 7))) ∧ Below w.heap.size w w' := by
  go_enter Tryd.func35, Tryd.ntmps35
  have M := Mem.start hL
  refine wp_seq ?_
  refine rg_lit ?_
  refine pl_val (want_no rfl) (some 8) rfl (.int .u64 0) (fun _ => by kernel_rfl) ?_
  refine pl_nil ?_
  refine au_then ?_
  refine wp_seq ?_
  refine rg_lit ?_
  refine pl_val (want_no rfl) (some 10) rfl (.int .u64 x) (fun _ => by kernel_rfl) ?_
  refine pl_calln M (want_no rfl) (some 11) rfl 42 #[.int .u64 x] (fun g1 => .func (.func 45) #[] #[.pointer (some ⟨g1, 0, none⟩)]) (.cells (av 1 (fun _ => .int .u64 x)) 25) (fun _ => by kernel_rfl) (fun w M => c_turner x w M.laid) ?_
  intro g1 u1 M
  replace M : Mem ⟨w, none⟩ [⟨g1, .cells (av 1 (fun _ => .int .u64 x)) 25⟩] u1 := M
  refine pl_val (want_no rfl) (some 9) rfl (.func (.func 45) #[] #[.pointer (some ⟨g1, 0, none⟩)]) (fun _ => by kernel_rfl) ?_
  refine pl_nil ?_
  refine au_then ?_
  refine wp_seq ?_
  refine rg_tail M 11 (by kernel_rfl) (by kernel_rfl) ?_
  simp only [List.take_succ_cons, List.take_zero]
  refine k_val (want_no rfl) (some 12) rfl (.func (.func 45) #[] #[.pointer (some ⟨g1, 0, none⟩)]) (fun _ => by kernel_rfl) ?_
  refine k_val (want_no rfl) (some 13) rfl (.int .i64 1) (fun _ => by kernel_rfl) ?_
  refine k_call M (want_no rfl) (some 14) rfl 45 #[.int .i64 1, .pointer (some ⟨g1, 0, none⟩)] (.int .u64 (rot x 1)) (fun _ => by kernel_rfl) (fun w M => c_by1 x g1 w M.laid (M.get 0 rfl)) ?_
  refine k_val (want_no rfl) (some 15) rfl (.func (.func 45) #[] #[.pointer (some ⟨g1, 0, none⟩)]) (fun _ => by kernel_rfl) ?_
  refine k_val (want_no rfl) (some 16) rfl (.int .i64 8) (fun _ => by kernel_rfl) ?_
  refine k_call M (want_no rfl) (some 17) rfl 45 #[.int .i64 8, .pointer (some ⟨g1, 0, none⟩)] (.int .u64 (rot x 8)) (fun _ => by kernel_rfl) (fun w M => c_by8 x g1 w M.laid (M.get 0 rfl)) ?_
  refine k_val (want_no rfl) (some 18) rfl (.int .u64 (ux (rot x 1) (rot x 8))) (fun _ => by kernel_rfl) ?_
  refine k_val (want_no rfl) (some 19) rfl (.int .u64 x) (fun _ => by kernel_rfl) ?_
  refine k_val (want_no rfl) (some 20) rfl (.int .i64 7) (fun _ => by kernel_rfl) ?_
  refine k_val (want_no rfl) (some 21) rfl (.int .u64 (sr x 7)) (fun _ => by kernel_rfl) ?_
  refine k_val (want_no rfl) (some 22) rfl (.int .u64 (ux (ux (rot x 1) (rot x 8)) (sr x 7))) (fun _ => by kernel_rfl) ?_
  refine kl_nil ?_
  intro u2 M
  replace M : Mem ⟨w, none⟩ [⟨g1, .cells (av 1 (fun _ => .int .u64 x)) 25⟩] u2 := M
  refine pl_val (want_no rfl) (some 8) rfl (.int .u64 (ux (ux (rot x 1) (rot x 8)) (sr x 7))) (fun _ => by kernel_rfl) ?_
  refine pl_nil ?_
  refine au_then ?_
  refine wp_ret ?_
  exact bodyPost_ret (v := .int .u64 (ux (ux (rot x 1) (rot x 8)) (sr x 7))) (results_tmp1 Tryd.results35 _ _ _ (by kernel_rfl)) (by kernel_rfl) ⟨rfl, below_grown M.old⟩

set_option maxRecDepth 100000 in
set_option maxHeartbeats 4000000 in
theorem c_mov19 (x : Int) (w : World) (hL : Laid w)  :
    Calls Tryd.prog 35 #[.int .u64 x, .int .i64 19, .int .i64 61, .int .i64 6] w fun r w' => r = .returned (.int .u64 (ux (ux (rot x 19) (rot x 61)) (sr x 6))) ∧ Below w.heap.size w w' := by
  go_enter Tryd.func35, Tryd.ntmps35
  have M := Mem.start hL
  refine wp_seq ?_
  refine rg_lit ?_
  refine pl_val (want_no rfl) (some 8) rfl (.int .u64 0) (fun _ => by kernel_rfl) ?_
  refine pl_nil ?_
  refine au_then ?_
  refine wp_seq ?_
  refine rg_lit ?_
  refine pl_val (want_no rfl) (some 10) rfl (.int .u64 x) (fun _ => by kernel_rfl) ?_
  refine pl_calln M (want_no rfl) (some 11) rfl 42 #[.int .u64 x] (fun g1 => .func (.func 45) #[] #[.pointer (some ⟨g1, 0, none⟩)]) (.cells (av 1 (fun _ => .int .u64 x)) 25) (fun _ => by kernel_rfl) (fun w M => c_turner x w M.laid) ?_
  intro g1 u1 M
  replace M : Mem ⟨w, none⟩ [⟨g1, .cells (av 1 (fun _ => .int .u64 x)) 25⟩] u1 := M
  refine pl_val (want_no rfl) (some 9) rfl (.func (.func 45) #[] #[.pointer (some ⟨g1, 0, none⟩)]) (fun _ => by kernel_rfl) ?_
  refine pl_nil ?_
  refine au_then ?_
  refine wp_seq ?_
  refine rg_tail M 11 (by kernel_rfl) (by kernel_rfl) ?_
  simp only [List.take_succ_cons, List.take_zero]
  refine k_val (want_no rfl) (some 12) rfl (.func (.func 45) #[] #[.pointer (some ⟨g1, 0, none⟩)]) (fun _ => by kernel_rfl) ?_
  refine k_val (want_no rfl) (some 13) rfl (.int .i64 19) (fun _ => by kernel_rfl) ?_
  refine k_call M (want_no rfl) (some 14) rfl 45 #[.int .i64 19, .pointer (some ⟨g1, 0, none⟩)] (.int .u64 (rot x 19)) (fun _ => by kernel_rfl) (fun w M => c_by19 x g1 w M.laid (M.get 0 rfl)) ?_
  refine k_val (want_no rfl) (some 15) rfl (.func (.func 45) #[] #[.pointer (some ⟨g1, 0, none⟩)]) (fun _ => by kernel_rfl) ?_
  refine k_val (want_no rfl) (some 16) rfl (.int .i64 61) (fun _ => by kernel_rfl) ?_
  refine k_call M (want_no rfl) (some 17) rfl 45 #[.int .i64 61, .pointer (some ⟨g1, 0, none⟩)] (.int .u64 (rot x 61)) (fun _ => by kernel_rfl) (fun w M => c_by61 x g1 w M.laid (M.get 0 rfl)) ?_
  refine k_val (want_no rfl) (some 18) rfl (.int .u64 (ux (rot x 19) (rot x 61))) (fun _ => by kernel_rfl) ?_
  refine k_val (want_no rfl) (some 19) rfl (.int .u64 x) (fun _ => by kernel_rfl) ?_
  refine k_val (want_no rfl) (some 20) rfl (.int .i64 6) (fun _ => by kernel_rfl) ?_
  refine k_val (want_no rfl) (some 21) rfl (.int .u64 (sr x 6)) (fun _ => by kernel_rfl) ?_
  refine k_val (want_no rfl) (some 22) rfl (.int .u64 (ux (ux (rot x 19) (rot x 61)) (sr x 6))) (fun _ => by kernel_rfl) ?_
  refine kl_nil ?_
  intro u2 M
  replace M : Mem ⟨w, none⟩ [⟨g1, .cells (av 1 (fun _ => .int .u64 x)) 25⟩] u2 := M
  refine pl_val (want_no rfl) (some 8) rfl (.int .u64 (ux (ux (rot x 19) (rot x 61)) (sr x 6))) (fun _ => by kernel_rfl) ?_
  refine pl_nil ?_
  refine au_then ?_
  refine wp_ret ?_
  exact bodyPost_ret (v := .int .u64 (ux (ux (rot x 19) (rot x 61)) (sr x 6))) (results_tmp1 Tryd.results35 _ _ _ (by kernel_rfl)) (by kernel_rfl) ⟨rfl, below_grown M.old⟩


end Go.Proofs.YtghobmgdadpplaaDoor
