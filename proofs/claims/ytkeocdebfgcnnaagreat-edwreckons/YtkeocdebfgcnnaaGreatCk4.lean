/- Part 4 of the walks and facts behind edwReckons_holds. -/
import Derived.Test.YtkeocdebfgcnnaaGreatCk3
import Derived.Laws.Bits64b
import Derived.Laws.Externs
import Derived.Lib.Mul64
import Derived.Test.YtkeocdebfgcnnaaGreatRows
import Derived.WalkKit
import Derived.WalkLawsBesides
import Derived.WalkSpells
/- doubled, three times, and the document's base point; told by what their callees hand back. -/
namespace Go.Proofs.YtkeocdebfgcnnaaGreat
open Go.RowKit

structure dbl3F (p r1 r2 r3 : Nat → Int) : Prop where
  h1 : ∀ w, Calls Tryz.prog 87 #[.agg (arr 20 p)] w fun r w' => r = .returned (.agg (arr 20 r1)) ∧ Below w.heap.size w w'
  h2 : ∀ w, Calls Tryz.prog 87 #[.agg (arr 20 r1)] w fun r w' => r = .returned (.agg (arr 20 r2)) ∧ Below w.heap.size w w'
  h3 : ∀ w, Calls Tryz.prog 87 #[.agg (arr 20 r2)] w fun r w' => r = .returned (.agg (arr 20 r3)) ∧ Below w.heap.size w w'

set_option maxRecDepth 100000 in
set_option maxHeartbeats 4000000 in
theorem dbl3_gen (p r1 r2 r3 : Nat → Int) (w : World) (F : dbl3F p r1 r2 r3)  :
    Calls Tryz.prog 57 #[.agg (arr 20 p), .int .i64 3] w fun r w' => r = .returned (.agg (arr 20 r3)) ∧ Below w.heap.size w w' := by
  go_enter Tryz.func57, Tryz.ntmps57
  have M := Mem.start w
  refine sr ?_
  refine pl_new M (want_no rfl) (some 2) rfl (.cells (arr 20 p) 27) (fun _ => by kernel_rfl) ?_
  intro g1 w1 M
  replace M : Mem w [⟨g1, .cells (arr 20 p) 27⟩] w1 := M
  refine pl_new M (want_no rfl) (some 4) rfl (.cells (arr 20 (fun _ => 0)) 27) (fun _ => by kernel_rfl) ?_
  intro g2 w2 M
  replace M : Mem w [⟨g1, .cells (arr 20 p) 27⟩, ⟨g2, .cells (arr 20 (fun _ => 0)) 27⟩] w2 := M
  refine nt ?_
  refine wp_seq ?_
  refine sr ?_
  refine pv 5 (.int .i64 3) ?_
  refine pv 6 (.int .i64 0) ?_
  refine nt ?_
  refine wp_block ?_
  refine wp_loop_rounds 4 ?_
  refine rounds_go ?_
  refine sr ?_
  refine pv 7 (.bool true) ?_
  refine nt ?_
  refine wp_seq ?_
  refine wp_cond_true (by kernel_rfl) ?_
  refine wp_skip ?_
  refine au_then ?_
  refine wp_seq ?_
  refine wp_block ?_
  refine rg_lit ?_
  refine pl_load M (want_no rfl) (some 8) rfl 27 _ rfl 0 g1 0 (by kernel_rfl) 20 27 p rfl 20 p (Part.all _ _) (by decide) _ Tryz.underlying27 rfl inz27 ?_
  refine pl_call M (want_no rfl) (some 9) rfl 87 #[.agg (arr 20 p)] (.agg (arr 20 r1)) (fun _ => by kernel_rfl) F.h1 ?_
  intro w3 M
  refine pl_put M (want_no rfl) rfl 27 _ _ rfl 0 g1 (by kernel_rfl) 20 27 p r1 rfl (by kernel_rfl) inz27 ?_
  intro w4 M
  replace M : Mem w [⟨g1, .cells (arr 20 r1) 27⟩, ⟨g2, .cells (arr 20 (fun _ => 0)) 27⟩] w4 := M
  refine pl_nil ?_
  refine au_block ?_
  refine au_then ?_
  refine rg_lit ?_
  refine pv 10 (.int .i64 1) ?_
  refine pv 6 (.int .i64 1) ?_
  refine nt ?_
  refine rounds_go ?_
  refine sr ?_
  refine pv 7 (.bool true) ?_
  refine nt ?_
  refine wp_seq ?_
  refine wp_cond_true (by kernel_rfl) ?_
  refine wp_skip ?_
  refine au_then ?_
  refine wp_seq ?_
  refine wp_block ?_
  refine rg_lit ?_
  refine pl_load M (want_no rfl) (some 8) rfl 27 _ rfl 0 g1 0 (by kernel_rfl) 20 27 r1 rfl 20 r1 (Part.all _ _) (by decide) _ Tryz.underlying27 rfl inz27 ?_
  refine pl_call M (want_no rfl) (some 9) rfl 87 #[.agg (arr 20 r1)] (.agg (arr 20 r2)) (fun _ => by kernel_rfl) F.h2 ?_
  intro w5 M
  refine pl_put M (want_no rfl) rfl 27 _ _ rfl 0 g1 (by kernel_rfl) 20 27 r1 r2 rfl (by kernel_rfl) inz27 ?_
  intro w6 M
  replace M : Mem w [⟨g1, .cells (arr 20 r2) 27⟩, ⟨g2, .cells (arr 20 (fun _ => 0)) 27⟩] w6 := M
  refine pl_nil ?_
  refine au_block ?_
  refine au_then ?_
  refine rg_lit ?_
  refine pv 10 (.int .i64 2) ?_
  refine pv 6 (.int .i64 2) ?_
  refine nt ?_
  refine rounds_go ?_
  refine sr ?_
  refine pv 7 (.bool true) ?_
  refine nt ?_
  refine wp_seq ?_
  refine wp_cond_true (by kernel_rfl) ?_
  refine wp_skip ?_
  refine au_then ?_
  refine wp_seq ?_
  refine wp_block ?_
  refine rg_lit ?_
  refine pl_load M (want_no rfl) (some 8) rfl 27 _ rfl 0 g1 0 (by kernel_rfl) 20 27 r2 rfl 20 r2 (Part.all _ _) (by decide) _ Tryz.underlying27 rfl inz27 ?_
  refine pl_call M (want_no rfl) (some 9) rfl 87 #[.agg (arr 20 r2)] (.agg (arr 20 r3)) (fun _ => by kernel_rfl) F.h3 ?_
  intro w7 M
  refine pl_put M (want_no rfl) rfl 27 _ _ rfl 0 g1 (by kernel_rfl) 20 27 r2 r3 rfl (by kernel_rfl) inz27 ?_
  intro w8 M
  replace M : Mem w [⟨g1, .cells (arr 20 r3) 27⟩, ⟨g2, .cells (arr 20 (fun _ => 0)) 27⟩] w8 := M
  refine pl_nil ?_
  refine au_block ?_
  refine au_then ?_
  refine rg_lit ?_
  refine pv 10 (.int .i64 3) ?_
  refine pv 6 (.int .i64 3) ?_
  refine nt ?_
  refine rounds_go ?_
  refine sr ?_
  refine pv 7 (.bool false) ?_
  refine nt ?_
  refine wp_seq ?_
  refine wp_cond_false (by kernel_rfl) ?_
  refine wp_exit ?_
  refine au_then_exit ?_
  refine au_then_exit ?_
  refine au_block_exit ?_
  refine au_then ?_
  refine sr ?_
  refine pl_load M (want_no rfl) (some 11) rfl 27 _ rfl 0 g1 0 (by kernel_rfl) 20 27 r3 rfl 20 r3 (Part.all _ _) (by decide) _ Tryz.underlying27 rfl inz27 ?_
  refine pl_put M (want_no rfl) rfl 27 _ _ rfl 1 g2 (by kernel_rfl) 20 27 (fun _ => 0) r3 rfl (by kernel_rfl) inz27 ?_
  intro w9 M
  replace M : Mem w [⟨g1, .cells (arr 20 r3) 27⟩, ⟨g2, .cells (arr 20 r3) 27⟩] w9 := M
  refine nt ?_
  refine wp_ret ?_
  exact bodyPost_ret (v := .agg (arr 20 r3)) (results_cell_row Tryz.results57 _ _ g2 27 (arr 20 r3) (0, 0) _ (by kernel_rfl) (M.get 1 rfl) Tryz.underlying27 rfl (by rw [arr_size]; exact inz27)) (by kernel_rfl) ⟨rfl, M.old⟩

structure rbaseF (r1 : Nat → Int) : Prop where
  h1 : ∀ w, Calls Tryz.prog 8 #[.string baseS] w fun r w' => r = .returned (.tuple #[.agg (arr 64 r1), .int .i64 0]) ∧ Below w.heap.size w w'

set_option maxRecDepth 100000 in
set_option maxHeartbeats 4000000 in
theorem rbase_gen (r1 : Nat → Int) (w : World) (F : rbaseF r1)  :
    Calls Tryz.prog 35 #[] w fun r w' => r = .returned (.agg (arr 64 r1)) ∧ Below w.heap.size w w' := by
  go_enter Tryz.func35, Tryz.ntmps35
  have M := Mem.start w
  refine sr ?_
  refine pl_new M (want_no rfl) (some 0) rfl (.cells (arr 64 (fun _ => 0)) 41) (fun _ => by kernel_rfl) ?_
  intro g1 w1 M
  replace M : Mem w [⟨g1, .cells (arr 64 (fun _ => 0)) 41⟩] w1 := M
  refine nt ?_
  refine sr ?_
  refine pl_mk M (want_no rfl) (some 5) rfl (fun g => .slice (some ⟨g, 0, none⟩) 32 32) (.cells (bz 32) 5) (fun _ => by kernel_rfl) ?_
  intro g2 w2 M
  replace M : Mem w [⟨g1, .cells (arr 64 (fun _ => 0)) 41⟩, ⟨g2, .cells (bz 32) 5⟩] w2 := M
  refine pv 1 (.slice (some ⟨g2, 0, none⟩) 32 32) ?_
  refine nt ?_
  refine wp_seq ?_
  refine sr ?_
  refine pv 2 (.int .i64 0) ?_
  refine nt ?_
  refine wp_block ?_
  refine wp_loop_rounds 33 ?_
  refine rounds_go ?_
  refine wp_seq ?_
  refine sr ?_
  refine pv 6 (.int .i64 0) ?_
  refine pv 7 (.bool true) ?_
  refine nt ?_
  refine wp_cond_true (by kernel_rfl) ?_
  refine wp_skip ?_
  refine au_then ?_
  refine wp_seq ?_
  refine wp_block ?_
  refine rg_lit ?_
  refine pv 10 (.slice (some ⟨g2, 0, none⟩) 32 32) ?_
  refine pv 11 (.int .i64 0) ?_
  refine pv 12 (.pointer (some ⟨g2, 0, none⟩)) ?_
  refine pl_storeb M (want_no rfl) rfl 5 _ _ rfl 1 g2 0 (by kernel_rfl) 102 (by kernel_rfl) (.cells (bz 32) 5) rfl 32 (fun _ => 0) (ByZ.zero 32 5) (by decide) inzb ?_
  intro Z1 w3 z1 M
  replace M : Mem w [⟨g1, .cells (arr 64 (fun _ => 0)) 41⟩, ⟨g2, Z1⟩] w3 := M
  refine pl_nil ?_
  refine au_block ?_
  refine au_then ?_
  refine rg_lit ?_
  refine pv 8 (.int .i64 0) ?_
  refine pv 9 (.int .i64 1) ?_
  refine pv 2 (.int .i64 1) ?_
  refine nt ?_
  refine rounds_go ?_
  refine wp_seq ?_
  refine sr ?_
  refine pv 6 (.int .i64 1) ?_
  refine pv 7 (.bool true) ?_
  refine nt ?_
  refine wp_cond_true (by kernel_rfl) ?_
  refine wp_skip ?_
  refine au_then ?_
  refine wp_seq ?_
  refine wp_block ?_
  refine rg_lit ?_
  refine pv 10 (.slice (some ⟨g2, 0, none⟩) 32 32) ?_
  refine pv 11 (.int .i64 1) ?_
  refine pv 12 (.pointer (some ⟨g2, 1, none⟩)) ?_
  refine pl_storeb M (want_no rfl) rfl 5 _ _ rfl 1 g2 1 (by kernel_rfl) 102 (by kernel_rfl) (Z1) rfl 32 (upd (fun _ => 0) 0 102) z1 (by decide) inzb ?_
  intro Z2 w4 z2 M
  replace M : Mem w [⟨g1, .cells (arr 64 (fun _ => 0)) 41⟩, ⟨g2, Z2⟩] w4 := M
  refine pl_nil ?_
  refine au_block ?_
  refine au_then ?_
  refine rg_lit ?_
  refine pv 8 (.int .i64 1) ?_
  refine pv 9 (.int .i64 2) ?_
  refine pv 2 (.int .i64 2) ?_
  refine nt ?_
  refine rounds_go ?_
  refine wp_seq ?_
  refine sr ?_
  refine pv 6 (.int .i64 2) ?_
  refine pv 7 (.bool true) ?_
  refine nt ?_
  refine wp_cond_true (by kernel_rfl) ?_
  refine wp_skip ?_
  refine au_then ?_
  refine wp_seq ?_
  refine wp_block ?_
  refine rg_lit ?_
  refine pv 10 (.slice (some ⟨g2, 0, none⟩) 32 32) ?_
  refine pv 11 (.int .i64 2) ?_
  refine pv 12 (.pointer (some ⟨g2, 2, none⟩)) ?_
  refine pl_storeb M (want_no rfl) rfl 5 _ _ rfl 1 g2 2 (by kernel_rfl) 102 (by kernel_rfl) (Z2) rfl 32 (upd (upd (fun _ => 0) 0 102) 1 102) z2 (by decide) inzb ?_
  intro Z3 w5 z3 M
  replace M : Mem w [⟨g1, .cells (arr 64 (fun _ => 0)) 41⟩, ⟨g2, Z3⟩] w5 := M
  refine pl_nil ?_
  refine au_block ?_
  refine au_then ?_
  refine rg_lit ?_
  refine pv 8 (.int .i64 2) ?_
  refine pv 9 (.int .i64 3) ?_
  refine pv 2 (.int .i64 3) ?_
  refine nt ?_
  refine rounds_go ?_
  refine wp_seq ?_
  refine sr ?_
  refine pv 6 (.int .i64 3) ?_
  refine pv 7 (.bool true) ?_
  refine nt ?_
  refine wp_cond_true (by kernel_rfl) ?_
  refine wp_skip ?_
  refine au_then ?_
  refine wp_seq ?_
  refine wp_block ?_
  refine rg_lit ?_
  refine pv 10 (.slice (some ⟨g2, 0, none⟩) 32 32) ?_
  refine pv 11 (.int .i64 3) ?_
  refine pv 12 (.pointer (some ⟨g2, 3, none⟩)) ?_
  refine pl_storeb M (want_no rfl) rfl 5 _ _ rfl 1 g2 3 (by kernel_rfl) 102 (by kernel_rfl) (Z3) rfl 32 (upd (upd (upd (fun _ => 0) 0 102) 1 102) 2 102) z3 (by decide) inzb ?_
  intro Z4 w6 z4 M
  replace M : Mem w [⟨g1, .cells (arr 64 (fun _ => 0)) 41⟩, ⟨g2, Z4⟩] w6 := M
  refine pl_nil ?_
  refine au_block ?_
  refine au_then ?_
  refine rg_lit ?_
  refine pv 8 (.int .i64 3) ?_
  refine pv 9 (.int .i64 4) ?_
  refine pv 2 (.int .i64 4) ?_
  refine nt ?_
  refine rounds_go ?_
  refine wp_seq ?_
  refine sr ?_
  refine pv 6 (.int .i64 4) ?_
  refine pv 7 (.bool true) ?_
  refine nt ?_
  refine wp_cond_true (by kernel_rfl) ?_
  refine wp_skip ?_
  refine au_then ?_
  refine wp_seq ?_
  refine wp_block ?_
  refine rg_lit ?_
  refine pv 10 (.slice (some ⟨g2, 0, none⟩) 32 32) ?_
  refine pv 11 (.int .i64 4) ?_
  refine pv 12 (.pointer (some ⟨g2, 4, none⟩)) ?_
  refine pl_storeb M (want_no rfl) rfl 5 _ _ rfl 1 g2 4 (by kernel_rfl) 102 (by kernel_rfl) (Z4) rfl 32 (upd (upd (upd (upd (fun _ => 0) 0 102) 1 102) 2 102) 3 102) z4 (by decide) inzb ?_
  intro Z5 w7 z5 M
  replace M : Mem w [⟨g1, .cells (arr 64 (fun _ => 0)) 41⟩, ⟨g2, Z5⟩] w7 := M
  refine pl_nil ?_
  refine au_block ?_
  refine au_then ?_
  refine rg_lit ?_
  refine pv 8 (.int .i64 4) ?_
  refine pv 9 (.int .i64 5) ?_
  refine pv 2 (.int .i64 5) ?_
  refine nt ?_
  refine rounds_go ?_
  refine wp_seq ?_
  refine sr ?_
  refine pv 6 (.int .i64 5) ?_
  refine pv 7 (.bool true) ?_
  refine nt ?_
  refine wp_cond_true (by kernel_rfl) ?_
  refine wp_skip ?_
  refine au_then ?_
  refine wp_seq ?_
  refine wp_block ?_
  refine rg_lit ?_
  refine pv 10 (.slice (some ⟨g2, 0, none⟩) 32 32) ?_
  refine pv 11 (.int .i64 5) ?_
  refine pv 12 (.pointer (some ⟨g2, 5, none⟩)) ?_
  refine pl_storeb M (want_no rfl) rfl 5 _ _ rfl 1 g2 5 (by kernel_rfl) 102 (by kernel_rfl) (Z5) rfl 32 (upd (upd (upd (upd (upd (fun _ => 0) 0 102) 1 102) 2 102) 3 102) 4 102) z5 (by decide) inzb ?_
  intro Z6 w8 z6 M
  replace M : Mem w [⟨g1, .cells (arr 64 (fun _ => 0)) 41⟩, ⟨g2, Z6⟩] w8 := M
  refine pl_nil ?_
  refine au_block ?_
  refine au_then ?_
  refine rg_lit ?_
  refine pv 8 (.int .i64 5) ?_
  refine pv 9 (.int .i64 6) ?_
  refine pv 2 (.int .i64 6) ?_
  refine nt ?_
  refine rounds_go ?_
  refine wp_seq ?_
  refine sr ?_
  refine pv 6 (.int .i64 6) ?_
  refine pv 7 (.bool true) ?_
  refine nt ?_
  refine wp_cond_true (by kernel_rfl) ?_
  refine wp_skip ?_
  refine au_then ?_
  refine wp_seq ?_
  refine wp_block ?_
  refine rg_lit ?_
  refine pv 10 (.slice (some ⟨g2, 0, none⟩) 32 32) ?_
  refine pv 11 (.int .i64 6) ?_
  refine pv 12 (.pointer (some ⟨g2, 6, none⟩)) ?_
  refine pl_storeb M (want_no rfl) rfl 5 _ _ rfl 1 g2 6 (by kernel_rfl) 102 (by kernel_rfl) (Z6) rfl 32 (upd (upd (upd (upd (upd (upd (fun _ => 0) 0 102) 1 102) 2 102) 3 102) 4 102) 5 102) z6 (by decide) inzb ?_
  intro Z7 w9 z7 M
  replace M : Mem w [⟨g1, .cells (arr 64 (fun _ => 0)) 41⟩, ⟨g2, Z7⟩] w9 := M
  refine pl_nil ?_
  refine au_block ?_
  refine au_then ?_
  refine rg_lit ?_
  refine pv 8 (.int .i64 6) ?_
  refine pv 9 (.int .i64 7) ?_
  refine pv 2 (.int .i64 7) ?_
  refine nt ?_
  refine rounds_go ?_
  refine wp_seq ?_
  refine sr ?_
  refine pv 6 (.int .i64 7) ?_
  refine pv 7 (.bool true) ?_
  refine nt ?_
  refine wp_cond_true (by kernel_rfl) ?_
  refine wp_skip ?_
  refine au_then ?_
  refine wp_seq ?_
  refine wp_block ?_
  refine rg_lit ?_
  refine pv 10 (.slice (some ⟨g2, 0, none⟩) 32 32) ?_
  refine pv 11 (.int .i64 7) ?_
  refine pv 12 (.pointer (some ⟨g2, 7, none⟩)) ?_
  refine pl_storeb M (want_no rfl) rfl 5 _ _ rfl 1 g2 7 (by kernel_rfl) 102 (by kernel_rfl) (Z7) rfl 32 (upd (upd (upd (upd (upd (upd (upd (fun _ => 0) 0 102) 1 102) 2 102) 3 102) 4 102) 5 102) 6 102) z7 (by decide) inzb ?_
  intro Z8 w10 z8 M
  replace M : Mem w [⟨g1, .cells (arr 64 (fun _ => 0)) 41⟩, ⟨g2, Z8⟩] w10 := M
  refine pl_nil ?_
  refine au_block ?_
  refine au_then ?_
  refine rg_lit ?_
  refine pv 8 (.int .i64 7) ?_
  refine pv 9 (.int .i64 8) ?_
  refine pv 2 (.int .i64 8) ?_
  refine nt ?_
  refine rounds_go ?_
  refine wp_seq ?_
  refine sr ?_
  refine pv 6 (.int .i64 8) ?_
  refine pv 7 (.bool true) ?_
  refine nt ?_
  refine wp_cond_true (by kernel_rfl) ?_
  refine wp_skip ?_
  refine au_then ?_
  refine wp_seq ?_
  refine wp_block ?_
  refine rg_lit ?_
  refine pv 10 (.slice (some ⟨g2, 0, none⟩) 32 32) ?_
  refine pv 11 (.int .i64 8) ?_
  refine pv 12 (.pointer (some ⟨g2, 8, none⟩)) ?_
  refine pl_storeb M (want_no rfl) rfl 5 _ _ rfl 1 g2 8 (by kernel_rfl) 102 (by kernel_rfl) (Z8) rfl 32 (upd (upd (upd (upd (upd (upd (upd (upd (fun _ => 0) 0 102) 1 102) 2 102) 3 102) 4 102) 5 102) 6 102) 7 102) z8 (by decide) inzb ?_
  intro Z9 w11 z9 M
  replace M : Mem w [⟨g1, .cells (arr 64 (fun _ => 0)) 41⟩, ⟨g2, Z9⟩] w11 := M
  refine pl_nil ?_
  refine au_block ?_
  refine au_then ?_
  refine rg_lit ?_
  refine pv 8 (.int .i64 8) ?_
  refine pv 9 (.int .i64 9) ?_
  refine pv 2 (.int .i64 9) ?_
  refine nt ?_
  refine rounds_go ?_
  refine wp_seq ?_
  refine sr ?_
  refine pv 6 (.int .i64 9) ?_
  refine pv 7 (.bool true) ?_
  refine nt ?_
  refine wp_cond_true (by kernel_rfl) ?_
  refine wp_skip ?_
  refine au_then ?_
  refine wp_seq ?_
  refine wp_block ?_
  refine rg_lit ?_
  refine pv 10 (.slice (some ⟨g2, 0, none⟩) 32 32) ?_
  refine pv 11 (.int .i64 9) ?_
  refine pv 12 (.pointer (some ⟨g2, 9, none⟩)) ?_
  refine pl_storeb M (want_no rfl) rfl 5 _ _ rfl 1 g2 9 (by kernel_rfl) 102 (by kernel_rfl) (Z9) rfl 32 (upd (upd (upd (upd (upd (upd (upd (upd (upd (fun _ => 0) 0 102) 1 102) 2 102) 3 102) 4 102) 5 102) 6 102) 7 102) 8 102) z9 (by decide) inzb ?_
  intro Z10 w12 z10 M
  replace M : Mem w [⟨g1, .cells (arr 64 (fun _ => 0)) 41⟩, ⟨g2, Z10⟩] w12 := M
  refine pl_nil ?_
  refine au_block ?_
  refine au_then ?_
  refine rg_lit ?_
  refine pv 8 (.int .i64 9) ?_
  refine pv 9 (.int .i64 10) ?_
  refine pv 2 (.int .i64 10) ?_
  refine nt ?_
  refine rounds_go ?_
  refine wp_seq ?_
  refine sr ?_
  refine pv 6 (.int .i64 10) ?_
  refine pv 7 (.bool true) ?_
  refine nt ?_
  refine wp_cond_true (by kernel_rfl) ?_
  refine wp_skip ?_
  refine au_then ?_
  refine wp_seq ?_
  refine wp_block ?_
  refine rg_lit ?_
  refine pv 10 (.slice (some ⟨g2, 0, none⟩) 32 32) ?_
  refine pv 11 (.int .i64 10) ?_
  refine pv 12 (.pointer (some ⟨g2, 10, none⟩)) ?_
  refine pl_storeb M (want_no rfl) rfl 5 _ _ rfl 1 g2 10 (by kernel_rfl) 102 (by kernel_rfl) (Z10) rfl 32 (upd (upd (upd (upd (upd (upd (upd (upd (upd (upd (fun _ => 0) 0 102) 1 102) 2 102) 3 102) 4 102) 5 102) 6 102) 7 102) 8 102) 9 102) z10 (by decide) inzb ?_
  intro Z11 w13 z11 M
  replace M : Mem w [⟨g1, .cells (arr 64 (fun _ => 0)) 41⟩, ⟨g2, Z11⟩] w13 := M
  refine pl_nil ?_
  refine au_block ?_
  refine au_then ?_
  refine rg_lit ?_
  refine pv 8 (.int .i64 10) ?_
  refine pv 9 (.int .i64 11) ?_
  refine pv 2 (.int .i64 11) ?_
  refine nt ?_
  refine rounds_go ?_
  refine wp_seq ?_
  refine sr ?_
  refine pv 6 (.int .i64 11) ?_
  refine pv 7 (.bool true) ?_
  refine nt ?_
  refine wp_cond_true (by kernel_rfl) ?_
  refine wp_skip ?_
  refine au_then ?_
  refine wp_seq ?_
  refine wp_block ?_
  refine rg_lit ?_
  refine pv 10 (.slice (some ⟨g2, 0, none⟩) 32 32) ?_
  refine pv 11 (.int .i64 11) ?_
  refine pv 12 (.pointer (some ⟨g2, 11, none⟩)) ?_
  refine pl_storeb M (want_no rfl) rfl 5 _ _ rfl 1 g2 11 (by kernel_rfl) 102 (by kernel_rfl) (Z11) rfl 32 (upd (upd (upd (upd (upd (upd (upd (upd (upd (upd (upd (fun _ => 0) 0 102) 1 102) 2 102) 3 102) 4 102) 5 102) 6 102) 7 102) 8 102) 9 102) 10 102) z11 (by decide) inzb ?_
  intro Z12 w14 z12 M
  replace M : Mem w [⟨g1, .cells (arr 64 (fun _ => 0)) 41⟩, ⟨g2, Z12⟩] w14 := M
  refine pl_nil ?_
  refine au_block ?_
  refine au_then ?_
  refine rg_lit ?_
  refine pv 8 (.int .i64 11) ?_
  refine pv 9 (.int .i64 12) ?_
  refine pv 2 (.int .i64 12) ?_
  refine nt ?_
  refine rounds_go ?_
  refine wp_seq ?_
  refine sr ?_
  refine pv 6 (.int .i64 12) ?_
  refine pv 7 (.bool true) ?_
  refine nt ?_
  refine wp_cond_true (by kernel_rfl) ?_
  refine wp_skip ?_
  refine au_then ?_
  refine wp_seq ?_
  refine wp_block ?_
  refine rg_lit ?_
  refine pv 10 (.slice (some ⟨g2, 0, none⟩) 32 32) ?_
  refine pv 11 (.int .i64 12) ?_
  refine pv 12 (.pointer (some ⟨g2, 12, none⟩)) ?_
  refine pl_storeb M (want_no rfl) rfl 5 _ _ rfl 1 g2 12 (by kernel_rfl) 102 (by kernel_rfl) (Z12) rfl 32 (upd (upd (upd (upd (upd (upd (upd (upd (upd (upd (upd (upd (fun _ => 0) 0 102) 1 102) 2 102) 3 102) 4 102) 5 102) 6 102) 7 102) 8 102) 9 102) 10 102) 11 102) z12 (by decide) inzb ?_
  intro Z13 w15 z13 M
  replace M : Mem w [⟨g1, .cells (arr 64 (fun _ => 0)) 41⟩, ⟨g2, Z13⟩] w15 := M
  refine pl_nil ?_
  refine au_block ?_
  refine au_then ?_
  refine rg_lit ?_
  refine pv 8 (.int .i64 12) ?_
  refine pv 9 (.int .i64 13) ?_
  refine pv 2 (.int .i64 13) ?_
  refine nt ?_
  refine rounds_go ?_
  refine wp_seq ?_
  refine sr ?_
  refine pv 6 (.int .i64 13) ?_
  refine pv 7 (.bool true) ?_
  refine nt ?_
  refine wp_cond_true (by kernel_rfl) ?_
  refine wp_skip ?_
  refine au_then ?_
  refine wp_seq ?_
  refine wp_block ?_
  refine rg_lit ?_
  refine pv 10 (.slice (some ⟨g2, 0, none⟩) 32 32) ?_
  refine pv 11 (.int .i64 13) ?_
  refine pv 12 (.pointer (some ⟨g2, 13, none⟩)) ?_
  refine pl_storeb M (want_no rfl) rfl 5 _ _ rfl 1 g2 13 (by kernel_rfl) 102 (by kernel_rfl) (Z13) rfl 32 (upd (upd (upd (upd (upd (upd (upd (upd (upd (upd (upd (upd (upd (fun _ => 0) 0 102) 1 102) 2 102) 3 102) 4 102) 5 102) 6 102) 7 102) 8 102) 9 102) 10 102) 11 102) 12 102) z13 (by decide) inzb ?_
  intro Z14 w16 z14 M
  replace M : Mem w [⟨g1, .cells (arr 64 (fun _ => 0)) 41⟩, ⟨g2, Z14⟩] w16 := M
  refine pl_nil ?_
  refine au_block ?_
  refine au_then ?_
  refine rg_lit ?_
  refine pv 8 (.int .i64 13) ?_
  refine pv 9 (.int .i64 14) ?_
  refine pv 2 (.int .i64 14) ?_
  refine nt ?_
  refine rounds_go ?_
  refine wp_seq ?_
  refine sr ?_
  refine pv 6 (.int .i64 14) ?_
  refine pv 7 (.bool true) ?_
  refine nt ?_
  refine wp_cond_true (by kernel_rfl) ?_
  refine wp_skip ?_
  refine au_then ?_
  refine wp_seq ?_
  refine wp_block ?_
  refine rg_lit ?_
  refine pv 10 (.slice (some ⟨g2, 0, none⟩) 32 32) ?_
  refine pv 11 (.int .i64 14) ?_
  refine pv 12 (.pointer (some ⟨g2, 14, none⟩)) ?_
  refine pl_storeb M (want_no rfl) rfl 5 _ _ rfl 1 g2 14 (by kernel_rfl) 102 (by kernel_rfl) (Z14) rfl 32 (upd (upd (upd (upd (upd (upd (upd (upd (upd (upd (upd (upd (upd (upd (fun _ => 0) 0 102) 1 102) 2 102) 3 102) 4 102) 5 102) 6 102) 7 102) 8 102) 9 102) 10 102) 11 102) 12 102) 13 102) z14 (by decide) inzb ?_
  intro Z15 w17 z15 M
  replace M : Mem w [⟨g1, .cells (arr 64 (fun _ => 0)) 41⟩, ⟨g2, Z15⟩] w17 := M
  refine pl_nil ?_
  refine au_block ?_
  refine au_then ?_
  refine rg_lit ?_
  refine pv 8 (.int .i64 14) ?_
  refine pv 9 (.int .i64 15) ?_
  refine pv 2 (.int .i64 15) ?_
  refine nt ?_
  refine rounds_go ?_
  refine wp_seq ?_
  refine sr ?_
  refine pv 6 (.int .i64 15) ?_
  refine pv 7 (.bool true) ?_
  refine nt ?_
  refine wp_cond_true (by kernel_rfl) ?_
  refine wp_skip ?_
  refine au_then ?_
  refine wp_seq ?_
  refine wp_block ?_
  refine rg_lit ?_
  refine pv 10 (.slice (some ⟨g2, 0, none⟩) 32 32) ?_
  refine pv 11 (.int .i64 15) ?_
  refine pv 12 (.pointer (some ⟨g2, 15, none⟩)) ?_
  refine pl_storeb M (want_no rfl) rfl 5 _ _ rfl 1 g2 15 (by kernel_rfl) 102 (by kernel_rfl) (Z15) rfl 32 (upd (upd (upd (upd (upd (upd (upd (upd (upd (upd (upd (upd (upd (upd (upd (fun _ => 0) 0 102) 1 102) 2 102) 3 102) 4 102) 5 102) 6 102) 7 102) 8 102) 9 102) 10 102) 11 102) 12 102) 13 102) 14 102) z15 (by decide) inzb ?_
  intro Z16 w18 z16 M
  replace M : Mem w [⟨g1, .cells (arr 64 (fun _ => 0)) 41⟩, ⟨g2, Z16⟩] w18 := M
  refine pl_nil ?_
  refine au_block ?_
  refine au_then ?_
  refine rg_lit ?_
  refine pv 8 (.int .i64 15) ?_
  refine pv 9 (.int .i64 16) ?_
  refine pv 2 (.int .i64 16) ?_
  refine nt ?_
  refine rounds_go ?_
  refine wp_seq ?_
  refine sr ?_
  refine pv 6 (.int .i64 16) ?_
  refine pv 7 (.bool true) ?_
  refine nt ?_
  refine wp_cond_true (by kernel_rfl) ?_
  refine wp_skip ?_
  refine au_then ?_
  refine wp_seq ?_
  refine wp_block ?_
  refine rg_lit ?_
  refine pv 10 (.slice (some ⟨g2, 0, none⟩) 32 32) ?_
  refine pv 11 (.int .i64 16) ?_
  refine pv 12 (.pointer (some ⟨g2, 16, none⟩)) ?_
  refine pl_storeb M (want_no rfl) rfl 5 _ _ rfl 1 g2 16 (by kernel_rfl) 102 (by kernel_rfl) (Z16) rfl 32 (upd (upd (upd (upd (upd (upd (upd (upd (upd (upd (upd (upd (upd (upd (upd (upd (fun _ => 0) 0 102) 1 102) 2 102) 3 102) 4 102) 5 102) 6 102) 7 102) 8 102) 9 102) 10 102) 11 102) 12 102) 13 102) 14 102) 15 102) z16 (by decide) inzb ?_
  intro Z17 w19 z17 M
  replace M : Mem w [⟨g1, .cells (arr 64 (fun _ => 0)) 41⟩, ⟨g2, Z17⟩] w19 := M
  refine pl_nil ?_
  refine au_block ?_
  refine au_then ?_
  refine rg_lit ?_
  refine pv 8 (.int .i64 16) ?_
  refine pv 9 (.int .i64 17) ?_
  refine pv 2 (.int .i64 17) ?_
  refine nt ?_
  refine rounds_go ?_
  refine wp_seq ?_
  refine sr ?_
  refine pv 6 (.int .i64 17) ?_
  refine pv 7 (.bool true) ?_
  refine nt ?_
  refine wp_cond_true (by kernel_rfl) ?_
  refine wp_skip ?_
  refine au_then ?_
  refine wp_seq ?_
  refine wp_block ?_
  refine rg_lit ?_
  refine pv 10 (.slice (some ⟨g2, 0, none⟩) 32 32) ?_
  refine pv 11 (.int .i64 17) ?_
  refine pv 12 (.pointer (some ⟨g2, 17, none⟩)) ?_
  refine pl_storeb M (want_no rfl) rfl 5 _ _ rfl 1 g2 17 (by kernel_rfl) 102 (by kernel_rfl) (Z17) rfl 32 (upd (upd (upd (upd (upd (upd (upd (upd (upd (upd (upd (upd (upd (upd (upd (upd (upd (fun _ => 0) 0 102) 1 102) 2 102) 3 102) 4 102) 5 102) 6 102) 7 102) 8 102) 9 102) 10 102) 11 102) 12 102) 13 102) 14 102) 15 102) 16 102) z17 (by decide) inzb ?_
  intro Z18 w20 z18 M
  replace M : Mem w [⟨g1, .cells (arr 64 (fun _ => 0)) 41⟩, ⟨g2, Z18⟩] w20 := M
  refine pl_nil ?_
  refine au_block ?_
  refine au_then ?_
  refine rg_lit ?_
  refine pv 8 (.int .i64 17) ?_
  refine pv 9 (.int .i64 18) ?_
  refine pv 2 (.int .i64 18) ?_
  refine nt ?_
  refine rounds_go ?_
  refine wp_seq ?_
  refine sr ?_
  refine pv 6 (.int .i64 18) ?_
  refine pv 7 (.bool true) ?_
  refine nt ?_
  refine wp_cond_true (by kernel_rfl) ?_
  refine wp_skip ?_
  refine au_then ?_
  refine wp_seq ?_
  refine wp_block ?_
  refine rg_lit ?_
  refine pv 10 (.slice (some ⟨g2, 0, none⟩) 32 32) ?_
  refine pv 11 (.int .i64 18) ?_
  refine pv 12 (.pointer (some ⟨g2, 18, none⟩)) ?_
  refine pl_storeb M (want_no rfl) rfl 5 _ _ rfl 1 g2 18 (by kernel_rfl) 102 (by kernel_rfl) (Z18) rfl 32 (upd (upd (upd (upd (upd (upd (upd (upd (upd (upd (upd (upd (upd (upd (upd (upd (upd (upd (fun _ => 0) 0 102) 1 102) 2 102) 3 102) 4 102) 5 102) 6 102) 7 102) 8 102) 9 102) 10 102) 11 102) 12 102) 13 102) 14 102) 15 102) 16 102) 17 102) z18 (by decide) inzb ?_
  intro Z19 w21 z19 M
  replace M : Mem w [⟨g1, .cells (arr 64 (fun _ => 0)) 41⟩, ⟨g2, Z19⟩] w21 := M
  refine pl_nil ?_
  refine au_block ?_
  refine au_then ?_
  refine rg_lit ?_
  refine pv 8 (.int .i64 18) ?_
  refine pv 9 (.int .i64 19) ?_
  refine pv 2 (.int .i64 19) ?_
  refine nt ?_
  refine rounds_go ?_
  refine wp_seq ?_
  refine sr ?_
  refine pv 6 (.int .i64 19) ?_
  refine pv 7 (.bool true) ?_
  refine nt ?_
  refine wp_cond_true (by kernel_rfl) ?_
  refine wp_skip ?_
  refine au_then ?_
  refine wp_seq ?_
  refine wp_block ?_
  refine rg_lit ?_
  refine pv 10 (.slice (some ⟨g2, 0, none⟩) 32 32) ?_
  refine pv 11 (.int .i64 19) ?_
  refine pv 12 (.pointer (some ⟨g2, 19, none⟩)) ?_
  refine pl_storeb M (want_no rfl) rfl 5 _ _ rfl 1 g2 19 (by kernel_rfl) 102 (by kernel_rfl) (Z19) rfl 32 (upd (upd (upd (upd (upd (upd (upd (upd (upd (upd (upd (upd (upd (upd (upd (upd (upd (upd (upd (fun _ => 0) 0 102) 1 102) 2 102) 3 102) 4 102) 5 102) 6 102) 7 102) 8 102) 9 102) 10 102) 11 102) 12 102) 13 102) 14 102) 15 102) 16 102) 17 102) 18 102) z19 (by decide) inzb ?_
  intro Z20 w22 z20 M
  replace M : Mem w [⟨g1, .cells (arr 64 (fun _ => 0)) 41⟩, ⟨g2, Z20⟩] w22 := M
  refine pl_nil ?_
  refine au_block ?_
  refine au_then ?_
  refine rg_lit ?_
  refine pv 8 (.int .i64 19) ?_
  refine pv 9 (.int .i64 20) ?_
  refine pv 2 (.int .i64 20) ?_
  refine nt ?_
  refine rounds_go ?_
  refine wp_seq ?_
  refine sr ?_
  refine pv 6 (.int .i64 20) ?_
  refine pv 7 (.bool true) ?_
  refine nt ?_
  refine wp_cond_true (by kernel_rfl) ?_
  refine wp_skip ?_
  refine au_then ?_
  refine wp_seq ?_
  refine wp_block ?_
  refine rg_lit ?_
  refine pv 10 (.slice (some ⟨g2, 0, none⟩) 32 32) ?_
  refine pv 11 (.int .i64 20) ?_
  refine pv 12 (.pointer (some ⟨g2, 20, none⟩)) ?_
  refine pl_storeb M (want_no rfl) rfl 5 _ _ rfl 1 g2 20 (by kernel_rfl) 102 (by kernel_rfl) (Z20) rfl 32 (upd (upd (upd (upd (upd (upd (upd (upd (upd (upd (upd (upd (upd (upd (upd (upd (upd (upd (upd (upd (fun _ => 0) 0 102) 1 102) 2 102) 3 102) 4 102) 5 102) 6 102) 7 102) 8 102) 9 102) 10 102) 11 102) 12 102) 13 102) 14 102) 15 102) 16 102) 17 102) 18 102) 19 102) z20 (by decide) inzb ?_
  intro Z21 w23 z21 M
  replace M : Mem w [⟨g1, .cells (arr 64 (fun _ => 0)) 41⟩, ⟨g2, Z21⟩] w23 := M
  refine pl_nil ?_
  refine au_block ?_
  refine au_then ?_
  refine rg_lit ?_
  refine pv 8 (.int .i64 20) ?_
  refine pv 9 (.int .i64 21) ?_
  refine pv 2 (.int .i64 21) ?_
  refine nt ?_
  refine rounds_go ?_
  refine wp_seq ?_
  refine sr ?_
  refine pv 6 (.int .i64 21) ?_
  refine pv 7 (.bool true) ?_
  refine nt ?_
  refine wp_cond_true (by kernel_rfl) ?_
  refine wp_skip ?_
  refine au_then ?_
  refine wp_seq ?_
  refine wp_block ?_
  refine rg_lit ?_
  refine pv 10 (.slice (some ⟨g2, 0, none⟩) 32 32) ?_
  refine pv 11 (.int .i64 21) ?_
  refine pv 12 (.pointer (some ⟨g2, 21, none⟩)) ?_
  refine pl_storeb M (want_no rfl) rfl 5 _ _ rfl 1 g2 21 (by kernel_rfl) 102 (by kernel_rfl) (Z21) rfl 32 (upd (upd (upd (upd (upd (upd (upd (upd (upd (upd (upd (upd (upd (upd (upd (upd (upd (upd (upd (upd (upd (fun _ => 0) 0 102) 1 102) 2 102) 3 102) 4 102) 5 102) 6 102) 7 102) 8 102) 9 102) 10 102) 11 102) 12 102) 13 102) 14 102) 15 102) 16 102) 17 102) 18 102) 19 102) 20 102) z21 (by decide) inzb ?_
  intro Z22 w24 z22 M
  replace M : Mem w [⟨g1, .cells (arr 64 (fun _ => 0)) 41⟩, ⟨g2, Z22⟩] w24 := M
  refine pl_nil ?_
  refine au_block ?_
  refine au_then ?_
  refine rg_lit ?_
  refine pv 8 (.int .i64 21) ?_
  refine pv 9 (.int .i64 22) ?_
  refine pv 2 (.int .i64 22) ?_
  refine nt ?_
  refine rounds_go ?_
  refine wp_seq ?_
  refine sr ?_
  refine pv 6 (.int .i64 22) ?_
  refine pv 7 (.bool true) ?_
  refine nt ?_
  refine wp_cond_true (by kernel_rfl) ?_
  refine wp_skip ?_
  refine au_then ?_
  refine wp_seq ?_
  refine wp_block ?_
  refine rg_lit ?_
  refine pv 10 (.slice (some ⟨g2, 0, none⟩) 32 32) ?_
  refine pv 11 (.int .i64 22) ?_
  refine pv 12 (.pointer (some ⟨g2, 22, none⟩)) ?_
  refine pl_storeb M (want_no rfl) rfl 5 _ _ rfl 1 g2 22 (by kernel_rfl) 102 (by kernel_rfl) (Z22) rfl 32 (upd (upd (upd (upd (upd (upd (upd (upd (upd (upd (upd (upd (upd (upd (upd (upd (upd (upd (upd (upd (upd (upd (fun _ => 0) 0 102) 1 102) 2 102) 3 102) 4 102) 5 102) 6 102) 7 102) 8 102) 9 102) 10 102) 11 102) 12 102) 13 102) 14 102) 15 102) 16 102) 17 102) 18 102) 19 102) 20 102) 21 102) z22 (by decide) inzb ?_
  intro Z23 w25 z23 M
  replace M : Mem w [⟨g1, .cells (arr 64 (fun _ => 0)) 41⟩, ⟨g2, Z23⟩] w25 := M
  refine pl_nil ?_
  refine au_block ?_
  refine au_then ?_
  refine rg_lit ?_
  refine pv 8 (.int .i64 22) ?_
  refine pv 9 (.int .i64 23) ?_
  refine pv 2 (.int .i64 23) ?_
  refine nt ?_
  refine rounds_go ?_
  refine wp_seq ?_
  refine sr ?_
  refine pv 6 (.int .i64 23) ?_
  refine pv 7 (.bool true) ?_
  refine nt ?_
  refine wp_cond_true (by kernel_rfl) ?_
  refine wp_skip ?_
  refine au_then ?_
  refine wp_seq ?_
  refine wp_block ?_
  refine rg_lit ?_
  refine pv 10 (.slice (some ⟨g2, 0, none⟩) 32 32) ?_
  refine pv 11 (.int .i64 23) ?_
  refine pv 12 (.pointer (some ⟨g2, 23, none⟩)) ?_
  refine pl_storeb M (want_no rfl) rfl 5 _ _ rfl 1 g2 23 (by kernel_rfl) 102 (by kernel_rfl) (Z23) rfl 32 (upd (upd (upd (upd (upd (upd (upd (upd (upd (upd (upd (upd (upd (upd (upd (upd (upd (upd (upd (upd (upd (upd (upd (fun _ => 0) 0 102) 1 102) 2 102) 3 102) 4 102) 5 102) 6 102) 7 102) 8 102) 9 102) 10 102) 11 102) 12 102) 13 102) 14 102) 15 102) 16 102) 17 102) 18 102) 19 102) 20 102) 21 102) 22 102) z23 (by decide) inzb ?_
  intro Z24 w26 z24 M
  replace M : Mem w [⟨g1, .cells (arr 64 (fun _ => 0)) 41⟩, ⟨g2, Z24⟩] w26 := M
  refine pl_nil ?_
  refine au_block ?_
  refine au_then ?_
  refine rg_lit ?_
  refine pv 8 (.int .i64 23) ?_
  refine pv 9 (.int .i64 24) ?_
  refine pv 2 (.int .i64 24) ?_
  refine nt ?_
  refine rounds_go ?_
  refine wp_seq ?_
  refine sr ?_
  refine pv 6 (.int .i64 24) ?_
  refine pv 7 (.bool true) ?_
  refine nt ?_
  refine wp_cond_true (by kernel_rfl) ?_
  refine wp_skip ?_
  refine au_then ?_
  refine wp_seq ?_
  refine wp_block ?_
  refine rg_lit ?_
  refine pv 10 (.slice (some ⟨g2, 0, none⟩) 32 32) ?_
  refine pv 11 (.int .i64 24) ?_
  refine pv 12 (.pointer (some ⟨g2, 24, none⟩)) ?_
  refine pl_storeb M (want_no rfl) rfl 5 _ _ rfl 1 g2 24 (by kernel_rfl) 102 (by kernel_rfl) (Z24) rfl 32 (upd (upd (upd (upd (upd (upd (upd (upd (upd (upd (upd (upd (upd (upd (upd (upd (upd (upd (upd (upd (upd (upd (upd (upd (fun _ => 0) 0 102) 1 102) 2 102) 3 102) 4 102) 5 102) 6 102) 7 102) 8 102) 9 102) 10 102) 11 102) 12 102) 13 102) 14 102) 15 102) 16 102) 17 102) 18 102) 19 102) 20 102) 21 102) 22 102) 23 102) z24 (by decide) inzb ?_
  intro Z25 w27 z25 M
  replace M : Mem w [⟨g1, .cells (arr 64 (fun _ => 0)) 41⟩, ⟨g2, Z25⟩] w27 := M
  refine pl_nil ?_
  refine au_block ?_
  refine au_then ?_
  refine rg_lit ?_
  refine pv 8 (.int .i64 24) ?_
  refine pv 9 (.int .i64 25) ?_
  refine pv 2 (.int .i64 25) ?_
  refine nt ?_
  refine rounds_go ?_
  refine wp_seq ?_
  refine sr ?_
  refine pv 6 (.int .i64 25) ?_
  refine pv 7 (.bool true) ?_
  refine nt ?_
  refine wp_cond_true (by kernel_rfl) ?_
  refine wp_skip ?_
  refine au_then ?_
  refine wp_seq ?_
  refine wp_block ?_
  refine rg_lit ?_
  refine pv 10 (.slice (some ⟨g2, 0, none⟩) 32 32) ?_
  refine pv 11 (.int .i64 25) ?_
  refine pv 12 (.pointer (some ⟨g2, 25, none⟩)) ?_
  refine pl_storeb M (want_no rfl) rfl 5 _ _ rfl 1 g2 25 (by kernel_rfl) 102 (by kernel_rfl) (Z25) rfl 32 (upd (upd (upd (upd (upd (upd (upd (upd (upd (upd (upd (upd (upd (upd (upd (upd (upd (upd (upd (upd (upd (upd (upd (upd (upd (fun _ => 0) 0 102) 1 102) 2 102) 3 102) 4 102) 5 102) 6 102) 7 102) 8 102) 9 102) 10 102) 11 102) 12 102) 13 102) 14 102) 15 102) 16 102) 17 102) 18 102) 19 102) 20 102) 21 102) 22 102) 23 102) 24 102) z25 (by decide) inzb ?_
  intro Z26 w28 z26 M
  replace M : Mem w [⟨g1, .cells (arr 64 (fun _ => 0)) 41⟩, ⟨g2, Z26⟩] w28 := M
  refine pl_nil ?_
  refine au_block ?_
  refine au_then ?_
  refine rg_lit ?_
  refine pv 8 (.int .i64 25) ?_
  refine pv 9 (.int .i64 26) ?_
  refine pv 2 (.int .i64 26) ?_
  refine nt ?_
  refine rounds_go ?_
  refine wp_seq ?_
  refine sr ?_
  refine pv 6 (.int .i64 26) ?_
  refine pv 7 (.bool true) ?_
  refine nt ?_
  refine wp_cond_true (by kernel_rfl) ?_
  refine wp_skip ?_
  refine au_then ?_
  refine wp_seq ?_
  refine wp_block ?_
  refine rg_lit ?_
  refine pv 10 (.slice (some ⟨g2, 0, none⟩) 32 32) ?_
  refine pv 11 (.int .i64 26) ?_
  refine pv 12 (.pointer (some ⟨g2, 26, none⟩)) ?_
  refine pl_storeb M (want_no rfl) rfl 5 _ _ rfl 1 g2 26 (by kernel_rfl) 102 (by kernel_rfl) (Z26) rfl 32 (upd (upd (upd (upd (upd (upd (upd (upd (upd (upd (upd (upd (upd (upd (upd (upd (upd (upd (upd (upd (upd (upd (upd (upd (upd (upd (fun _ => 0) 0 102) 1 102) 2 102) 3 102) 4 102) 5 102) 6 102) 7 102) 8 102) 9 102) 10 102) 11 102) 12 102) 13 102) 14 102) 15 102) 16 102) 17 102) 18 102) 19 102) 20 102) 21 102) 22 102) 23 102) 24 102) 25 102) z26 (by decide) inzb ?_
  intro Z27 w29 z27 M
  replace M : Mem w [⟨g1, .cells (arr 64 (fun _ => 0)) 41⟩, ⟨g2, Z27⟩] w29 := M
  refine pl_nil ?_
  refine au_block ?_
  refine au_then ?_
  refine rg_lit ?_
  refine pv 8 (.int .i64 26) ?_
  refine pv 9 (.int .i64 27) ?_
  refine pv 2 (.int .i64 27) ?_
  refine nt ?_
  refine rounds_go ?_
  refine wp_seq ?_
  refine sr ?_
  refine pv 6 (.int .i64 27) ?_
  refine pv 7 (.bool true) ?_
  refine nt ?_
  refine wp_cond_true (by kernel_rfl) ?_
  refine wp_skip ?_
  refine au_then ?_
  refine wp_seq ?_
  refine wp_block ?_
  refine rg_lit ?_
  refine pv 10 (.slice (some ⟨g2, 0, none⟩) 32 32) ?_
  refine pv 11 (.int .i64 27) ?_
  refine pv 12 (.pointer (some ⟨g2, 27, none⟩)) ?_
  refine pl_storeb M (want_no rfl) rfl 5 _ _ rfl 1 g2 27 (by kernel_rfl) 102 (by kernel_rfl) (Z27) rfl 32 (upd (upd (upd (upd (upd (upd (upd (upd (upd (upd (upd (upd (upd (upd (upd (upd (upd (upd (upd (upd (upd (upd (upd (upd (upd (upd (upd (fun _ => 0) 0 102) 1 102) 2 102) 3 102) 4 102) 5 102) 6 102) 7 102) 8 102) 9 102) 10 102) 11 102) 12 102) 13 102) 14 102) 15 102) 16 102) 17 102) 18 102) 19 102) 20 102) 21 102) 22 102) 23 102) 24 102) 25 102) 26 102) z27 (by decide) inzb ?_
  intro Z28 w30 z28 M
  replace M : Mem w [⟨g1, .cells (arr 64 (fun _ => 0)) 41⟩, ⟨g2, Z28⟩] w30 := M
  refine pl_nil ?_
  refine au_block ?_
  refine au_then ?_
  refine rg_lit ?_
  refine pv 8 (.int .i64 27) ?_
  refine pv 9 (.int .i64 28) ?_
  refine pv 2 (.int .i64 28) ?_
  refine nt ?_
  refine rounds_go ?_
  refine wp_seq ?_
  refine sr ?_
  refine pv 6 (.int .i64 28) ?_
  refine pv 7 (.bool true) ?_
  refine nt ?_
  refine wp_cond_true (by kernel_rfl) ?_
  refine wp_skip ?_
  refine au_then ?_
  refine wp_seq ?_
  refine wp_block ?_
  refine rg_lit ?_
  refine pv 10 (.slice (some ⟨g2, 0, none⟩) 32 32) ?_
  refine pv 11 (.int .i64 28) ?_
  refine pv 12 (.pointer (some ⟨g2, 28, none⟩)) ?_
  refine pl_storeb M (want_no rfl) rfl 5 _ _ rfl 1 g2 28 (by kernel_rfl) 102 (by kernel_rfl) (Z28) rfl 32 (upd (upd (upd (upd (upd (upd (upd (upd (upd (upd (upd (upd (upd (upd (upd (upd (upd (upd (upd (upd (upd (upd (upd (upd (upd (upd (upd (upd (fun _ => 0) 0 102) 1 102) 2 102) 3 102) 4 102) 5 102) 6 102) 7 102) 8 102) 9 102) 10 102) 11 102) 12 102) 13 102) 14 102) 15 102) 16 102) 17 102) 18 102) 19 102) 20 102) 21 102) 22 102) 23 102) 24 102) 25 102) 26 102) 27 102) z28 (by decide) inzb ?_
  intro Z29 w31 z29 M
  replace M : Mem w [⟨g1, .cells (arr 64 (fun _ => 0)) 41⟩, ⟨g2, Z29⟩] w31 := M
  refine pl_nil ?_
  refine au_block ?_
  refine au_then ?_
  refine rg_lit ?_
  refine pv 8 (.int .i64 28) ?_
  refine pv 9 (.int .i64 29) ?_
  refine pv 2 (.int .i64 29) ?_
  refine nt ?_
  refine rounds_go ?_
  refine wp_seq ?_
  refine sr ?_
  refine pv 6 (.int .i64 29) ?_
  refine pv 7 (.bool true) ?_
  refine nt ?_
  refine wp_cond_true (by kernel_rfl) ?_
  refine wp_skip ?_
  refine au_then ?_
  refine wp_seq ?_
  refine wp_block ?_
  refine rg_lit ?_
  refine pv 10 (.slice (some ⟨g2, 0, none⟩) 32 32) ?_
  refine pv 11 (.int .i64 29) ?_
  refine pv 12 (.pointer (some ⟨g2, 29, none⟩)) ?_
  refine pl_storeb M (want_no rfl) rfl 5 _ _ rfl 1 g2 29 (by kernel_rfl) 102 (by kernel_rfl) (Z29) rfl 32 (upd (upd (upd (upd (upd (upd (upd (upd (upd (upd (upd (upd (upd (upd (upd (upd (upd (upd (upd (upd (upd (upd (upd (upd (upd (upd (upd (upd (upd (fun _ => 0) 0 102) 1 102) 2 102) 3 102) 4 102) 5 102) 6 102) 7 102) 8 102) 9 102) 10 102) 11 102) 12 102) 13 102) 14 102) 15 102) 16 102) 17 102) 18 102) 19 102) 20 102) 21 102) 22 102) 23 102) 24 102) 25 102) 26 102) 27 102) 28 102) z29 (by decide) inzb ?_
  intro Z30 w32 z30 M
  replace M : Mem w [⟨g1, .cells (arr 64 (fun _ => 0)) 41⟩, ⟨g2, Z30⟩] w32 := M
  refine pl_nil ?_
  refine au_block ?_
  refine au_then ?_
  refine rg_lit ?_
  refine pv 8 (.int .i64 29) ?_
  refine pv 9 (.int .i64 30) ?_
  refine pv 2 (.int .i64 30) ?_
  refine nt ?_
  refine rounds_go ?_
  refine wp_seq ?_
  refine sr ?_
  refine pv 6 (.int .i64 30) ?_
  refine pv 7 (.bool true) ?_
  refine nt ?_
  refine wp_cond_true (by kernel_rfl) ?_
  refine wp_skip ?_
  refine au_then ?_
  refine wp_seq ?_
  refine wp_block ?_
  refine rg_lit ?_
  refine pv 10 (.slice (some ⟨g2, 0, none⟩) 32 32) ?_
  refine pv 11 (.int .i64 30) ?_
  refine pv 12 (.pointer (some ⟨g2, 30, none⟩)) ?_
  refine pl_storeb M (want_no rfl) rfl 5 _ _ rfl 1 g2 30 (by kernel_rfl) 102 (by kernel_rfl) (Z30) rfl 32 (upd (upd (upd (upd (upd (upd (upd (upd (upd (upd (upd (upd (upd (upd (upd (upd (upd (upd (upd (upd (upd (upd (upd (upd (upd (upd (upd (upd (upd (upd (fun _ => 0) 0 102) 1 102) 2 102) 3 102) 4 102) 5 102) 6 102) 7 102) 8 102) 9 102) 10 102) 11 102) 12 102) 13 102) 14 102) 15 102) 16 102) 17 102) 18 102) 19 102) 20 102) 21 102) 22 102) 23 102) 24 102) 25 102) 26 102) 27 102) 28 102) 29 102) z30 (by decide) inzb ?_
  intro Z31 w33 z31 M
  replace M : Mem w [⟨g1, .cells (arr 64 (fun _ => 0)) 41⟩, ⟨g2, Z31⟩] w33 := M
  refine pl_nil ?_
  refine au_block ?_
  refine au_then ?_
  refine rg_lit ?_
  refine pv 8 (.int .i64 30) ?_
  refine pv 9 (.int .i64 31) ?_
  refine pv 2 (.int .i64 31) ?_
  refine nt ?_
  refine rounds_go ?_
  refine wp_seq ?_
  refine sr ?_
  refine pv 6 (.int .i64 31) ?_
  refine pv 7 (.bool true) ?_
  refine nt ?_
  refine wp_cond_true (by kernel_rfl) ?_
  refine wp_skip ?_
  refine au_then ?_
  refine wp_seq ?_
  refine wp_block ?_
  refine rg_lit ?_
  refine pv 10 (.slice (some ⟨g2, 0, none⟩) 32 32) ?_
  refine pv 11 (.int .i64 31) ?_
  refine pv 12 (.pointer (some ⟨g2, 31, none⟩)) ?_
  refine pl_storeb M (want_no rfl) rfl 5 _ _ rfl 1 g2 31 (by kernel_rfl) 102 (by kernel_rfl) (Z31) rfl 32 (upd (upd (upd (upd (upd (upd (upd (upd (upd (upd (upd (upd (upd (upd (upd (upd (upd (upd (upd (upd (upd (upd (upd (upd (upd (upd (upd (upd (upd (upd (upd (fun _ => 0) 0 102) 1 102) 2 102) 3 102) 4 102) 5 102) 6 102) 7 102) 8 102) 9 102) 10 102) 11 102) 12 102) 13 102) 14 102) 15 102) 16 102) 17 102) 18 102) 19 102) 20 102) 21 102) 22 102) 23 102) 24 102) 25 102) 26 102) 27 102) 28 102) 29 102) 30 102) z31 (by decide) inzb ?_
  intro Z32 w34 z32 M
  replace M : Mem w [⟨g1, .cells (arr 64 (fun _ => 0)) 41⟩, ⟨g2, Z32⟩] w34 := M
  refine pl_nil ?_
  refine au_block ?_
  refine au_then ?_
  refine rg_lit ?_
  refine pv 8 (.int .i64 31) ?_
  refine pv 9 (.int .i64 32) ?_
  refine pv 2 (.int .i64 32) ?_
  refine nt ?_
  refine rounds_go ?_
  refine wp_seq ?_
  refine sr ?_
  refine pv 6 (.int .i64 32) ?_
  refine pv 7 (.bool false) ?_
  refine nt ?_
  refine wp_cond_false (by kernel_rfl) ?_
  refine wp_exit ?_
  refine au_then_exit ?_
  refine au_then_exit ?_
  refine au_block_exit ?_
  refine au_then ?_
  refine sr ?_
  refine pv 13 (.slice (some ⟨g2, 0, none⟩) 32 32) ?_
  refine pv 14 (.pointer (some ⟨g2, 0, none⟩)) ?_
  refine pl_storeb M (want_no rfl) rfl 5 _ _ rfl 1 g2 0 (by kernel_rfl) 88 (by kernel_rfl) (Z32) rfl 32 (upd (upd (upd (upd (upd (upd (upd (upd (upd (upd (upd (upd (upd (upd (upd (upd (upd (upd (upd (upd (upd (upd (upd (upd (upd (upd (upd (upd (upd (upd (upd (upd (fun _ => 0) 0 102) 1 102) 2 102) 3 102) 4 102) 5 102) 6 102) 7 102) 8 102) 9 102) 10 102) 11 102) 12 102) 13 102) 14 102) 15 102) 16 102) 17 102) 18 102) 19 102) 20 102) 21 102) 22 102) 23 102) 24 102) 25 102) 26 102) 27 102) 28 102) 29 102) 30 102) 31 102) z32 (by decide) inzb ?_
  intro Z33 w35 z33 M
  replace M : Mem w [⟨g1, .cells (arr 64 (fun _ => 0)) 41⟩, ⟨g2, Z33⟩] w35 := M
  refine nt ?_
  refine sr ?_
  refine pv 16 (.slice (some ⟨g2, 0, none⟩) 32 32) ?_
  refine pl_backS M (want_no rfl) (some 17) rfl _ rfl 1 g2 32 32 (by kernel_rfl) (Z33) rfl (upd (upd (upd (upd (upd (upd (upd (upd (upd (upd (upd (upd (upd (upd (upd (upd (upd (upd (upd (upd (upd (upd (upd (upd (upd (upd (upd (upd (upd (upd (upd (upd (upd (fun _ => 0) 0 102) 1 102) 2 102) 3 102) 4 102) 5 102) 6 102) 7 102) 8 102) 9 102) 10 102) 11 102) 12 102) 13 102) 14 102) 15 102) 16 102) 17 102) 18 102) 19 102) 20 102) 21 102) 22 102) 23 102) 24 102) 25 102) 26 102) 27 102) 28 102) 29 102) 30 102) 31 102) 0 88) z33 (by decide +kernel) baseS (by decide +kernel) ?_
  refine pl_call M (want_no rfl) (some 18) rfl 8 #[.string baseS] (.tuple #[.agg (arr 64 r1), .int .i64 0]) (fun _ => by kernel_rfl) F.h1 ?_
  intro w36 M
  refine pv 15 (.tuple #[.agg (arr 64 r1), .int .i64 0]) ?_
  refine pv 19 (.agg (arr 64 r1)) ?_
  refine pv 20 (.int .i64 0) ?_
  refine pl_new M (want_no rfl) (some 3) rfl (.cells (arr 64 (fun _ => 0)) 41) (fun _ => by kernel_rfl) ?_
  intro g3 w37 M
  replace M : Mem w [⟨g1, .cells (arr 64 (fun _ => 0)) 41⟩, ⟨g2, Z33⟩, ⟨g3, .cells (arr 64 (fun _ => 0)) 41⟩] w37 := M
  refine pl_put M (want_no rfl) rfl 41 _ _ rfl 2 g3 (by kernel_rfl) 64 41 (fun _ => 0) r1 rfl (by kernel_rfl) inz41 ?_
  intro w38 M
  replace M : Mem w [⟨g1, .cells (arr 64 (fun _ => 0)) 41⟩, ⟨g2, Z33⟩, ⟨g3, .cells (arr 64 r1) 41⟩] w38 := M
  refine pv 4 (.int .i64 0) ?_
  refine nt ?_
  refine sr ?_
  refine pl_load M (want_no rfl) (some 21) rfl 41 _ rfl 2 g3 0 (by kernel_rfl) 64 41 r1 rfl 64 r1 (Part.all _ _) (by decide) _ Tryz.underlying41 rfl inz41 ?_
  refine pl_put M (want_no rfl) rfl 41 _ _ rfl 0 g1 (by kernel_rfl) 64 41 (fun _ => 0) r1 rfl (by kernel_rfl) inz41 ?_
  intro w39 M
  replace M : Mem w [⟨g1, .cells (arr 64 r1) 41⟩, ⟨g2, Z33⟩, ⟨g3, .cells (arr 64 r1) 41⟩] w39 := M
  refine nt ?_
  refine wp_ret ?_
  exact bodyPost_ret (v := .agg (arr 64 r1)) (results_cell_row Tryz.results35 _ _ g1 41 (arr 64 r1) (0, 0) _ (by kernel_rfl) (M.get 0 rfl) Tryz.underlying41 rfl (by rw [arr_size]; exact inz41)) (by kernel_rfl) ⟨rfl, M.old⟩

end Go.Proofs.YtkeocdebfgcnnaaGreat

/- The contract of the document's bits: the bits of 2^n - k, the highest first, in a slice of its own. -/
namespace Go.Proofs.YtkeocdebfgcnnaaGreat
open Go.RowKit

/-- n Booleans as a value's cells. -/
def barr (n : Nat) (f : Nat → Bool) : Array Value := ((List.range n).map fun i => Value.bool (f i)).toArray
theorem barr_size (n : Nat) (f : Nat → Bool) : (barr n f).size = n := by simp [barr]
theorem barr_get (n : Nat) (f : Nat → Bool) (i : Nat) (h : i < n) : (barr n f)[i]? = some (.bool (f i)) := by simp [barr, h]
theorem barr_congr {n : Nat} {f g : Nat → Bool} (h : ∀ i, i < n → f i = g i) : barr n f = barr n g := by
  unfold barr
  congr 1
  exact List.map_congr_left fun i hi => by rw [h i (List.mem_range.1 hi)]
def bupd (f : Nat → Bool) (k : Nat) (v : Bool) : Nat → Bool := fun i => if i = k then v else f i
theorem barr_set (n : Nat) (f : Nat → Bool) (k : Nat) (v : Bool) : (barr n f).setIfInBounds k (.bool v) = barr n (bupd f k v) := by
  apply Array.ext_getElem?
  intro i
  by_cases hi : i < n
  · rw [Array.getElem?_setIfInBounds, barr_get n (bupd f k v) i hi]
    by_cases hk : k = i
    · subst hk
      rw [if_pos rfl, if_pos (by rw [barr_size]; exact hi)]
      simp [bupd]
    · have : ¬ i = k := fun h => hk h.symm
      rw [if_neg hk, barr_get n f i hi]
      simp [bupd, this]
  · rw [Array.getElem?_eq_none (by simp [barr_size]; omega), Array.getElem?_eq_none (by simp [barr_size]; omega)]

/-- Block g holds the Booleans f 0 .. f (n - 1). -/
def Brow (w : World) (g : Nat) (n : Nat) (f : Nat → Bool) : Prop := w.heap[g]? = some (.cells (barr n f) 4 (0, 0))
theorem Brow.lt {w : World} {g n : Nat} {f : Nat → Bool} (h : Brow w g n f) : g < w.heap.size := by
  by_cases hlt : g < w.heap.size
  · exact hlt
  · have hn : w.heap[g]? = none := by simp; omega
    rw [Brow, hn] at h
    cases h
theorem Brow.cell {w : World} {g n : Nat} {f : Nat → Bool} (h : Brow w g n f) {i : Nat} (hi : i < n) : w.cell? ⟨g, i, none⟩ = some (.bool (f i)) := by
  rw [cell_of_row w g i (barr n f) 4 (0, 0) h, barr_get n f i hi]
theorem Brow.free {w : World} {g n : Nat} {f : Nat → Bool} (h : Brow w g n f) (i : Nat) : w.frozen? ⟨g, i, none⟩ = false := frozen_of_row w g i (barr n f) 4 h
theorem Brow.set {w : World} {g n : Nat} {f : Nat → Bool} (h : Brow w g n f) (k : Nat) (v : Bool) : Brow (w.setCell ⟨g, k, none⟩ (.bool v)) g n (bupd f k v) := by
  unfold Brow
  rw [heap_setCell_same w g k (barr n f) 4 _ h, barr_set]
theorem Brow.keep {w w' : World} {g n : Nat} {f : Nat → Bool} (h : Brow w g n f) (hb : Below w.heap.size w w') : Brow w' g n f := by
  unfold Brow
  rw [hb.block g h.lt]
  exact h
theorem Brow.congr {w : World} {g n : Nat} {f f' : Nat → Bool} (h : Brow w g n f) (e : ∀ i, i < n → f i = f' i) : Brow w g n f' := by
  unfold Brow
  rw [← barr_congr e]
  exact h
theorem Brow.new (w : World) (n : Nat) (f : Nat → Bool) : Brow (w.alloc (.cells (barr n f) 4)) w.heap.size n f := heap_alloc_new w _

/-- Bit i of 2^n - k, the highest first. -/
def xbit (n k i : Nat) : Bool := decide (8 ≤ n - 1 - i) || Nat.testBit (256 - k) (n - 1 - i)
/-- The first j of them have been written. -/
def xbw (n k j : Nat) : Nat → Bool := fun i => decide (i < j) && xbit n k i

theorem xbw_next (n k j i : Nat) {v : Bool} (hv : v = xbit n k j) : bupd (xbw n k j) j v i = xbw n k (j + 1) i := by
  unfold bupd xbw
  by_cases h : i = j
  · subst h
    simp [hv]
  · rw [if_neg h]
    by_cases h2 : i < j
    · simp [h2, show i < j + 1 by omega]
    · simp [h2, show ¬ i < j + 1 by omega]


set_option maxRecDepth 100000 in
set_option maxHeartbeats 2000000 in
theorem bits_255 (w : World) : Calls Tryz.prog 83 #[.int .i64 255, .int .i64 21] w fun r w' => ∃ b, r = .returned (.slice (some ⟨b, 0, none⟩) 255 255) ∧ w.heap.size ≤ b ∧ Brow w' b 255 (xbit 255 21) ∧ Below w.heap.size w w' := by
  have hmk : ∀ w, (Instr.makeSlice 106 (.int .i64 255) (.int .i64 255)).run Tryz.prog w = .ok (.slice (some ⟨w.heap.size, 0, none⟩) 255 255) (w.alloc (.cells (barr 255 fun _ => false) 4)) := fun _ => by kernel_rfl
  go_enter Tryz.func83, Tryz.ntmps83
  go_wp2
  clear hmk
  have R := Brow.new w 255 fun _ => false
  have O := new_below w (.cells (barr 255 fun _ => false) 4)
  generalize w.alloc (.cells (barr 255 fun _ => false) 4) = W at R O ⊢
  go_loopw [7] (fun i wr => ∃ j : Nat, j ≤ 255 ∧ i = .int .i64 j ∧ Brow wr w.heap.size 255 (xbw 255 21 j) ∧ Below w.heap.size w wr) (fun i _ => 255 - (intOf i).toNat)
  case atStart => exact ⟨0, by omega, rfl, R.congr (fun i _ => by simp [xbw]), O⟩
  case round =>
    clear R O
    obtain ⟨j, hj, rfl, R, O⟩ := hrel
    by_cases h1 : j < 247
    · have c := R.cell (i := j) (by omega)
      have e := R.free j
      have i1 : (0 : Int) ≤ (j : Int) := by omega
      have i2 : (j : Int) < 247 := by omega
      have RR := hide ((R.set j true).congr (f' := xbw 255 21 (j + 1)) (fun i _ => xbw_next 255 21 j i (by unfold xbit; rw [decide_eq_true (by omega)]; rfl)))
      have O' := hide (O.setCell (p := ⟨w.heap.size, j, none⟩) (Nat.le_refl _) (.bool true))
      clear R O
      go_wp2
      go_roundw
      case rel => exact ⟨j + 1, by omega, by go_num, RR.out, O'.out⟩
      case measure => simp [intOf]; omega
    · by_cases h2 : j < 255
      · rcases (show j = 247 ∨ j = 248 ∨ j = 249 ∨ j = 250 ∨ j = 251 ∨ j = 252 ∨ j = 253 ∨ j = 254 by omega) with rfl | rfl | rfl | rfl | rfl | rfl | rfl | rfl
        · have c := R.cell (i := 247) (by omega)
          have e := R.free 247
          have RR := hide ((R.set 247 true).congr (f' := xbw 255 21 (247 + 1)) (fun i _ => xbw_next 255 21 247 i (by decide)))
          have O' := hide (O.setCell (p := ⟨w.heap.size, 247, none⟩) (Nat.le_refl _) (.bool true))
          clear R O
          go_wp2
          go_roundw
          case rel => exact ⟨248, by omega, rfl, RR.out, O'.out⟩
          case measure => simp [intOf]
        · have c := R.cell (i := 248) (by omega)
          have e := R.free 248
          have RR := hide ((R.set 248 true).congr (f' := xbw 255 21 (248 + 1)) (fun i _ => xbw_next 255 21 248 i (by decide)))
          have O' := hide (O.setCell (p := ⟨w.heap.size, 248, none⟩) (Nat.le_refl _) (.bool true))
          clear R O
          go_wp2
          go_roundw
          case rel => exact ⟨249, by omega, rfl, RR.out, O'.out⟩
          case measure => simp [intOf]
        · have c := R.cell (i := 249) (by omega)
          have e := R.free 249
          have RR := hide ((R.set 249 true).congr (f' := xbw 255 21 (249 + 1)) (fun i _ => xbw_next 255 21 249 i (by decide)))
          have O' := hide (O.setCell (p := ⟨w.heap.size, 249, none⟩) (Nat.le_refl _) (.bool true))
          clear R O
          go_wp2
          go_roundw
          case rel => exact ⟨250, by omega, rfl, RR.out, O'.out⟩
          case measure => simp [intOf]
        · have c := R.cell (i := 250) (by omega)
          have e := R.free 250
          have RR := hide ((R.set 250 false).congr (f' := xbw 255 21 (250 + 1)) (fun i _ => xbw_next 255 21 250 i (by decide)))
          have O' := hide (O.setCell (p := ⟨w.heap.size, 250, none⟩) (Nat.le_refl _) (.bool false))
          clear R O
          go_wp2
          go_roundw
          case rel => exact ⟨251, by omega, rfl, RR.out, O'.out⟩
          case measure => simp [intOf]
        · have c := R.cell (i := 251) (by omega)
          have e := R.free 251
          have RR := hide ((R.set 251 true).congr (f' := xbw 255 21 (251 + 1)) (fun i _ => xbw_next 255 21 251 i (by decide)))
          have O' := hide (O.setCell (p := ⟨w.heap.size, 251, none⟩) (Nat.le_refl _) (.bool true))
          clear R O
          go_wp2
          go_roundw
          case rel => exact ⟨252, by omega, rfl, RR.out, O'.out⟩
          case measure => simp [intOf]
        · have c := R.cell (i := 252) (by omega)
          have e := R.free 252
          have RR := hide ((R.set 252 false).congr (f' := xbw 255 21 (252 + 1)) (fun i _ => xbw_next 255 21 252 i (by decide)))
          have O' := hide (O.setCell (p := ⟨w.heap.size, 252, none⟩) (Nat.le_refl _) (.bool false))
          clear R O
          go_wp2
          go_roundw
          case rel => exact ⟨253, by omega, rfl, RR.out, O'.out⟩
          case measure => simp [intOf]
        · have c := R.cell (i := 253) (by omega)
          have e := R.free 253
          have RR := hide ((R.set 253 true).congr (f' := xbw 255 21 (253 + 1)) (fun i _ => xbw_next 255 21 253 i (by decide)))
          have O' := hide (O.setCell (p := ⟨w.heap.size, 253, none⟩) (Nat.le_refl _) (.bool true))
          clear R O
          go_wp2
          go_roundw
          case rel => exact ⟨254, by omega, rfl, RR.out, O'.out⟩
          case measure => simp [intOf]
        · have c := R.cell (i := 254) (by omega)
          have e := R.free 254
          have RR := hide ((R.set 254 true).congr (f' := xbw 255 21 (254 + 1)) (fun i _ => xbw_next 255 21 254 i (by decide)))
          have O' := hide (O.setCell (p := ⟨w.heap.size, 254, none⟩) (Nat.le_refl _) (.bool true))
          clear R O
          go_wp2
          go_roundw
          case rel => exact ⟨255, by omega, rfl, RR.out, O'.out⟩
          case measure => simp [intOf]
      · have hj' : j = 255 := by omega
        subst hj'
        have RR := hide (R.congr (f' := xbit 255 21) (fun i hi => by unfold xbw; rw [decide_eq_true hi]; rfl))
        clear R
        go_wp2
        go_ret
        exact ⟨w.heap.size, rfl, Nat.le_refl _, RR.out, O⟩

set_option maxRecDepth 100000 in
set_option maxHeartbeats 2000000 in
theorem bits_252 (w : World) : Calls Tryz.prog 83 #[.int .i64 252, .int .i64 2] w fun r w' => ∃ b, r = .returned (.slice (some ⟨b, 0, none⟩) 252 252) ∧ w.heap.size ≤ b ∧ Brow w' b 252 (xbit 252 2) ∧ Below w.heap.size w w' := by
  have hmk : ∀ w, (Instr.makeSlice 106 (.int .i64 252) (.int .i64 252)).run Tryz.prog w = .ok (.slice (some ⟨w.heap.size, 0, none⟩) 252 252) (w.alloc (.cells (barr 252 fun _ => false) 4)) := fun _ => by kernel_rfl
  go_enter Tryz.func83, Tryz.ntmps83
  go_wp2
  clear hmk
  have R := Brow.new w 252 fun _ => false
  have O := new_below w (.cells (barr 252 fun _ => false) 4)
  generalize w.alloc (.cells (barr 252 fun _ => false) 4) = W at R O ⊢
  go_loopw [7] (fun i wr => ∃ j : Nat, j ≤ 252 ∧ i = .int .i64 j ∧ Brow wr w.heap.size 252 (xbw 252 2 j) ∧ Below w.heap.size w wr) (fun i _ => 252 - (intOf i).toNat)
  case atStart => exact ⟨0, by omega, rfl, R.congr (fun i _ => by simp [xbw]), O⟩
  case round =>
    clear R O
    obtain ⟨j, hj, rfl, R, O⟩ := hrel
    by_cases h1 : j < 244
    · have c := R.cell (i := j) (by omega)
      have e := R.free j
      have i1 : (0 : Int) ≤ (j : Int) := by omega
      have i2 : (j : Int) < 244 := by omega
      have RR := hide ((R.set j true).congr (f' := xbw 252 2 (j + 1)) (fun i _ => xbw_next 252 2 j i (by unfold xbit; rw [decide_eq_true (by omega)]; rfl)))
      have O' := hide (O.setCell (p := ⟨w.heap.size, j, none⟩) (Nat.le_refl _) (.bool true))
      clear R O
      go_wp2
      go_roundw
      case rel => exact ⟨j + 1, by omega, by go_num, RR.out, O'.out⟩
      case measure => simp [intOf]; omega
    · by_cases h2 : j < 252
      · rcases (show j = 244 ∨ j = 245 ∨ j = 246 ∨ j = 247 ∨ j = 248 ∨ j = 249 ∨ j = 250 ∨ j = 251 by omega) with rfl | rfl | rfl | rfl | rfl | rfl | rfl | rfl
        · have c := R.cell (i := 244) (by omega)
          have e := R.free 244
          have RR := hide ((R.set 244 true).congr (f' := xbw 252 2 (244 + 1)) (fun i _ => xbw_next 252 2 244 i (by decide)))
          have O' := hide (O.setCell (p := ⟨w.heap.size, 244, none⟩) (Nat.le_refl _) (.bool true))
          clear R O
          go_wp2
          go_roundw
          case rel => exact ⟨245, by omega, rfl, RR.out, O'.out⟩
          case measure => simp [intOf]
        · have c := R.cell (i := 245) (by omega)
          have e := R.free 245
          have RR := hide ((R.set 245 true).congr (f' := xbw 252 2 (245 + 1)) (fun i _ => xbw_next 252 2 245 i (by decide)))
          have O' := hide (O.setCell (p := ⟨w.heap.size, 245, none⟩) (Nat.le_refl _) (.bool true))
          clear R O
          go_wp2
          go_roundw
          case rel => exact ⟨246, by omega, rfl, RR.out, O'.out⟩
          case measure => simp [intOf]
        · have c := R.cell (i := 246) (by omega)
          have e := R.free 246
          have RR := hide ((R.set 246 true).congr (f' := xbw 252 2 (246 + 1)) (fun i _ => xbw_next 252 2 246 i (by decide)))
          have O' := hide (O.setCell (p := ⟨w.heap.size, 246, none⟩) (Nat.le_refl _) (.bool true))
          clear R O
          go_wp2
          go_roundw
          case rel => exact ⟨247, by omega, rfl, RR.out, O'.out⟩
          case measure => simp [intOf]
        · have c := R.cell (i := 247) (by omega)
          have e := R.free 247
          have RR := hide ((R.set 247 true).congr (f' := xbw 252 2 (247 + 1)) (fun i _ => xbw_next 252 2 247 i (by decide)))
          have O' := hide (O.setCell (p := ⟨w.heap.size, 247, none⟩) (Nat.le_refl _) (.bool true))
          clear R O
          go_wp2
          go_roundw
          case rel => exact ⟨248, by omega, rfl, RR.out, O'.out⟩
          case measure => simp [intOf]
        · have c := R.cell (i := 248) (by omega)
          have e := R.free 248
          have RR := hide ((R.set 248 true).congr (f' := xbw 252 2 (248 + 1)) (fun i _ => xbw_next 252 2 248 i (by decide)))
          have O' := hide (O.setCell (p := ⟨w.heap.size, 248, none⟩) (Nat.le_refl _) (.bool true))
          clear R O
          go_wp2
          go_roundw
          case rel => exact ⟨249, by omega, rfl, RR.out, O'.out⟩
          case measure => simp [intOf]
        · have c := R.cell (i := 249) (by omega)
          have e := R.free 249
          have RR := hide ((R.set 249 true).congr (f' := xbw 252 2 (249 + 1)) (fun i _ => xbw_next 252 2 249 i (by decide)))
          have O' := hide (O.setCell (p := ⟨w.heap.size, 249, none⟩) (Nat.le_refl _) (.bool true))
          clear R O
          go_wp2
          go_roundw
          case rel => exact ⟨250, by omega, rfl, RR.out, O'.out⟩
          case measure => simp [intOf]
        · have c := R.cell (i := 250) (by omega)
          have e := R.free 250
          have RR := hide ((R.set 250 true).congr (f' := xbw 252 2 (250 + 1)) (fun i _ => xbw_next 252 2 250 i (by decide)))
          have O' := hide (O.setCell (p := ⟨w.heap.size, 250, none⟩) (Nat.le_refl _) (.bool true))
          clear R O
          go_wp2
          go_roundw
          case rel => exact ⟨251, by omega, rfl, RR.out, O'.out⟩
          case measure => simp [intOf]
        · have c := R.cell (i := 251) (by omega)
          have e := R.free 251
          have RR := hide ((R.set 251 false).congr (f' := xbw 252 2 (251 + 1)) (fun i _ => xbw_next 252 2 251 i (by decide)))
          have O' := hide (O.setCell (p := ⟨w.heap.size, 251, none⟩) (Nat.le_refl _) (.bool false))
          clear R O
          go_wp2
          go_roundw
          case rel => exact ⟨252, by omega, rfl, RR.out, O'.out⟩
          case measure => simp [intOf]
      · have hj' : j = 252 := by omega
        subst hj'
        have RR := hide (R.congr (f' := xbit 252 2) (fun i hi => by unfold xbw; rw [decide_eq_true hi]; rfl))
        clear R
        go_wp2
        go_ret
        exact ⟨w.heap.size, rfl, Nat.le_refl _, RR.out, O⟩

set_option maxRecDepth 100000 in
set_option maxHeartbeats 2000000 in
theorem bits_253 (w : World) : Calls Tryz.prog 83 #[.int .i64 253, .int .i64 5] w fun r w' => ∃ b, r = .returned (.slice (some ⟨b, 0, none⟩) 253 253) ∧ w.heap.size ≤ b ∧ Brow w' b 253 (xbit 253 5) ∧ Below w.heap.size w w' := by
  have hmk : ∀ w, (Instr.makeSlice 106 (.int .i64 253) (.int .i64 253)).run Tryz.prog w = .ok (.slice (some ⟨w.heap.size, 0, none⟩) 253 253) (w.alloc (.cells (barr 253 fun _ => false) 4)) := fun _ => by kernel_rfl
  go_enter Tryz.func83, Tryz.ntmps83
  go_wp2
  clear hmk
  have R := Brow.new w 253 fun _ => false
  have O := new_below w (.cells (barr 253 fun _ => false) 4)
  generalize w.alloc (.cells (barr 253 fun _ => false) 4) = W at R O ⊢
  go_loopw [7] (fun i wr => ∃ j : Nat, j ≤ 253 ∧ i = .int .i64 j ∧ Brow wr w.heap.size 253 (xbw 253 5 j) ∧ Below w.heap.size w wr) (fun i _ => 253 - (intOf i).toNat)
  case atStart => exact ⟨0, by omega, rfl, R.congr (fun i _ => by simp [xbw]), O⟩
  case round =>
    clear R O
    obtain ⟨j, hj, rfl, R, O⟩ := hrel
    by_cases h1 : j < 245
    · have c := R.cell (i := j) (by omega)
      have e := R.free j
      have i1 : (0 : Int) ≤ (j : Int) := by omega
      have i2 : (j : Int) < 245 := by omega
      have RR := hide ((R.set j true).congr (f' := xbw 253 5 (j + 1)) (fun i _ => xbw_next 253 5 j i (by unfold xbit; rw [decide_eq_true (by omega)]; rfl)))
      have O' := hide (O.setCell (p := ⟨w.heap.size, j, none⟩) (Nat.le_refl _) (.bool true))
      clear R O
      go_wp2
      go_roundw
      case rel => exact ⟨j + 1, by omega, by go_num, RR.out, O'.out⟩
      case measure => simp [intOf]; omega
    · by_cases h2 : j < 253
      · rcases (show j = 245 ∨ j = 246 ∨ j = 247 ∨ j = 248 ∨ j = 249 ∨ j = 250 ∨ j = 251 ∨ j = 252 by omega) with rfl | rfl | rfl | rfl | rfl | rfl | rfl | rfl
        · have c := R.cell (i := 245) (by omega)
          have e := R.free 245
          have RR := hide ((R.set 245 true).congr (f' := xbw 253 5 (245 + 1)) (fun i _ => xbw_next 253 5 245 i (by decide)))
          have O' := hide (O.setCell (p := ⟨w.heap.size, 245, none⟩) (Nat.le_refl _) (.bool true))
          clear R O
          go_wp2
          go_roundw
          case rel => exact ⟨246, by omega, rfl, RR.out, O'.out⟩
          case measure => simp [intOf]
        · have c := R.cell (i := 246) (by omega)
          have e := R.free 246
          have RR := hide ((R.set 246 true).congr (f' := xbw 253 5 (246 + 1)) (fun i _ => xbw_next 253 5 246 i (by decide)))
          have O' := hide (O.setCell (p := ⟨w.heap.size, 246, none⟩) (Nat.le_refl _) (.bool true))
          clear R O
          go_wp2
          go_roundw
          case rel => exact ⟨247, by omega, rfl, RR.out, O'.out⟩
          case measure => simp [intOf]
        · have c := R.cell (i := 247) (by omega)
          have e := R.free 247
          have RR := hide ((R.set 247 true).congr (f' := xbw 253 5 (247 + 1)) (fun i _ => xbw_next 253 5 247 i (by decide)))
          have O' := hide (O.setCell (p := ⟨w.heap.size, 247, none⟩) (Nat.le_refl _) (.bool true))
          clear R O
          go_wp2
          go_roundw
          case rel => exact ⟨248, by omega, rfl, RR.out, O'.out⟩
          case measure => simp [intOf]
        · have c := R.cell (i := 248) (by omega)
          have e := R.free 248
          have RR := hide ((R.set 248 true).congr (f' := xbw 253 5 (248 + 1)) (fun i _ => xbw_next 253 5 248 i (by decide)))
          have O' := hide (O.setCell (p := ⟨w.heap.size, 248, none⟩) (Nat.le_refl _) (.bool true))
          clear R O
          go_wp2
          go_roundw
          case rel => exact ⟨249, by omega, rfl, RR.out, O'.out⟩
          case measure => simp [intOf]
        · have c := R.cell (i := 249) (by omega)
          have e := R.free 249
          have RR := hide ((R.set 249 true).congr (f' := xbw 253 5 (249 + 1)) (fun i _ => xbw_next 253 5 249 i (by decide)))
          have O' := hide (O.setCell (p := ⟨w.heap.size, 249, none⟩) (Nat.le_refl _) (.bool true))
          clear R O
          go_wp2
          go_roundw
          case rel => exact ⟨250, by omega, rfl, RR.out, O'.out⟩
          case measure => simp [intOf]
        · have c := R.cell (i := 250) (by omega)
          have e := R.free 250
          have RR := hide ((R.set 250 false).congr (f' := xbw 253 5 (250 + 1)) (fun i _ => xbw_next 253 5 250 i (by decide)))
          have O' := hide (O.setCell (p := ⟨w.heap.size, 250, none⟩) (Nat.le_refl _) (.bool false))
          clear R O
          go_wp2
          go_roundw
          case rel => exact ⟨251, by omega, rfl, RR.out, O'.out⟩
          case measure => simp [intOf]
        · have c := R.cell (i := 251) (by omega)
          have e := R.free 251
          have RR := hide ((R.set 251 true).congr (f' := xbw 253 5 (251 + 1)) (fun i _ => xbw_next 253 5 251 i (by decide)))
          have O' := hide (O.setCell (p := ⟨w.heap.size, 251, none⟩) (Nat.le_refl _) (.bool true))
          clear R O
          go_wp2
          go_roundw
          case rel => exact ⟨252, by omega, rfl, RR.out, O'.out⟩
          case measure => simp [intOf]
        · have c := R.cell (i := 252) (by omega)
          have e := R.free 252
          have RR := hide ((R.set 252 true).congr (f' := xbw 253 5 (252 + 1)) (fun i _ => xbw_next 253 5 252 i (by decide)))
          have O' := hide (O.setCell (p := ⟨w.heap.size, 252, none⟩) (Nat.le_refl _) (.bool true))
          clear R O
          go_wp2
          go_roundw
          case rel => exact ⟨253, by omega, rfl, RR.out, O'.out⟩
          case measure => simp [intOf]
      · have hj' : j = 253 := by omega
        subst hj'
        have RR := hide (R.congr (f' := xbit 253 5) (fun i hi => by unfold xbw; rw [decide_eq_true hi]; rfl))
        clear R
        go_wp2
        go_ret
        exact ⟨w.heap.size, rfl, Nat.le_refl _, RR.out, O⟩

end Go.Proofs.YtkeocdebfgcnnaaGreat

/- The product of two numbers of 16 digits, row by row. -/
namespace Go.Proofs.YtkeocdebfgcnnaaGreat
open Go.RowKit

/-- Of row i the first k products. -/
def rw1 (a b : Nat → Int) (i k : Nat) : Nat → Int := fun j => if i ≤ j ∧ j < i + k then a i * b (j - i) else 0
/-- The first i rows. -/
def mp (a b : Nat → Int) : Nat → Nat → Int
  | 0, _ => 0
  | i + 1, j => mp a b i j + rw1 a b i 16 j
/-- i rows, and of the next one k products. -/
def mq (a b : Nat → Int) (i k : Nat) : Nat → Int := fun j => mp a b i j + rw1 a b i k j

theorem S_add' (f g : Nat → Int) : ∀ n, S (fun i => f i + g i) n = S f n + S g n
  | 0 => rfl
  | n + 1 => by
    have ih := S_add' f g n
    simp only [S]
    rw [ih, Int.add_mul]
    omega

theorem S_one (m : Nat) (v : Int) : ∀ n, S (fun j => if j = m then v else 0) n = if m < n then v * 65536 ^ m else 0
  | 0 => by simp [S]
  | n + 1 => by
    have ih := S_one m v n
    simp only [S]
    rw [ih]
    by_cases h1 : m < n
    · rw [if_pos h1, if_neg (show ¬ n = m by omega), if_pos (show m < n + 1 by omega)]
      simp
    · rw [if_neg h1]
      by_cases h2 : n = m
      · subst h2
        rw [if_pos rfl, if_pos (by omega)]
        simp
      · rw [if_neg h2, if_neg (show ¬ m < n + 1 by omega)]
        simp

theorem rw1_next (a b : Nat → Int) (i k j : Nat) : rw1 a b i (k + 1) j = rw1 a b i k j + if j = i + k then a i * b k else 0 := by
  unfold rw1
  by_cases h1 : j = i + k
  · subst h1
    rw [if_pos (by omega), if_neg (by omega), if_pos rfl, show i + k - i = k by omega]
    omega
  · rw [if_neg h1]
    by_cases h2 : i ≤ j ∧ j < i + k
    · rw [if_pos h2, if_pos (by omega)]
      omega
    · rw [if_neg h2, if_neg (by omega)]
      omega

theorem rw1_S (a b : Nat → Int) (i : Nat) : ∀ k, i + k ≤ 32 → S (rw1 a b i k) 32 = a i * 65536 ^ i * S b k
  | 0, _ => by
    rw [S_congr (g := fun _ => 0) fun j _ => by unfold rw1; rw [if_neg (by omega)], S_zero]
    simp [S]
  | k + 1, h => by
    have ih := rw1_S a b i k (by omega)
    rw [S_congr fun j _ => rw1_next a b i k j, S_add', ih, S_one, if_pos (by omega)]
    simp only [S]
    rw [Int.pow_add, Int.mul_add]
    congr 1
    rw [Int.mul_assoc, Int.mul_assoc, Int.mul_left_comm (65536 ^ i)]

theorem mp_S (a b : Nat → Int) : ∀ i, i ≤ 16 → S (mp a b i) 32 = S a i * S b 16
  | 0, _ => by
    show S (fun _ => 0) 32 = _
    rw [S_zero]
    simp [S]
  | i + 1, h => by
    have ih := mp_S a b i (by omega)
    have e : S (mp a b (i + 1)) 32 = S (fun j => mp a b i j + rw1 a b i 16 j) 32 := rfl
    rw [e, S_add', ih, rw1_S a b i 16 (by omega)]
    simp only [S]
    rw [Int.add_mul]

theorem dmul {x y : Int} (hx : 0 ≤ x ∧ x < 65536) (hy : 0 ≤ y ∧ y < 65536) : 0 ≤ x * y ∧ x * y ≤ 4294836225 := by
  refine ⟨Int.mul_nonneg hx.1 hy.1, ?_⟩
  have h1 : x * y ≤ 65535 * y := Int.mul_le_mul_of_nonneg_right (by omega) hy.1
  omega

theorem rw1_bd {a b : Nat → Int} (ha : Dig a 16) (hb : Dig b 16) {i k : Nat} (hi : i < 16) (hk : k ≤ 16) (j : Nat) : 0 ≤ rw1 a b i k j ∧ rw1 a b i k j ≤ 4294836225 := by
  unfold rw1
  by_cases h : i ≤ j ∧ j < i + k
  · rw [if_pos h]
    exact dmul (ha i hi) (hb (j - i) (by omega))
  · rw [if_neg h]
    omega

theorem mp_bd {a b : Nat → Int} (ha : Dig a 16) (hb : Dig b 16) (j : Nat) : ∀ i, i ≤ 16 → 0 ≤ mp a b i j ∧ mp a b i j ≤ 4294836225 * i
  | 0, _ => by simp [mp]
  | i + 1, h => by
    have ih := mp_bd ha hb j i (by omega)
    have h2 := rw1_bd ha hb (i := i) (k := 16) (by omega) (by omega) j
    simp only [mp]
    omega

theorem mp_48 {a b : Nat → Int} (ha : Dig a 16) (hb : Dig b 16) : B48 (mp a b 16) := ⟨fun j _ => by
  have := mp_bd ha hb j 16 (by omega)
  omega⟩

theorem mq_zero (a b : Nat → Int) (i j : Nat) : mq a b i 0 j = mp a b i j := by
  unfold mq rw1
  rw [if_neg (by omega)]
  omega
theorem mq_at (a b : Nat → Int) (i k : Nat) : mq a b i k (i + k) = mp a b i (i + k) := by
  unfold mq rw1
  rw [if_neg (by omega)]
  omega
theorem mq_next (a b : Nat → Int) (i k j : Nat) : upd (mq a b i k) (i + k) (mp a b i (i + k) + a i * b k) j = mq a b i (k + 1) j := by
  unfold upd
  by_cases h : j = i + k
  · subst h
    rw [if_pos rfl]
    unfold mq
    rw [rw1_next, if_pos rfl]
    unfold rw1
    rw [if_neg (by omega)]
    omega
  · rw [if_neg h]
    unfold mq
    rw [rw1_next, if_neg h]
    omega

end Go.Proofs.YtkeocdebfgcnnaaGreat

/- The contract of the document's Mul. -/
namespace Go.Proofs.YtkeocdebfgcnnaaGreat
open Go.RowKit

set_option maxRecDepth 100000 in
set_option maxHeartbeats 1000000 in
theorem rmul_any (a b : Nat → Int) (w : World) (ha : Dig a 16) (hb : Dig b 16) :
    Calls Tryz.prog 39 #[.agg (arr 16 a), .agg (arr 16 b)] w fun r w' => r = .returned (.agg (arr 16 (d16 ((S a 16 * S b 16) % Pm)))) ∧ Below w.heap.size w w' := by
  go_enter Tryz.func39, Tryz.ntmps39
  go_wp2
  rw [show #[Value.int IntKind.u64 0, Value.int IntKind.u64 0, Value.int IntKind.u64 0, Value.int IntKind.u64 0, Value.int IntKind.u64 0, Value.int IntKind.u64 0, Value.int IntKind.u64 0, Value.int IntKind.u64 0, Value.int IntKind.u64 0, Value.int IntKind.u64 0, Value.int IntKind.u64 0, Value.int IntKind.u64 0, Value.int IntKind.u64 0, Value.int IntKind.u64 0, Value.int IntKind.u64 0, Value.int IntKind.u64 0] = arr 16 (fun _ => 0) from rfl, show #[Value.int IntKind.u64 0, Value.int IntKind.u64 0, Value.int IntKind.u64 0, Value.int IntKind.u64 0, Value.int IntKind.u64 0, Value.int IntKind.u64 0, Value.int IntKind.u64 0, Value.int IntKind.u64 0, Value.int IntKind.u64 0, Value.int IntKind.u64 0, Value.int IntKind.u64 0, Value.int IntKind.u64 0, Value.int IntKind.u64 0, Value.int IntKind.u64 0, Value.int IntKind.u64 0, Value.int IntKind.u64 0, Value.int IntKind.u64 0, Value.int IntKind.u64 0, Value.int IntKind.u64 0, Value.int IntKind.u64 0, Value.int IntKind.u64 0, Value.int IntKind.u64 0, Value.int IntKind.u64 0, Value.int IntKind.u64 0, Value.int IntKind.u64 0, Value.int IntKind.u64 0, Value.int IntKind.u64 0, Value.int IntKind.u64 0, Value.int IntKind.u64 0, Value.int IntKind.u64 0, Value.int IntKind.u64 0, Value.int IntKind.u64 0] = arr 32 (fun _ => 0) from rfl]
  have R1 : Row ((((w.alloc (.cells (arr 16 a) 39)).alloc (.cells (arr 16 b) 39)).alloc (.cells (arr 16 fun _ => 0) 39)).alloc (.cells (arr 32 fun _ => 0) 103)) w.heap.size 39 16 a := (((Row.new w 39 16 a).alloc _).alloc _).alloc _
  have R2 : Row ((((w.alloc (.cells (arr 16 a) 39)).alloc (.cells (arr 16 b) 39)).alloc (.cells (arr 16 fun _ => 0) 39)).alloc (.cells (arr 32 fun _ => 0) 103)) (w.heap.size + 1) 39 16 b := ((Row.new' _ 39 16 _ (by simp)).alloc _).alloc _
  have R3 : Row ((((w.alloc (.cells (arr 16 a) 39)).alloc (.cells (arr 16 b) 39)).alloc (.cells (arr 16 fun _ => 0) 39)).alloc (.cells (arr 32 fun _ => 0) 103)) (w.heap.size + 1 + 1) 39 16 (fun _ => 0) := (Row.new' _ 39 16 _ (by simp)).alloc _
  have R4 : Row ((((w.alloc (.cells (arr 16 a) 39)).alloc (.cells (arr 16 b) 39)).alloc (.cells (arr 16 fun _ => 0) 39)).alloc (.cells (arr 32 fun _ => 0) 103)) (w.heap.size + 1 + 1 + 1) 103 32 (fun _ => 0) := Row.new' _ 103 32 _ (by simp)
  have O : Below w.heap.size w ((((w.alloc (.cells (arr 16 a) 39)).alloc (.cells (arr 16 b) 39)).alloc (.cells (arr 16 fun _ => 0) 39)).alloc (.cells (arr 32 fun _ => 0) 103)) := ((((Below.refl _ _).alloc (Nat.le_refl _) _).alloc (by simp) _).alloc (by simp; omega) _).alloc (by simp; omega) _
  generalize ((((w.alloc (.cells (arr 16 a) 39)).alloc (.cells (arr 16 b) 39)).alloc (.cells (arr 16 fun _ => 0) 39)).alloc (.cells (arr 32 fun _ => 0) 103)) = W at R1 R2 R3 R4 O ⊢
  go_loopw [6] (fun x wr => ∃ i : Nat, i ≤ 16 ∧ x = .int .i64 i ∧ Row wr w.heap.size 39 16 a ∧ Row wr (w.heap.size + 1) 39 16 b ∧ Row wr (w.heap.size + 1 + 1) 39 16 (fun _ => 0) ∧ Row wr (w.heap.size + 1 + 1 + 1) 103 32 (mp a b i) ∧ Below w.heap.size w wr) (fun x _ => 16 - (intOf x).toNat)
  case atStart => exact ⟨0, by omega, rfl, R1, R2, R3, R4, O⟩
  case round =>
    clear R1 R2 R3 R4 O
    obtain ⟨i, hi, rfl, R1, R2, R3, R4, O⟩ := hrel
    by_cases hlt : i < 16
    · go_wp2
      go_loopw [7] (fun y wq => ∃ k : Nat, k ≤ 16 ∧ y = .int .i64 k ∧ Row wq w.heap.size 39 16 a ∧ Row wq (w.heap.size + 1) 39 16 b ∧ Row wq (w.heap.size + 1 + 1) 39 16 (fun _ => 0) ∧ Row wq (w.heap.size + 1 + 1 + 1) 103 32 (mq a b i k) ∧ Below w.heap.size w wq) (fun y _ => 16 - (intOf y).toNat)
      case atStart => exact ⟨0, by omega, rfl, R1, R2, R3, R4.congr (fun j _ => (mq_zero a b i j).symm), O⟩
      case round =>
        clear R1 R2 R3 R4 O
        obtain ⟨k, hk, rfl, R1, R2, R3, R4, O⟩ := hrel
        by_cases hkl : k < 16
        · have c := R1.cell hlt
          have d := R2.cell hkl
          have e := R4.cell (i := i + k) (by omega)
          rw [mq_at] at e
          have f := R4.free
          have hp := dmul (ha i hlt) (hb k hkl)
          have hm := mp_bd ha hb (i + k) i hi
          have i1 : (0 : Int) ≤ (i : Int) := by omega
          have i2 : (i : Int) < 16 := by omega
          have k1 : (0 : Int) ≤ (k : Int) := by omega
          have k2 : (k : Int) < 16 := by omega
          obtain ⟨p0, p1⟩ := hp
          obtain ⟨m0, m1⟩ := hm
          have m2 : mp a b i (i + k) < 100000000000 := by omega
          clear m1
          go_wp2_with fail
          go_region
          go_wp2
          exact ⟨⟨k + 1, by omega, by go_num, rowD (R1.other (a := ⟨w.heap.size + 1 + 1 + 1, i + k, none⟩) (by simp <;> omega) _), rowD (R2.other (a := ⟨w.heap.size + 1 + 1 + 1, i + k, none⟩) (by simp <;> omega) _), rowD (R3.other (a := ⟨w.heap.size + 1 + 1 + 1, i + k, none⟩) (by simp) _), rowD ((R4.set (i + k) (mp a b i (i + k) + a i * b k)).congr (fun j _ => mq_next a b i k j)), (O.setCell (p := ⟨w.heap.size + 1 + 1 + 1, i + k, none⟩) (by simp <;> omega) _).drew⟩, by simp [intOf]; omega⟩
        · have hk' : k = 16 := by omega
          subst hk'
          go_wp2
          exact ⟨⟨i + 1, by omega, by go_num, R1, R2, R3, R4, O⟩, by simp [intOf]; omega⟩
    · have hi' : i = 16 := by omega
      subst hi'
      have HR := hide R4
      clear R4 R1 R2
      go_wp2_with (refine wpList_load_row rfl 103 _ rfl (w.heap.size + 1 + 1 + 1) rfl 103 (arr 32 (mp a b 16)) (0, 0) _ HR.out Tryz.underlying103 rfl (info103 _) ?_)
      try rw [show ∀ (a : Act) (v : Value), a.put none v = a from fun _ _ => rfl]
      refine (reduce_any (mp a b 16) _ (mp_48 ha hb)).mono ?_
      rintro _ w3 ⟨rfl, hb3⟩
      replace R3 := R3.keep hb3
      replace O := O.trans (hb3.mono O.size)
      clear hb3 HR
      rw [mp_S a b 16 (by omega)]
      have RR := hide (R3.setAll (d16 ((S a 16 * S b 16) % Pm)))
      have OO := hide (below_setCells (g := w.heap.size + 1 + 1) (by omega) (arr 16 (d16 ((S a 16 * S b 16) % Pm))).toList 0 O)
      go_wp2_with (refine wpList_store_mid rfl 39 _ _ rfl (w.heap.size + 1 + 1) 0 (arr 16 (d16 ((S a 16 * S b 16) % Pm))) rfl rfl (by rw [arr_size]; exact R3.there) (info39 _) (arr_one _ _) ?_)
      exact bodyPost_ret (v := .agg (arr 16 (d16 ((S a 16 * S b 16) % Pm)))) (results_cell_row Tryz.results39 _ _ (w.heap.size + 1 + 1) 39 (arr 16 (d16 ((S a 16 * S b 16) % Pm))) (0, 0) _ rfl RR.out Tryz.underlying39 rfl (info39 _)) rfl ⟨rfl, OO.out⟩

end Go.Proofs.YtkeocdebfgcnnaaGreat

/- The contract of the document's power. -/
namespace Go.Proofs.YtkeocdebfgcnnaaGreat
open Go.RowKit

/-- What power has after i bits. -/
def pwm (x : Int) (f : Nat → Bool) : Nat → Int
  | 0 => 1
  | i + 1 => if f i = true then (pwm x f i * pwm x f i % Pm) * x % Pm else pwm x f i * pwm x f i % Pm
theorem pwm_bd (x : Int) (f : Nat → Bool) : ∀ i, 0 ≤ pwm x f i ∧ pwm x f i < Pm
  | 0 => by unfold pwm; exact ⟨by decide, by decide⟩
  | i + 1 => by
    unfold pwm
    have h : ∀ y : Int, 0 ≤ y % Pm ∧ y % Pm < Pm := fun y => ⟨Int.emod_nonneg y (by decide), Int.emod_lt_of_pos y Pm_pos⟩
    split
    · exact h _
    · exact h _
theorem bS {y : Int} (h : 0 ≤ y ∧ y < Pm) : S (d16 y) 16 = y := by
  have h2 := Pm_16
  rw [d16_S _ h.1, Int.emod_eq_of_lt h.1 (by omega)]

set_option maxRecDepth 100000 in
set_option maxHeartbeats 2000000 in
theorem power_any (a : Nat → Int) (n : Nat) (f : Nat → Bool) (b : Nat) (w : World) (ha : Dig a 16) (hB : Brow w b n f) (hn : n ≤ 300) :
    Calls Tryz.prog 82 #[.agg (arr 16 a), .slice (some ⟨b, 0, none⟩) n n] w fun r w' => r = .returned (.agg (arr 16 (d16 (pwm (S a 16) f n)))) ∧ Below w.heap.size w w' := by
  have hb1 := hB.lt
  go_enter Tryz.func82, Tryz.ntmps82
  go_wp2_with fail
  rw [show #[Value.int IntKind.u64 0, Value.int IntKind.u64 0, Value.int IntKind.u64 0, Value.int IntKind.u64 0, Value.int IntKind.u64 0, Value.int IntKind.u64 0, Value.int IntKind.u64 0, Value.int IntKind.u64 0, Value.int IntKind.u64 0, Value.int IntKind.u64 0, Value.int IntKind.u64 0, Value.int IntKind.u64 0, Value.int IntKind.u64 0, Value.int IntKind.u64 0, Value.int IntKind.u64 0, Value.int IntKind.u64 0] = arr 16 (fun _ => 0) from rfl]
  have R1 : Row ((w.alloc (.cells (arr 16 a) 39)).alloc (.cells (arr 16 fun _ => 0) 39)) w.heap.size 39 16 a := (Row.new w 39 16 a).alloc _
  have R2 : Row ((w.alloc (.cells (arr 16 a) 39)).alloc (.cells (arr 16 fun _ => 0) 39)) (w.heap.size + 1) 39 16 (fun _ => 0) := Row.new' _ 39 16 _ (by simp)
  have O : Below w.heap.size w ((w.alloc (.cells (arr 16 a) 39)).alloc (.cells (arr 16 fun _ => 0) 39)) := ((Below.refl _ _).alloc (Nat.le_refl _) _).alloc (by simp) _
  have B := hB.keep O
  generalize (w.alloc (.cells (arr 16 a) 39)).alloc (.cells (arr 16 fun _ => 0) 39) = W at R1 R2 O B ⊢
  clear hB
  refine (rsmall_any 1 _ (by decide) (by decide)).mono ?_
  rintro _ w1 ⟨rfl, hb⟩
  replace R1 := R1.keep hb
  replace R2 := R2.keep hb
  replace B := B.keep hb
  replace O := O.trans (hb.mono O.size)
  clear hb
  have RX : Row (w1.alloc (.cells #[Value.int IntKind.u64 0, Value.int IntKind.u64 0, Value.int IntKind.u64 0, Value.int IntKind.u64 0, Value.int IntKind.u64 0, Value.int IntKind.u64 0, Value.int IntKind.u64 0, Value.int IntKind.u64 0, Value.int IntKind.u64 0, Value.int IntKind.u64 0, Value.int IntKind.u64 0, Value.int IntKind.u64 0, Value.int IntKind.u64 0, Value.int IntKind.u64 0, Value.int IntKind.u64 0, Value.int IntKind.u64 0] 39)) w1.heap.size 39 16 (fun _ => 0) := Row.new w1 39 16 (fun _ => 0)
  have RR := hide (RX.setAll (d16 1))
  have BB := below_setCells (g := w1.heap.size) (Nat.le_refl _) (arr 16 (d16 1)).toList 0 (new_below w1 (.cells #[Value.int IntKind.u64 0, Value.int IntKind.u64 0, Value.int IntKind.u64 0, Value.int IntKind.u64 0, Value.int IntKind.u64 0, Value.int IntKind.u64 0, Value.int IntKind.u64 0, Value.int IntKind.u64 0, Value.int IntKind.u64 0, Value.int IntKind.u64 0, Value.int IntKind.u64 0, Value.int IntKind.u64 0, Value.int IntKind.u64 0, Value.int IntKind.u64 0, Value.int IntKind.u64 0, Value.int IntKind.u64 0] 39))
  have gx := R2.lt
  have R1' := hide (R1.keep BB)
  have R2' := hide (R2.keep BB)
  have B' := hide (B.keep BB)
  have O' := hide (O.trans (BB.mono O.size))
  clear R1 R2 B O BB
  go_wp2_with (refine wpList_store_mid rfl 39 _ _ rfl w1.heap.size 0 (arr 16 (d16 1)) rfl rfl ?there (info39 _) (arr_one _ _) ?_)
  case there => rw [arr_size]; exact RX.there
  try rw [show ∀ (a : Act) (v : Value), a.put none v = a from fun _ _ => rfl]
  have R1 := R1'.out
  have R2 := R2'.out
  have B := B'.out
  have O := O'.out
  replace RX := RR.out
  clear R1' R2' B' O' RR
  generalize w1.heap.size = gX at *
  generalize (w1.alloc (.cells #[Value.int IntKind.u64 0, Value.int IntKind.u64 0, Value.int IntKind.u64 0, Value.int IntKind.u64 0, Value.int IntKind.u64 0, Value.int IntKind.u64 0, Value.int IntKind.u64 0, Value.int IntKind.u64 0, Value.int IntKind.u64 0, Value.int IntKind.u64 0, Value.int IntKind.u64 0, Value.int IntKind.u64 0, Value.int IntKind.u64 0, Value.int IntKind.u64 0, Value.int IntKind.u64 0, Value.int IntKind.u64 0] 39)).setCells gX 0 (arr 16 (d16 1)).toList = W2 at *
  go_loopw [6] (fun x wr => ∃ i : Nat, i ≤ n ∧ x = .int .i64 i ∧ Row wr w.heap.size 39 16 a ∧ Row wr (w.heap.size + 1) 39 16 (fun _ => 0) ∧ Row wr gX 39 16 (d16 (pwm (S a 16) f i)) ∧ Brow wr b n f ∧ Below w.heap.size w wr) (fun x _ => n - (intOf x).toNat)
  case atStart => exact ⟨0, by omega, rfl, R1, R2, RX, B, O⟩
  case round =>
    clear R1 R2 RX B O
    obtain ⟨i, hi, rfl, R1, R2, RX, B, O⟩ := hrel
    have hp := pwm_bd (S a 16) f i
    by_cases hlt : i < n
    · have h1 : (i : Int) < (n : Int) := by omega
      have HP := hide hp
      have HX := hide RX
      clear hp RX
      go_wp2_with (refine wpList_load_row rfl 39 _ rfl gX rfl 39 (arr 16 (d16 (pwm (S a 16) f i))) (0, 0) _ HX.out Tryz.underlying39 rfl (info39 _) ?_)
      refine (rmul_any _ _ _ (d16_dig _ 16) (d16_dig _ 16)).mono ?_
      rintro _ w3 ⟨rfl, hb3⟩
      rw [bS HP.out]
      replace R1 := R1.keep hb3
      replace R2 := R2.keep hb3
      replace B := B.keep hb3
      have RX := HX.out.keep hb3
      replace O := O.trans (hb3.mono O.size)
      clear hb3 HX
      have hE : pwm (S a 16) f (i + 1) = if f i = true then (pwm (S a 16) f i * pwm (S a 16) f i % Pm) * S a 16 % Pm else pwm (S a 16) f i * pwm (S a 16) f i % Pm := rfl
      have HE := hide hE
      clear hE HP
      generalize pwm (S a 16) f i * pwm (S a 16) f i = Y at *
      have RR := hide (RX.setAll (d16 (Y % Pm)))
      have R1' := hide (R1.setOther (k := gX) (by omega) 0 (arr 16 (d16 (Y % Pm))).toList)
      have R2' := hide (R2.setOther (k := gX) (by omega) 0 (arr 16 (d16 (Y % Pm))).toList)
      have B' : Hid (Brow (w3.setCells gX 0 (arr 16 (d16 (Y % Pm))).toList) b n f) := hide (by
        unfold Brow
        rw [heap_setCells_other gX b (by omega)]
        exact B)
      have O' := hide (below_setCells (g := gX) (by omega) (arr 16 (d16 (Y % Pm))).toList 0 O)
      clear R1 R2 B O
      have BC := B'.out.cell hlt
      cases hf : f i
      · rw [hf] at BC HE
        go_wp2_with (refine wpList_store_mid rfl 39 _ _ rfl gX 0 (arr 16 (d16 (Y % Pm))) rfl rfl ?there (info39 _) (arr_one _ _) ?_)
        case there => rw [arr_size]; exact RX.there
        go_roundw
        case rel => exact ⟨i + 1, by omega, by go_num, R1'.out, R2'.out, by rw [HE.out]; exact RR.out, B'.out, O'.out⟩
        case measure => simp [intOf]; omega
      · rw [hf] at BC HE
        go_wp2_with (first | (refine wpList_store_mid rfl 39 _ _ rfl gX 0 (arr 16 (d16 (Y % Pm))) rfl rfl ?there (info39 _) (arr_one _ _) ?_) | (refine wpList_load_row rfl 39 _ rfl gX rfl 39 (arr 16 (d16 (Y % Pm))) (0, 0) _ RR.out Tryz.underlying39 rfl (info39 _) ?_) | (refine wpList_load_row rfl 39 _ rfl w.heap.size rfl 39 (arr 16 a) (0, 0) _ R1'.out Tryz.underlying39 rfl (info39 _) ?_))
        case there => rw [arr_size]; exact RX.there
        refine (rmul_any _ _ _ (d16_dig _ 16) ha).mono ?_
        rintro _ w5 ⟨rfl, hb5⟩
        rw [dS]
        rw [if_pos trivial] at HE
        have R1 := R1'.out.keep hb5
        have R2 := R2'.out.keep hb5
        have B := B'.out.keep hb5
        have RY := RR.out.keep hb5
        have O := O'.out.trans (hb5.mono O'.out.size)
        clear hb5 R1' R2' B' RR O' BC RX
        generalize Y % Pm * S a 16 = Y2 at *
        have RR := hide (RY.setAll (d16 (Y2 % Pm)))
        have R1' := hide (R1.setOther (k := gX) (by omega) 0 (arr 16 (d16 (Y2 % Pm))).toList)
        have R2' := hide (R2.setOther (k := gX) (by omega) 0 (arr 16 (d16 (Y2 % Pm))).toList)
        have B' : Hid (Brow (w5.setCells gX 0 (arr 16 (d16 (Y2 % Pm))).toList) b n f) := hide (by
          unfold Brow
          rw [heap_setCells_other gX b (by omega)]
          exact B)
        have O' := hide (below_setCells (g := gX) (by omega) (arr 16 (d16 (Y2 % Pm))).toList 0 O)
        clear R1 R2 B O
        go_wp2_with (refine wpList_store_mid rfl 39 _ _ rfl gX 0 (arr 16 (d16 (Y2 % Pm))) rfl rfl ?there (info39 _) (arr_one _ _) ?_)
        case there => rw [arr_size]; exact RY.there
        go_roundw
        case rel => exact ⟨i + 1, by omega, by go_num, R1'.out, R2'.out, by rw [HE.out]; exact RR.out, B'.out, O'.out⟩
        case measure => simp [intOf]; omega
    · have hi' : i = n := by omega
      subst hi'
      have RR := hide (R2.setAll (d16 (pwm (S a 16) f i)))
      have OO := hide (below_setCells (g := w.heap.size + 1) (by omega) (arr 16 (d16 (pwm (S a 16) f i))).toList 0 O)
      clear hp R1 B O
      go_wp2_with (first | (refine wpList_load_row rfl 39 _ rfl gX rfl 39 (arr 16 (d16 (pwm (S a 16) f i))) (0, 0) _ RX Tryz.underlying39 rfl (info39 _) ?_) | (refine wpList_store_mid rfl 39 _ _ rfl (w.heap.size + 1) 0 (arr 16 (d16 (pwm (S a 16) f i))) rfl rfl ?there (info39 _) (arr_one _ _) ?_))
      case there => rw [arr_size]; exact R2.there
      exact bodyPost_ret (v := .agg (arr 16 (d16 (pwm (S a 16) f i)))) (results_cell_row Tryz.results82 _ _ (w.heap.size + 1) 39 (arr 16 (d16 (pwm (S a 16) f i))) (0, 0) _ rfl RR.out Tryz.underlying39 rfl (info39 _)) rfl ⟨rfl, OO.out⟩

end Go.Proofs.YtkeocdebfgcnnaaGreat

/- The contract of the document's Inv. -/
namespace Go.Proofs.YtkeocdebfgcnnaaGreat
open Go.RowKit

set_option maxRecDepth 100000 in
set_option maxHeartbeats 1000000 in
theorem rinv_any (a : Nat → Int) (w : World) (ha : Dig a 16) :
    Calls Tryz.prog 44 #[.agg (arr 16 a)] w fun r w' => r = .returned (.agg (arr 16 (d16 (pwm (S a 16) (xbit 255 21) 255)))) ∧ Below w.heap.size w w' := by
  go_enter Tryz.func44, Tryz.ntmps44
  go_wp2_with fail
  rw [show #[Value.int IntKind.u64 0, Value.int IntKind.u64 0, Value.int IntKind.u64 0, Value.int IntKind.u64 0, Value.int IntKind.u64 0, Value.int IntKind.u64 0, Value.int IntKind.u64 0, Value.int IntKind.u64 0, Value.int IntKind.u64 0, Value.int IntKind.u64 0, Value.int IntKind.u64 0, Value.int IntKind.u64 0, Value.int IntKind.u64 0, Value.int IntKind.u64 0, Value.int IntKind.u64 0, Value.int IntKind.u64 0] = arr 16 (fun _ => 0) from rfl]
  have R1 : Row ((w.alloc (.cells (arr 16 a) 39)).alloc (.cells (arr 16 fun _ => 0) 39)) w.heap.size 39 16 a := (Row.new w 39 16 a).alloc _
  have R2 : Row ((w.alloc (.cells (arr 16 a) 39)).alloc (.cells (arr 16 fun _ => 0) 39)) (w.heap.size + 1) 39 16 (fun _ => 0) := Row.new' _ 39 16 _ (by simp)
  have O : Below w.heap.size w ((w.alloc (.cells (arr 16 a) 39)).alloc (.cells (arr 16 fun _ => 0) 39)) := ((Below.refl _ _).alloc (Nat.le_refl _) _).alloc (by simp) _
  generalize ((w.alloc (.cells (arr 16 a) 39)).alloc (.cells (arr 16 fun _ => 0) 39)) = W at R1 R2 O ⊢
  refine region_cut (fun a0 a' w' => ∃ b : Nat, a' = ((a0.put (some 3) (.agg (arr 16 a))).put (some 4) (.slice (some ⟨b, 0, none⟩) 255 255)).put (some 5) (.agg (arr 16 (d16 (pwm (S a 16) (xbit 255 21) 255)))) ∧ Row w' (w.heap.size + 1) 39 16 (d16 (pwm (S a 16) (xbit 255 21) 255)) ∧ Below w.heap.size w w') (by kernel_rfl) ?_ ?_
  · clear R1 R2 O
    rintro _ w' ⟨b, rfl, R, O⟩
    go_wp2
    exact bodyPost_ret (v := .agg (arr 16 (d16 (pwm (S a 16) (xbit 255 21) 255)))) (results_cell_row Tryz.results44 _ _ (w.heap.size + 1) 39 (arr 16 (d16 (pwm (S a 16) (xbit 255 21) 255))) (0, 0) _ rfl R Tryz.underlying39 rfl (info39 _)) rfl ⟨rfl, O⟩
  · intro hrest
    replace R1 := rowD R1
    replace R2 := rowD R2
    replace O := O.drew
    refine wpAny_ready (rs := [0, 1]) (by kernel_rfl) (by simp) ?_
    refine ready_load rfl rfl 39 _ rfl w.heap.size (by kernel_rfl) 39 (arr 16 a) (0, 0) _ R1 Tryz.underlying39 rfl (info39 _) ?_ ?_
    · skip
      refine wpAny_ready (rs := [1]) (by kernel_rfl) (by simp) ?_
      refine ready_call 83 #[.int .i64 255, .int .i64 21] rfl rfl (by kernel_rfl) ?_ ?_
      · refine (bits_255 _).mono ?_
        rintro _ w2 ⟨b, rfl, _, HB, hb2⟩
        refine ⟨_, rfl, ?_⟩
        replace R1 := R1.keep hb2
        replace R2 := R2.keep hb2
        replace O := O.trans (hb2.mono O.size)
        clear hb2
        refine wpAny_ready (rs := [2]) (by kernel_rfl) (by simp) ?_
        refine ready_call 82 #[.agg (arr 16 a), .slice (some ⟨b, 0, none⟩) 255 255] rfl rfl (by kernel_rfl) ?_ ?_
        · refine (power_any a 255 _ b _ ha HB (by decide)).mono ?_
          rintro _ w3 ⟨rfl, hb3⟩
          refine ⟨_, rfl, ?_⟩
          replace R1 := R1.keep hb3
          replace R2 := R2.keep hb3
          replace HB := HB.keep hb3
          replace O := O.trans (hb3.mono O.size)
          clear hb3
          refine wpAny_ready (rs := [3]) (by kernel_rfl) (by simp) ?_
          refine ready_store rfl rfl 39 _ _ rfl (w.heap.size + 1) 0 (arr 16 (d16 (pwm (S a 16) (xbit 255 21) 255))) (by kernel_rfl) (by kernel_rfl) (by rw [arr_size]; exact R2.there) (info39 _) (arr_one _ _) ?_ ?_
          · skip
            exact wpAny_done (by kernel_rfl) (hrest _ _ ⟨b, by kernel_rfl, R2.setAll _, below_setCells (by omega) _ _ O⟩) _
          exact AllReady.nil
        exact AllReady.nil
      exact AllReady.nil
    refine ready_call 83 #[.int .i64 255, .int .i64 21] rfl rfl (by kernel_rfl) ?_ ?_
    · refine (bits_255 _).mono ?_
      rintro _ w5 ⟨b, rfl, _, HB, hb5⟩
      refine ⟨_, rfl, ?_⟩
      replace R1 := R1.keep hb5
      replace R2 := R2.keep hb5
      replace O := O.trans (hb5.mono O.size)
      clear hb5
      refine wpAny_ready (rs := [0]) (by kernel_rfl) (by simp) ?_
      refine ready_load rfl rfl 39 _ rfl w.heap.size (by kernel_rfl) 39 (arr 16 a) (0, 0) _ R1 Tryz.underlying39 rfl (info39 _) ?_ ?_
      · skip
        refine wpAny_ready (rs := [2]) (by kernel_rfl) (by simp) ?_
        refine ready_call 82 #[.agg (arr 16 a), .slice (some ⟨b, 0, none⟩) 255 255] rfl rfl (by kernel_rfl) ?_ ?_
        · refine (power_any a 255 _ b _ ha HB (by decide)).mono ?_
          rintro _ w7 ⟨rfl, hb7⟩
          refine ⟨_, rfl, ?_⟩
          replace R1 := R1.keep hb7
          replace R2 := R2.keep hb7
          replace HB := HB.keep hb7
          replace O := O.trans (hb7.mono O.size)
          clear hb7
          refine wpAny_ready (rs := [3]) (by kernel_rfl) (by simp) ?_
          refine ready_store rfl rfl 39 _ _ rfl (w.heap.size + 1) 0 (arr 16 (d16 (pwm (S a 16) (xbit 255 21) 255))) (by kernel_rfl) (by kernel_rfl) (by rw [arr_size]; exact R2.there) (info39 _) (arr_one _ _) ?_ ?_
          · skip
            exact wpAny_done (by kernel_rfl) (hrest _ _ ⟨b, by kernel_rfl, R2.setAll _, below_setCells (by omega) _ _ O⟩) _
          exact AllReady.nil
        exact AllReady.nil
      exact AllReady.nil
    exact AllReady.nil

end Go.Proofs.YtkeocdebfgcnnaaGreat

/- The contracts of the document's Add, Neg and Sub. -/
namespace Go.Proofs.YtkeocdebfgcnnaaGreat
open Go.RowKit

/-- Of the second number the first k digits have been added. -/
def ad (a b : Nat → Int) (k : Nat) : Nat → Int := fun i => wid a 16 i + if i < k then b i else 0

theorem ad_48 {a b : Nat → Int} (ha : Dig a 16) (hb : Dig b 16) : B48 (ad a b 16) := ⟨fun i _ => by
  unfold ad wid
  by_cases hi : i < 16
  · rw [if_pos hi, if_pos hi]
    have := ha i hi
    have := hb i hi
    omega
  · rw [if_neg hi, if_neg hi]
    omega⟩

theorem S_add (f g : Nat → Int) : ∀ n, S (fun i => f i + g i) n = S f n + S g n
  | 0 => rfl
  | n + 1 => by
    have ih := S_add f g n
    simp only [S]
    rw [ih, Int.add_mul]
    omega

theorem ad_S (a b : Nat → Int) : S (ad a b 16) 32 = S a 16 + S b 16 := by
  have e : S (ad a b 16) 32 = S (wid a 16) 32 + S (wid b 16) 32 := by
    rw [← S_add]
    exact S_congr fun i _ => rfl
  rw [e, wid_S, wid_S]

set_option maxRecDepth 100000 in
set_option maxHeartbeats 1000000 in
theorem radd_any (a b : Nat → Int) (w : World) (ha : Dig a 16) (hb : Dig b 16) :
    Calls Tryz.prog 43 #[.agg (arr 16 a), .agg (arr 16 b)] w fun r w' => r = .returned (.agg (arr 16 (d16 ((S a 16 + S b 16) % Pm)))) ∧ Below w.heap.size w w' := by
  go_enter Tryz.func43, Tryz.ntmps43
  have R1 : Row (((w.alloc (.cells (arr 16 a) 39)).alloc (.cells (arr 16 b) 39)).alloc (.cells (arr 16 fun _ => 0) 39)) w.heap.size 39 16 a := ((Row.new w 39 16 a).alloc _).alloc _
  have R2 : Row (((w.alloc (.cells (arr 16 a) 39)).alloc (.cells (arr 16 b) 39)).alloc (.cells (arr 16 fun _ => 0) 39)) (w.heap.size + 1) 39 16 b := (Row.new' _ 39 16 _ (by simp)).alloc _
  have R3 : Row (((w.alloc (.cells (arr 16 a) 39)).alloc (.cells (arr 16 b) 39)).alloc (.cells (arr 16 fun _ => 0) 39)) (w.heap.size + 1 + 1) 39 16 (fun _ => 0) := Row.new' _ 39 16 _ (by simp)
  have O : Below w.heap.size w (((w.alloc (.cells (arr 16 a) 39)).alloc (.cells (arr 16 b) 39)).alloc (.cells (arr 16 fun _ => 0) 39)) := (((Below.refl _ _).alloc (Nat.le_refl _) _).alloc (by simp) _).alloc (by simp; omega) _
  have HR := hide R1
  go_wp2_with (refine wpList_load_row rfl 39 _ rfl w.heap.size rfl 39 (arr 16 a) (0, 0) _ HR.out Tryz.underlying39 rfl (info39 _) ?_)
  clear HR R1
  rw [show #[Value.int IntKind.u64 0, Value.int IntKind.u64 0, Value.int IntKind.u64 0, Value.int IntKind.u64 0, Value.int IntKind.u64 0, Value.int IntKind.u64 0, Value.int IntKind.u64 0, Value.int IntKind.u64 0, Value.int IntKind.u64 0, Value.int IntKind.u64 0, Value.int IntKind.u64 0, Value.int IntKind.u64 0, Value.int IntKind.u64 0, Value.int IntKind.u64 0, Value.int IntKind.u64 0, Value.int IntKind.u64 0] = arr 16 (fun _ => 0) from rfl]
  refine (wide_any a _).mono ?_
  rintro _ w1 ⟨rfl, hb1⟩
  replace R2 := R2.keep hb1
  replace R3 := R3.keep hb1
  replace O := O.trans (hb1.mono O.size)
  clear hb1
  have gt1 := R3.lt
  have R : Row (w1.alloc (.cells #[Value.int IntKind.u64 0, Value.int IntKind.u64 0, Value.int IntKind.u64 0, Value.int IntKind.u64 0, Value.int IntKind.u64 0, Value.int IntKind.u64 0, Value.int IntKind.u64 0, Value.int IntKind.u64 0, Value.int IntKind.u64 0, Value.int IntKind.u64 0, Value.int IntKind.u64 0, Value.int IntKind.u64 0, Value.int IntKind.u64 0, Value.int IntKind.u64 0, Value.int IntKind.u64 0, Value.int IntKind.u64 0, Value.int IntKind.u64 0, Value.int IntKind.u64 0, Value.int IntKind.u64 0, Value.int IntKind.u64 0, Value.int IntKind.u64 0, Value.int IntKind.u64 0, Value.int IntKind.u64 0, Value.int IntKind.u64 0, Value.int IntKind.u64 0, Value.int IntKind.u64 0, Value.int IntKind.u64 0, Value.int IntKind.u64 0, Value.int IntKind.u64 0, Value.int IntKind.u64 0, Value.int IntKind.u64 0, Value.int IntKind.u64 0] 103)) w1.heap.size 103 32 (fun _ => 0) := Row.new w1 103 32 (fun _ => 0)
  have BB := below_setCells (g := w1.heap.size) (Nat.le_refl _) (arr 32 (wid a 16)).toList 0 (new_below w1 (.cells #[Value.int IntKind.u64 0, Value.int IntKind.u64 0, Value.int IntKind.u64 0, Value.int IntKind.u64 0, Value.int IntKind.u64 0, Value.int IntKind.u64 0, Value.int IntKind.u64 0, Value.int IntKind.u64 0, Value.int IntKind.u64 0, Value.int IntKind.u64 0, Value.int IntKind.u64 0, Value.int IntKind.u64 0, Value.int IntKind.u64 0, Value.int IntKind.u64 0, Value.int IntKind.u64 0, Value.int IntKind.u64 0, Value.int IntKind.u64 0, Value.int IntKind.u64 0, Value.int IntKind.u64 0, Value.int IntKind.u64 0, Value.int IntKind.u64 0, Value.int IntKind.u64 0, Value.int IntKind.u64 0, Value.int IntKind.u64 0, Value.int IntKind.u64 0, Value.int IntKind.u64 0, Value.int IntKind.u64 0, Value.int IntKind.u64 0, Value.int IntKind.u64 0, Value.int IntKind.u64 0, Value.int IntKind.u64 0, Value.int IntKind.u64 0] 103))
  have RR := hide (R.setAll (wid a 16))
  have R2' := hide (R2.keep BB)
  have R3' := hide (R3.keep BB)
  have O' := hide (O.trans (BB.mono O.size))
  clear R2 R3 O BB
  go_wp2_with (refine wpList_store_mid rfl 103 _ _ rfl w1.heap.size 0 (arr 32 (wid a 16)) rfl rfl (by rw [arr_size]; exact R.there) (info103 _) (arr_one _ _) ?_)
  try rw [show ∀ (a : Act) (v : Value), a.put none v = a from fun _ _ => rfl]
  replace R := RR.out
  have R2 := R2'.out
  have R3 := R3'.out
  have O := O'.out
  clear RR R2' R3' O'
  generalize w1.heap.size = gt at *
  generalize (w1.alloc (.cells #[Value.int IntKind.u64 0, Value.int IntKind.u64 0, Value.int IntKind.u64 0, Value.int IntKind.u64 0, Value.int IntKind.u64 0, Value.int IntKind.u64 0, Value.int IntKind.u64 0, Value.int IntKind.u64 0, Value.int IntKind.u64 0, Value.int IntKind.u64 0, Value.int IntKind.u64 0, Value.int IntKind.u64 0, Value.int IntKind.u64 0, Value.int IntKind.u64 0, Value.int IntKind.u64 0, Value.int IntKind.u64 0, Value.int IntKind.u64 0, Value.int IntKind.u64 0, Value.int IntKind.u64 0, Value.int IntKind.u64 0, Value.int IntKind.u64 0, Value.int IntKind.u64 0, Value.int IntKind.u64 0, Value.int IntKind.u64 0, Value.int IntKind.u64 0, Value.int IntKind.u64 0, Value.int IntKind.u64 0, Value.int IntKind.u64 0, Value.int IntKind.u64 0, Value.int IntKind.u64 0, Value.int IntKind.u64 0, Value.int IntKind.u64 0] 103)).setCells gt 0 (arr 32 (wid a 16)).toList = W2 at *
  go_loopw [6] (fun i wr => ∃ k : Nat, k ≤ 16 ∧ i = .int .i64 k ∧ Row wr gt 103 32 (ad a b k) ∧ Row wr (w.heap.size + 1) 39 16 b ∧ Row wr (w.heap.size + 1 + 1) 39 16 (fun _ => 0) ∧ Below w.heap.size w wr) (fun i _ => 16 - (intOf i).toNat)
  case atStart => exact ⟨0, by omega, rfl, R.congr (fun i _ => by unfold ad; rw [if_neg (by omega)]; omega), R2, R3, O⟩
  case round =>
    clear R R2 R3 O
    obtain ⟨k, hk, rfl, R, R2, R3, O⟩ := hrel
    by_cases hlt : k < 16
    · have c := R.cell (i := k) (by omega)
      rw [show ad a b k k = a k by unfold ad wid; rw [if_pos hlt, if_neg (by omega)]; omega] at c
      have d := R2.cell hlt
      have e := R.free
      obtain ⟨a0, a1⟩ := ha k hlt
      obtain ⟨b0, b1⟩ := hb k hlt
      have i1 : (0 : Int) ≤ (k : Int) := by omega
      have i2 : (k : Int) < 16 := by omega
      go_wp2_with fail
      go_region
      go_wp2
      exact ⟨⟨k + 1, by omega, by go_num, rowD ((R.set k (a k + b k)).congr (fun i _ => by
        unfold upd ad
        by_cases h : i = k
        · subst h
          rw [if_pos rfl, if_pos (by omega)]
          unfold wid
          rw [if_pos hlt]
        · rw [if_neg h]
          by_cases h2 : i < k
          · rw [if_pos h2, if_pos (by omega)]
          · rw [if_neg h2, if_neg (by omega)])), rowD (R2.other (a := ⟨gt, k, none⟩) (by simp; omega) _), rowD (R3.other (a := ⟨gt, k, none⟩) (by simp; omega) _), (O.setCell (p := ⟨gt, k, none⟩) (by simp; omega) _).drew⟩, by simp [intOf]; omega⟩
    · have hk' : k = 16 := by omega
      subst hk'
      have HR := hide R
      clear R R2
      go_wp2_with (refine wpList_load_row rfl 103 _ rfl gt rfl 103 (arr 32 (ad a b 16)) (0, 0) _ HR.out Tryz.underlying103 rfl (info103 _) ?_)
      try rw [show ∀ (a : Act) (v : Value), a.put none v = a from fun _ _ => rfl]
      refine (reduce_any (ad a b 16) _ (ad_48 ha hb)).mono ?_
      rintro _ w3 ⟨rfl, hb3⟩
      replace R3 := R3.keep hb3
      replace O := O.trans (hb3.mono O.size)
      clear hb3 HR
      rw [ad_S]
      have RR := hide (R3.setAll (d16 ((S a 16 + S b 16) % Pm)))
      have OO := hide (below_setCells (g := w.heap.size + 1 + 1) (by omega) (arr 16 (d16 ((S a 16 + S b 16) % Pm))).toList 0 O)
      go_wp2_with (refine wpList_store_mid rfl 39 _ _ rfl (w.heap.size + 1 + 1) 0 (arr 16 (d16 ((S a 16 + S b 16) % Pm))) rfl rfl (by rw [arr_size]; exact R3.there) (info39 _) (arr_one _ _) ?_)
      exact bodyPost_ret (v := .agg (arr 16 (d16 ((S a 16 + S b 16) % Pm)))) (results_cell_row Tryz.results43 _ _ (w.heap.size + 1 + 1) 39 (arr 16 (d16 ((S a 16 + S b 16) % Pm))) (0, 0) _ rfl RR.out Tryz.underlying39 rfl (info39 _)) rfl ⟨rfl, OO.out⟩

end Go.Proofs.YtkeocdebfgcnnaaGreat

/- The contracts of the document's Neg and Sub. -/
namespace Go.Proofs.YtkeocdebfgcnnaaGreat
open Go.RowKit

theorem neg_zero {a : Nat → Int} (h : eqw a (fun _ => 0) 0 16 = true) : arr 16 (d16 ((- S a 16) % Pm)) = arr 16 a := by
  have hz := (eqw_iff a (fun _ => 0) 16 0).1 h
  have e : S a 16 = 0 := by rw [S_congr (g := fun _ => 0) fun i hi => hz i (by omega) (by omega), S_zero]
  rw [e]
  refine arr_congr fun i hi => ?_
  rw [hz i (by omega) (by omega)]
  simp [d16]

theorem neg_some {a : Nat → Int} (ha : Dig a 16) (hlt : S a 16 < Pm) (h : eqw a (fun _ => 0) 0 16 = false) : arr 16 (d16 ((- S a 16) % Pm)) = arr 16 (minusF pF a) := by
  have hm : S (minusF pF a) 16 = Pm - S a 16 := by rw [minus_le pF_dig ha (by rw [pF_S]; omega), pF_S]
  have h0 := (S_bd ha).1
  have hne : S a 16 ≠ 0 := by
    intro e
    have hz : ∀ i, i < 16 → a i = 0 := fun i hi => S_inj (f := a) (g := fun _ => 0) ha (fun _ _ => ⟨Int.le_refl 0, (by decide : (0 : Int) < 65536)⟩) (by rw [e, S_zero]) i hi
    have := (eqw_iff a (fun _ => 0) 16 0).2 fun i _ hi => hz i (by omega)
    rw [this] at h
    cases h
  exact fin_eq (minusF_dig pF a 16) (by rw [hm]; exact ⟨1, by omega⟩) (by rw [hm]; omega)

set_option maxRecDepth 100000 in
set_option maxHeartbeats 1000000 in
theorem rneg_any (a : Nat → Int) (w : World) (ha : Dig a 16) (hlt : S a 16 < Pm) :
    Calls Tryz.prog 46 #[.agg (arr 16 a)] w fun r w' => r = .returned (.agg (arr 16 (d16 ((- S a 16) % Pm)))) ∧ Below w.heap.size w w' := by
  have hgu : Tryz.prog.eqGuardType Tryz.prog.depth 39 = false := by kernel_rfl
  have he : ∀ w, (binOp .eql 39 (.agg (arr 16 a)) (.agg #[Value.int IntKind.u64 0, Value.int IntKind.u64 0, Value.int IntKind.u64 0, Value.int IntKind.u64 0, Value.int IntKind.u64 0, Value.int IntKind.u64 0, Value.int IntKind.u64 0, Value.int IntKind.u64 0, Value.int IntKind.u64 0, Value.int IntKind.u64 0, Value.int IntKind.u64 0, Value.int IntKind.u64 0, Value.int IntKind.u64 0, Value.int IntKind.u64 0, Value.int IntKind.u64 0, Value.int IntKind.u64 0])).run Tryz.prog w = .ok (.bool (eqw a (fun _ => 0) 0 16)) w := fun w => run_eql_words 39 16 a (fun _ => 0) w Tryz.underlying39
  have R1 : Row ((w.alloc (.cells (arr 16 a) 39)).alloc (.cells #[Value.int IntKind.u64 0, Value.int IntKind.u64 0, Value.int IntKind.u64 0, Value.int IntKind.u64 0, Value.int IntKind.u64 0, Value.int IntKind.u64 0, Value.int IntKind.u64 0, Value.int IntKind.u64 0, Value.int IntKind.u64 0, Value.int IntKind.u64 0, Value.int IntKind.u64 0, Value.int IntKind.u64 0, Value.int IntKind.u64 0, Value.int IntKind.u64 0, Value.int IntKind.u64 0, Value.int IntKind.u64 0] 39)) w.heap.size 39 16 a := (Row.new w 39 16 a).alloc _
  have R3 : Row ((w.alloc (.cells (arr 16 a) 39)).alloc (.cells #[Value.int IntKind.u64 0, Value.int IntKind.u64 0, Value.int IntKind.u64 0, Value.int IntKind.u64 0, Value.int IntKind.u64 0, Value.int IntKind.u64 0, Value.int IntKind.u64 0, Value.int IntKind.u64 0, Value.int IntKind.u64 0, Value.int IntKind.u64 0, Value.int IntKind.u64 0, Value.int IntKind.u64 0, Value.int IntKind.u64 0, Value.int IntKind.u64 0, Value.int IntKind.u64 0, Value.int IntKind.u64 0] 39)) (w.heap.size + 1) 39 16 (fun _ => 0) := Row.new' _ 39 16 (fun _ => 0) (by simp)
  have O : Below w.heap.size w ((w.alloc (.cells (arr 16 a) 39)).alloc (.cells #[Value.int IntKind.u64 0, Value.int IntKind.u64 0, Value.int IntKind.u64 0, Value.int IntKind.u64 0, Value.int IntKind.u64 0, Value.int IntKind.u64 0, Value.int IntKind.u64 0, Value.int IntKind.u64 0, Value.int IntKind.u64 0, Value.int IntKind.u64 0, Value.int IntKind.u64 0, Value.int IntKind.u64 0, Value.int IntKind.u64 0, Value.int IntKind.u64 0, Value.int IntKind.u64 0, Value.int IntKind.u64 0] 39)) := ((Below.refl _ _).alloc (Nat.le_refl _) _).alloc (by simp) _
  have H1 := hide R1
  have H3 := hide R3
  have H4 := hide O
  clear R1 R3 O
  cases hz : eqw a (fun _ => 0) 0 16
  · rw [hz] at he
    have HE := hide (neg_some ha hlt hz)
    clear hz
    go_enter Tryz.func46, Tryz.ntmps46
    go_wp2_with (refine wpList_load_row rfl 39 _ rfl w.heap.size rfl 39 (arr 16 a) (0, 0) _ H1.out Tryz.underlying39 rfl (info39 _) ?_)
    try rw [show ∀ (a : Act) (v : Value), a.put none v = a from fun _ _ => rfl]
    have R1 := H1.out
    have R3 := H3.out
    have O := H4.out
    clear H1 H3 H4
    generalize (w.alloc (.cells (arr 16 a) 39)).alloc (.cells #[Value.int IntKind.u64 0, Value.int IntKind.u64 0, Value.int IntKind.u64 0, Value.int IntKind.u64 0, Value.int IntKind.u64 0, Value.int IntKind.u64 0, Value.int IntKind.u64 0, Value.int IntKind.u64 0, Value.int IntKind.u64 0, Value.int IntKind.u64 0, Value.int IntKind.u64 0, Value.int IntKind.u64 0, Value.int IntKind.u64 0, Value.int IntKind.u64 0, Value.int IntKind.u64 0, Value.int IntKind.u64 0] 39) = W at *
    have hne := KW.some W
    have hg3 : ∀ w', (∃ s : KW W, w' = s.w) → w'.heap[w.heap.size]? = some (.cells (arr 16 a) 39 (0, 0)) := by
      rintro _ ⟨s, rfl⟩
      exact R1.keep s.keep
    have HG := hide hg3
    clear hg3 R1 he hgu
    refine wp_region_keep_tail 3 (by kernel_rfl) (by kernel_rfl) ?_
    simp only [List.take_succ_cons, List.take_zero, List.drop_succ_cons, List.drop_zero]
    go_big_quiet_step ((exact keep_of (prime_any _)))
    go_big_quiet_want
    refine quiet_load_row 39 _ rfl w.heap.size rfl 39 (arr 16 a) (0, 0) _ HG.out Tryz.underlying39 rfl (info39 _) ?_
    go_simp
    go_big_quiet_on
    go_big_quiet_step ((exact keep_of (minus_any pF a _ pF_dig ha)))
    refine wpQuiet_nil ?_
    intro s
    replace R3 := R3.keep s.keep
    replace O := O.trans (s.keep.mono O.size)
    generalize s.w = W8 at R3 O ⊢
    have RR := hide (R3.setAll (minusF pF a))
    have OO := hide (below_setCells (g := w.heap.size + 1) (by omega) (arr 16 (minusF pF a)).toList 0 O)
    clear HG hne
    go_wp2_with (refine wpList_store_mid rfl 39 _ _ rfl (w.heap.size + 1) 0 (arr 16 (minusF pF a)) rfl rfl (by rw [arr_size]; exact R3.there) (info39 _) (arr_one _ _) ?_)
    exact bodyPost_ret (v := .agg (arr 16 (minusF pF a))) (results_cell_row Tryz.results46 _ _ (w.heap.size + 1) 39 (arr 16 (minusF pF a)) (0, 0) _ rfl RR.out Tryz.underlying39 rfl (info39 _)) rfl ⟨by rw [HE.out], OO.out⟩
  · rw [hz] at he
    have HE := hide (neg_zero hz)
    clear hz
    have RR := hide (H3.out.setAll a)
    have OO := hide (below_setCells (g := w.heap.size + 1) (by omega) (arr 16 a).toList 0 H4.out)
    go_enter Tryz.func46, Tryz.ntmps46
    go_wp2_with (first | (refine wpList_load_row rfl 39 _ rfl w.heap.size rfl 39 (arr 16 a) (0, 0) _ H1.out Tryz.underlying39 rfl (info39 _) ?_) | (refine wpList_store_mid rfl 39 _ _ rfl (w.heap.size + 1) 0 (arr 16 a) rfl rfl (by rw [arr_size]; exact H3.out.there) (info39 _) (arr_one _ _) ?_))
    exact bodyPost_ret (v := .agg (arr 16 a)) (results_cell_row Tryz.results46 _ _ (w.heap.size + 1) 39 (arr 16 a) (0, 0) _ rfl RR.out Tryz.underlying39 rfl (info39 _)) rfl ⟨by rw [HE.out], OO.out⟩

theorem sub_val {a b : Nat → Int} : (S a 16 + S (d16 ((- S b 16) % Pm)) 16) % Pm = (S a 16 - S b 16) % Pm := by
  have h0 : 0 ≤ (- S b 16) % Pm := Int.emod_nonneg _ (by decide)
  have h1 : (- S b 16) % Pm < Pm := Int.emod_lt_of_pos _ (by decide)
  have hP : Pm < 65536 ^ 16 := by decide
  rw [d16_S _ h0, Int.emod_eq_of_lt h0 (by omega)]
  exact ((Cg.refl (S a 16)).add (cg_emod (- S b 16))).emod

set_option maxRecDepth 100000 in
set_option maxHeartbeats 1000000 in
theorem rsub_any (a b : Nat → Int) (w : World) (ha : Dig a 16) (hb : Dig b 16) (hlt : S b 16 < Pm) :
    Calls Tryz.prog 40 #[.agg (arr 16 a), .agg (arr 16 b)] w fun r w' => r = .returned (.agg (arr 16 (d16 ((S a 16 - S b 16) % Pm)))) ∧ Below w.heap.size w w' := by
  have hcall : ∀ w, Calls Tryz.prog 43 #[.agg (arr 16 a), .agg (arr 16 (d16 ((- S b 16) % Pm)))] w fun r w' => r = .returned (.agg (arr 16 (d16 ((S a 16 - S b 16) % Pm)))) ∧ Below w.heap.size w w' := fun w => by
    have := radd_any a (d16 ((- S b 16) % Pm)) w ha (d16_dig _ 16)
    rwa [sub_val] at this
  have HC := hide hcall
  clear hcall
  have R1 : Row (((w.alloc (.cells (arr 16 a) 39)).alloc (.cells (arr 16 b) 39)).alloc (.cells #[Value.int IntKind.u64 0, Value.int IntKind.u64 0, Value.int IntKind.u64 0, Value.int IntKind.u64 0, Value.int IntKind.u64 0, Value.int IntKind.u64 0, Value.int IntKind.u64 0, Value.int IntKind.u64 0, Value.int IntKind.u64 0, Value.int IntKind.u64 0, Value.int IntKind.u64 0, Value.int IntKind.u64 0, Value.int IntKind.u64 0, Value.int IntKind.u64 0, Value.int IntKind.u64 0, Value.int IntKind.u64 0] 39)) w.heap.size 39 16 a := ((Row.new w 39 16 a).alloc _).alloc _
  have R2 : Row (((w.alloc (.cells (arr 16 a) 39)).alloc (.cells (arr 16 b) 39)).alloc (.cells #[Value.int IntKind.u64 0, Value.int IntKind.u64 0, Value.int IntKind.u64 0, Value.int IntKind.u64 0, Value.int IntKind.u64 0, Value.int IntKind.u64 0, Value.int IntKind.u64 0, Value.int IntKind.u64 0, Value.int IntKind.u64 0, Value.int IntKind.u64 0, Value.int IntKind.u64 0, Value.int IntKind.u64 0, Value.int IntKind.u64 0, Value.int IntKind.u64 0, Value.int IntKind.u64 0, Value.int IntKind.u64 0] 39)) (w.heap.size + 1) 39 16 b := (Row.new' _ 39 16 _ (by simp)).alloc _
  have R3 : Row (((w.alloc (.cells (arr 16 a) 39)).alloc (.cells (arr 16 b) 39)).alloc (.cells #[Value.int IntKind.u64 0, Value.int IntKind.u64 0, Value.int IntKind.u64 0, Value.int IntKind.u64 0, Value.int IntKind.u64 0, Value.int IntKind.u64 0, Value.int IntKind.u64 0, Value.int IntKind.u64 0, Value.int IntKind.u64 0, Value.int IntKind.u64 0, Value.int IntKind.u64 0, Value.int IntKind.u64 0, Value.int IntKind.u64 0, Value.int IntKind.u64 0, Value.int IntKind.u64 0, Value.int IntKind.u64 0] 39)) (w.heap.size + 1 + 1) 39 16 (fun _ => 0) := Row.new' _ 39 16 (fun _ => 0) (by simp)
  have O : Below w.heap.size w (((w.alloc (.cells (arr 16 a) 39)).alloc (.cells (arr 16 b) 39)).alloc (.cells #[Value.int IntKind.u64 0, Value.int IntKind.u64 0, Value.int IntKind.u64 0, Value.int IntKind.u64 0, Value.int IntKind.u64 0, Value.int IntKind.u64 0, Value.int IntKind.u64 0, Value.int IntKind.u64 0, Value.int IntKind.u64 0, Value.int IntKind.u64 0, Value.int IntKind.u64 0, Value.int IntKind.u64 0, Value.int IntKind.u64 0, Value.int IntKind.u64 0, Value.int IntKind.u64 0, Value.int IntKind.u64 0] 39)) := (((Below.refl _ _).alloc (Nat.le_refl _) _).alloc (by simp) _).alloc (by simp; omega) _
  go_enter Tryz.func40, Tryz.ntmps40
  go_wp2_with fail
  generalize ((w.alloc (.cells (arr 16 a) 39)).alloc (.cells (arr 16 b) 39)).alloc (.cells #[Value.int IntKind.u64 0, Value.int IntKind.u64 0, Value.int IntKind.u64 0, Value.int IntKind.u64 0, Value.int IntKind.u64 0, Value.int IntKind.u64 0, Value.int IntKind.u64 0, Value.int IntKind.u64 0, Value.int IntKind.u64 0, Value.int IntKind.u64 0, Value.int IntKind.u64 0, Value.int IntKind.u64 0, Value.int IntKind.u64 0, Value.int IntKind.u64 0, Value.int IntKind.u64 0, Value.int IntKind.u64 0] 39) = W at *
  have hne := KW.some W
  have hg1 : ∀ w', (∃ s : KW W, w' = s.w) → w'.heap[w.heap.size]? = some (.cells (arr 16 a) 39 (0, 0)) := by
    rintro _ ⟨s, rfl⟩
    exact R1.keep s.keep
  have hg2 : ∀ w', (∃ s : KW W, w' = s.w) → w'.heap[w.heap.size + 1]? = some (.cells (arr 16 b) 39 (0, 0)) := by
    rintro _ ⟨s, rfl⟩
    exact R2.keep s.keep
  have HG1 := hide hg1
  have HG2 := hide hg2
  clear hg1 hg2 R1 R2
  refine wp_region_keep_tail 4 (by kernel_rfl) (by kernel_rfl) ?_
  simp only [List.take_succ_cons, List.take_zero, List.drop_succ_cons, List.drop_zero]
  go_big_quiet_want
  refine quiet_load_row 39 _ rfl w.heap.size rfl 39 (arr 16 a) (0, 0) _ HG1.out Tryz.underlying39 rfl (info39 _) ?_
  go_simp
  go_big_quiet_on
  go_big_quiet_want
  refine quiet_load_row 39 _ rfl (w.heap.size + 1) rfl 39 (arr 16 b) (0, 0) _ HG2.out Tryz.underlying39 rfl (info39 _) ?_
  go_simp
  go_big_quiet_on
  go_big_quiet_step ((exact keep_of (rneg_any b _ hb hlt)))
  go_big_quiet_step ((exact keep_of (HC.out _)))
  refine wpQuiet_nil ?_
  intro s
  replace R3 := R3.keep s.keep
  replace O := O.trans (s.keep.mono O.size)
  generalize s.w = W8 at R3 O ⊢
  have RR := hide (R3.setAll (d16 ((S a 16 - S b 16) % Pm)))
  have OO := hide (below_setCells (g := w.heap.size + 1 + 1) (by omega) (arr 16 (d16 ((S a 16 - S b 16) % Pm))).toList 0 O)
  clear HG1 HG2 hne HC
  go_wp2_with (refine wpList_store_mid rfl 39 _ _ rfl (w.heap.size + 1 + 1) 0 (arr 16 (d16 ((S a 16 - S b 16) % Pm))) rfl rfl (by rw [arr_size]; exact R3.there) (info39 _) (arr_one _ _) ?_)
  exact bodyPost_ret (v := .agg (arr 16 (d16 ((S a 16 - S b 16) % Pm)))) (results_cell_row Tryz.results40 _ _ (w.heap.size + 1 + 1) 39 (arr 16 (d16 ((S a 16 - S b 16) % Pm))) (0, 0) _ rfl RR.out Tryz.underlying39 rfl (info39 _)) rfl ⟨rfl, OO.out⟩

end Go.Proofs.YtkeocdebfgcnnaaGreat

/- The contract of the document's Root, told by what its callees hand back. -/
namespace Go.Proofs.YtkeocdebfgcnnaaGreat
open Go.RowKit

/-- What Root's callees hand back. -/
structure RC (a u I v q0 q1 nu nv : Nat → Int) : Prop where
  p0 : ∀ w b, Brow w b 252 (xbit 252 2) → Calls Tryz.prog 82 #[.agg (arr 16 a), .slice (some ⟨b, 0, none⟩) 252 252] w fun r w' => r = .returned (.agg (arr 16 u)) ∧ Below w.heap.size w w'
  p1 : ∀ w b, Brow w b 253 (xbit 253 5) → Calls Tryz.prog 82 #[.agg (arr 16 (d16 2)), .slice (some ⟨b, 0, none⟩) 253 253] w fun r w' => r = .returned (.agg (arr 16 I)) ∧ Below w.heap.size w w'
  m0 : ∀ w, Calls Tryz.prog 39 #[.agg (arr 16 u), .agg (arr 16 u)] w fun r w' => r = .returned (.agg (arr 16 q0)) ∧ Below w.heap.size w w'
  m1 : ∀ w, Calls Tryz.prog 39 #[.agg (arr 16 u), .agg (arr 16 I)] w fun r w' => r = .returned (.agg (arr 16 v)) ∧ Below w.heap.size w w'
  m2 : ∀ w, Calls Tryz.prog 39 #[.agg (arr 16 v), .agg (arr 16 v)] w fun r w' => r = .returned (.agg (arr 16 q1)) ∧ Below w.heap.size w w'
  n0 : ∀ w, Calls Tryz.prog 46 #[.agg (arr 16 u)] w fun r w' => r = .returned (.agg (arr 16 nu)) ∧ Below w.heap.size w w'
  n1 : ∀ w, Calls Tryz.prog 46 #[.agg (arr 16 v)] w fun r w' => r = .returned (.agg (arr 16 nv)) ∧ Below w.heap.size w w'

def par (u : Nat → Int) : Bool := bits BinOp.and IntKind.u64 (u 0) 1 == 1
def rrG (a u v q0 q1 nu nv : Nat → Int) : (Nat → Int) × Bool :=
  if eqw q0 a 0 16 = true then (if par u = true then nu else u, true) else if eqw q1 a 0 16 = true then (if par v = true then nv else v, true) else (fun _ => 0, false)

set_option maxRecDepth 100000 in
set_option maxHeartbeats 4000000 in
theorem rroot_gen (a u I v q0 q1 nu nv : Nat → Int) (w : World) (H : RC a u I v q0 q1 nu nv) :
    Calls Tryz.prog 45 #[.agg (arr 16 a)] w fun r w' => r = .returned (.tuple #[.agg (arr 16 (rrG a u v q0 q1 nu nv).1), .bool (rrG a u v q0 q1 nu nv).2]) ∧ Below w.heap.size w w' := by
  go_enter Tryz.func45, Tryz.ntmps45
  go_wp2_with fail
  rw [show #[Value.int IntKind.u64 0, Value.int IntKind.u64 0, Value.int IntKind.u64 0, Value.int IntKind.u64 0, Value.int IntKind.u64 0, Value.int IntKind.u64 0, Value.int IntKind.u64 0, Value.int IntKind.u64 0, Value.int IntKind.u64 0, Value.int IntKind.u64 0, Value.int IntKind.u64 0, Value.int IntKind.u64 0, Value.int IntKind.u64 0, Value.int IntKind.u64 0, Value.int IntKind.u64 0, Value.int IntKind.u64 0] = arr 16 (fun _ => 0) from rfl]
  have R1 : Row ((w.alloc (.cells (arr 16 a) 39)).alloc (.cells (arr 16 fun _ => 0) 39)) w.heap.size 39 16 a := (Row.new w 39 16 a).alloc _
  have R2 : Row ((w.alloc (.cells (arr 16 a) 39)).alloc (.cells (arr 16 fun _ => 0) 39)) (w.heap.size + 1) 39 16 (fun _ => 0) := Row.new' _ 39 16 _ (by simp)
  have O : Below w.heap.size w ((w.alloc (.cells (arr 16 a) 39)).alloc (.cells (arr 16 fun _ => 0) 39)) := ((Below.refl _ _).alloc (Nat.le_refl _) _).alloc (by simp) _
  generalize ((w.alloc (.cells (arr 16 a) 39)).alloc (.cells (arr 16 fun _ => 0) 39)) = W at R1 R2 O ⊢
  refine region_cut (fun a0 a' w' => ∃ gc b : Nat, a' = (((a0.put (some 5) (.agg (arr 16 a))).put (some 6) (.slice (some ⟨b, 0, none⟩) 252 252)).put (some 7) (.agg (arr 16 u))).put (some 4) (.pointer (some ⟨gc, 0, none⟩)) ∧ Row w' gc 39 16 u ∧ Row w' w.heap.size 39 16 a ∧ Row w' (w.heap.size + 1) 39 16 (fun _ => 0) ∧ w.heap.size + 1 < gc ∧ Below w.heap.size w w') (by kernel_rfl) ?_ ?_
  · clear R1 R2 O
    rintro _ w1 ⟨gc, b0, rfl, RC, R1, R2, bgt, O⟩
    cases e0 : eqw q0 a 0 16
    · skip
      go_simp
      go_wp2_with fail
      have hne := KW.some w1
      have h1 : ∀ w', (∃ s : KW w1, w' = s.w) → w'.heap[w.heap.size]? = some (.cells (arr 16 a) 39 (0, 0)) := by
        rintro _ ⟨s, rfl⟩
        exact R1.keep s.keep
      have h2 : ∀ w', (∃ s : KW w1, w' = s.w) → w'.heap[gc]? = some (.cells (arr 16 u) 39 (0, 0)) := by
        rintro _ ⟨s, rfl⟩
        exact RC.keep s.keep
      have HA := hide h1
      have HC := hide h2
      have K := hide (And.intro R1 (And.intro R2 (And.intro RC O)))
      clear h1 h2 R1 R2 RC O
      refine wp_region_keep (by kernel_rfl) (by kernel_rfl) ?_
      go_big_quiet_want
      refine quiet_load_row 39 _ rfl gc rfl 39 (arr 16 u) (0, 0) _ HC.out Tryz.underlying39 rfl (info39 _) ?_
      go_simp
      go_big_quiet_on
      go_big_quiet_want
      refine quiet_load_row 39 _ rfl gc rfl 39 (arr 16 u) (0, 0) _ HC.out Tryz.underlying39 rfl (info39 _) ?_
      go_simp
      go_big_quiet_on
      go_big_quiet_step ((exact keep_of (H.m0 _)))
      go_big_quiet_want
      refine quiet_load_row 39 _ rfl w.heap.size rfl 39 (arr 16 a) (0, 0) _ HA.out Tryz.underlying39 rfl (info39 _) ?_
      go_simp
      go_big_quiet_on
      go_big_quiet_want
      refine quiet_neq q0 a _ _ _ rfl rfl rfl ?_
      rw [e0]
      go_simp
      go_big_quiet_on
      refine wpQuiet_nil ?_
      intro s
      obtain ⟨R1, R2, RC, O⟩ := K.out
      replace R1 := R1.keep s.keep
      replace R2 := R2.keep s.keep
      replace RC := RC.keep s.keep
      replace O := O.trans (s.keep.mono O.size)
      clear HA HC hne K
      generalize s.w = w2 at *
      go_wp2_with fail
      refine region_cut (fun a0 a' w' => ∃ b : Nat, a' = ((((a0.put (some 13) (.agg (arr 16 u))).put (some 14) (.agg (arr 16 (d16 2)))).put (some 15) (.slice (some ⟨b, 0, none⟩) 253 253)).put (some 16) (.agg (arr 16 I))).put (some 17) (.agg (arr 16 v)) ∧ Row w' gc 39 16 v ∧ Row w' w.heap.size 39 16 a ∧ Row w' (w.heap.size + 1) 39 16 (fun _ => 0) ∧ Below w.heap.size w w') (by kernel_rfl) ?_ ?_
      · clear R1 R2 RC O
        rintro _ w3 ⟨b, rfl, RC, R1, R2, O⟩
        go_simp
        go_wp2_with fail
        cases e1 : eqw q1 a 0 16
        · skip
          have hne := KW.some w3
          have h1 : ∀ w', (∃ s : KW w3, w' = s.w) → w'.heap[w.heap.size]? = some (.cells (arr 16 a) 39 (0, 0)) := by
            rintro _ ⟨s, rfl⟩
            exact R1.keep s.keep
          have h2 : ∀ w', (∃ s : KW w3, w' = s.w) → w'.heap[gc]? = some (.cells (arr 16 v) 39 (0, 0)) := by
            rintro _ ⟨s, rfl⟩
            exact RC.keep s.keep
          have HA := hide h1
          have HC := hide h2
          have K := hide (And.intro R1 (And.intro R2 (And.intro RC O)))
          clear h1 h2 R1 R2 RC O
          refine wp_region_keep (by kernel_rfl) (by kernel_rfl) ?_
          go_big_quiet_want
          refine quiet_load_row 39 _ rfl gc rfl 39 (arr 16 v) (0, 0) _ HC.out Tryz.underlying39 rfl (info39 _) ?_
          go_simp
          go_big_quiet_on
          go_big_quiet_want
          refine quiet_load_row 39 _ rfl gc rfl 39 (arr 16 v) (0, 0) _ HC.out Tryz.underlying39 rfl (info39 _) ?_
          go_simp
          go_big_quiet_on
          go_big_quiet_step ((exact keep_of (H.m2 _)))
          go_big_quiet_want
          refine quiet_load_row 39 _ rfl w.heap.size rfl 39 (arr 16 a) (0, 0) _ HA.out Tryz.underlying39 rfl (info39 _) ?_
          go_simp
          go_big_quiet_on
          go_big_quiet_want
          refine quiet_neq q1 a _ _ _ rfl rfl rfl ?_
          rw [e1]
          go_simp
          go_big_quiet_on
          refine wpQuiet_nil ?_
          intro s
          obtain ⟨R1, R2, RC, O⟩ := K.out
          replace R1 := R1.keep s.keep
          replace R2 := R2.keep s.keep
          replace RC := RC.keep s.keep
          replace O := O.trans (s.keep.mono O.size)
          clear HA HC hne K
          generalize s.w = w4 at *
          have RR := hide (R2.setAll (fun _ => 0))
          have OO := hide (below_setCells (g := w.heap.size + 1) (by omega) (arr 16 (fun _ => 0)).toList 0 O)
          clear RC O R1
          go_wp2_with (refine wpList_store_mid rfl 39 _ _ rfl (w.heap.size + 1) 0 (arr 16 (fun _ => 0)) rfl rfl ?there (info39 _) (arr_one _ _) ?_)
          case there => rw [arr_size]; exact R2.there
          exact bodyPost_ret (v := .tuple #[.agg (arr 16 fun _ => 0), .bool false]) (results_cell_tmp Tryz.results45 _ _ (w.heap.size + 1) 39 (arr 16 (fun _ => 0)) (0, 0) _ (.bool false) rfl rfl RR.out Tryz.underlying39 rfl (info39 _)) rfl ⟨by simp [rrG, e0, e1], OO.out⟩
        · skip
          have hne := KW.some w3
          have h1 : ∀ w', (∃ s : KW w3, w' = s.w) → w'.heap[w.heap.size]? = some (.cells (arr 16 a) 39 (0, 0)) := by
            rintro _ ⟨s, rfl⟩
            exact R1.keep s.keep
          have h2 : ∀ w', (∃ s : KW w3, w' = s.w) → w'.heap[gc]? = some (.cells (arr 16 v) 39 (0, 0)) := by
            rintro _ ⟨s, rfl⟩
            exact RC.keep s.keep
          have HA := hide h1
          have HC := hide h2
          have K := hide (And.intro R1 (And.intro R2 (And.intro RC O)))
          clear h1 h2 R1 R2 RC O
          refine wp_region_keep (by kernel_rfl) (by kernel_rfl) ?_
          go_big_quiet_want
          refine quiet_load_row 39 _ rfl gc rfl 39 (arr 16 v) (0, 0) _ HC.out Tryz.underlying39 rfl (info39 _) ?_
          go_simp
          go_big_quiet_on
          go_big_quiet_want
          refine quiet_load_row 39 _ rfl gc rfl 39 (arr 16 v) (0, 0) _ HC.out Tryz.underlying39 rfl (info39 _) ?_
          go_simp
          go_big_quiet_on
          go_big_quiet_step ((exact keep_of (H.m2 _)))
          go_big_quiet_want
          refine quiet_load_row 39 _ rfl w.heap.size rfl 39 (arr 16 a) (0, 0) _ HA.out Tryz.underlying39 rfl (info39 _) ?_
          go_simp
          go_big_quiet_on
          go_big_quiet_want
          refine quiet_neq q1 a _ _ _ rfl rfl rfl ?_
          rw [e1]
          go_simp
          go_big_quiet_on
          refine wpQuiet_nil ?_
          intro s
          obtain ⟨R1, R2, RC, O⟩ := K.out
          replace R1 := R1.keep s.keep
          replace R2 := R2.keep s.keep
          replace RC := RC.keep s.keep
          replace O := O.trans (s.keep.mono O.size)
          clear HA HC hne K
          generalize s.w = w4 at *
          have RCC := RC.cell (i := 0) (by omega)
          cases hp : par v
          · have hb : (bits BinOp.and IntKind.u64 (v 0) 1 == 1) = false := hp
            have RR := hide (R2.setAll v)
            have OO := hide (below_setCells (g := w.heap.size + 1) (by omega) (arr 16 v).toList 0 O)
            have HX := hide RC
            clear RC O R1
            go_wp2_with (first | (refine wpList_load_row rfl 39 _ rfl gc rfl 39 (arr 16 v) (0, 0) _ HX.out Tryz.underlying39 rfl (info39 _) ?_) | (refine wpList_store_mid rfl 39 _ _ rfl (w.heap.size + 1) 0 (arr 16 v) rfl rfl ?there (info39 _) (arr_one _ _) ?_))
            case there => rw [arr_size]; exact R2.there
            exact bodyPost_ret (v := .tuple #[.agg (arr 16 v), .bool true]) (results_cell_tmp Tryz.results45 _ _ (w.heap.size + 1) 39 (arr 16 v) (0, 0) _ (.bool true) rfl rfl RR.out Tryz.underlying39 rfl (info39 _)) rfl ⟨by simp [rrG, e0, e1, hp], OO.out⟩
          · have hb : (bits BinOp.and IntKind.u64 (v 0) 1 == 1) = true := hp
            have HX := hide RC
            clear RC
            go_wp2_with (refine wpList_load_row rfl 39 _ rfl gc rfl 39 (arr 16 v) (0, 0) _ HX.out Tryz.underlying39 rfl (info39 _) ?_)
            refine (H.n1 _).mono ?_
            rintro _ w8 ⟨rfl, hb8⟩
            replace R2 := R2.keep hb8
            have RC := HX.out.keep hb8
            replace O := O.trans (hb8.mono O.size)
            clear hb8 HX R1 RCC
            have RD := hide (RC.setAll nv)
            have R3 := R2.setOther (k := gc) (by omega) 0 (arr 16 nv).toList
            have RR := hide (R3.setAll nv)
            have OO := hide (below_setCells (g := w.heap.size + 1) (by omega) (arr 16 nv).toList 0 (below_setCells (g := gc) (by omega) (arr 16 nv).toList 0 O))
            go_wp2_with (first | (refine wpList_store_mid rfl 39 _ _ rfl gc 0 (arr 16 nv) rfl rfl ?there (info39 _) (arr_one _ _) ?_) | (refine wpList_load_row rfl 39 _ rfl gc rfl 39 (arr 16 nv) (0, 0) _ RD.out Tryz.underlying39 rfl (info39 _) ?_) | (refine wpList_store_mid rfl 39 _ _ rfl (w.heap.size + 1) 0 (arr 16 nv) rfl rfl ?there2 (info39 _) (arr_one _ _) ?_))
            case there => rw [arr_size]; exact RC.there
            case there2 => rw [arr_size]; exact R3.there
            exact bodyPost_ret (v := .tuple #[.agg (arr 16 nv), .bool true]) (results_cell_tmp Tryz.results45 _ _ (w.heap.size + 1) 39 (arr 16 nv) (0, 0) _ (.bool true) rfl rfl RR.out Tryz.underlying39 rfl (info39 _)) rfl ⟨by simp [rrG, e0, e1, hp], OO.out⟩
      · intro hrest
        replace R1 := rowD R1
        replace R2 := rowD R2
        replace RC := rowD RC
        replace O := O.drew
        generalize w2.drew = W0 at *
        refine wpAny_ready (rs := [0, 1]) (by kernel_rfl) (by simp) ?_
        refine ready_load rfl rfl 39 _ rfl gc (by kernel_rfl) 39 (arr 16 u) (0, 0) _ RC Tryz.underlying39 rfl (info39 _) ?_ ?_
        · skip
          refine wpAny_ready (rs := [1]) (by kernel_rfl) (by simp) ?_
          refine ready_call 41 #[.int .u32 2] rfl rfl (by kernel_rfl) ?_ ?_
          · refine (rsmall_any 2 _ (by decide) (by decide)).mono ?_
            rintro _ w2 ⟨rfl, hb2⟩
            refine ⟨_, rfl, ?_⟩
            replace R1 := R1.keep hb2
            replace R2 := R2.keep hb2
            replace RC := RC.keep hb2
            replace O := O.trans (hb2.mono O.size)
            clear hb2
            refine wpAny_ready (rs := [2]) (by kernel_rfl) (by simp) ?_
            refine ready_call 83 #[.int .i64 253, .int .i64 5] rfl rfl (by kernel_rfl) ?_ ?_
            · refine (bits_253 _).mono ?_
              rintro _ w3 ⟨b, rfl, _, HB, hb3⟩
              refine ⟨_, rfl, ?_⟩
              replace R1 := R1.keep hb3
              replace R2 := R2.keep hb3
              replace RC := RC.keep hb3
              replace O := O.trans (hb3.mono O.size)
              clear hb3
              refine wpAny_ready (rs := [3]) (by kernel_rfl) (by simp) ?_
              refine ready_call 82 #[.agg (arr 16 (d16 2)), .slice (some ⟨b, 0, none⟩) 253 253] rfl rfl (by kernel_rfl) ?_ ?_
              · refine (H.p1 _ b HB).mono ?_
                rintro _ w4 ⟨rfl, hb4⟩
                refine ⟨_, rfl, ?_⟩
                replace R1 := R1.keep hb4
                replace R2 := R2.keep hb4
                replace RC := RC.keep hb4
                replace HB := HB.keep hb4
                replace O := O.trans (hb4.mono O.size)
                clear hb4
                refine wpAny_ready (rs := [4]) (by kernel_rfl) (by simp) ?_
                refine ready_call 39 #[.agg (arr 16 u), .agg (arr 16 I)] rfl rfl (by kernel_rfl) ?_ ?_
                · refine (H.m1 _).mono ?_
                  rintro _ w5 ⟨rfl, hb5⟩
                  refine ⟨_, rfl, ?_⟩
                  replace R1 := R1.keep hb5
                  replace R2 := R2.keep hb5
                  replace RC := RC.keep hb5
                  replace HB := HB.keep hb5
                  replace O := O.trans (hb5.mono O.size)
                  clear hb5
                  refine wpAny_ready (rs := [5]) (by kernel_rfl) (by simp) ?_
                  refine ready_store rfl rfl 39 _ _ rfl gc 0 (arr 16 v) (by kernel_rfl) (by kernel_rfl) (by rw [arr_size]; exact RC.there) (info39 _) (arr_one _ _) ?_ ?_
                  · skip
                    exact wpAny_done (by kernel_rfl) (hrest _ _ ⟨b, by kernel_rfl, RC.setAll _, R1.setOther (by omega) _ _, R2.setOther (by omega) _ _, below_setCells (by omega) _ _ O⟩) _
                  exact AllReady.nil
                exact AllReady.nil
              exact AllReady.nil
            exact AllReady.nil
          exact AllReady.nil
        refine ready_call 41 #[.int .u32 2] rfl rfl (by kernel_rfl) ?_ ?_
        · refine (rsmall_any 2 _ (by decide) (by decide)).mono ?_
          rintro _ w7 ⟨rfl, hb7⟩
          refine ⟨_, rfl, ?_⟩
          replace R1 := R1.keep hb7
          replace R2 := R2.keep hb7
          replace RC := RC.keep hb7
          replace O := O.trans (hb7.mono O.size)
          clear hb7
          refine wpAny_ready (rs := [0, 2]) (by kernel_rfl) (by simp) ?_
          refine ready_load rfl rfl 39 _ rfl gc (by kernel_rfl) 39 (arr 16 u) (0, 0) _ RC Tryz.underlying39 rfl (info39 _) ?_ ?_
          · skip
            refine wpAny_ready (rs := [2]) (by kernel_rfl) (by simp) ?_
            refine ready_call 83 #[.int .i64 253, .int .i64 5] rfl rfl (by kernel_rfl) ?_ ?_
            · refine (bits_253 _).mono ?_
              rintro _ w9 ⟨b, rfl, _, HB, hb9⟩
              refine ⟨_, rfl, ?_⟩
              replace R1 := R1.keep hb9
              replace R2 := R2.keep hb9
              replace RC := RC.keep hb9
              replace O := O.trans (hb9.mono O.size)
              clear hb9
              refine wpAny_ready (rs := [3]) (by kernel_rfl) (by simp) ?_
              refine ready_call 82 #[.agg (arr 16 (d16 2)), .slice (some ⟨b, 0, none⟩) 253 253] rfl rfl (by kernel_rfl) ?_ ?_
              · refine (H.p1 _ b HB).mono ?_
                rintro _ w10 ⟨rfl, hb10⟩
                refine ⟨_, rfl, ?_⟩
                replace R1 := R1.keep hb10
                replace R2 := R2.keep hb10
                replace RC := RC.keep hb10
                replace HB := HB.keep hb10
                replace O := O.trans (hb10.mono O.size)
                clear hb10
                refine wpAny_ready (rs := [4]) (by kernel_rfl) (by simp) ?_
                refine ready_call 39 #[.agg (arr 16 u), .agg (arr 16 I)] rfl rfl (by kernel_rfl) ?_ ?_
                · refine (H.m1 _).mono ?_
                  rintro _ w11 ⟨rfl, hb11⟩
                  refine ⟨_, rfl, ?_⟩
                  replace R1 := R1.keep hb11
                  replace R2 := R2.keep hb11
                  replace RC := RC.keep hb11
                  replace HB := HB.keep hb11
                  replace O := O.trans (hb11.mono O.size)
                  clear hb11
                  refine wpAny_ready (rs := [5]) (by kernel_rfl) (by simp) ?_
                  refine ready_store rfl rfl 39 _ _ rfl gc 0 (arr 16 v) (by kernel_rfl) (by kernel_rfl) (by rw [arr_size]; exact RC.there) (info39 _) (arr_one _ _) ?_ ?_
                  · skip
                    exact wpAny_done (by kernel_rfl) (hrest _ _ ⟨b, by kernel_rfl, RC.setAll _, R1.setOther (by omega) _ _, R2.setOther (by omega) _ _, below_setCells (by omega) _ _ O⟩) _
                  exact AllReady.nil
                exact AllReady.nil
              exact AllReady.nil
            exact AllReady.nil
          refine ready_call 83 #[.int .i64 253, .int .i64 5] rfl rfl (by kernel_rfl) ?_ ?_
          · refine (bits_253 _).mono ?_
            rintro _ w13 ⟨b, rfl, _, HB, hb13⟩
            refine ⟨_, rfl, ?_⟩
            replace R1 := R1.keep hb13
            replace R2 := R2.keep hb13
            replace RC := RC.keep hb13
            replace O := O.trans (hb13.mono O.size)
            clear hb13
            refine wpAny_ready (rs := [0, 3]) (by kernel_rfl) (by simp) ?_
            refine ready_load rfl rfl 39 _ rfl gc (by kernel_rfl) 39 (arr 16 u) (0, 0) _ RC Tryz.underlying39 rfl (info39 _) ?_ ?_
            · skip
              refine wpAny_ready (rs := [3]) (by kernel_rfl) (by simp) ?_
              refine ready_call 82 #[.agg (arr 16 (d16 2)), .slice (some ⟨b, 0, none⟩) 253 253] rfl rfl (by kernel_rfl) ?_ ?_
              · refine (H.p1 _ b HB).mono ?_
                rintro _ w15 ⟨rfl, hb15⟩
                refine ⟨_, rfl, ?_⟩
                replace R1 := R1.keep hb15
                replace R2 := R2.keep hb15
                replace RC := RC.keep hb15
                replace HB := HB.keep hb15
                replace O := O.trans (hb15.mono O.size)
                clear hb15
                refine wpAny_ready (rs := [4]) (by kernel_rfl) (by simp) ?_
                refine ready_call 39 #[.agg (arr 16 u), .agg (arr 16 I)] rfl rfl (by kernel_rfl) ?_ ?_
                · refine (H.m1 _).mono ?_
                  rintro _ w16 ⟨rfl, hb16⟩
                  refine ⟨_, rfl, ?_⟩
                  replace R1 := R1.keep hb16
                  replace R2 := R2.keep hb16
                  replace RC := RC.keep hb16
                  replace HB := HB.keep hb16
                  replace O := O.trans (hb16.mono O.size)
                  clear hb16
                  refine wpAny_ready (rs := [5]) (by kernel_rfl) (by simp) ?_
                  refine ready_store rfl rfl 39 _ _ rfl gc 0 (arr 16 v) (by kernel_rfl) (by kernel_rfl) (by rw [arr_size]; exact RC.there) (info39 _) (arr_one _ _) ?_ ?_
                  · skip
                    exact wpAny_done (by kernel_rfl) (hrest _ _ ⟨b, by kernel_rfl, RC.setAll _, R1.setOther (by omega) _ _, R2.setOther (by omega) _ _, below_setCells (by omega) _ _ O⟩) _
                  exact AllReady.nil
                exact AllReady.nil
              exact AllReady.nil
            refine ready_call 82 #[.agg (arr 16 (d16 2)), .slice (some ⟨b, 0, none⟩) 253 253] rfl rfl (by kernel_rfl) ?_ ?_
            · refine (H.p1 _ b HB).mono ?_
              rintro _ w18 ⟨rfl, hb18⟩
              refine ⟨_, rfl, ?_⟩
              replace R1 := R1.keep hb18
              replace R2 := R2.keep hb18
              replace RC := RC.keep hb18
              replace HB := HB.keep hb18
              replace O := O.trans (hb18.mono O.size)
              clear hb18
              refine wpAny_ready (rs := [0]) (by kernel_rfl) (by simp) ?_
              refine ready_load rfl rfl 39 _ rfl gc (by kernel_rfl) 39 (arr 16 u) (0, 0) _ RC Tryz.underlying39 rfl (info39 _) ?_ ?_
              · skip
                refine wpAny_ready (rs := [4]) (by kernel_rfl) (by simp) ?_
                refine ready_call 39 #[.agg (arr 16 u), .agg (arr 16 I)] rfl rfl (by kernel_rfl) ?_ ?_
                · refine (H.m1 _).mono ?_
                  rintro _ w20 ⟨rfl, hb20⟩
                  refine ⟨_, rfl, ?_⟩
                  replace R1 := R1.keep hb20
                  replace R2 := R2.keep hb20
                  replace RC := RC.keep hb20
                  replace HB := HB.keep hb20
                  replace O := O.trans (hb20.mono O.size)
                  clear hb20
                  refine wpAny_ready (rs := [5]) (by kernel_rfl) (by simp) ?_
                  refine ready_store rfl rfl 39 _ _ rfl gc 0 (arr 16 v) (by kernel_rfl) (by kernel_rfl) (by rw [arr_size]; exact RC.there) (info39 _) (arr_one _ _) ?_ ?_
                  · skip
                    exact wpAny_done (by kernel_rfl) (hrest _ _ ⟨b, by kernel_rfl, RC.setAll _, R1.setOther (by omega) _ _, R2.setOther (by omega) _ _, below_setCells (by omega) _ _ O⟩) _
                  exact AllReady.nil
                exact AllReady.nil
              exact AllReady.nil
            exact AllReady.nil
          exact AllReady.nil
        exact AllReady.nil
    · skip
      go_simp
      go_wp2_with fail
      have hne := KW.some w1
      have h1 : ∀ w', (∃ s : KW w1, w' = s.w) → w'.heap[w.heap.size]? = some (.cells (arr 16 a) 39 (0, 0)) := by
        rintro _ ⟨s, rfl⟩
        exact R1.keep s.keep
      have h2 : ∀ w', (∃ s : KW w1, w' = s.w) → w'.heap[gc]? = some (.cells (arr 16 u) 39 (0, 0)) := by
        rintro _ ⟨s, rfl⟩
        exact RC.keep s.keep
      have HA := hide h1
      have HC := hide h2
      have K := hide (And.intro R1 (And.intro R2 (And.intro RC O)))
      clear h1 h2 R1 R2 RC O
      refine wp_region_keep (by kernel_rfl) (by kernel_rfl) ?_
      go_big_quiet_want
      refine quiet_load_row 39 _ rfl gc rfl 39 (arr 16 u) (0, 0) _ HC.out Tryz.underlying39 rfl (info39 _) ?_
      go_simp
      go_big_quiet_on
      go_big_quiet_want
      refine quiet_load_row 39 _ rfl gc rfl 39 (arr 16 u) (0, 0) _ HC.out Tryz.underlying39 rfl (info39 _) ?_
      go_simp
      go_big_quiet_on
      go_big_quiet_step ((exact keep_of (H.m0 _)))
      go_big_quiet_want
      refine quiet_load_row 39 _ rfl w.heap.size rfl 39 (arr 16 a) (0, 0) _ HA.out Tryz.underlying39 rfl (info39 _) ?_
      go_simp
      go_big_quiet_on
      go_big_quiet_want
      refine quiet_neq q0 a _ _ _ rfl rfl rfl ?_
      rw [e0]
      go_simp
      go_big_quiet_on
      refine wpQuiet_nil ?_
      intro s
      obtain ⟨R1, R2, RC, O⟩ := K.out
      replace R1 := R1.keep s.keep
      replace R2 := R2.keep s.keep
      replace RC := RC.keep s.keep
      replace O := O.trans (s.keep.mono O.size)
      clear HA HC hne K
      generalize s.w = w2 at *
      go_wp2_with fail
      have hne := KW.some w2
      have h1 : ∀ w', (∃ s : KW w2, w' = s.w) → w'.heap[w.heap.size]? = some (.cells (arr 16 a) 39 (0, 0)) := by
        rintro _ ⟨s, rfl⟩
        exact R1.keep s.keep
      have h2 : ∀ w', (∃ s : KW w2, w' = s.w) → w'.heap[gc]? = some (.cells (arr 16 u) 39 (0, 0)) := by
        rintro _ ⟨s, rfl⟩
        exact RC.keep s.keep
      have HA := hide h1
      have HC := hide h2
      have K := hide (And.intro R1 (And.intro R2 (And.intro RC O)))
      clear h1 h2 R1 R2 RC O
      refine wp_region_keep (by kernel_rfl) (by kernel_rfl) ?_
      go_big_quiet_want
      refine quiet_load_row 39 _ rfl gc rfl 39 (arr 16 u) (0, 0) _ HC.out Tryz.underlying39 rfl (info39 _) ?_
      go_simp
      go_big_quiet_on
      go_big_quiet_want
      refine quiet_load_row 39 _ rfl gc rfl 39 (arr 16 u) (0, 0) _ HC.out Tryz.underlying39 rfl (info39 _) ?_
      go_simp
      go_big_quiet_on
      go_big_quiet_step ((exact keep_of (H.m0 _)))
      go_big_quiet_want
      refine quiet_load_row 39 _ rfl w.heap.size rfl 39 (arr 16 a) (0, 0) _ HA.out Tryz.underlying39 rfl (info39 _) ?_
      go_simp
      go_big_quiet_on
      go_big_quiet_want
      refine quiet_neq q0 a _ _ _ rfl rfl rfl ?_
      rw [e0]
      go_simp
      go_big_quiet_on
      refine wpQuiet_nil ?_
      intro s
      obtain ⟨R1, R2, RC, O⟩ := K.out
      replace R1 := R1.keep s.keep
      replace R2 := R2.keep s.keep
      replace RC := RC.keep s.keep
      replace O := O.trans (s.keep.mono O.size)
      clear HA HC hne K
      generalize s.w = w4 at *
      have RCC := RC.cell (i := 0) (by omega)
      cases hp : par u
      · have hb : (bits BinOp.and IntKind.u64 (u 0) 1 == 1) = false := hp
        have RR := hide (R2.setAll u)
        have OO := hide (below_setCells (g := w.heap.size + 1) (by omega) (arr 16 u).toList 0 O)
        have HX := hide RC
        clear RC O R1
        go_wp2_with (first | (refine wpList_load_row rfl 39 _ rfl gc rfl 39 (arr 16 u) (0, 0) _ HX.out Tryz.underlying39 rfl (info39 _) ?_) | (refine wpList_store_mid rfl 39 _ _ rfl (w.heap.size + 1) 0 (arr 16 u) rfl rfl ?there (info39 _) (arr_one _ _) ?_))
        case there => rw [arr_size]; exact R2.there
        exact bodyPost_ret (v := .tuple #[.agg (arr 16 u), .bool true]) (results_cell_tmp Tryz.results45 _ _ (w.heap.size + 1) 39 (arr 16 u) (0, 0) _ (.bool true) rfl rfl RR.out Tryz.underlying39 rfl (info39 _)) rfl ⟨by simp [rrG, e0, hp], OO.out⟩
      · have hb : (bits BinOp.and IntKind.u64 (u 0) 1 == 1) = true := hp
        have HX := hide RC
        clear RC
        go_wp2_with (refine wpList_load_row rfl 39 _ rfl gc rfl 39 (arr 16 u) (0, 0) _ HX.out Tryz.underlying39 rfl (info39 _) ?_)
        refine (H.n0 _).mono ?_
        rintro _ w8 ⟨rfl, hb8⟩
        replace R2 := R2.keep hb8
        have RC := HX.out.keep hb8
        replace O := O.trans (hb8.mono O.size)
        clear hb8 HX R1 RCC
        have RD := hide (RC.setAll nu)
        have R3 := R2.setOther (k := gc) (by omega) 0 (arr 16 nu).toList
        have RR := hide (R3.setAll nu)
        have OO := hide (below_setCells (g := w.heap.size + 1) (by omega) (arr 16 nu).toList 0 (below_setCells (g := gc) (by omega) (arr 16 nu).toList 0 O))
        go_wp2_with (first | (refine wpList_store_mid rfl 39 _ _ rfl gc 0 (arr 16 nu) rfl rfl ?there (info39 _) (arr_one _ _) ?_) | (refine wpList_load_row rfl 39 _ rfl gc rfl 39 (arr 16 nu) (0, 0) _ RD.out Tryz.underlying39 rfl (info39 _) ?_) | (refine wpList_store_mid rfl 39 _ _ rfl (w.heap.size + 1) 0 (arr 16 nu) rfl rfl ?there2 (info39 _) (arr_one _ _) ?_))
        case there => rw [arr_size]; exact RC.there
        case there2 => rw [arr_size]; exact R3.there
        exact bodyPost_ret (v := .tuple #[.agg (arr 16 nu), .bool true]) (results_cell_tmp Tryz.results45 _ _ (w.heap.size + 1) 39 (arr 16 nu) (0, 0) _ (.bool true) rfl rfl RR.out Tryz.underlying39 rfl (info39 _)) rfl ⟨by simp [rrG, e0, hp], OO.out⟩
  · intro hrest
    replace R1 := rowD R1
    replace R2 := rowD R2
    replace O := O.drew
    generalize W.drew = W0 at *
    refine wpAny_ready (rs := [0, 1, 3]) (by kernel_rfl) (by simp) ?_
    refine ready_load rfl rfl 39 _ rfl w.heap.size (by kernel_rfl) 39 (arr 16 a) (0, 0) _ R1 Tryz.underlying39 rfl (info39 _) ?_ ?_
    · skip
      refine wpAny_ready (rs := [1, 3]) (by kernel_rfl) (by simp) ?_
      refine ready_call 83 #[.int .i64 252, .int .i64 2] rfl rfl (by kernel_rfl) ?_ ?_
      · refine (bits_252 _).mono ?_
        rintro _ w2 ⟨b, rfl, _, HB, hb2⟩
        refine ⟨_, rfl, ?_⟩
        replace R1 := R1.keep hb2
        replace R2 := R2.keep hb2
        replace O := O.trans (hb2.mono O.size)
        clear hb2
        refine wpAny_ready (rs := [2, 3]) (by kernel_rfl) (by simp) ?_
        refine ready_call 82 #[.agg (arr 16 a), .slice (some ⟨b, 0, none⟩) 252 252] rfl rfl (by kernel_rfl) ?_ ?_
        · refine (H.p0 _ b HB).mono ?_
          rintro _ w3 ⟨rfl, hb3⟩
          refine ⟨_, rfl, ?_⟩
          replace R1 := R1.keep hb3
          replace R2 := R2.keep hb3
          replace HB := HB.keep hb3
          replace O := O.trans (hb3.mono O.size)
          clear hb3
          refine wpAny_ready (rs := [3]) (by kernel_rfl) (by simp) ?_
          refine ready_alloc (.cells (arr 16 fun _ => 0) 39) rfl rfl (by kernel_rfl) ?_ ?_
          · have RC := Row.new w3 39 16 (fun _ => 0)
            have bgt := R2.lt
            replace R1 := R1.keep (new_below _ (.cells (arr 16 fun _ => 0) 39))
            replace R2 := R2.keep (new_below _ (.cells (arr 16 fun _ => 0) 39))
            replace HB := HB.keep (new_below _ (.cells (arr 16 fun _ => 0) 39))
            replace O := O.trans ((new_below _ (.cells (arr 16 fun _ => 0) 39)).mono O.size)
            generalize w3.heap.size = gc at *
            generalize w3.alloc (.cells (arr 16 fun _ => 0) 39) = w4 at *
            refine wpAny_ready (rs := [4]) (by kernel_rfl) (by simp) ?_
            refine ready_store rfl rfl 39 _ _ rfl gc 0 (arr 16 u) (by kernel_rfl) (by kernel_rfl) (by rw [arr_size]; exact RC.there) (info39 _) (arr_one _ _) ?_ ?_
            · skip
              exact wpAny_done (by kernel_rfl) (hrest _ _ ⟨gc, b, by kernel_rfl, RC.setAll _, R1.setOther (by omega) _ _, R2.setOther (by omega) _ _, bgt, below_setCells (by omega) _ _ O⟩) _
            exact AllReady.nil
          exact AllReady.nil
        refine ready_alloc (.cells (arr 16 fun _ => 0) 39) rfl rfl (by kernel_rfl) ?_ ?_
        · have RC := Row.new w2 39 16 (fun _ => 0)
          have bgt := R2.lt
          replace R1 := R1.keep (new_below _ (.cells (arr 16 fun _ => 0) 39))
          replace R2 := R2.keep (new_below _ (.cells (arr 16 fun _ => 0) 39))
          replace HB := HB.keep (new_below _ (.cells (arr 16 fun _ => 0) 39))
          replace O := O.trans ((new_below _ (.cells (arr 16 fun _ => 0) 39)).mono O.size)
          generalize w2.heap.size = gc at *
          generalize w2.alloc (.cells (arr 16 fun _ => 0) 39) = w6 at *
          refine wpAny_ready (rs := [2]) (by kernel_rfl) (by simp) ?_
          refine ready_call 82 #[.agg (arr 16 a), .slice (some ⟨b, 0, none⟩) 252 252] rfl rfl (by kernel_rfl) ?_ ?_
          · refine (H.p0 _ b HB).mono ?_
            rintro _ w7 ⟨rfl, hb7⟩
            refine ⟨_, rfl, ?_⟩
            replace R1 := R1.keep hb7
            replace R2 := R2.keep hb7
            replace RC := RC.keep hb7
            replace HB := HB.keep hb7
            replace O := O.trans (hb7.mono O.size)
            clear hb7
            refine wpAny_ready (rs := [4]) (by kernel_rfl) (by simp) ?_
            refine ready_store rfl rfl 39 _ _ rfl gc 0 (arr 16 u) (by kernel_rfl) (by kernel_rfl) (by rw [arr_size]; exact RC.there) (info39 _) (arr_one _ _) ?_ ?_
            · skip
              exact wpAny_done (by kernel_rfl) (hrest _ _ ⟨gc, b, by kernel_rfl, RC.setAll _, R1.setOther (by omega) _ _, R2.setOther (by omega) _ _, bgt, below_setCells (by omega) _ _ O⟩) _
            exact AllReady.nil
          exact AllReady.nil
        exact AllReady.nil
      refine ready_alloc (.cells (arr 16 fun _ => 0) 39) rfl rfl (by kernel_rfl) ?_ ?_
      · have RC := Row.new W0 39 16 (fun _ => 0)
        have bgt := R2.lt
        replace R1 := R1.keep (new_below _ (.cells (arr 16 fun _ => 0) 39))
        replace R2 := R2.keep (new_below _ (.cells (arr 16 fun _ => 0) 39))
        replace O := O.trans ((new_below _ (.cells (arr 16 fun _ => 0) 39)).mono O.size)
        generalize W0.heap.size = gc at *
        generalize W0.alloc (.cells (arr 16 fun _ => 0) 39) = w9 at *
        refine wpAny_ready (rs := [1]) (by kernel_rfl) (by simp) ?_
        refine ready_call 83 #[.int .i64 252, .int .i64 2] rfl rfl (by kernel_rfl) ?_ ?_
        · refine (bits_252 _).mono ?_
          rintro _ w10 ⟨b, rfl, _, HB, hb10⟩
          refine ⟨_, rfl, ?_⟩
          replace R1 := R1.keep hb10
          replace R2 := R2.keep hb10
          replace RC := RC.keep hb10
          replace O := O.trans (hb10.mono O.size)
          clear hb10
          refine wpAny_ready (rs := [2]) (by kernel_rfl) (by simp) ?_
          refine ready_call 82 #[.agg (arr 16 a), .slice (some ⟨b, 0, none⟩) 252 252] rfl rfl (by kernel_rfl) ?_ ?_
          · refine (H.p0 _ b HB).mono ?_
            rintro _ w11 ⟨rfl, hb11⟩
            refine ⟨_, rfl, ?_⟩
            replace R1 := R1.keep hb11
            replace R2 := R2.keep hb11
            replace RC := RC.keep hb11
            replace HB := HB.keep hb11
            replace O := O.trans (hb11.mono O.size)
            clear hb11
            refine wpAny_ready (rs := [4]) (by kernel_rfl) (by simp) ?_
            refine ready_store rfl rfl 39 _ _ rfl gc 0 (arr 16 u) (by kernel_rfl) (by kernel_rfl) (by rw [arr_size]; exact RC.there) (info39 _) (arr_one _ _) ?_ ?_
            · skip
              exact wpAny_done (by kernel_rfl) (hrest _ _ ⟨gc, b, by kernel_rfl, RC.setAll _, R1.setOther (by omega) _ _, R2.setOther (by omega) _ _, bgt, below_setCells (by omega) _ _ O⟩) _
            exact AllReady.nil
          exact AllReady.nil
        exact AllReady.nil
      exact AllReady.nil
    refine ready_call 83 #[.int .i64 252, .int .i64 2] rfl rfl (by kernel_rfl) ?_ ?_
    · refine (bits_252 _).mono ?_
      rintro _ w13 ⟨b, rfl, _, HB, hb13⟩
      refine ⟨_, rfl, ?_⟩
      replace R1 := R1.keep hb13
      replace R2 := R2.keep hb13
      replace O := O.trans (hb13.mono O.size)
      clear hb13
      refine wpAny_ready (rs := [0, 3]) (by kernel_rfl) (by simp) ?_
      refine ready_load rfl rfl 39 _ rfl w.heap.size (by kernel_rfl) 39 (arr 16 a) (0, 0) _ R1 Tryz.underlying39 rfl (info39 _) ?_ ?_
      · skip
        refine wpAny_ready (rs := [2, 3]) (by kernel_rfl) (by simp) ?_
        refine ready_call 82 #[.agg (arr 16 a), .slice (some ⟨b, 0, none⟩) 252 252] rfl rfl (by kernel_rfl) ?_ ?_
        · refine (H.p0 _ b HB).mono ?_
          rintro _ w15 ⟨rfl, hb15⟩
          refine ⟨_, rfl, ?_⟩
          replace R1 := R1.keep hb15
          replace R2 := R2.keep hb15
          replace HB := HB.keep hb15
          replace O := O.trans (hb15.mono O.size)
          clear hb15
          refine wpAny_ready (rs := [3]) (by kernel_rfl) (by simp) ?_
          refine ready_alloc (.cells (arr 16 fun _ => 0) 39) rfl rfl (by kernel_rfl) ?_ ?_
          · have RC := Row.new w15 39 16 (fun _ => 0)
            have bgt := R2.lt
            replace R1 := R1.keep (new_below _ (.cells (arr 16 fun _ => 0) 39))
            replace R2 := R2.keep (new_below _ (.cells (arr 16 fun _ => 0) 39))
            replace HB := HB.keep (new_below _ (.cells (arr 16 fun _ => 0) 39))
            replace O := O.trans ((new_below _ (.cells (arr 16 fun _ => 0) 39)).mono O.size)
            generalize w15.heap.size = gc at *
            generalize w15.alloc (.cells (arr 16 fun _ => 0) 39) = w16 at *
            refine wpAny_ready (rs := [4]) (by kernel_rfl) (by simp) ?_
            refine ready_store rfl rfl 39 _ _ rfl gc 0 (arr 16 u) (by kernel_rfl) (by kernel_rfl) (by rw [arr_size]; exact RC.there) (info39 _) (arr_one _ _) ?_ ?_
            · skip
              exact wpAny_done (by kernel_rfl) (hrest _ _ ⟨gc, b, by kernel_rfl, RC.setAll _, R1.setOther (by omega) _ _, R2.setOther (by omega) _ _, bgt, below_setCells (by omega) _ _ O⟩) _
            exact AllReady.nil
          exact AllReady.nil
        refine ready_alloc (.cells (arr 16 fun _ => 0) 39) rfl rfl (by kernel_rfl) ?_ ?_
        · have RC := Row.new w13 39 16 (fun _ => 0)
          have bgt := R2.lt
          replace R1 := R1.keep (new_below _ (.cells (arr 16 fun _ => 0) 39))
          replace R2 := R2.keep (new_below _ (.cells (arr 16 fun _ => 0) 39))
          replace HB := HB.keep (new_below _ (.cells (arr 16 fun _ => 0) 39))
          replace O := O.trans ((new_below _ (.cells (arr 16 fun _ => 0) 39)).mono O.size)
          generalize w13.heap.size = gc at *
          generalize w13.alloc (.cells (arr 16 fun _ => 0) 39) = w18 at *
          refine wpAny_ready (rs := [2]) (by kernel_rfl) (by simp) ?_
          refine ready_call 82 #[.agg (arr 16 a), .slice (some ⟨b, 0, none⟩) 252 252] rfl rfl (by kernel_rfl) ?_ ?_
          · refine (H.p0 _ b HB).mono ?_
            rintro _ w19 ⟨rfl, hb19⟩
            refine ⟨_, rfl, ?_⟩
            replace R1 := R1.keep hb19
            replace R2 := R2.keep hb19
            replace RC := RC.keep hb19
            replace HB := HB.keep hb19
            replace O := O.trans (hb19.mono O.size)
            clear hb19
            refine wpAny_ready (rs := [4]) (by kernel_rfl) (by simp) ?_
            refine ready_store rfl rfl 39 _ _ rfl gc 0 (arr 16 u) (by kernel_rfl) (by kernel_rfl) (by rw [arr_size]; exact RC.there) (info39 _) (arr_one _ _) ?_ ?_
            · skip
              exact wpAny_done (by kernel_rfl) (hrest _ _ ⟨gc, b, by kernel_rfl, RC.setAll _, R1.setOther (by omega) _ _, R2.setOther (by omega) _ _, bgt, below_setCells (by omega) _ _ O⟩) _
            exact AllReady.nil
          exact AllReady.nil
        exact AllReady.nil
      refine ready_alloc (.cells (arr 16 fun _ => 0) 39) rfl rfl (by kernel_rfl) ?_ ?_
      · have RC := Row.new w13 39 16 (fun _ => 0)
        have bgt := R2.lt
        replace R1 := R1.keep (new_below _ (.cells (arr 16 fun _ => 0) 39))
        replace R2 := R2.keep (new_below _ (.cells (arr 16 fun _ => 0) 39))
        replace HB := HB.keep (new_below _ (.cells (arr 16 fun _ => 0) 39))
        replace O := O.trans ((new_below _ (.cells (arr 16 fun _ => 0) 39)).mono O.size)
        generalize w13.heap.size = gc at *
        generalize w13.alloc (.cells (arr 16 fun _ => 0) 39) = w21 at *
        refine wpAny_ready (rs := [0]) (by kernel_rfl) (by simp) ?_
        refine ready_load rfl rfl 39 _ rfl w.heap.size (by kernel_rfl) 39 (arr 16 a) (0, 0) _ R1 Tryz.underlying39 rfl (info39 _) ?_ ?_
        · skip
          refine wpAny_ready (rs := [2]) (by kernel_rfl) (by simp) ?_
          refine ready_call 82 #[.agg (arr 16 a), .slice (some ⟨b, 0, none⟩) 252 252] rfl rfl (by kernel_rfl) ?_ ?_
          · refine (H.p0 _ b HB).mono ?_
            rintro _ w23 ⟨rfl, hb23⟩
            refine ⟨_, rfl, ?_⟩
            replace R1 := R1.keep hb23
            replace R2 := R2.keep hb23
            replace RC := RC.keep hb23
            replace HB := HB.keep hb23
            replace O := O.trans (hb23.mono O.size)
            clear hb23
            refine wpAny_ready (rs := [4]) (by kernel_rfl) (by simp) ?_
            refine ready_store rfl rfl 39 _ _ rfl gc 0 (arr 16 u) (by kernel_rfl) (by kernel_rfl) (by rw [arr_size]; exact RC.there) (info39 _) (arr_one _ _) ?_ ?_
            · skip
              exact wpAny_done (by kernel_rfl) (hrest _ _ ⟨gc, b, by kernel_rfl, RC.setAll _, R1.setOther (by omega) _ _, R2.setOther (by omega) _ _, bgt, below_setCells (by omega) _ _ O⟩) _
            exact AllReady.nil
          exact AllReady.nil
        exact AllReady.nil
      exact AllReady.nil
    refine ready_alloc (.cells (arr 16 fun _ => 0) 39) rfl rfl (by kernel_rfl) ?_ ?_
    · have RC := Row.new W0 39 16 (fun _ => 0)
      have bgt := R2.lt
      replace R1 := R1.keep (new_below _ (.cells (arr 16 fun _ => 0) 39))
      replace R2 := R2.keep (new_below _ (.cells (arr 16 fun _ => 0) 39))
      replace O := O.trans ((new_below _ (.cells (arr 16 fun _ => 0) 39)).mono O.size)
      generalize W0.heap.size = gc at *
      generalize W0.alloc (.cells (arr 16 fun _ => 0) 39) = w25 at *
      refine wpAny_ready (rs := [0, 1]) (by kernel_rfl) (by simp) ?_
      refine ready_load rfl rfl 39 _ rfl w.heap.size (by kernel_rfl) 39 (arr 16 a) (0, 0) _ R1 Tryz.underlying39 rfl (info39 _) ?_ ?_
      · skip
        refine wpAny_ready (rs := [1]) (by kernel_rfl) (by simp) ?_
        refine ready_call 83 #[.int .i64 252, .int .i64 2] rfl rfl (by kernel_rfl) ?_ ?_
        · refine (bits_252 _).mono ?_
          rintro _ w27 ⟨b, rfl, _, HB, hb27⟩
          refine ⟨_, rfl, ?_⟩
          replace R1 := R1.keep hb27
          replace R2 := R2.keep hb27
          replace RC := RC.keep hb27
          replace O := O.trans (hb27.mono O.size)
          clear hb27
          refine wpAny_ready (rs := [2]) (by kernel_rfl) (by simp) ?_
          refine ready_call 82 #[.agg (arr 16 a), .slice (some ⟨b, 0, none⟩) 252 252] rfl rfl (by kernel_rfl) ?_ ?_
          · refine (H.p0 _ b HB).mono ?_
            rintro _ w28 ⟨rfl, hb28⟩
            refine ⟨_, rfl, ?_⟩
            replace R1 := R1.keep hb28
            replace R2 := R2.keep hb28
            replace RC := RC.keep hb28
            replace HB := HB.keep hb28
            replace O := O.trans (hb28.mono O.size)
            clear hb28
            refine wpAny_ready (rs := [4]) (by kernel_rfl) (by simp) ?_
            refine ready_store rfl rfl 39 _ _ rfl gc 0 (arr 16 u) (by kernel_rfl) (by kernel_rfl) (by rw [arr_size]; exact RC.there) (info39 _) (arr_one _ _) ?_ ?_
            · skip
              exact wpAny_done (by kernel_rfl) (hrest _ _ ⟨gc, b, by kernel_rfl, RC.setAll _, R1.setOther (by omega) _ _, R2.setOther (by omega) _ _, bgt, below_setCells (by omega) _ _ O⟩) _
            exact AllReady.nil
          exact AllReady.nil
        exact AllReady.nil
      refine ready_call 83 #[.int .i64 252, .int .i64 2] rfl rfl (by kernel_rfl) ?_ ?_
      · refine (bits_252 _).mono ?_
        rintro _ w30 ⟨b, rfl, _, HB, hb30⟩
        refine ⟨_, rfl, ?_⟩
        replace R1 := R1.keep hb30
        replace R2 := R2.keep hb30
        replace RC := RC.keep hb30
        replace O := O.trans (hb30.mono O.size)
        clear hb30
        refine wpAny_ready (rs := [0]) (by kernel_rfl) (by simp) ?_
        refine ready_load rfl rfl 39 _ rfl w.heap.size (by kernel_rfl) 39 (arr 16 a) (0, 0) _ R1 Tryz.underlying39 rfl (info39 _) ?_ ?_
        · skip
          refine wpAny_ready (rs := [2]) (by kernel_rfl) (by simp) ?_
          refine ready_call 82 #[.agg (arr 16 a), .slice (some ⟨b, 0, none⟩) 252 252] rfl rfl (by kernel_rfl) ?_ ?_
          · refine (H.p0 _ b HB).mono ?_
            rintro _ w32 ⟨rfl, hb32⟩
            refine ⟨_, rfl, ?_⟩
            replace R1 := R1.keep hb32
            replace R2 := R2.keep hb32
            replace RC := RC.keep hb32
            replace HB := HB.keep hb32
            replace O := O.trans (hb32.mono O.size)
            clear hb32
            refine wpAny_ready (rs := [4]) (by kernel_rfl) (by simp) ?_
            refine ready_store rfl rfl 39 _ _ rfl gc 0 (arr 16 u) (by kernel_rfl) (by kernel_rfl) (by rw [arr_size]; exact RC.there) (info39 _) (arr_one _ _) ?_ ?_
            · skip
              exact wpAny_done (by kernel_rfl) (hrest _ _ ⟨gc, b, by kernel_rfl, RC.setAll _, R1.setOther (by omega) _ _, R2.setOther (by omega) _ _, bgt, below_setCells (by omega) _ _ O⟩) _
            exact AllReady.nil
          exact AllReady.nil
        exact AllReady.nil
      exact AllReady.nil
    exact AllReady.nil

end Go.Proofs.YtkeocdebfgcnnaaGreat

/- Contracts of the functions of package num on products of two words: Mul64, Add64, product, plus, below, above. -/
namespace Go.Proofs.YtkeocdebfgcnnaaGreat
open Go.RowKit

theorem maskN (a : Nat) (ha : a < 18446744073709551616) : bits .and .u64 (a : Int) 4294967295 = ((a % 4294967296 : Nat) : Int) := by
  have h := bits_and_u64_nat a 4294967295 ha (by omega)
  have e : a &&& 4294967295 = a % 4294967296 := Nat.and_two_pow_sub_one_eq_mod a 32
  rw [e] at h
  exact h
theorem divN (a : Nat) : (a : Int) / 4294967296 = ((a / 4294967296 : Nat) : Int) := by omega
theorem mulN (a b : Nat) : (a : Int) * (b : Int) = ((a * b : Nat) : Int) := (Int.natCast_mul a b).symm
theorem addN (a b : Nat) : (a : Int) + (b : Int) = ((a + b : Nat) : Int) := (Int.natCast_add a b).symm
theorem wrapN (a : Nat) (ha : a < 18446744073709551616) : IntKind.u64.wrap (a : Int) = (a : Int) := by rw [IntKind.wrap_u64]; omega
theorem wrapM (a : Nat) : IntKind.u64.wrap (a : Int) = ((a % 18446744073709551616 : Nat) : Int) := by rw [IntKind.wrap_u64]; omega

set_option maxHeartbeats 1000000 in
theorem mul64_nat (x y : Nat) (hx : x < 18446744073709551616) (hy : y < 18446744073709551616) (w : World) :
    Calls Tryz.prog 108 #[.int .u64 x, .int .u64 y] w fun e w' => e = .returned (.tuple #[.int .u64 ((x * y / 18446744073709551616 : Nat) : Int), .int .u64 ((x * y % 18446744073709551616 : Nat) : Int)]) ∧ w' = w := by
  obtain ⟨bd, bt, bw, hhi⟩ := Lib.mul64_hi x y hx hy
  have ba := Lib.half_mul_le (a := x / 4294967296) (b := y / 4294967296) (by omega) (by omega)
  have bb := Lib.half_mul_le (a := x / 4294967296) (b := y % 4294967296) (by omega) (by omega)
  have bc := Lib.half_mul_le (a := x % 4294967296) (b := y / 4294967296) (by omega) (by omega)
  have ba' : x / 4294967296 * (y / 4294967296) < 18446744073709551616 := by omega
  have bb' : x / 4294967296 * (y % 4294967296) < 18446744073709551616 := by omega
  have bc' : x % 4294967296 * (y / 4294967296) < 18446744073709551616 := by omega
  have bh1 : x / 4294967296 * (y / 4294967296) + (x / 4294967296 * (y % 4294967296) + x % 4294967296 * (y % 4294967296) / 4294967296) / 4294967296 < 18446744073709551616 := by omega
  have bh : x / 4294967296 * (y / 4294967296) + (x / 4294967296 * (y % 4294967296) + x % 4294967296 * (y % 4294967296) / 4294967296) / 4294967296 + ((x / 4294967296 * (y % 4294967296) + x % 4294967296 * (y % 4294967296) / 4294967296) % 4294967296 + x % 4294967296 * (y / 4294967296)) / 4294967296 < 18446744073709551616 := by omega
  go_enter Tryz.func108, Tryz.ntmps108
  go_wp2
  simp only [maskN x hx, maskN y hy, divN, mulN, addN, wrapN _ bd, wrapN _ bb', wrapN _ bt, maskN _ bt, wrapN _ bc', wrapN _ bw, wrapN _ ba', wrapN _ bh1, wrapN _ bh, wrapM (x * y)]
  rw [hhi]
  go_ret2
  exact ⟨rfl, rfl⟩

theorem add64_run (x y c : Int) (hx : 0 ≤ x) (hy : 0 ≤ y) (hc0 : 0 ≤ c) (hc : c ≤ 1) (w : World) :
    (callFunc 99 #[.int .u64 x, .int .u64 y, .int .u64 c]).run Tryz.prog w =
      .ok (.value (.tuple #[.int .u64 ((x + y + c) % 18446744073709551616), .int .u64 ((x + y + c) / 18446744073709551616)])) w := by
  rw [run_callFunc_extern Tryz.func99 (by kernel_rfl) (by kernel_rfl) (by kernel_rfl) (e := add64Entry) (by kernel_rfl), run_add64 x y c hx hy hc0 hc]
  simp only [Result.andThen]

/-- Two words that make a number. -/
abbrev wd (N : Int) : Value := .agg #[.int .u64 (N / 18446744073709551616), .int .u64 (N % 18446744073709551616)]

set_option maxHeartbeats 400000 in
theorem product_any (x y : Int) (w : World) (hx : W64 x) (hy : W64 y) :
    Calls Tryz.prog 88 #[.int .u64 x, .int .u64 y] w fun r w' => r = .returned (wd (x * y)) ∧ Below w.heap.size w w' := by
  obtain ⟨X, rfl⟩ := Int.eq_ofNat_of_zero_le hx.1
  obtain ⟨Y, rfl⟩ := Int.eq_ofNat_of_zero_le hy.1
  have hX : X < 18446744073709551616 := by have := hx.2; omega
  have hY : Y < 18446744073709551616 := by have := hy.2; omega
  clear hx hy
  go_enter Tryz.func88, Tryz.ntmps88
  go_wp2_with fail
  refine (mul64_nat X Y hX hY _).mono ?_
  rintro _ w1 ⟨rfl, rfl⟩
  go_wp2
  exact bodyPost_ret (v := wd ((X : Int) * (Y : Int))) (by simp [results, Tryz.results88, go_sem]) rfl ⟨rfl, (Below.refl _ _).alloc (Nat.le_refl _) _⟩

theorem plusH {N M : Int} (h0 : 0 ≤ N) (h1 : 0 ≤ M) (hlt : N + M < 340282366920938463463374607431768211456) : (N / 18446744073709551616 + M / 18446744073709551616 + (N % 18446744073709551616 + M % 18446744073709551616) / 18446744073709551616) % 18446744073709551616 = (N + M) / 18446744073709551616 := by omega
theorem plusL {N M : Int} : (N % 18446744073709551616 + M % 18446744073709551616) % 18446744073709551616 = (N + M) % 18446744073709551616 := by omega

set_option maxHeartbeats 400000 in
theorem plus_hl (h l h' l' : Int) (w : World) (a0 : 0 ≤ h) (b0 : 0 ≤ l) (b1 : l < 18446744073709551616) (c0 : 0 ≤ h') (d0 : 0 ≤ l') (d1 : l' < 18446744073709551616) :
    Calls Tryz.prog 89 #[.agg #[.int .u64 h, .int .u64 l], .agg #[.int .u64 h', .int .u64 l']] w fun r w' => r = .returned (.agg #[.int .u64 ((h + h' + (l + l') / 18446744073709551616) % 18446744073709551616), .int .u64 ((l + l') % 18446744073709551616)]) ∧ Below w.heap.size w w' := by
  have r1 := add64_run l l' 0 b0 d0 (by decide) (by decide)
  have r2 := add64_run h h' ((l + l' + 0) / 18446744073709551616) a0 c0 (by omega) (by omega)
  rw [Int.add_zero] at r1 r2
  go_enter Tryz.func89, Tryz.ntmps89
  go_wp2
  exact bodyPost_ret (v := .agg #[.int .u64 ((h + h' + (l + l') / 18446744073709551616) % 18446744073709551616), .int .u64 ((l + l') % 18446744073709551616)]) (by simp [results, Tryz.results89, go_sem]) rfl ⟨rfl, (((Below.refl _ _).alloc (Nat.le_refl _) _).alloc (by simp) _).alloc (by simp; omega) _⟩

theorem plus_any (N M : Int) (w : World) (h0 : 0 ≤ N) (h1 : 0 ≤ M) (hlt : N + M < 340282366920938463463374607431768211456) :
    Calls Tryz.prog 89 #[wd N, wd M] w fun r w' => r = .returned (wd (N + M)) ∧ Below w.heap.size w w' := by
  have := plus_hl (N / 18446744073709551616) (N % 18446744073709551616) (M / 18446744073709551616) (M % 18446744073709551616) w (by omega) (by omega) (by omega) (by omega) (by omega) (by omega)
  rw [plusH h0 h1 hlt, plusL] at this
  exact this

theorem belowR (N : Int) : bits BinOp.and IntKind.u64 (N % 18446744073709551616) 2251799813685247 = N % 2251799813685248 := by
  rw [and51 ⟨by omega, by omega⟩]
  omega

set_option maxHeartbeats 400000 in
theorem below_any (N : Int) (w : World) :
    Calls Tryz.prog 91 #[wd N] w fun r w' => r = .returned (.int .u64 (N % 2251799813685248)) ∧ Below w.heap.size w w' := by
  have e := belowR N
  go_enter Tryz.func91, Tryz.ntmps91
  go_wp2
  go_ret
  exact ⟨rfl, (Below.refl _ _).alloc (Nat.le_refl _) _⟩

theorem aboveR {N : Int} (h0 : 0 ≤ N) (h1 : N < 41538374868278621028243970633760768) : bits BinOp.or IntKind.u64 (IntKind.u64.wrap (N / 18446744073709551616 * 8192)) (N % 18446744073709551616 / 2251799813685248) = N / 2251799813685248 := by
  rw [wrap64u ⟨by omega, by omega⟩, or_join 13 8192 (by decide) ⟨by omega, by omega⟩ ⟨by omega, by omega⟩ (by omega) (by omega)]
  omega

set_option maxHeartbeats 400000 in
theorem above_any (N : Int) (w : World) (h0 : 0 ≤ N) (h1 : N < 41538374868278621028243970633760768) :
    Calls Tryz.prog 92 #[wd N] w fun r w' => r = .returned (.int .u64 (N / 2251799813685248)) ∧ Below w.heap.size w w' := by
  have e := aboveR h0 h1
  clear h0 h1
  go_enter Tryz.func92, Tryz.ntmps92
  go_wp2
  go_ret
  exact ⟨rfl, (Below.refl _ _).alloc (Nat.le_refl _) _⟩

end Go.Proofs.YtkeocdebfgcnnaaGreat

/- The contract of Mul: the product modulo the prime. -/
namespace Go.Proofs.YtkeocdebfgcnnaaGreat
open Go.RowKit

theorem E5.Ok.wa {x : E5} (h : x.Ok) : W64 x.a := ⟨h.a0, by have := h.a1; omega⟩
theorem E5.Ok.wb {x : E5} (h : x.Ok) : W64 x.b := ⟨h.b0, by have := h.b1; omega⟩
theorem E5.Ok.vb {x : E5} (h : x.Ok) : W64 (x.b * 19) := ⟨by have := h.b0; omega, by have := h.b1; omega⟩
theorem E5.Ok.wc {x : E5} (h : x.Ok) : W64 x.c := ⟨h.c0, by have := h.c1; omega⟩
theorem E5.Ok.vc {x : E5} (h : x.Ok) : W64 (x.c * 19) := ⟨by have := h.c0; omega, by have := h.c1; omega⟩
theorem E5.Ok.wd {x : E5} (h : x.Ok) : W64 x.d := ⟨h.d0, by have := h.d1; omega⟩
theorem E5.Ok.vd {x : E5} (h : x.Ok) : W64 (x.d * 19) := ⟨by have := h.d0; omega, by have := h.d1; omega⟩
theorem E5.Ok.we {x : E5} (h : x.Ok) : W64 x.e := ⟨h.e0, by have := h.e1; omega⟩
theorem E5.Ok.ve {x : E5} (h : x.Ok) : W64 (x.e * 19) := ⟨by have := h.e0; omega, by have := h.e1; omega⟩

/-- What Mul's own memory is while it works: the result's block, and below it nothing has changed. -/
structure MulW (w W : World) : Prop where
  old : Below w.heap.size w W
  size : w.heap.size + 1 + 1 < W.heap.size
  free : ∀ o, W.frozen? ⟨w.heap.size + 1 + 1, o, none⟩ = false
  c0 : W.cell? ⟨w.heap.size + 1 + 1, 0, none⟩ = some (.int .u64 0)
  c1 : W.cell? ⟨w.heap.size + 1 + 1, 1, none⟩ = some (.int .u64 0)
  c2 : W.cell? ⟨w.heap.size + 1 + 1, 2, none⟩ = some (.int .u64 0)
  c3 : W.cell? ⟨w.heap.size + 1 + 1, 3, none⟩ = some (.int .u64 0)
  c4 : W.cell? ⟨w.heap.size + 1 + 1, 4, none⟩ = some (.int .u64 0)

theorem MulW.keep {w W W' : World} (h : MulW w W) (hb : Below W.heap.size W W') : MulW w W' :=
  ⟨h.old.trans (hb.mono h.old.size), Nat.lt_of_lt_of_le h.size hb.size, fun o => (hb.frozen (p := ⟨_, o, none⟩) h.size).trans (h.free o), (hb.cell (p := ⟨_, 0, none⟩) h.size).trans h.c0, (hb.cell (p := ⟨_, 1, none⟩) h.size).trans h.c1, (hb.cell (p := ⟨_, 2, none⟩) h.size).trans h.c2, (hb.cell (p := ⟨_, 3, none⟩) h.size).trans h.c3, (hb.cell (p := ⟨_, 4, none⟩) h.size).trans h.c4⟩

theorem MulW.start {w W : World} {A B : Obj} {n : Nat}
    (hb : Below ((((w.alloc A).alloc B).alloc (.cells #[.int .u64 0, .int .u64 0, .int .u64 0, .int .u64 0, .int .u64 0] 25)).drewN n).heap.size ((((w.alloc A).alloc B).alloc (.cells #[.int .u64 0, .int .u64 0, .int .u64 0, .int .u64 0, .int .u64 0] 25)).drewN n) W) : MulW w W := by
  refine MulW.keep ?_ hb
  refine ⟨?_, by simp, by simp [go_sem], by simp [go_sem], by simp [go_sem], by simp [go_sem], by simp [go_sem], by simp [go_sem]⟩
  have := (((Below.refl w.heap.size w).alloc (Nat.le_refl _) A).alloc (by simp) B).alloc (by simp; omega) (.cells #[.int .u64 0, .int .u64 0, .int .u64 0, .int .u64 0, .int .u64 0] 25)
  exact ⟨this.os, this.tape, this.output, this.size, this.block⟩

/-- A number of two words lies there. -/
structure At (W : World) (g : Nat) (N : Int) : Prop where
  size : g < W.heap.size
  c0 : W.cell? ⟨g, 0, none⟩ = some (.int .u64 (N / 18446744073709551616))
  c1 : W.cell? ⟨g, 1, none⟩ = some (.int .u64 (N % 18446744073709551616))

theorem At.keep {W W' : World} {g : Nat} {N : Int} (h : At W g N) (hb : Below W.heap.size W W') : At W' g N :=
  ⟨Nat.lt_of_lt_of_le h.size hb.size, (hb.cell (p := ⟨g, 0, none⟩) h.size).trans h.c0, (hb.cell (p := ⟨g, 1, none⟩) h.size).trans h.c1⟩

theorem At.new (W : World) (N : Int) : At (W.alloc (.cells #[.int .u64 (N / 18446744073709551616), .int .u64 (N % 18446744073709551616)] 109)) W.heap.size N :=
  ⟨by simp, by simp [go_sem], by simp [go_sem]⟩

theorem below_new (W : World) (o : Obj) : Below W.heap.size W (W.alloc o) := (Below.refl _ _).alloc (Nat.le_refl _) _

set_option maxRecDepth 100000 in
set_option maxHeartbeats 4000000 in
theorem mul_any (x y : E5) (w : World) (hx : x.Ok) (hy : y.Ok) :
    Calls Tryz.prog 59 #[x.v, y.v] w fun r w' => r = .returned (mulF x y).v ∧ Below w.heap.size w w' := by
  have HB := hide (MB.of hx hy)
  have HS := hide (MS.of hx hy)
  have q0 := hy.b0
  have q1 := hy.b1
  have q2 := hy.c0
  have q3 := hy.c1
  have q4 := hy.d0
  have q5 := hy.d1
  have q6 := hy.e0
  have q7 := hy.e1
  go_enter Tryz.func59, Tryz.ntmps59
  go_wp2_with fail
  go_quiet (fail)
  go_wp2_with fail
  go_quiet (fail)
  go_wp2_with fail
  clear q0 q1 q2 q3 q4 q5 q6 q7
  refine (product_any x.a y.a _ hx.wa hy.wa).mono ?_
  rintro _ wv ⟨rfl, hb⟩
  have M := MulW.start hb
  clear hb
  go_wp2_with fail
  refine (product_any x.b (y.e * 19) _ hx.wb hy.ve).mono ?_
  rintro _ wv ⟨rfl, hb⟩
  replace M := M.keep hb
  clear hb
  go_wp2_with fail
  refine (plus_any (x.a * y.a) (x.b * (y.e * 19)) _ (by have B := HB.out; have := B.aa; have := B.be'; have := B.cd'; have := B.dc'; have := B.eb'; omega) (by have B := HB.out; have := B.aa; have := B.be'; have := B.cd'; have := B.dc'; have := B.eb'; omega) (by have B := HB.out; have := B.aa; have := B.be'; have := B.cd'; have := B.dc'; have := B.eb'; omega)).mono ?_
  rintro _ wv ⟨rfl, hb⟩
  replace M := M.keep hb
  clear hb
  go_wp2_with fail
  refine (product_any x.c (y.d * 19) _ hx.wc hy.vd).mono ?_
  rintro _ wv ⟨rfl, hb⟩
  replace M := M.keep hb
  clear hb
  go_wp2_with fail
  refine (plus_any (x.a * y.a + x.b * (y.e * 19)) (x.c * (y.d * 19)) _ (by have B := HB.out; have := B.aa; have := B.be'; have := B.cd'; have := B.dc'; have := B.eb'; omega) (by have B := HB.out; have := B.aa; have := B.be'; have := B.cd'; have := B.dc'; have := B.eb'; omega) (by have B := HB.out; have := B.aa; have := B.be'; have := B.cd'; have := B.dc'; have := B.eb'; omega)).mono ?_
  rintro _ wv ⟨rfl, hb⟩
  replace M := M.keep hb
  clear hb
  go_wp2_with fail
  refine (product_any x.d (y.c * 19) _ hx.wd hy.vc).mono ?_
  rintro _ wv ⟨rfl, hb⟩
  replace M := M.keep hb
  clear hb
  go_wp2_with fail
  refine (plus_any (x.a * y.a + x.b * (y.e * 19) + x.c * (y.d * 19)) (x.d * (y.c * 19)) _ (by have B := HB.out; have := B.aa; have := B.be'; have := B.cd'; have := B.dc'; have := B.eb'; omega) (by have B := HB.out; have := B.aa; have := B.be'; have := B.cd'; have := B.dc'; have := B.eb'; omega) (by have B := HB.out; have := B.aa; have := B.be'; have := B.cd'; have := B.dc'; have := B.eb'; omega)).mono ?_
  rintro _ wv ⟨rfl, hb⟩
  replace M := M.keep hb
  clear hb
  go_wp2_with fail
  refine (product_any x.e (y.b * 19) _ hx.we hy.vb).mono ?_
  rintro _ wv ⟨rfl, hb⟩
  replace M := M.keep hb
  clear hb
  go_wp2_with fail
  refine (plus_any (x.a * y.a + x.b * (y.e * 19) + x.c * (y.d * 19) + x.d * (y.c * 19)) (x.e * (y.b * 19)) _ (by have B := HB.out; have := B.aa; have := B.be'; have := B.cd'; have := B.dc'; have := B.eb'; omega) (by have B := HB.out; have := B.aa; have := B.be'; have := B.cd'; have := B.dc'; have := B.eb'; omega) (by have B := HB.out; have := B.aa; have := B.be'; have := B.cd'; have := B.dc'; have := B.eb'; omega)).mono ?_
  rintro _ wv ⟨rfl, hb⟩
  replace M := M.keep hb
  clear hb
  rw [show x.a * y.a + x.b * (y.e * 19) + x.c * (y.d * 19) + x.d * (y.c * 19) + x.e * (y.b * 19) = m0 x y from rfl]
  go_wp2_with fail
  refine (product_any x.a y.b _ hx.wa hy.wb).mono ?_
  rintro _ wv ⟨rfl, hb⟩
  replace M := (M.keep (below_new _ _)).keep hb
  have A0 := (At.new _ _).keep hb
  clear hb
  go_wp2_with fail
  refine (product_any x.b y.a _ hx.wb hy.wa).mono ?_
  rintro _ wv ⟨rfl, hb⟩
  replace M := M.keep hb
  replace A0 := A0.keep hb
  clear hb
  go_wp2_with fail
  refine (plus_any (x.a * y.b) (x.b * y.a) _ (by have B := HB.out; have := B.ab; have := B.ba; have := B.ce'; have := B.dd'; have := B.ec'; omega) (by have B := HB.out; have := B.ab; have := B.ba; have := B.ce'; have := B.dd'; have := B.ec'; omega) (by have B := HB.out; have := B.ab; have := B.ba; have := B.ce'; have := B.dd'; have := B.ec'; omega)).mono ?_
  rintro _ wv ⟨rfl, hb⟩
  replace M := M.keep hb
  replace A0 := A0.keep hb
  clear hb
  go_wp2_with fail
  refine (product_any x.c (y.e * 19) _ hx.wc hy.ve).mono ?_
  rintro _ wv ⟨rfl, hb⟩
  replace M := M.keep hb
  replace A0 := A0.keep hb
  clear hb
  go_wp2_with fail
  refine (plus_any (x.a * y.b + x.b * y.a) (x.c * (y.e * 19)) _ (by have B := HB.out; have := B.ab; have := B.ba; have := B.ce'; have := B.dd'; have := B.ec'; omega) (by have B := HB.out; have := B.ab; have := B.ba; have := B.ce'; have := B.dd'; have := B.ec'; omega) (by have B := HB.out; have := B.ab; have := B.ba; have := B.ce'; have := B.dd'; have := B.ec'; omega)).mono ?_
  rintro _ wv ⟨rfl, hb⟩
  replace M := M.keep hb
  replace A0 := A0.keep hb
  clear hb
  go_wp2_with fail
  refine (product_any x.d (y.d * 19) _ hx.wd hy.vd).mono ?_
  rintro _ wv ⟨rfl, hb⟩
  replace M := M.keep hb
  replace A0 := A0.keep hb
  clear hb
  go_wp2_with fail
  refine (plus_any (x.a * y.b + x.b * y.a + x.c * (y.e * 19)) (x.d * (y.d * 19)) _ (by have B := HB.out; have := B.ab; have := B.ba; have := B.ce'; have := B.dd'; have := B.ec'; omega) (by have B := HB.out; have := B.ab; have := B.ba; have := B.ce'; have := B.dd'; have := B.ec'; omega) (by have B := HB.out; have := B.ab; have := B.ba; have := B.ce'; have := B.dd'; have := B.ec'; omega)).mono ?_
  rintro _ wv ⟨rfl, hb⟩
  replace M := M.keep hb
  replace A0 := A0.keep hb
  clear hb
  go_wp2_with fail
  refine (product_any x.e (y.c * 19) _ hx.we hy.vc).mono ?_
  rintro _ wv ⟨rfl, hb⟩
  replace M := M.keep hb
  replace A0 := A0.keep hb
  clear hb
  go_wp2_with fail
  refine (plus_any (x.a * y.b + x.b * y.a + x.c * (y.e * 19) + x.d * (y.d * 19)) (x.e * (y.c * 19)) _ (by have B := HB.out; have := B.ab; have := B.ba; have := B.ce'; have := B.dd'; have := B.ec'; omega) (by have B := HB.out; have := B.ab; have := B.ba; have := B.ce'; have := B.dd'; have := B.ec'; omega) (by have B := HB.out; have := B.ab; have := B.ba; have := B.ce'; have := B.dd'; have := B.ec'; omega)).mono ?_
  rintro _ wv ⟨rfl, hb⟩
  replace M := M.keep hb
  replace A0 := A0.keep hb
  clear hb
  rw [show x.a * y.b + x.b * y.a + x.c * (y.e * 19) + x.d * (y.d * 19) + x.e * (y.c * 19) = m1 x y from rfl]
  go_wp2_with fail
  refine (product_any x.a y.c _ hx.wa hy.wc).mono ?_
  rintro _ wv ⟨rfl, hb⟩
  replace M := (M.keep (below_new _ _)).keep hb
  replace A0 := (A0.keep (below_new _ _)).keep hb
  have A1 := (At.new _ _).keep hb
  clear hb
  go_wp2_with fail
  refine (product_any x.b y.b _ hx.wb hy.wb).mono ?_
  rintro _ wv ⟨rfl, hb⟩
  replace M := M.keep hb
  replace A0 := A0.keep hb
  replace A1 := A1.keep hb
  clear hb
  go_wp2_with fail
  refine (plus_any (x.a * y.c) (x.b * y.b) _ (by have B := HB.out; have := B.ac; have := B.bb; have := B.ca; have := B.de'; have := B.ed'; omega) (by have B := HB.out; have := B.ac; have := B.bb; have := B.ca; have := B.de'; have := B.ed'; omega) (by have B := HB.out; have := B.ac; have := B.bb; have := B.ca; have := B.de'; have := B.ed'; omega)).mono ?_
  rintro _ wv ⟨rfl, hb⟩
  replace M := M.keep hb
  replace A0 := A0.keep hb
  replace A1 := A1.keep hb
  clear hb
  go_wp2_with fail
  refine (product_any x.c y.a _ hx.wc hy.wa).mono ?_
  rintro _ wv ⟨rfl, hb⟩
  replace M := M.keep hb
  replace A0 := A0.keep hb
  replace A1 := A1.keep hb
  clear hb
  go_wp2_with fail
  refine (plus_any (x.a * y.c + x.b * y.b) (x.c * y.a) _ (by have B := HB.out; have := B.ac; have := B.bb; have := B.ca; have := B.de'; have := B.ed'; omega) (by have B := HB.out; have := B.ac; have := B.bb; have := B.ca; have := B.de'; have := B.ed'; omega) (by have B := HB.out; have := B.ac; have := B.bb; have := B.ca; have := B.de'; have := B.ed'; omega)).mono ?_
  rintro _ wv ⟨rfl, hb⟩
  replace M := M.keep hb
  replace A0 := A0.keep hb
  replace A1 := A1.keep hb
  clear hb
  go_wp2_with fail
  refine (product_any x.d (y.e * 19) _ hx.wd hy.ve).mono ?_
  rintro _ wv ⟨rfl, hb⟩
  replace M := M.keep hb
  replace A0 := A0.keep hb
  replace A1 := A1.keep hb
  clear hb
  go_wp2_with fail
  refine (plus_any (x.a * y.c + x.b * y.b + x.c * y.a) (x.d * (y.e * 19)) _ (by have B := HB.out; have := B.ac; have := B.bb; have := B.ca; have := B.de'; have := B.ed'; omega) (by have B := HB.out; have := B.ac; have := B.bb; have := B.ca; have := B.de'; have := B.ed'; omega) (by have B := HB.out; have := B.ac; have := B.bb; have := B.ca; have := B.de'; have := B.ed'; omega)).mono ?_
  rintro _ wv ⟨rfl, hb⟩
  replace M := M.keep hb
  replace A0 := A0.keep hb
  replace A1 := A1.keep hb
  clear hb
  go_wp2_with fail
  refine (product_any x.e (y.d * 19) _ hx.we hy.vd).mono ?_
  rintro _ wv ⟨rfl, hb⟩
  replace M := M.keep hb
  replace A0 := A0.keep hb
  replace A1 := A1.keep hb
  clear hb
  go_wp2_with fail
  refine (plus_any (x.a * y.c + x.b * y.b + x.c * y.a + x.d * (y.e * 19)) (x.e * (y.d * 19)) _ (by have B := HB.out; have := B.ac; have := B.bb; have := B.ca; have := B.de'; have := B.ed'; omega) (by have B := HB.out; have := B.ac; have := B.bb; have := B.ca; have := B.de'; have := B.ed'; omega) (by have B := HB.out; have := B.ac; have := B.bb; have := B.ca; have := B.de'; have := B.ed'; omega)).mono ?_
  rintro _ wv ⟨rfl, hb⟩
  replace M := M.keep hb
  replace A0 := A0.keep hb
  replace A1 := A1.keep hb
  clear hb
  rw [show x.a * y.c + x.b * y.b + x.c * y.a + x.d * (y.e * 19) + x.e * (y.d * 19) = m2 x y from rfl]
  go_wp2_with fail
  refine (product_any x.a y.d _ hx.wa hy.wd).mono ?_
  rintro _ wv ⟨rfl, hb⟩
  replace M := (M.keep (below_new _ _)).keep hb
  replace A0 := (A0.keep (below_new _ _)).keep hb
  replace A1 := (A1.keep (below_new _ _)).keep hb
  have A2 := (At.new _ _).keep hb
  clear hb
  go_wp2_with fail
  refine (product_any x.b y.c _ hx.wb hy.wc).mono ?_
  rintro _ wv ⟨rfl, hb⟩
  replace M := M.keep hb
  replace A0 := A0.keep hb
  replace A1 := A1.keep hb
  replace A2 := A2.keep hb
  clear hb
  go_wp2_with fail
  refine (plus_any (x.a * y.d) (x.b * y.c) _ (by have B := HB.out; have := B.ad; have := B.bc; have := B.cb; have := B.da; have := B.ee'; omega) (by have B := HB.out; have := B.ad; have := B.bc; have := B.cb; have := B.da; have := B.ee'; omega) (by have B := HB.out; have := B.ad; have := B.bc; have := B.cb; have := B.da; have := B.ee'; omega)).mono ?_
  rintro _ wv ⟨rfl, hb⟩
  replace M := M.keep hb
  replace A0 := A0.keep hb
  replace A1 := A1.keep hb
  replace A2 := A2.keep hb
  clear hb
  go_wp2_with fail
  refine (product_any x.c y.b _ hx.wc hy.wb).mono ?_
  rintro _ wv ⟨rfl, hb⟩
  replace M := M.keep hb
  replace A0 := A0.keep hb
  replace A1 := A1.keep hb
  replace A2 := A2.keep hb
  clear hb
  go_wp2_with fail
  refine (plus_any (x.a * y.d + x.b * y.c) (x.c * y.b) _ (by have B := HB.out; have := B.ad; have := B.bc; have := B.cb; have := B.da; have := B.ee'; omega) (by have B := HB.out; have := B.ad; have := B.bc; have := B.cb; have := B.da; have := B.ee'; omega) (by have B := HB.out; have := B.ad; have := B.bc; have := B.cb; have := B.da; have := B.ee'; omega)).mono ?_
  rintro _ wv ⟨rfl, hb⟩
  replace M := M.keep hb
  replace A0 := A0.keep hb
  replace A1 := A1.keep hb
  replace A2 := A2.keep hb
  clear hb
  go_wp2_with fail
  refine (product_any x.d y.a _ hx.wd hy.wa).mono ?_
  rintro _ wv ⟨rfl, hb⟩
  replace M := M.keep hb
  replace A0 := A0.keep hb
  replace A1 := A1.keep hb
  replace A2 := A2.keep hb
  clear hb
  go_wp2_with fail
  refine (plus_any (x.a * y.d + x.b * y.c + x.c * y.b) (x.d * y.a) _ (by have B := HB.out; have := B.ad; have := B.bc; have := B.cb; have := B.da; have := B.ee'; omega) (by have B := HB.out; have := B.ad; have := B.bc; have := B.cb; have := B.da; have := B.ee'; omega) (by have B := HB.out; have := B.ad; have := B.bc; have := B.cb; have := B.da; have := B.ee'; omega)).mono ?_
  rintro _ wv ⟨rfl, hb⟩
  replace M := M.keep hb
  replace A0 := A0.keep hb
  replace A1 := A1.keep hb
  replace A2 := A2.keep hb
  clear hb
  go_wp2_with fail
  refine (product_any x.e (y.e * 19) _ hx.we hy.ve).mono ?_
  rintro _ wv ⟨rfl, hb⟩
  replace M := M.keep hb
  replace A0 := A0.keep hb
  replace A1 := A1.keep hb
  replace A2 := A2.keep hb
  clear hb
  go_wp2_with fail
  refine (plus_any (x.a * y.d + x.b * y.c + x.c * y.b + x.d * y.a) (x.e * (y.e * 19)) _ (by have B := HB.out; have := B.ad; have := B.bc; have := B.cb; have := B.da; have := B.ee'; omega) (by have B := HB.out; have := B.ad; have := B.bc; have := B.cb; have := B.da; have := B.ee'; omega) (by have B := HB.out; have := B.ad; have := B.bc; have := B.cb; have := B.da; have := B.ee'; omega)).mono ?_
  rintro _ wv ⟨rfl, hb⟩
  replace M := M.keep hb
  replace A0 := A0.keep hb
  replace A1 := A1.keep hb
  replace A2 := A2.keep hb
  clear hb
  rw [show x.a * y.d + x.b * y.c + x.c * y.b + x.d * y.a + x.e * (y.e * 19) = m3 x y from rfl]
  go_wp2_with fail
  refine (product_any x.a y.e _ hx.wa hy.we).mono ?_
  rintro _ wv ⟨rfl, hb⟩
  replace M := (M.keep (below_new _ _)).keep hb
  replace A0 := (A0.keep (below_new _ _)).keep hb
  replace A1 := (A1.keep (below_new _ _)).keep hb
  replace A2 := (A2.keep (below_new _ _)).keep hb
  have A3 := (At.new _ _).keep hb
  clear hb
  go_wp2_with fail
  refine (product_any x.b y.d _ hx.wb hy.wd).mono ?_
  rintro _ wv ⟨rfl, hb⟩
  replace M := M.keep hb
  replace A0 := A0.keep hb
  replace A1 := A1.keep hb
  replace A2 := A2.keep hb
  replace A3 := A3.keep hb
  clear hb
  go_wp2_with fail
  refine (plus_any (x.a * y.e) (x.b * y.d) _ (by have B := HB.out; have := B.ae; have := B.bd; have := B.cc; have := B.db; have := B.ea; omega) (by have B := HB.out; have := B.ae; have := B.bd; have := B.cc; have := B.db; have := B.ea; omega) (by have B := HB.out; have := B.ae; have := B.bd; have := B.cc; have := B.db; have := B.ea; omega)).mono ?_
  rintro _ wv ⟨rfl, hb⟩
  replace M := M.keep hb
  replace A0 := A0.keep hb
  replace A1 := A1.keep hb
  replace A2 := A2.keep hb
  replace A3 := A3.keep hb
  clear hb
  go_wp2_with fail
  refine (product_any x.c y.c _ hx.wc hy.wc).mono ?_
  rintro _ wv ⟨rfl, hb⟩
  replace M := M.keep hb
  replace A0 := A0.keep hb
  replace A1 := A1.keep hb
  replace A2 := A2.keep hb
  replace A3 := A3.keep hb
  clear hb
  go_wp2_with fail
  refine (plus_any (x.a * y.e + x.b * y.d) (x.c * y.c) _ (by have B := HB.out; have := B.ae; have := B.bd; have := B.cc; have := B.db; have := B.ea; omega) (by have B := HB.out; have := B.ae; have := B.bd; have := B.cc; have := B.db; have := B.ea; omega) (by have B := HB.out; have := B.ae; have := B.bd; have := B.cc; have := B.db; have := B.ea; omega)).mono ?_
  rintro _ wv ⟨rfl, hb⟩
  replace M := M.keep hb
  replace A0 := A0.keep hb
  replace A1 := A1.keep hb
  replace A2 := A2.keep hb
  replace A3 := A3.keep hb
  clear hb
  go_wp2_with fail
  refine (product_any x.d y.b _ hx.wd hy.wb).mono ?_
  rintro _ wv ⟨rfl, hb⟩
  replace M := M.keep hb
  replace A0 := A0.keep hb
  replace A1 := A1.keep hb
  replace A2 := A2.keep hb
  replace A3 := A3.keep hb
  clear hb
  go_wp2_with fail
  refine (plus_any (x.a * y.e + x.b * y.d + x.c * y.c) (x.d * y.b) _ (by have B := HB.out; have := B.ae; have := B.bd; have := B.cc; have := B.db; have := B.ea; omega) (by have B := HB.out; have := B.ae; have := B.bd; have := B.cc; have := B.db; have := B.ea; omega) (by have B := HB.out; have := B.ae; have := B.bd; have := B.cc; have := B.db; have := B.ea; omega)).mono ?_
  rintro _ wv ⟨rfl, hb⟩
  replace M := M.keep hb
  replace A0 := A0.keep hb
  replace A1 := A1.keep hb
  replace A2 := A2.keep hb
  replace A3 := A3.keep hb
  clear hb
  go_wp2_with fail
  refine (product_any x.e y.a _ hx.we hy.wa).mono ?_
  rintro _ wv ⟨rfl, hb⟩
  replace M := M.keep hb
  replace A0 := A0.keep hb
  replace A1 := A1.keep hb
  replace A2 := A2.keep hb
  replace A3 := A3.keep hb
  clear hb
  go_wp2_with fail
  refine (plus_any (x.a * y.e + x.b * y.d + x.c * y.c + x.d * y.b) (x.e * y.a) _ (by have B := HB.out; have := B.ae; have := B.bd; have := B.cc; have := B.db; have := B.ea; omega) (by have B := HB.out; have := B.ae; have := B.bd; have := B.cc; have := B.db; have := B.ea; omega) (by have B := HB.out; have := B.ae; have := B.bd; have := B.cc; have := B.db; have := B.ea; omega)).mono ?_
  rintro _ wv ⟨rfl, hb⟩
  replace M := M.keep hb
  replace A0 := A0.keep hb
  replace A1 := A1.keep hb
  replace A2 := A2.keep hb
  replace A3 := A3.keep hb
  clear hb
  rw [show x.a * y.e + x.b * y.d + x.c * y.c + x.d * y.b + x.e * y.a = m4 x y from rfl]
  go_wp2_with fail
  have bn := below_new wv (.cells #[.int .u64 (m4 x y / 18446744073709551616), .int .u64 (m4 x y % 18446744073709551616)] 109)
  replace M := M.keep bn
  replace A0 := A0.keep bn
  replace A1 := A1.keep bn
  replace A2 := A2.keep bn
  replace A3 := A3.keep bn
  have A4 := At.new wv (m4 x y)
  clear bn
  obtain ⟨W9, hW9⟩ : ∃ W9, wv.alloc (.cells #[.int .u64 (m4 x y / 18446744073709551616), .int .u64 (m4 x y % 18446744073709551616)] 109) = W9 := ⟨_, rfl⟩
  rw [hW9] at M A0 A1 A2 A3 A4
  rw [hW9]
  clear hW9
  obtain ⟨⟨Z0, Y0⟩, ⟨Z1, Y1⟩, ⟨Z2, Y2⟩, ⟨Z3, Y3⟩, ⟨Z4, Y4⟩⟩ := HS.out
  have HF := hide (show mulF x y = car (m0 x y % 2251799813685248 + m4 x y / 2251799813685248 * 19) (m1 x y % 2251799813685248 + m0 x y / 2251799813685248) (m2 x y % 2251799813685248 + m1 x y / 2251799813685248) (m3 x y % 2251799813685248 + m2 x y / 2251799813685248) (m4 x y % 2251799813685248 + m3 x y / 2251799813685248) from rfl)
  clear HS HB hx hy
  generalize m0 x y = n0 at *
  generalize m1 x y = n1 at *
  generalize m2 x y = n2 at *
  generalize m3 x y = n3 at *
  generalize m4 x y = n4 at *
  have k0 := fun s : KW W9 => (A0.keep s.keep).c0
  have l0 := fun s : KW W9 => (A0.keep s.keep).c1
  have k1 := fun s : KW W9 => (A1.keep s.keep).c0
  have l1 := fun s : KW W9 => (A1.keep s.keep).c1
  have k2 := fun s : KW W9 => (A2.keep s.keep).c0
  have l2 := fun s : KW W9 => (A2.keep s.keep).c1
  have k3 := fun s : KW W9 => (A3.keep s.keep).c0
  have l3 := fun s : KW W9 => (A3.keep s.keep).c1
  have k4 := fun s : KW W9 => (A4.keep s.keep).c0
  have l4 := fun s : KW W9 => (A4.keep s.keep).c1
  clear A0 A1 A2 A3 A4
  have hne : Nonempty (KW W9) := ⟨⟨W9, Below.refl _ _⟩⟩
  refine wp_region_keep_tail 27 (by kernel_rfl) (by kernel_rfl) ?_
  simp only [List.take_succ_cons, List.take_zero, List.drop_succ_cons, List.drop_zero]
  repeat (go_big_quiet_step (first | (go_at_call 91; exact keep_of (below_any _ _)) | (go_at_call 92; exact keep_of (above_any _ _ (by omega) (by omega))) | (go_at_call 90; exact keep_of (carried_any _ _ _ _ _ _ ⟨by omega, by omega⟩ ⟨by omega, by omega⟩ ⟨by omega, by omega⟩ ⟨by omega, by omega⟩ ⟨by omega, by omega⟩))))
  refine wpQuiet_nil ?_
  intro s
  have HE := HF.out
  rw [← HE]
  replace M := M.keep s.keep
  generalize s.w = W' at M ⊢
  generalize hz : mulF x y = z at HE ⊢
  have H := hide hz
  clear HE HF hz k0 k1 k2 k3 k4 l0 l1 l2 l3 l4 hne
  have H3 := hide M.old
  obtain ⟨_, hs, hf, c0, c1, c2, c3, c4⟩ := M
  clear Z0 Z1 Z2 Z3 Z4 Y0 Y1 Y2 Y3 Y4
  go_wp2
  refine bodyPost_ret (v := z.v) (by simp [results, Tryz.results59, go_sem, c0, c1, c2, c3, c4]) rfl ⟨by rw [H.out], ?_⟩
  exact set5 H3.out (by omega)

end Go.Proofs.YtkeocdebfgcnnaaGreat

/- The contracts of squares and ones: the powers 2^n and 2^n - 1. -/
namespace Go.Proofs.YtkeocdebfgcnnaaGreat
open Go.RowKit

def squaresF : Nat → E5 → E5
  | 0, x => x
  | n + 1, x => squaresF n (mulF x x)

theorem squaresF_ok : ∀ (n : Nat) {x : E5}, x.Ok → (squaresF n x).Ok
  | 0, _, h => h
  | n + 1, _, h => squaresF_ok n (mulF_ok h h)

set_option maxRecDepth 100000 in
set_option maxHeartbeats 1000000 in
theorem squares_any (n : Nat) : ∀ (x : E5) (w : World), x.Ok → n < 1000000 →
    Calls Tryz.prog 106 #[x.v, .int .u64 n] w fun r w' => r = .returned (squaresF n x).v ∧ Below w.heap.size w w' := by
  induction n with
  | zero =>
    intro x w hx _
    go_enter Tryz.func106, Tryz.ntmps106
    go_wp2
    exact bodyPost_ret (v := x.v) (by simp [results, Tryz.results106, go_sem]) rfl ⟨rfl, ((Below.refl _ _).alloc (Nat.le_refl _) _).alloc (by simp) _⟩
  | succ n ih =>
    intro x w hx hn
    have HI := hide ih
    clear ih
    have h0 : (((n + 1 : Nat) : Int) == 0) = false := beq_eq_false_iff_ne.2 (by omega)
    have e : ((n + 1 : Nat) : Int) = (n : Int) + 1 := by omega
    rw [e] at h0
    rw [e]
    go_enter Tryz.func106, Tryz.ntmps106
    go_wp2_with fail
    have R := Out.start1 w (.cells #[.int .u64 x.a, .int .u64 x.b, .int .u64 x.c, .int .u64 x.d, .int .u64 x.e] 25)
    refine (mul_any x x _ hx hx).mono ?_
    rintro _ w1 ⟨rfl, hb⟩
    replace R := R.keep hb
    clear hb
    go_wp2_with fail
    refine (HI.out (mulF x x) _ (mulF_ok hx hx) (by omega)).mono ?_
    rintro _ w2 ⟨rfl, hb⟩
    replace R := R.keep hb
    clear hb HI
    rw [show squaresF n (mulF x x) = squaresF (n + 1) x from rfl]
    generalize hz : squaresF (n + 1) x = z
    have H := hide hz
    obtain ⟨old, ge, hs, hf, c0, c1, c2, c3, c4⟩ := R
    have O := hide old
    clear old hz
    go_wp2
    refine bodyPost_ret (v := z.v) (by simp [results, Tryz.results106, go_sem, c0, c1, c2, c3, c4]) rfl ⟨by rw [H.out], ?_⟩
    exact five O.out ge

end Go.Proofs.YtkeocdebfgcnnaaGreat

/- The contract of ones: the power 2^n - 1. -/
namespace Go.Proofs.YtkeocdebfgcnnaaGreat
open Go.RowKit
attribute [local go_sem] keepOp keepAt keepUpon

/-- By halves; f: how many halvings there may be. -/
def onesF (x : E5) : Nat → Nat → E5
  | 0, _ => smallF 1
  | f + 1, n => if n = 0 then smallF 1 else
    if n % 2 = 0 then mulF (squaresF (n / 2) (onesF x f (n / 2))) (onesF x f (n / 2))
    else mulF (squaresF 1 (mulF (squaresF (n / 2) (onesF x f (n / 2))) (onesF x f (n / 2)))) x

theorem onesF_ok {x : E5} (hx : x.Ok) : ∀ (f n : Nat), (onesF x f n).Ok
  | 0, _ => smallF_ok (by decide) (by decide)
  | f + 1, n => by
    have h := onesF_ok hx f (n / 2)
    unfold onesF
    split
    · exact smallF_ok (by decide) (by decide)
    · split
      · exact mulF_ok (squaresF_ok _ h) h
      · exact mulF_ok (squaresF_ok _ (mulF_ok (squaresF_ok _ h) h)) hx

theorem squares_half (n : Nat) (x : E5) (w : World) (hx : x.Ok) (hn : n < 1000000) :
    Calls Tryz.prog 106 #[x.v, .int .u64 ((n : Int) / 2)] w fun r w' => r = .returned (squaresF (n / 2) x).v ∧ Below w.heap.size w w' := by
  rw [show (n : Int) / 2 = ((n / 2 : Nat) : Int) from by omega]
  exact squares_any (n / 2) x w hx (by omega)

theorem squares_1 (x : E5) (w : World) (hx : x.Ok) : Calls Tryz.prog 106 #[x.v, .int .u64 1] w fun r w' => r = .returned (squaresF 1 x).v ∧ Below w.heap.size w w' := squares_any 1 x w hx (by decide)
theorem squares_3 (x : E5) (w : World) (hx : x.Ok) : Calls Tryz.prog 106 #[x.v, .int .u64 3] w fun r w' => r = .returned (squaresF 3 x).v ∧ Below w.heap.size w w' := squares_any 3 x w hx (by decide)
theorem squares_5 (x : E5) (w : World) (hx : x.Ok) : Calls Tryz.prog 106 #[x.v, .int .u64 5] w fun r w' => r = .returned (squaresF 5 x).v ∧ Below w.heap.size w w' := squares_any 5 x w hx (by decide)

set_option maxRecDepth 100000 in
set_option maxHeartbeats 4000000 in
theorem ones_any (x : E5) (hx : x.Ok) (f : Nat) : ∀ (n : Nat) (w : World), n < 2 ^ f → n < 1000000 →
    Calls Tryz.prog 105 #[x.v, .int .u64 n] w fun r w' => r = .returned (onesF x f n).v ∧ Below w.heap.size w w' := by
  induction f with
  | zero =>
    intro n w hn _
    have e : n = 0 := by omega
    subst e
    go_enter Tryz.func105, Tryz.ntmps105
    go_wp2_with fail
    have R := Out.start1 w (.cells #[.int .u64 x.a, .int .u64 x.b, .int .u64 x.c, .int .u64 x.d, .int .u64 x.e] 25)
    refine (small_any 1 _ (by decide) (by decide)).mono ?_
    rintro _ w1 ⟨rfl, hb⟩
    replace R := R.keep hb
    clear hb
    rw [show smallF 1 = onesF x 0 0 from rfl]
    generalize hz : onesF x 0 0 = z
    have H := hide hz
    obtain ⟨old, ge, hs, hf, c0, c1, c2, c3, c4⟩ := R
    have O := hide old
    clear old hz
    go_wp2
    refine bodyPost_ret (v := z.v) (by simp [results, Tryz.results105, go_sem, c0, c1, c2, c3, c4]) rfl ⟨by rw [H.out], ?_⟩
    exact five O.out ge
  | succ f ih =>
    intro n w hn hlt
    have HI := hide ih
    clear ih
    by_cases h0 : n = 0
    · subst h0
      go_enter Tryz.func105, Tryz.ntmps105
      go_wp2_with fail
      have R := Out.start1 w (.cells #[.int .u64 x.a, .int .u64 x.b, .int .u64 x.c, .int .u64 x.d, .int .u64 x.e] 25)
      refine (small_any 1 _ (by decide) (by decide)).mono ?_
      rintro _ w1 ⟨rfl, hb⟩
      replace R := R.keep hb
      clear hb
      have e : onesF x (f + 1) 0 = smallF 1 := by simp [onesF]
      rw [← e]
      generalize hz : onesF x (f + 1) 0 = z
      have H := hide hz
      obtain ⟨old, ge, hs, hf, c0, c1, c2, c3, c4⟩ := R
      have O := hide old
      clear old hz e
      go_wp2
      refine bodyPost_ret (v := z.v) (by simp [results, Tryz.results105, go_sem, c0, c1, c2, c3, c4]) rfl ⟨by rw [H.out], ?_⟩
      exact five O.out ge
    · have b0 : ((n : Int) == 0) = false := beq_eq_false_iff_ne.2 (by omega)
      have hp : n / 2 < 2 ^ f := by
        have : 2 ^ (f + 1) = 2 * 2 ^ f := by rw [Nat.pow_succ, Nat.mul_comm]
        omega
      have ok := onesF_ok hx f (n / 2)
      by_cases hodd : n % 2 = 0
      all_goals
        go_enter Tryz.func105, Tryz.ntmps105
        go_wp2_with fail
        have R := Out.start1 w (.cells #[.int .u64 x.a, .int .u64 x.b, .int .u64 x.c, .int .u64 x.d, .int .u64 x.e] 25)
        have A := EAt.new1 w x (.cells #[.int .u64 0, .int .u64 0, .int .u64 0, .int .u64 0, .int .u64 0] 25)
        rw [show (n : Int) / 2 = ((n / 2 : Nat) : Int) from by omega]
        refine (HI.out (n / 2) _ hp (by omega)).mono ?_
        rintro _ w1 ⟨rfl, hb⟩
        replace R := R.keep hb
        replace A := A.keep hb
        clear hb HI
        have he : onesF x (f + 1) n = if n % 2 = 0 then mulF (squaresF (n / 2) (onesF x f (n / 2))) (onesF x f (n / 2)) else mulF (squaresF 1 (mulF (squaresF (n / 2) (onesF x f (n / 2))) (onesF x f (n / 2)))) x := by
          rw [onesF, if_neg h0]
        first | rw [if_pos hodd] at he | rw [if_neg hodd] at he
        have HE := hide he
        clear he
        generalize onesF x f (n / 2) = half at *
        go_wp2_with fail
        replace R := R.keep (new_below w1 (.cells #[.int .u64 half.a, .int .u64 half.b, .int .u64 half.c, .int .u64 half.d, .int .u64 half.e] 25))
        replace A := A.keep (new_below w1 (.cells #[.int .u64 half.a, .int .u64 half.b, .int .u64 half.c, .int .u64 half.d, .int .u64 half.e] 25))
        have B := EAt.new w1 half 25
        generalize w1.heap.size = g at *
        generalize w1.alloc (.cells #[.int .u64 half.a, .int .u64 half.b, .int .u64 half.c, .int .u64 half.d, .int .u64 half.e] 25) = W at *
        have hne := KW.some W
        have a0 := B.k0
        have a1 := B.k1
        have a2 := B.k2
        have a3 := B.k3
        have a4 := B.k4
        refine wp_region_keep_alloc (Z := .cells #[.int .u64 0, .int .u64 0, .int .u64 0, .int .u64 0, .int .u64 0] 25) 6 (by kernel_rfl) (by kernel_rfl) rfl rfl (fun _ _ => by kernel_rfl) ?_
        simp only [List.take_succ_cons, List.take_zero, List.drop_succ_cons, List.drop_zero]
        refine wpK_step (fun K hK => ?_)
        go_simp
        refine hK _ ?_
        clear hK K
        refine wpK_step (fun K hK => ?_)
        go_simp
        refine hK _ ?_
        clear hK K
        refine wpK_step (fun K hK => ?_)
        go_simp
        refine hK _ ?_
        clear hK K
        rw [show IntKind.u64.wrap ((n : Int) / 2) = (n : Int) / 2 from wrap64u ⟨by omega, by omega⟩]
        refine wpK_step (fun K hK => ?_)
        go_simp
        refine ⟨_, fun s => squares_half n half _ ok hlt, hK _ ?_⟩
        clear hK K
        refine wpK_step (fun K hK => ?_)
        go_simp
        refine hK _ ?_
        clear hK K
        refine wpK_step (fun K hK => ?_)
        go_simp
        refine ⟨_, fun s => mul_any _ _ _ (squaresF_ok _ ok) ok, hK _ ?_⟩
        clear hK K
        refine wpK_nil ?_
        intro W1 gb hb1 hb2 hb3 a2 ha2
        simp [go_sem] at ha2
        subst ha2
        clear a0 a1 a2 a3 a4 hne
        have sz := A.size
        have sz2 := R.lie.size
        replace R := R.keep hb1
        replace A := A.keep hb1
        have G := EAt.of_zero hb3
        clear B hb1 hb3
        have ok2 := mulF_ok (squaresF_ok (n / 2) ok) ok
        generalize mulF (squaresF (n / 2) half) half = even at *
        have n1 : ¬ w.heap.size + 1 = gb := by omega
        have n2 : ¬ gb = w.heap.size + 1 := by omega
        have GE := G.put even
        obtain ⟨gs, gf, g0, g1, g2, g3, g4⟩ := G
        have ev : ((n : Int) % 2 == 0) = decide (n % 2 = 0) := by rw [Bool.eq_iff_iff]; simp; omega
      · rw [decide_eq_true hodd] at ev
        obtain ⟨old, ge, hs, hf, c0, c1, c2, c3, c4⟩ := R
        have O := hide old
        clear old A GE hn h0 hp
        go_wp2_with fail
        refine bodyPost_ret (v := even.v) (by simp [results, Tryz.results105, go_sem, c0, c1, c2, c3, c4]) rfl ⟨by rw [HE.out], ?_⟩
        exact five (five O.out (by omega)) ge
      · rw [decide_eq_false hodd] at ev
        have RR := hide (R.other (k := gb) (by omega) (by omega) even)
        have AA := hide (A.other (k := gb) (by omega) even)
        have BB := hide GE
        clear A R GE
        go_wp2_with fail
        replace R := RR.out
        replace A := AA.out
        replace B := BB.out
        clear RR AA BB gs gf g0 g1 g2 g3 g4
        obtain ⟨W2, hW2⟩ : ∃ W2, put5 W1 gb even = W2 := ⟨_, rfl⟩
        rw [hW2] at R A B
        rw [show (((((W1.setCell ⟨gb, 0, none⟩ (.int .u64 even.a)).setCell ⟨gb, 1, none⟩ (.int .u64 even.b)).setCell ⟨gb, 2, none⟩ (.int .u64 even.c)).setCell ⟨gb, 3, none⟩ (.int .u64 even.d)).setCell ⟨gb, 4, none⟩ (.int .u64 even.e)) = W2 from hW2]
        clear hW2
        have hne := KW.some W2
        have a0 := B.k0
        have a1 := B.k1
        have a2 := B.k2
        have a3 := B.k3
        have a4 := B.k4
        have b0 := A.k0
        have b1 := A.k1
        have b2 := A.k2
        have b3 := A.k3
        have b4 := A.k4
        clear A B
        refine wp_region_keep_tail 4 (by kernel_rfl) (by kernel_rfl) ?_
        simp only [List.take_succ_cons, List.take_zero, List.drop_succ_cons, List.drop_zero]
        repeat (go_big_quiet_step (first | (go_at_call 106; exact keep_of (squares_1 even _ ok2)) | (go_at_call 59; exact keep_of (mul_any _ _ _ (squaresF_ok _ ok2) hx))))
        refine wpQuiet_nil ?_
        intro s
        clear a0 a1 a2 a3 a4 b0 b1 b2 b3 b4 hne
        replace R := R.keep s.keep
        generalize s.w = W3 at R ⊢
        generalize mulF (squaresF 1 even) x = z at *
        obtain ⟨old, ge, hs, hf, c0, c1, c2, c3, c4⟩ := R
        have O := hide old
        clear old
        go_wp2
        refine bodyPost_ret (v := z.v) (by simp [results, Tryz.results105, go_sem, c0, c1, c2, c3, c4]) rfl ⟨by rw [HE.out], ?_⟩
        exact five O.out ge

end Go.Proofs.YtkeocdebfgcnnaaGreat

/- The contracts of Inv, anyRoot and Root. -/
namespace Go.Proofs.YtkeocdebfgcnnaaGreat
open Go.RowKit

theorem ones_250 (x : E5) (w : World) (hx : x.Ok) : Calls Tryz.prog 105 #[x.v, .int .u64 250] w fun r w' => r = .returned (onesF x 8 250).v ∧ Below w.heap.size w w' := ones_any x hx 8 250 w (by decide) (by decide)
theorem ones_251 (x : E5) (w : World) (hx : x.Ok) : Calls Tryz.prog 105 #[x.v, .int .u64 251] w fun r w' => r = .returned (onesF x 8 251).v ∧ Below w.heap.size w w' := ones_any x hx 8 251 w (by decide) (by decide)
theorem ones_2 (x : E5) (w : World) (hx : x.Ok) : Calls Tryz.prog 105 #[x.v, .int .u64 2] w fun r w' => r = .returned (onesF x 8 2).v ∧ Below w.heap.size w w' := ones_any x hx 8 2 w (by decide) (by decide)

def invF (x : E5) : E5 := mulF (mulF (squaresF 5 (onesF x 8 250)) (squaresF 3 x)) (onesF x 8 2)

theorem invF_ok {x : E5} (hx : x.Ok) : (invF x).Ok := mulF_ok (mulF_ok (squaresF_ok _ (onesF_ok hx _ _)) (squaresF_ok _ hx)) (onesF_ok hx _ _)

set_option maxRecDepth 100000 in
set_option maxHeartbeats 1000000 in
theorem inv_any (x : E5) (w : World) (hx : x.Ok) :
    Calls Tryz.prog 73 #[x.v] w fun r w' => r = .returned (invF x).v ∧ Below w.heap.size w w' := by
  have k1 := onesF_ok hx 8 250
  have k2 := onesF_ok hx 8 2
  have HE := hide (show invF x = mulF (mulF (squaresF 5 (onesF x 8 250)) (squaresF 3 x)) (onesF x 8 2) from rfl)
  go_enter Tryz.func73, Tryz.ntmps73
  go_wp2_with fail
  have R := Out.start1 w (.cells #[.int .u64 x.a, .int .u64 x.b, .int .u64 x.c, .int .u64 x.d, .int .u64 x.e] 25)
  have A := EAt.new1 w x (.cells #[.int .u64 0, .int .u64 0, .int .u64 0, .int .u64 0, .int .u64 0] 25)
  generalize (w.alloc (.cells #[.int .u64 x.a, .int .u64 x.b, .int .u64 x.c, .int .u64 x.d, .int .u64 x.e] 25)).alloc (.cells #[.int .u64 0, .int .u64 0, .int .u64 0, .int .u64 0, .int .u64 0] 25) = W at R A ⊢
  have hne := KW.some W
  have a0 := A.k0
  have a1 := A.k1
  have a2 := A.k2
  have a3 := A.k3
  have a4 := A.k4
  clear A
  refine wp_region_keep_tail 9 (by kernel_rfl) (by kernel_rfl) ?_
  simp only [List.take_succ_cons, List.take_zero, List.drop_succ_cons, List.drop_zero]
  iterate 1 go_big_quiet_step (fail)
  go_big_quiet_step ((exact keep_of (ones_250 x _ hx)))
  generalize onesF x 8 250 = y1 at *
  go_big_quiet_step ((exact keep_of (squares_5 y1 _ k1)))
  have k3 := squaresF_ok 5 k1
  generalize squaresF 5 y1 = y2 at *
  go_big_quiet_step (fail)
  go_big_quiet_step ((exact keep_of (squares_3 x _ hx)))
  have k4 := squaresF_ok 3 hx
  generalize squaresF 3 x = y3 at *
  go_big_quiet_step ((exact keep_of (mul_any y2 y3 _ k3 k4)))
  have k5 := mulF_ok k3 k4
  generalize mulF y2 y3 = y4 at *
  go_big_quiet_step (fail)
  go_big_quiet_step ((exact keep_of (ones_2 x _ hx)))
  generalize onesF x 8 2 = y5 at *
  go_big_quiet_step ((exact keep_of (mul_any y4 y5 _ k5 k2)))
  generalize mulF y4 y5 = z at *
  refine wpQuiet_nil ?_
  intro s
  clear a0 a1 a2 a3 a4 hne k1 k2 k3 k4 k5
  replace R := R.keep s.keep
  generalize s.w = W3 at R ⊢
  obtain ⟨old, ge, hs, hf, c0, c1, c2, c3, c4⟩ := R
  have O := hide old
  clear old
  go_wp2
  refine bodyPost_ret (v := z.v) (by simp [results, Tryz.results73, go_sem, c0, c1, c2, c3, c4]) rfl ⟨by rw [HE.out], ?_⟩
  exact five O.out ge

/-- The root of -1 that is written out. -/
def rmo : E5 := ⟨1718705420411056, 234908883556509, 2233514472574048, 2117202627021982, 765476049583133⟩
theorem rmo_ok : rmo.Ok := ⟨by decide, by decide, by decide, by decide, by decide, by decide, by decide, by decide, by decide, by decide⟩

set_option maxHeartbeats 400000 in
theorem rmo_any (w : World) : Calls Tryz.prog 114 #[] w fun r w' => r = .returned rmo.v ∧ Below w.heap.size w w' := by
  go_enter Tryz.func114, Tryz.ntmps114
  go_wp2
  exact bodyPost_ret (v := rmo.v) (by simp [results, Tryz.results114, go_sem, rmo]) rfl ⟨rfl, (Below.refl _ _).alloc (Nat.le_refl _) _⟩

def rootR (x : E5) : E5 := squaresF 1 (onesF x 8 251)
def anyRootF (x : E5) : E5 × Bool :=
  if (mulF (rootR x) (rootR x)).n % Pm == x.n % Pm then (rootR x, true)
  else if (mulF (rootR x) (rootR x)).n % Pm == (negF x).n % Pm then (mulF (rootR x) rmo, true)
  else (zeroE, false)

theorem rootR_ok {x : E5} (hx : x.Ok) : (rootR x).Ok := squaresF_ok _ (onesF_ok hx _ _)
theorem anyRootF_ok {x : E5} (hx : x.Ok) : (anyRootF x).1.Ok := by
  unfold anyRootF
  split
  · exact rootR_ok hx
  · split
    · exact mulF_ok (rootR_ok hx) rmo_ok
    · exact zeroE_ok

set_option maxRecDepth 100000 in
set_option maxHeartbeats 4000000 in
theorem anyRoot_any (x : E5) (w : World) (hx : x.Ok) :
    Calls Tryz.prog 107 #[x.v] w fun r w' => r = .returned (.tuple #[(anyRootF x).1.v, .bool (anyRootF x).2]) ∧ Below w.heap.size w w' := by
  have k1 := onesF_ok hx 8 251
  go_enter Tryz.func107, Tryz.ntmps107
  go_wp2_with fail
  have R := Out.start1 w (.cells #[.int .u64 x.a, .int .u64 x.b, .int .u64 x.c, .int .u64 x.d, .int .u64 x.e] 25)
  have A := EAt.new1 w x (.cells #[.int .u64 0, .int .u64 0, .int .u64 0, .int .u64 0, .int .u64 0] 25)
  refine (ones_251 x _ hx).mono ?_
  rintro _ w1 ⟨rfl, hb⟩
  replace R := R.keep hb
  replace A := A.keep hb
  clear hb
  go_wp2_with fail
  refine (squares_1 (onesF x 8 251) _ k1).mono ?_
  rintro _ w2 ⟨rfl, hb⟩
  replace R := R.keep hb
  replace A := A.keep hb
  clear hb k1
  have HF := hide (show anyRootF x = if (mulF (rootR x) (rootR x)).n % Pm == x.n % Pm then (rootR x, true) else if (mulF (rootR x) (rootR x)).n % Pm == (negF x).n % Pm then (mulF (rootR x) rmo, true) else (zeroE, false) from rfl)
  rw [show squaresF 1 (onesF x 8 251) = rootR x from rfl]
  have kr := rootR_ok hx
  generalize rootR x = r at *
  go_wp2_with fail
  replace R := R.keep (new_below w2 (.cells #[.int .u64 r.a, .int .u64 r.b, .int .u64 r.c, .int .u64 r.d, .int .u64 r.e] 25))
  replace A := A.keep (new_below w2 (.cells #[.int .u64 r.a, .int .u64 r.b, .int .u64 r.c, .int .u64 r.d, .int .u64 r.e] 25))
  have B := EAt.new w2 r 25
  refine (mul_any r r _ kr kr).mono ?_
  rintro _ w3 ⟨rfl, hb⟩
  replace R := R.keep hb
  replace A := A.keep hb
  replace B := B.keep hb
  clear hb
  have kq := mulF_ok kr kr
  generalize mulF r r = q at *
  generalize w2.heap.size = gr at *
  have RR := hide (R.keep (new_below w3 (.cells #[.int .u64 q.a, .int .u64 q.b, .int .u64 q.c, .int .u64 q.d, .int .u64 q.e] 25)))
  have AA := A.keep (new_below w3 (.cells #[.int .u64 q.a, .int .u64 q.b, .int .u64 q.c, .int .u64 q.d, .int .u64 q.e] 25))
  have BB := hide (B.keep (new_below w3 (.cells #[.int .u64 q.a, .int .u64 q.b, .int .u64 q.c, .int .u64 q.d, .int .u64 q.e] 25)))
  have CC := hide (EAt.new w3 q 25)
  obtain ⟨asz, af, a0, a1, a2, a3, a4⟩ := A
  clear R B
  go_wp2_with fail
  refine (same_any q x _ kq hx).mono ?_
  rintro _ w4 ⟨rfl, hb⟩
  have R := RR.out.keep hb
  have A := AA.keep hb
  have B := BB.out.keep hb
  have C := CC.out.keep hb
  clear RR AA BB CC hb asz af a0 a1 a2 a3 a4
  generalize w3.heap.size = gq at *
  by_cases h1 : (q.n % Pm == x.n % Pm) = true
  · have hf := HF.out
    rw [if_pos h1] at hf
    have HR := hide hf
    rw [h1]
    clear hf HF h1 kq A C
    obtain ⟨old, ge, rs, rf, r0, r1, r2, r3, r4⟩ := R
    obtain ⟨bs, bf, b0, b1, b2, b3, b4⟩ := B
    have O := hide old
    clear old
    go_wp2
    refine bodyPost_ret (v := .tuple #[r.v, .bool true]) (by simp [results, Tryz.results107, go_sem, r0, r1, r2, r3, r4]) rfl ⟨by rw [HR.out], ?_⟩
    exact five O.out ge
  · have h1' : (q.n % Pm == x.n % Pm) = false := by simpa using h1
    have hf := HF.out
    rw [if_neg h1] at hf
    have HG := hide hf
    rw [h1']
    clear hf HF h1 h1'
    go_wp2_with fail
    have hne := KW.some w4
    have a0 := A.k0
    have a1 := A.k1
    have a2 := A.k2
    have a3 := A.k3
    have a4 := A.k4
    have c0 := C.k0
    have c1 := C.k1
    have c2 := C.k2
    have c3 := C.k3
    have c4 := C.k4
    refine wp_region_keep (by kernel_rfl) (by kernel_rfl) ?_
    go_big_quiet_step (fail)
    go_big_quiet_step (fail)
    go_big_quiet_step ((exact keep_of (neg_any x _ hx)))
    go_big_quiet_step ((exact keep_of (same_any q (negF x) _ kq (negF_ok hx))))
    go_big_quiet_step (fail)
    refine wpQuiet_nil ?_
    intro s
    clear a0 a1 a2 a3 a4 c0 c1 c2 c3 c4 hne A C
    replace R := R.keep s.keep
    replace B := B.keep s.keep
    generalize s.w = w5 at R B ⊢
    by_cases h2 : (q.n % Pm == (negF x).n % Pm) = true
    · have hf := HG.out
      rw [if_pos h2] at hf
      have HR := hide hf
      rw [h2]
      clear hf HG h2
      go_wp2_with fail
      have hne := KW.some w5
      have b0 := B.k0
      have b1 := B.k1
      have b2 := B.k2
      have b3 := B.k3
      have b4 := B.k4
      refine wp_region_keep_tail 3 (by kernel_rfl) (by kernel_rfl) ?_
      simp only [List.take_succ_cons, List.take_zero, List.drop_succ_cons, List.drop_zero]
      go_big_quiet_step (fail)
      go_big_quiet_step ((exact keep_of (rmo_any _)))
      go_big_quiet_step ((exact keep_of (mul_any r rmo _ kr rmo_ok)))
      refine wpQuiet_nil ?_
      intro s
      clear b0 b1 b2 b3 b4 hne B
      replace R := R.keep s.keep
      generalize s.w = w6 at R ⊢
      generalize mulF r rmo = z at *
      obtain ⟨old, ge, rs, rf, r0, r1, r2, r3, r4⟩ := R
      have O := hide old
      clear old
      go_wp2
      refine bodyPost_ret (v := .tuple #[z.v, .bool true]) (by simp [results, Tryz.results107, go_sem, r0, r1, r2, r3, r4]) rfl ⟨by rw [HR.out], ?_⟩
      exact five O.out ge
    · have h2' : (q.n % Pm == (negF x).n % Pm) = false := by simpa using h2
      have hf := HG.out
      rw [if_neg h2] at hf
      have HR := hide hf
      rw [h2']
      clear hf HG h2 h2' B
      obtain ⟨old, ge, rs, rf, r0, r1, r2, r3, r4⟩ := R
      have O := hide old
      clear old
      go_wp2
      refine bodyPost_ret (v := .tuple #[zeroE.v, .bool false]) (by simp [results, Tryz.results107, go_sem, r0, r1, r2, r3, r4, zeroE]) rfl ⟨by rw [HR.out], ?_⟩
      exact five O.out ge

def rootF (x : E5) : E5 × Bool := (if (anyRootF x).1.n % Pm % 2 == 1 then negF (anyRootF x).1 else (anyRootF x).1, (anyRootF x).2)

theorem ite_ok {c : Prop} [Decidable c] {a b : E5} (ha : a.Ok) (hb : b.Ok) : (if c then a else b).Ok := by split <;> assumption
theorem rootF_ok {x : E5} (hx : x.Ok) : (rootF x).1.Ok := by
  have k := anyRootF_ok hx
  have e : (rootF x).1 = if (anyRootF x).1.n % Pm % 2 == 1 then negF (anyRootF x).1 else (anyRootF x).1 := by simp only [rootF]
  rw [e]
  generalize (anyRootF x).1 = r at *
  exact ite_ok (negF_ok k) k

set_option maxRecDepth 100000 in
set_option maxHeartbeats 4000000 in
theorem root_any (x : E5) (w : World) (hx : x.Ok) :
    Calls Tryz.prog 74 #[x.v] w fun r w' => r = .returned (.tuple #[(rootF x).1.v, .bool (rootF x).2]) ∧ Below w.heap.size w w' := by
  have HF := hide (show rootF x = (if (anyRootF x).1.n % Pm % 2 == 1 then negF (anyRootF x).1 else (anyRootF x).1, (anyRootF x).2) from rfl)
  have kr := anyRootF_ok hx
  go_enter Tryz.func74, Tryz.ntmps74
  go_wp2_with fail
  have R := Out.start1 w (.cells #[.int .u64 x.a, .int .u64 x.b, .int .u64 x.c, .int .u64 x.d, .int .u64 x.e] 25)
  refine (anyRoot_any x _ hx).mono ?_
  rintro _ w1 ⟨rfl, hb⟩
  replace R := R.keep hb
  clear hb
  generalize (anyRootF x).2 = is at *
  generalize (anyRootF x).1 = r at *
  have hge := R.lie.size
  have RR := hide (R.keep (new_below w1 (.cells #[.int .u64 r.a, .int .u64 r.b, .int .u64 r.c, .int .u64 r.d, .int .u64 r.e] 25)))
  have BB := hide (EAt.new w1 r 25)
  clear R
  go_wp2_with fail
  refine (odd_any r _ kr).mono ?_
  rintro _ w2 ⟨rfl, hb⟩
  have R := RR.out.keep hb
  have B := BB.out.keep hb
  clear RR BB hb
  generalize w1.heap.size = gr at *
  by_cases ho : (r.n % Pm % 2 == 1) = true
  · have hf := HF.out
    rw [if_pos ho] at hf
    have HR := hide hf
    rw [ho]
    clear hf HF ho
    obtain ⟨bs, bf, b0, b1, b2, b3, b4⟩ := B
    go_wp2_with fail
    refine (neg_any r _ kr).mono ?_
    rintro _ w3 ⟨rfl, hb⟩
    replace R := R.keep hb
    have B := EAt.keep ⟨bs, bf, b0, b1, b2, b3, b4⟩ hb
    clear hb bs bf b0 b1 b2 b3 b4
    generalize negF r = z at *
    have n1 : ¬ w.heap.size + 1 = gr := by omega
    have n2 : ¬ gr = w.heap.size + 1 := by omega
    obtain ⟨old, ge, rs, rf, r0, r1, r2, r3, r4⟩ := R
    obtain ⟨bs, bf, b0, b1, b2, b3, b4⟩ := B
    have O := hide old
    clear old
    go_wp2
    refine bodyPost_ret (v := .tuple #[z.v, .bool is]) (by simp [results, Tryz.results74, go_sem, r0, r1, r2, r3, r4]) rfl ⟨by rw [HR.out], ?_⟩
    exact five (five O.out (by omega)) ge
  · have ho' : (r.n % Pm % 2 == 1) = false := by simpa using ho
    have hf := HF.out
    rw [if_neg ho] at hf
    have HR := hide hf
    rw [ho']
    clear hf HF ho ho'
    have n1 : ¬ w.heap.size + 1 = gr := by omega
    have n2 : ¬ gr = w.heap.size + 1 := by omega
    obtain ⟨old, ge, rs, rf, r0, r1, r2, r3, r4⟩ := R
    obtain ⟨bs, bf, b0, b1, b2, b3, b4⟩ := B
    have O := hide old
    clear old
    go_wp2
    refine bodyPost_ret (v := .tuple #[r.v, .bool is]) (by simp [results, Tryz.results74, go_sem, r0, r1, r2, r3, r4]) rfl ⟨by rw [HR.out], ?_⟩
    exact five O.out ge

end Go.Proofs.YtkeocdebfgcnnaaGreat

/- What the powers are as numbers: squares, and rows of bits that are all 1. -/
namespace Go.Proofs.YtkeocdebfgcnnaaGreat
open Go.RowKit

/-- y, squared n times. -/
def sqz (y : Int) : Nat → Int
  | 0 => y
  | n + 1 => sqz (y * y) n
/-- The power of n bits that are all 1. -/
def onz (x : Int) : Nat → Int
  | 0 => 1
  | k + 1 => onz x k * onz x k * x

theorem sqz_succ (n : Nat) : ∀ y, sqz y (n + 1) = sqz y n * sqz y n := by
  induction n with
  | zero => intro y; rfl
  | succ n ih => intro y; exact ih (y * y)

theorem onz_add (x : Int) (m : Nat) : ∀ k, onz x (m + k) = sqz (onz x m) k * onz x k
  | 0 => by simp [sqz, onz]
  | k + 1 => by
    have ih := onz_add x m k
    rw [← Nat.add_assoc]
    simp only [onz]
    rw [ih, sqz_succ]
    generalize sqz (onz x m) k = a
    generalize onz x k = b
    simp only [Int.mul_assoc, Int.mul_left_comm b a]

theorem sqz_cg {y z : Int} : ∀ {n : Nat}, Cg y z → Cg (sqz y n) (sqz z n) := by
  intro n
  induction n generalizing y z with
  | zero => intro h; exact h
  | succ n ih => intro h; exact ih (h.mul h)

theorem squaresF_n : ∀ (n : Nat) (x : E5), Cg (squaresF n x).n (sqz x.n n)
  | 0, _ => Cg.refl _
  | n + 1, x => (squaresF_n n (mulF x x)).trans (sqz_cg (mulF_n x x))

theorem onesF_n (x : E5) : ∀ (f n : Nat), n < 2 ^ f → Cg (onesF x f n).n (onz x.n n) := by
  intro f
  induction f with
  | zero =>
    intro n h
    have e : n = 0 := by omega
    subst e
    exact smallF_n 1
  | succ f ih =>
    intro n h
    unfold onesF
    by_cases h0 : n = 0
    · rw [if_pos h0]
      subst h0
      exact smallF_n 1
    · rw [if_neg h0]
      have hp : 2 ^ (f + 1) = 2 * 2 ^ f := by rw [Nat.pow_succ, Nat.mul_comm]
      have hh := ih (n / 2) (by omega)
      have he : Cg (mulF (squaresF (n / 2) (onesF x f (n / 2))) (onesF x f (n / 2))).n (onz x.n (n / 2 + n / 2)) := by
        rw [onz_add]
        exact (mulF_n _ _).trans (((squaresF_n _ _).trans (sqz_cg hh)).mul hh)
      by_cases h2 : n % 2 = 0
      · rw [if_pos h2]
        rw [show n / 2 + n / 2 = n by omega] at he
        exact he
      · rw [if_neg h2]
        refine (mulF_n _ _).trans ?_
        have e : onz x.n n = onz x.n (n / 2 + n / 2) * onz x.n (n / 2 + n / 2) * x.n := by
          rw [show onz x.n n = onz x.n (n / 2 + n / 2 + 1) by congr 1; omega]
          rfl
        rw [e]
        exact ((squaresF_n 1 _).trans (he.mul he)).mul (Cg.refl _)

theorem invF_n (x : E5) : Cg (invF x).n (sqz (onz x.n 250) 5 * sqz x.n 3 * onz x.n 2) := by
  unfold invF
  exact (mulF_n _ _).trans (((mulF_n _ _).trans (((squaresF_n 5 _).trans (sqz_cg (onesF_n x 8 250 (by decide)))).mul (squaresF_n 3 x))).mul (onesF_n x 8 2 (by decide)))

theorem rootR_n (x : E5) : Cg (rootR x).n (sqz (onz x.n 251) 1) := by
  unfold rootR
  exact (squaresF_n 1 _).trans (sqz_cg (onesF_n x 8 251 (by decide)))

/-- The same, modulo the prime, to be reckoned. -/
def pQ : Nat := 57896044618658097711785492504343953926634992332820282019728792003956564819948
abbrev pN : Nat := pQ + 1
theorem pN_P : (pN : Int) = Pm := by decide
end Go.Proofs.YtkeocdebfgcnnaaGreat

/- The document's powers are the program's: both are powers with one exponent; so are the roots. -/
namespace Go.Proofs.YtkeocdebfgcnnaaGreat
open Go.RowKit

theorem Cg.pow {x y : Int} (h : Cg x y) : ∀ n : Nat, Cg (x ^ n) (y ^ n)
  | 0 => by rw [Int.pow_zero, Int.pow_zero]; exact Cg.refl _
  | n + 1 => by
    rw [Int.pow_succ, Int.pow_succ]
    exact (Cg.pow h n).mul h

theorem sqz_pow : ∀ (n : Nat) (y : Int), sqz y n = y ^ (2 ^ n)
  | 0, y => by simp [sqz, Int.pow_succ]
  | n + 1, y => by
    unfold sqz
    rw [sqz_pow n, Nat.pow_succ, Nat.mul_comm, Int.pow_mul, Int.pow_succ, Int.pow_succ, Int.pow_zero, Int.one_mul]

theorem onz_pow (x : Int) : ∀ n : Nat, onz x n = x ^ (2 ^ n - 1)
  | 0 => by simp [onz]
  | n + 1 => by
    have hp : 0 < 2 ^ n := Nat.two_pow_pos n
    unfold onz
    rw [onz_pow x n, ← Int.pow_add, ← Int.pow_succ]
    congr 1
    rw [Nat.pow_succ]
    omega

/-- The exponent that n bits are. -/
def exf (f : Nat → Bool) : Nat → Nat
  | 0 => 0
  | i + 1 => 2 * exf f i + (f i).toNat

theorem pwm_pow (x : Int) (f : Nat → Bool) : ∀ i, Cg (pwm x f i) (x ^ exf f i)
  | 0 => by simp [pwm, exf]; exact Cg.refl _
  | i + 1 => by
    have ih := pwm_pow x f i
    have h2 : Cg (pwm x f i * pwm x f i % Pm) (x ^ (2 * exf f i)) := by
      refine (cg_emod _).trans ?_
      rw [Nat.two_mul, Int.pow_add]
      exact ih.mul ih
    unfold pwm exf
    cases hf : f i
    · rw [if_neg (by simp)]
      exact h2
    · rw [if_pos rfl]
      refine (cg_emod _).trans ?_
      rw [Bool.toNat_true, Int.pow_succ]
      exact h2.mul (Cg.refl x)

theorem ex255 : exf (xbit 255 21) 255 = 2 ^ 255 - 21 := by decide +kernel
theorem ex252 : exf (xbit 252 2) 252 = 2 ^ 252 - 2 := by decide +kernel
theorem invF_pow (x : E5) : Cg (invF x).n (x.n ^ (2 ^ 255 - 21)) := by
  refine (invF_n x).trans (Cg.of_eq ?_)
  rw [sqz_pow, sqz_pow, onz_pow, onz_pow, ← Int.pow_mul, ← Int.pow_add, ← Int.pow_add]

theorem rootR_pow (x : E5) : Cg (rootR x).n (x.n ^ (2 ^ 252 - 2)) := by
  refine (rootR_n x).trans (Cg.of_eq ?_)
  rw [sqz_pow, onz_pow, ← Int.pow_mul]

/-- 2 to the power of (p - 1) / 4 is the program's root of -1. -/
theorem rmo_pow : pwm 2 (xbit 253 5) 253 = rmo.n := by decide +kernel
theorem rmo_sq : Cg (rmo.n * rmo.n) (-1) := Cg.of_emod (by decide +kernel)

theorem rinv_val {x : E5} {A : Int} (h : Cg x.n A) : Cg (invF x).n (pwm A (xbit 255 21) 255) := by
  refine (invF_pow x).trans ((h.pow _).trans ?_)
  rw [← ex255]
  exact (pwm_pow A _ 255).symm

theorem oddC (N : Int) : par (d16 N) = (N % 2 == 1) := by
  unfold par
  have hd := d16_dig N 1 0 (by omega)
  rw [u64_and _ 1 hd.1 (by omega) (by decide) (by decide), show (1 : Int).toNat = 1 from rfl, nat_mask1]
  have e : d16 N 0 = N % 65536 := by simp [d16]
  rw [e]
  have : (((N % 65536).toNat % 2 : Nat) : Int) = N % 2 := by omega
  rw [this]

theorem eqA {M : Int} {a : Nat → Int} (ha : Dig a 16) : eqw (d16 (M % Pm)) a 0 16 = (M % Pm == S a 16) := by
  rw [Bool.eq_iff_iff, eqw_iff, beq_iff_eq]
  constructor
  · intro h
    rw [← dS M]
    exact S_congr fun i hi => h i (by omega) (by omega)
  · intro h i _ hi
    exact S_inj (d16_dig _ 16) ha (by rw [dS]; exact h) i (by omega)

theorem em (M : Int) : 0 ≤ M % Pm ∧ M % Pm < Pm := ⟨Int.emod_nonneg M (by decide), Int.emod_lt_of_pos M Pm_pos⟩
theorem em_self {M : Int} (h : 0 ≤ M ∧ M < Pm) : M % Pm = M := Int.emod_eq_of_lt h.1 h.2

/-- The document's answer for the root of a number, as a number. -/
def rrF (A : Int) : Int × Bool :=
  let U := pwm A (xbit 252 2) 252
  let V := U * rmo.n % Pm
  if U * U % Pm = A then (if U % 2 = 1 then (- U) % Pm else U, true) else if V * V % Pm = A then (if V % 2 = 1 then (- V) % Pm else V, true) else (0, false)

theorem rrF_bd (A : Int) : 0 ≤ (rrF A).1 ∧ (rrF A).1 < Pm := by
  unfold rrF
  have h1 := pwm_bd A (xbit 252 2) 252
  have h2 := em (pwm A (xbit 252 2) 252 * rmo.n)
  simp only
  generalize pwm A (xbit 252 2) 252 = U at h1 h2 ⊢
  generalize U * rmo.n % Pm = V at h2 ⊢
  have hn : ∀ {U : Int}, 0 ≤ U ∧ U < Pm → 0 ≤ (if U % 2 = 1 then (- U) % Pm else U) ∧ (if U % 2 = 1 then (- U) % Pm else U) < Pm := fun {U} hU => by
    split
    · exact em _
    · exact hU
  by_cases e : U * U % Pm = A
  · rw [if_pos e]
    exact hn h1
  · rw [if_neg e]
    by_cases e2 : V * V % Pm = A
    · rw [if_pos e2]
      exact hn h2
    · rw [if_neg e2]
      exact ⟨Int.le_refl 0, Pm_pos⟩

theorem odd_fix {y : E5} {U : Int} (hU : 0 ≤ U ∧ U < Pm) (h : Cg y.n U) : (if y.n % Pm % 2 == 1 then negF y else y).n % Pm = if U % 2 = 1 then (- U) % Pm else U := by
  have e : y.n % Pm = U := by rw [h.emod, em_self hU]
  rw [e]
  by_cases h2 : U % 2 = 1
  · rw [if_pos h2, if_pos (by simp [h2]), ((negF_n y).trans h.neg).emod]
  · rw [if_neg h2, if_neg (by simp [h2]), e]

theorem root_val {x : E5} {A : Int} (hA : 0 ≤ A ∧ A < Pm) (h : Cg x.n A) : (rootF x).2 = (rrF A).2 ∧ (rootF x).1.n % Pm = (rrF A).1 := by
  have hr : Cg (rootR x).n (pwm A (xbit 252 2) 252) := by
    refine (rootR_pow x).trans ((h.pow _).trans ?_)
    rw [← ex252]
    exact (pwm_pow A _ 252).symm
  have hU := pwm_bd A (xbit 252 2) 252
  have hx : x.n % Pm = A := by rw [h.emod, em_self hA]
  unfold rootF rrF anyRootF
  generalize pwm A (xbit 252 2) 252 = U at *
  generalize rootR x = r at *
  have hrr : (mulF r r).n % Pm = U * U % Pm := ((mulF_n r r).trans (hr.mul hr)).emod
  have hV := em (U * rmo.n)
  have hrm : Cg (mulF r rmo).n (U * rmo.n % Pm) := ((mulF_n r rmo).trans (hr.mul (Cg.refl _))).trans (cg_emod _).symm
  have hVV : Cg ((U * rmo.n % Pm) * (U * rmo.n % Pm)) (- (U * U)) := by
    refine ((cg_emod _).mul (cg_emod _)).trans ?_
    have e : U * rmo.n * (U * rmo.n) = U * U * (rmo.n * rmo.n) := by rw [Int.mul_assoc, Int.mul_assoc, Int.mul_left_comm rmo.n U]
    rw [e]
    have := (Cg.refl (U * U)).mul rmo_sq
    rw [show U * U * -1 = -(U * U) by omega] at this
    exact this
  have hng : (negF x).n % Pm = (- A) % Pm := ((negF_n x).trans h.neg).emod
  simp only
  generalize U * rmo.n % Pm = V at *
  rw [hrr, hx, hng]
  by_cases h1 : U * U % Pm = A
  · rw [if_pos h1]
    have b1 : (U * U % Pm == A) = true := by simp [h1]
    rw [b1]
    exact ⟨rfl, odd_fix hU hr⟩
  · have b1 : (U * U % Pm == A) = false := by simp [h1]
    rw [if_neg h1, b1]
    by_cases h2 : V * V % Pm = A
    · have b2 : (U * U % Pm == (- A) % Pm) = true := by
        rw [beq_iff_eq]
        have := (Cg.of_emod (h2.trans (em_self hA).symm)).symm.trans hVV
        have := this.neg
        rw [Int.neg_neg] at this
        exact this.symm.emod
      rw [if_pos h2, b2]
      exact ⟨rfl, odd_fix hV hrm⟩
    · have b2 : (U * U % Pm == (- A) % Pm) = false := by
        rw [beq_eq_false_iff_ne]
        intro e
        apply h2
        have := (Cg.of_emod e).neg
        rw [Int.neg_neg] at this
        rw [(hVV.trans this).emod, em_self hA]
      rw [if_neg h2, b2]
      refine ⟨rfl, ?_⟩
      show (if zeroE.n % Pm % 2 == 1 then negF zeroE else zeroE).n % Pm = 0
      decide

theorem S_d2 : S (d16 2) 16 = 2 := bS ⟨by decide, by decide⟩

theorem rroot_any (a : Nat → Int) (w : World) (ha : Dig a 16) :
    Calls Tryz.prog 45 #[.agg (arr 16 a)] w fun r w' => r = .returned (.tuple #[.agg (arr 16 (d16 (rrF (S a 16)).1)), .bool (rrF (S a 16)).2]) ∧ Below w.heap.size w w' := by
  have hU := pwm_bd (S a 16) (xbit 252 2) 252
  have hI : S (d16 (pwm 2 (xbit 253 5) 253)) 16 = rmo.n := by rw [bS (pwm_bd _ _ _), rmo_pow]
  have sU := bS hU
  have sV : S (d16 (S (d16 (pwm (S a 16) (xbit 252 2) 252)) 16 * S (d16 (pwm 2 (xbit 253 5) 253)) 16 % Pm)) 16 = pwm (S a 16) (xbit 252 2) 252 * rmo.n % Pm := by rw [dS, sU, hI]
  have H := rroot_gen a (d16 (pwm (S a 16) (xbit 252 2) 252)) (d16 (pwm 2 (xbit 253 5) 253)) (d16 (S (d16 (pwm (S a 16) (xbit 252 2) 252)) 16 * S (d16 (pwm 2 (xbit 253 5) 253)) 16 % Pm)) _ _ _ _ w
    ⟨fun w b h => power_any a 252 _ b w ha h (by decide), fun w b h => by
      have := power_any (d16 2) 253 _ b w (d16_dig _ 16) h (by decide)
      rwa [S_d2] at this, fun w => rmul_any _ _ w (d16_dig _ 16) (d16_dig _ 16), fun w => rmul_any _ _ w (d16_dig _ 16) (d16_dig _ 16), fun w => rmul_any _ _ w (d16_dig _ 16) (d16_dig _ 16), fun w => rneg_any _ w (d16_dig _ 16) (by rw [sU]; exact hU.2), fun w => rneg_any _ w (d16_dig _ 16) (by rw [sV]; exact (em _).2)⟩
  rw [sV, hI, sU] at H
  have e : rrG a (d16 (pwm (S a 16) (xbit 252 2) 252)) (d16 (pwm (S a 16) (xbit 252 2) 252 * rmo.n % Pm)) (d16 (pwm (S a 16) (xbit 252 2) 252 * pwm (S a 16) (xbit 252 2) 252 % Pm)) (d16 (pwm (S a 16) (xbit 252 2) 252 * rmo.n % Pm * (pwm (S a 16) (xbit 252 2) 252 * rmo.n % Pm) % Pm)) (d16 (-pwm (S a 16) (xbit 252 2) 252 % Pm)) (d16 (-(pwm (S a 16) (xbit 252 2) 252 * rmo.n % Pm) % Pm)) = (d16 (rrF (S a 16)).1, (rrF (S a 16)).2) := by
    unfold rrG rrF
    rw [eqA ha, eqA ha, oddC, oddC]
    simp only [beq_iff_eq]
    generalize pwm (S a 16) (xbit 252 2) 252 = U
    generalize U * rmo.n % Pm = V
    by_cases h1 : U * U % Pm = S a 16
    · rw [if_pos h1, if_pos h1]
      by_cases h2 : U % 2 = 1
      · rw [if_pos h2, if_pos h2]
      · rw [if_neg h2, if_neg h2]
    · rw [if_neg h1, if_neg h1]
      by_cases h3 : V * V % Pm = S a 16
      · rw [if_pos h3, if_pos h3]
        by_cases h2 : V % 2 = 1
        · rw [if_pos h2, if_pos h2]
        · rw [if_neg h2, if_neg h2]
      · rw [if_neg h3, if_neg h3]
        exact Prod.ext (funext fun i => by simp [d16]) rfl
  simp only [e] at H
  exact H

end Go.Proofs.YtkeocdebfgcnnaaGreat

/- The document's points as values. -/
namespace Go.Proofs.YtkeocdebfgcnnaaGreat
open Go.RowKit

abbrev Bd (a : Int) : Prop := 0 ≤ a ∧ a < Pm
def mI (a b : Int) : Int := a * b % Pm
def pI (a b : Int) : Int := (a + b) % Pm
def sI (a b : Int) : Int := (a - b) % Pm
def nI (a : Int) : Int := (-a) % Pm
def vI (a : Int) : Int := pwm a (xbit 255 21) 255
theorem mI_bd (a b : Int) : Bd (mI a b) := em _
theorem pI_bd (a b : Int) : Bd (pI a b) := em _
theorem sI_bd (a b : Int) : Bd (sI a b) := em _
theorem nI_bd (a : Int) : Bd (nI a) := em _
theorem vI_bd (a : Int) : Bd (vI a) := pwm_bd _ _ _
theorem rmulD (a b : Int) (w : World) (ha : Bd a) (hb : Bd b) : Calls Tryz.prog 39 #[.agg (arr 16 (d16 a)), .agg (arr 16 (d16 b))] w fun r w' => r = .returned (.agg (arr 16 (d16 (mI a b)))) ∧ Below w.heap.size w w' := by
  have h := rmul_any (d16 a) (d16 b) w (d16_dig a 16) (d16_dig b 16)
  rwa [bS ha, bS hb] at h
theorem raddD (a b : Int) (w : World) (ha : Bd a) (hb : Bd b) : Calls Tryz.prog 43 #[.agg (arr 16 (d16 a)), .agg (arr 16 (d16 b))] w fun r w' => r = .returned (.agg (arr 16 (d16 (pI a b)))) ∧ Below w.heap.size w w' := by
  have h := radd_any (d16 a) (d16 b) w (d16_dig a 16) (d16_dig b 16)
  rwa [bS ha, bS hb] at h
theorem rsubD (a b : Int) (w : World) (ha : Bd a) (hb : Bd b) : Calls Tryz.prog 40 #[.agg (arr 16 (d16 a)), .agg (arr 16 (d16 b))] w fun r w' => r = .returned (.agg (arr 16 (d16 (sI a b)))) ∧ Below w.heap.size w w' := by
  have h := rsub_any (d16 a) (d16 b) w (d16_dig a 16) (d16_dig b 16) (by rw [bS hb]; exact hb.2)
  rwa [bS ha, bS hb] at h
theorem rnegD (a : Int) (w : World) (ha : Bd a) : Calls Tryz.prog 46 #[.agg (arr 16 (d16 a))] w fun r w' => r = .returned (.agg (arr 16 (d16 (nI a)))) ∧ Below w.heap.size w w' := by
  have h := rneg_any (d16 a) w (d16_dig a 16) (by rw [bS ha]; exact ha.2)
  rwa [bS ha] at h
theorem rinvD (a : Int) (w : World) (ha : Bd a) : Calls Tryz.prog 44 #[.agg (arr 16 (d16 a))] w fun r w' => r = .returned (.agg (arr 16 (d16 (vI a)))) ∧ Below w.heap.size w w' := by
  have h := rinv_any (d16 a) w (d16_dig a 16)
  rwa [bS ha] at h
theorem rrootD (a : Int) (w : World) (ha : Bd a) : Calls Tryz.prog 45 #[.agg (arr 16 (d16 a))] w fun r w' => r = .returned (.tuple #[.agg (arr 16 (d16 (rrF a).1)), .bool (rrF a).2]) ∧ Below w.heap.size w w' := by
  have h := rroot_any (d16 a) w (d16_dig a 16)
  rwa [bS ha] at h
theorem eqD {a b : Int} (ha : Bd a) (hb : Bd b) : eqw (d16 a) (d16 b) 0 16 = (a == b) := by
  have h := eqA (M := a) (d16_dig b 16)
  rwa [em_self ha, bS hb] at h

/-- The curve's number. -/
def DI : Int := 37095705934669439343138083508754565189542113879843219016388785533085940283555
theorem DI_bd : Bd DI := by decide
theorem dBy_val : val dBy % Pm = DI := by decide +kernel
theorem dBy_sz : dBy.size = 32 := by decide
theorem c_rgiven (w : World) : Calls Tryz.prog 85 #[] w fun r w' => r = .returned (.agg (arr 16 (d16 DI))) ∧ Below w.heap.size w w' :=
  rgiven_gen (d16 DI) w ⟨fun w => by
    have h := rof_any dBy w dBy_sz
    rwa [dBy_val] at h⟩
theorem D_val : mI (nI 121665) (vI 121666) = DI := by decide +kernel
theorem c_rD (w : World) : Calls Tryz.prog 42 #[] w fun r w' => r = .returned (.agg (arr 16 (d16 DI))) ∧ Below w.heap.size w w' := by
  have h := rD_gen (d16 121665) (d16 (nI 121665)) (d16 121666) (d16 (vI 121666)) (d16 (mI (nI 121665) (vI 121666))) w
    { h1 := fun w => rsmall_any 121665 w (by decide) (by decide), h2 := fun w => rnegD 121665 w (by decide), h3 := fun w => rsmall_any 121666 w (by decide) (by decide), h4 := fun w => rinvD 121666 w (by decide), h5 := fun w => rmulD (nI 121665) (vI 121666) w (nI_bd _) (vI_bd _) }
  rwa [D_val] at h
/-- A point of the document: four numbers. -/
structure RQ where
  x : Int
  y : Int
  z : Int
  t : Int
def RQ.f (q : RQ) : Nat → Int := p4 16 (d16 q.x) (d16 q.y) (d16 q.z) (d16 q.t)
structure RQ.Ok (q : RQ) : Prop where
  x : Bd q.x
  y : Bd q.y
  z : Bd q.z
  t : Bd q.t
def rofV (x y : Int) : RQ := ⟨x, y, 1, mI x y⟩
theorem one_bd : Bd 1 := by decide
theorem zero_bd : Bd 0 := by decide
theorem rofV_ok {x y : Int} (hx : Bd x) (hy : Bd y) : (rofV x y).Ok := ⟨hx, hy, one_bd, mI_bd _ _⟩
def rzeroV : RQ := ⟨0, 1, 1, 0⟩
theorem rzeroV_ok : rzeroV.Ok := ⟨zero_bd, one_bd, one_bd, zero_bd⟩
theorem d16_zero : d16 0 = fun _ => 0 := by
  funext i
  unfold d16
  simp
theorem c_rof (x y : Int) (w : World) (hx : Bd x) (hy : Bd y) : Calls Tryz.prog 47 #[.agg (arr 16 (d16 x)), .agg (arr 16 (d16 y))] w fun r w' => r = .returned (.agg (arr 64 (rofV x y).f)) ∧ Below w.heap.size w w' :=
  rof_gen (d16 x) (d16 y) (d16 1) (d16 (mI x y)) w ⟨fun w => rsmall_any 1 w (by decide) (by decide), fun w => rmulD x y w hx hy⟩
theorem c_rzero (w : World) : Calls Tryz.prog 58 #[] w fun r w' => r = .returned (.agg (arr 64 rzeroV.f)) ∧ Below w.heap.size w w' := by
  have h := rzero_gen (d16 1) w ⟨fun w => rsmall_any 1 w (by decide) (by decide)⟩
  rw [← d16_zero] at h
  exact h
def rteesV (p q : RQ) : Int := mI (mI DI p.t) q.t
theorem c_rtees (p q : RQ) (w : World) (hp : p.Ok) (hq : q.Ok) : Calls Tryz.prog 54 #[.agg (arr 64 p.f), .agg (arr 64 q.f)] w fun r w' => r = .returned (.agg (arr 16 (d16 (rteesV p q)))) ∧ Below w.heap.size w w' :=
  rtees_gen (d16 p.x) (d16 p.y) (d16 p.z) (d16 p.t) (d16 q.x) (d16 q.y) (d16 q.z) (d16 q.t) (d16 DI) (d16 (mI DI p.t)) (d16 (rteesV p q)) w ⟨c_rgiven, fun w => rmulD DI p.t w DI_bd hp.t, fun w => rmulD (mI DI p.t) q.t w (mI_bd _ _) hq.t⟩
def raddV (p q : RQ) : RQ :=
  let a := pI (mI p.x q.y) (mI p.y q.x)
  let b := pI (mI p.y q.y) (mI p.x q.x)
  let c := rteesV p q
  let d := mI p.z q.z
  ⟨mI a (sI d c), mI (pI d c) b, mI (sI d c) (pI d c), mI a b⟩
theorem raddV_ok (p q : RQ) : (raddV p q).Ok := ⟨mI_bd _ _, mI_bd _ _, mI_bd _ _, mI_bd _ _⟩
theorem rteesV_bd (p q : RQ) : Bd (rteesV p q) := mI_bd _ _
theorem c_radd (p q : RQ) (w : World) (hp : p.Ok) (hq : q.Ok) : Calls Tryz.prog 12 #[.agg (arr 64 p.f), .agg (arr 64 q.f)] w fun r w' => r = .returned (.agg (arr 64 (raddV p q).f)) ∧ Below w.heap.size w w' :=
  radd_gen (d16 p.x) (d16 p.y) (d16 p.z) (d16 p.t) (d16 q.x) (d16 q.y) (d16 q.z) (d16 q.t) (d16 (mI p.x q.y)) (d16 (mI p.y q.x)) (d16 (pI (mI p.x q.y) (mI p.y q.x))) (d16 (mI p.y q.y)) (d16 (mI p.x q.x)) (d16 (pI (mI p.y q.y) (mI p.x q.x))) (d16 (rteesV p q)) (d16 (mI p.z q.z)) (d16 (sI (mI p.z q.z) (rteesV p q))) (d16 (pI (mI p.z q.z) (rteesV p q))) (d16 (mI (pI (mI p.x q.y) (mI p.y q.x)) (sI (mI p.z q.z) (rteesV p q)))) (d16 (mI (pI (mI p.z q.z) (rteesV p q)) (pI (mI p.y q.y) (mI p.x q.x)))) (d16 (mI (sI (mI p.z q.z) (rteesV p q)) (pI (mI p.z q.z) (rteesV p q)))) (d16 (mI (pI (mI p.x q.y) (mI p.y q.x)) (pI (mI p.y q.y) (mI p.x q.x)))) w { h1 := fun w => rmulD p.x q.y w hp.x hq.y, h2 := fun w => rmulD p.y q.x w hp.y hq.x, h3 := fun w => raddD (mI p.x q.y) (mI p.y q.x) w (mI_bd _ _) (mI_bd _ _), h4 := fun w => rmulD p.y q.y w hp.y hq.y, h5 := fun w => rmulD p.x q.x w hp.x hq.x, h6 := fun w => raddD (mI p.y q.y) (mI p.x q.x) w (mI_bd _ _) (mI_bd _ _), h7 := fun w => c_rtees p q w hp hq, h8 := fun w => rmulD p.z q.z w hp.z hq.z, h9 := fun w => rsubD (mI p.z q.z) (rteesV p q) w (mI_bd _ _) (rteesV_bd _ _), h10 := fun w => raddD (mI p.z q.z) (rteesV p q) w (mI_bd _ _) (rteesV_bd _ _), h11 := fun w => rmulD (pI (mI p.x q.y) (mI p.y q.x)) (sI (mI p.z q.z) (rteesV p q)) w (pI_bd _ _) (sI_bd _ _), h12 := fun w => rmulD (pI (mI p.z q.z) (rteesV p q)) (pI (mI p.y q.y) (mI p.x q.x)) w (pI_bd _ _) (pI_bd _ _), h13 := fun w => rmulD (sI (mI p.z q.z) (rteesV p q)) (pI (mI p.z q.z) (rteesV p q)) w (sI_bd _ _) (pI_bd _ _), h14 := fun w => rmulD (pI (mI p.x q.y) (mI p.y q.x)) (pI (mI p.y q.y) (mI p.x q.x)) w (pI_bd _ _) (pI_bd _ _) }
def rnegV (p : RQ) : RQ := ⟨nI p.x, p.y, p.z, nI p.t⟩
theorem rnegV_ok {p : RQ} (hp : p.Ok) : (rnegV p).Ok := ⟨nI_bd _, hp.y, hp.z, nI_bd _⟩
theorem c_rneg (p : RQ) (w : World) (hp : p.Ok) : Calls Tryz.prog 14 #[.agg (arr 64 p.f)] w fun r w' => r = .returned (.agg (arr 64 (rnegV p).f)) ∧ Below w.heap.size w w' :=
  rneg_gen (d16 p.x) (d16 p.y) (d16 p.z) (d16 p.t) (d16 (nI p.x)) (d16 (nI p.t)) w ⟨fun w => rnegD p.x w hp.x, fun w => rnegD p.t w hp.t⟩
def rsameV (p q : RQ) : Bool := (mI p.x q.z == mI q.x p.z) && (mI p.y q.z == mI q.y p.z)
theorem c_rsame (p q : RQ) (w : World) (hp : p.Ok) (hq : q.Ok) : Calls Tryz.prog 18 #[.agg (arr 64 p.f), .agg (arr 64 q.f)] w fun r w' => r = .returned (.bool (rsameV p q)) ∧ Below w.heap.size w w' := by
  unfold rsameV
  cases h : (mI p.x q.z == mI q.x p.z)
  · have he : eqw (d16 (mI p.x q.z)) (d16 (mI q.x p.z)) 0 16 = false := by rw [eqD (mI_bd _ _) (mI_bd _ _)]; exact h
    exact rsameF_gen (d16 p.x) (d16 p.y) (d16 p.z) (d16 p.t) (d16 q.x) (d16 q.y) (d16 q.z) (d16 q.t) (d16 (mI p.x q.z)) (d16 (mI q.x p.z)) w ⟨fun w => rmulD p.x q.z w hp.x hq.z, fun w => rmulD q.x p.z w hq.x hp.z⟩ he
  · have he : eqw (d16 (mI p.x q.z)) (d16 (mI q.x p.z)) 0 16 = true := by rw [eqD (mI_bd _ _) (mI_bd _ _)]; exact h
    have h2 := rsameT_gen (d16 p.x) (d16 p.y) (d16 p.z) (d16 p.t) (d16 q.x) (d16 q.y) (d16 q.z) (d16 q.t) (d16 (mI p.x q.z)) (d16 (mI q.x p.z)) (d16 (mI p.y q.z)) (d16 (mI q.y p.z)) w ⟨fun w => rmulD p.x q.z w hp.x hq.z, fun w => rmulD q.x p.z w hq.x hp.z, fun w => rmulD p.y q.z w hp.y hq.z, fun w => rmulD q.y p.z w hq.y hp.z⟩ he
    rw [eqD (mI_bd _ _) (mI_bd _ _)] at h2
    exact h2
def roct (p : RQ) : RQ := raddV (raddV (raddV p p) (raddV p p)) (raddV (raddV p p) (raddV p p))
def rsmallV (p : RQ) : Bool := rsameV (roct p) rzeroV
end Go.Proofs.YtkeocdebfgcnnaaGreat
