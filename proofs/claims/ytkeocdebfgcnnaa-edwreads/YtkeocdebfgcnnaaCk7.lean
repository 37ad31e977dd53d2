/- Part 7 of the walks and facts behind edwReads_holds. -/
import Derived.Test.YtkeocdebfgcnnaaCk6
/- The walks of the statements, told by what their callees hand back. -/
namespace Go.Proofs.Ytkeocdebfgcnnaa
open Go.RowKit

def shS : ByteArray := ⟨#[115, 104, 111, 114, 116]⟩
def zS : ByteArray := ⟨#[1, 0, 0, 0, 0, 0, 0, 0, 0, 0, 0, 0, 0, 0, 0, 0, 0, 0, 0, 0, 0, 0, 0, 0, 0, 0, 0, 0, 0, 0, 0, 0]⟩

structure aliveF (bb zz nb sb rb : Nat → Int) : Prop where
  h1 : ∀ w, Calls Try.prog 21 #[] w fun r w' => r = .returned (.agg (arr 20 bb)) ∧ Below w.heap.size w w'
  h2 : ∀ w, Calls Try.prog 10 #[.agg (arr 20 bb)] w fun r w' => r = .returned (.string baseS) ∧ Below w.heap.size w w'
  h3 : ∀ w, Calls Try.prog 7 #[.string baseS] w fun r w' => r = .returned (.tuple #[.agg (arr 20 bb), .int .i64 0]) ∧ Below w.heap.size w w'
  h4 : ∀ w, Calls Try.prog 7 #[.string shS] w fun r w' => r = .returned (.tuple #[.agg (arr 20 (fun _ => 0)), .int .i64 2]) ∧ Below w.heap.size w w'
  h5 : ∀ w, Calls Try.prog 23 #[] w fun r w' => r = .returned (.agg (arr 20 zz)) ∧ Below w.heap.size w w'
  h6 : ∀ w, Calls Try.prog 10 #[.agg (arr 20 zz)] w fun r w' => r = .returned (.string zS) ∧ Below w.heap.size w w'
  h7 : ∀ w, Calls Try.prog 11 #[.agg (arr 20 bb), .agg (arr 20 bb)] w fun r w' => r = .returned (.bool true) ∧ Below w.heap.size w w'
  h8 : ∀ w, Calls Try.prog 18 #[.agg (arr 20 bb)] w fun r w' => r = .returned (.agg (arr 20 nb)) ∧ Below w.heap.size w w'
  h9 : ∀ w, Calls Try.prog 16 #[.agg (arr 20 bb), .agg (arr 20 nb)] w fun r w' => r = .returned (.agg (arr 20 sb)) ∧ Below w.heap.size w w'
  h10 : ∀ w, Calls Try.prog 11 #[.agg (arr 20 sb), .agg (arr 20 zz)] w fun r w' => r = .returned (.bool true) ∧ Below w.heap.size w w'
  h11 : ∀ w, Calls Try.prog 13 #[.agg (arr 20 bb)] w fun r w' => r = .returned (.bool false) ∧ Below w.heap.size w w'
  h12 : ∀ w, Calls Try.prog 13 #[.agg (arr 20 zz)] w fun r w' => r = .returned (.bool true) ∧ Below w.heap.size w w'
  h13 : ∀ w, Calls Try.prog 13 #[.agg (arr 20 (fun _ => 0))] w fun r w' => r = .returned (.bool false) ∧ Below w.heap.size w w'
  h14 : ∀ w, Calls Try.prog 10 #[.agg (arr 20 (fun _ => 0))] w fun r w' => r = .returned (.string ⟨#[]⟩) ∧ Below w.heap.size w w'
  h15 : ∀ w, Calls Try.prog 24 #[] w fun r w' => r = .returned (.agg (arr 64 rb)) ∧ Below w.heap.size w w'
  h16 : ∀ w, Calls Try.prog 25 #[.agg (arr 64 rb)] w fun r w' => r = .returned (.string baseS) ∧ Below w.heap.size w w'

set_option maxRecDepth 100000 in
set_option maxHeartbeats 4000000 in
theorem alive_gen (bb zz nb sb rb : Nat → Int) (w : World) (F : aliveF bb zz nb sb rb)  :
    Calls Try.prog 6 #[] w fun r w' => r = .returned (.bool true) ∧ Below w.heap.size w w' := by
  go_enter Try.func6, Try.ntmps6
  have M := Mem.start w
  refine wp_seq ?_
  refine rg_lit ?_
  refine pl_val (want_no rfl) (some 0) rfl (.bool false) (fun _ => by kernel_rfl) ?_
  refine pl_nil ?_
  refine au_then ?_
  refine wp_seq ?_
  refine rg_lit ?_
  refine pl_call M (want_no rfl) (some 7) rfl 21 #[] (.agg (arr 20 bb)) (fun _ => by kernel_rfl) F.h1 ?_
  intro w1 M
  refine pl_new M (want_no rfl) (some 1) rfl (.cells (arr 20 (fun _ => 0)) 28) (fun _ => by kernel_rfl) ?_
  intro g1 w2 M
  replace M : Mem w [⟨g1, .cells (arr 20 (fun _ => 0)) 28⟩] w2 := M
  refine pl_put M (want_no rfl) rfl 28 _ _ rfl 0 g1 (by kernel_rfl) 20 28 (fun _ => 0) bb rfl (by kernel_rfl) inz28 ?_
  intro w3 M
  replace M : Mem w [⟨g1, .cells (arr 20 bb) 28⟩] w3 := M
  refine pl_nil ?_
  refine au_then ?_
  refine wp_seq ?_
  refine rg_lit ?_
  refine pl_load M (want_no rfl) (some 9) rfl 28 _ rfl 0 g1 0 (by kernel_rfl) 20 28 bb rfl 20 bb (Part.all _ _) (by decide) _ Try.underlying28 rfl inz28 ?_
  refine pl_call M (want_no rfl) (some 10) rfl 10 #[.agg (arr 20 bb)] (.string baseS) (fun _ => by kernel_rfl) F.h2 ?_
  intro w4 M
  refine pl_call M (want_no rfl) (some 11) rfl 7 #[.string baseS] (.tuple #[.agg (arr 20 bb), .int .i64 0]) (fun _ => by kernel_rfl) F.h3 ?_
  intro w5 M
  refine pl_val (want_no rfl) (some 8) rfl (.tuple #[.agg (arr 20 bb), .int .i64 0]) (fun _ => by kernel_rfl) ?_
  refine pl_val (want_no rfl) (some 12) rfl (.agg (arr 20 bb)) (fun _ => by kernel_rfl) ?_
  refine pl_val (want_no rfl) (some 13) rfl (.int .i64 0) (fun _ => by kernel_rfl) ?_
  refine pl_new M (want_no rfl) (some 2) rfl (.cells (arr 20 (fun _ => 0)) 28) (fun _ => by kernel_rfl) ?_
  intro g2 w6 M
  replace M : Mem w [⟨g1, .cells (arr 20 bb) 28⟩, ⟨g2, .cells (arr 20 (fun _ => 0)) 28⟩] w6 := M
  refine pl_put M (want_no rfl) rfl 28 _ _ rfl 1 g2 (by kernel_rfl) 20 28 (fun _ => 0) bb rfl (by kernel_rfl) inz28 ?_
  intro w7 M
  replace M : Mem w [⟨g1, .cells (arr 20 bb) 28⟩, ⟨g2, .cells (arr 20 bb) 28⟩] w7 := M
  refine pl_val (want_no rfl) (some 3) rfl (.int .i64 0) (fun _ => by kernel_rfl) ?_
  refine pl_nil ?_
  refine au_then ?_
  refine wp_seq ?_
  refine rg_lit ?_
  refine pl_call M (want_no rfl) (some 15) rfl 7 #[.string shS] (.tuple #[.agg (arr 20 (fun _ => 0)), .int .i64 2]) (fun _ => by kernel_rfl) F.h4 ?_
  intro w8 M
  refine pl_val (want_no rfl) (some 14) rfl (.tuple #[.agg (arr 20 (fun _ => 0)), .int .i64 2]) (fun _ => by kernel_rfl) ?_
  refine pl_val (want_no rfl) (some 16) rfl (.agg (arr 20 (fun _ => 0))) (fun _ => by kernel_rfl) ?_
  refine pl_val (want_no rfl) (some 17) rfl (.int .i64 2) (fun _ => by kernel_rfl) ?_
  refine pl_new M (want_no rfl) (some 4) rfl (.cells (arr 20 (fun _ => 0)) 28) (fun _ => by kernel_rfl) ?_
  intro g3 w9 M
  replace M : Mem w [⟨g1, .cells (arr 20 bb) 28⟩, ⟨g2, .cells (arr 20 bb) 28⟩, ⟨g3, .cells (arr 20 (fun _ => 0)) 28⟩] w9 := M
  refine pl_put M (want_no rfl) rfl 28 _ _ rfl 2 g3 (by kernel_rfl) 20 28 (fun _ => 0) (fun _ => 0) rfl (by kernel_rfl) inz28 ?_
  intro w10 M
  replace M : Mem w [⟨g1, .cells (arr 20 bb) 28⟩, ⟨g2, .cells (arr 20 bb) 28⟩, ⟨g3, .cells (arr 20 (fun _ => 0)) 28⟩] w10 := M
  refine pl_val (want_no rfl) (some 5) rfl (.int .i64 2) (fun _ => by kernel_rfl) ?_
  refine pl_nil ?_
  refine au_then ?_
  refine wp_seq ?_
  refine rg_lit ?_
  refine pl_call M (want_no rfl) (some 18) rfl 23 #[] (.agg (arr 20 zz)) (fun _ => by kernel_rfl) F.h5 ?_
  intro w11 M
  refine pl_call M (want_no rfl) (some 19) rfl 10 #[.agg (arr 20 zz)] (.string zS) (fun _ => by kernel_rfl) F.h6 ?_
  intro w12 M
  refine pl_val (want_no rfl) (some 6) rfl (.string zS) (fun _ => by kernel_rfl) ?_
  refine pl_nil ?_
  refine au_then ?_
  refine wp_seq ?_
  refine rg_tail M 55 (by kernel_rfl) (by kernel_rfl) ?_
  simp only [List.take_succ_cons, List.take_zero]
  refine k_val (want_no rfl) (some 20) rfl (.int .i64 0) (fun _ => by kernel_rfl) ?_
  refine k_val (want_no rfl) (some 21) rfl (.bool true) (fun _ => by kernel_rfl) ?_
  refine k_val (want_no rfl) (some 22) rfl (.bool true) (fun _ => by kernel_rfl) ?_
  refine k_load M (want_on 2 true rfl 22 rfl (by kernel_rfl)) (some 23) rfl 28 _ rfl 1 g2 0 (by kernel_rfl) 20 28 bb rfl 20 bb (Part.all _ _) (by decide) _ Try.underlying28 rfl inz28 ?_
  refine k_load M (want_on 2 true rfl 22 rfl (by kernel_rfl)) (some 24) rfl 28 _ rfl 0 g1 0 (by kernel_rfl) 20 28 bb rfl 20 bb (Part.all _ _) (by decide) _ Try.underlying28 rfl inz28 ?_
  refine k_call (want_on 2 true rfl 22 rfl (by kernel_rfl)) (some 25) rfl 11 #[.agg (arr 20 bb), .agg (arr 20 bb)] (.bool true) (fun _ => by kernel_rfl) F.h7 ?_
  refine k_val (want_no rfl) (some 26) rfl (.bool true) (fun _ => by kernel_rfl) ?_
  refine k_val (want_no rfl) (some 27) rfl (.bool true) (fun _ => by kernel_rfl) ?_
  refine k_val (want_on 7 true rfl 27 rfl (by kernel_rfl)) (some 28) rfl (.int .i64 2) (fun _ => by kernel_rfl) ?_
  refine k_val (want_on 7 true rfl 27 rfl (by kernel_rfl)) (some 29) rfl (.bool true) (fun _ => by kernel_rfl) ?_
  refine k_val (want_no rfl) (some 30) rfl (.bool true) (fun _ => by kernel_rfl) ?_
  refine k_val (want_no rfl) (some 31) rfl (.bool true) (fun _ => by kernel_rfl) ?_
  refine k_load M (want_on 11 true rfl 31 rfl (by kernel_rfl)) (some 32) rfl 28 _ rfl 0 g1 0 (by kernel_rfl) 20 28 bb rfl 20 bb (Part.all _ _) (by decide) _ Try.underlying28 rfl inz28 ?_
  refine k_load M (want_on 11 true rfl 31 rfl (by kernel_rfl)) (some 33) rfl 28 _ rfl 0 g1 0 (by kernel_rfl) 20 28 bb rfl 20 bb (Part.all _ _) (by decide) _ Try.underlying28 rfl inz28 ?_
  refine k_call (want_on 11 true rfl 31 rfl (by kernel_rfl)) (some 34) rfl 18 #[.agg (arr 20 bb)] (.agg (arr 20 nb)) (fun _ => by kernel_rfl) F.h8 ?_
  refine k_call (want_on 11 true rfl 31 rfl (by kernel_rfl)) (some 35) rfl 16 #[.agg (arr 20 bb), .agg (arr 20 nb)] (.agg (arr 20 sb)) (fun _ => by kernel_rfl) F.h9 ?_
  refine k_call (want_on 11 true rfl 31 rfl (by kernel_rfl)) (some 36) rfl 23 #[] (.agg (arr 20 zz)) (fun _ => by kernel_rfl) F.h5 ?_
  refine k_call (want_on 11 true rfl 31 rfl (by kernel_rfl)) (some 37) rfl 11 #[.agg (arr 20 sb), .agg (arr 20 zz)] (.bool true) (fun _ => by kernel_rfl) F.h10 ?_
  refine k_val (want_no rfl) (some 38) rfl (.bool true) (fun _ => by kernel_rfl) ?_
  refine k_val (want_no rfl) (some 39) rfl (.bool true) (fun _ => by kernel_rfl) ?_
  refine k_val (want_on 19 true rfl 39 rfl (by kernel_rfl)) (some 40) rfl (.string zS) (fun _ => by kernel_rfl) ?_
  refine k_val (want_on 19 true rfl 39 rfl (by kernel_rfl)) (some 41) rfl (.int .i64 32) (fun _ => by kernel_rfl) ?_
  refine k_val (want_on 19 true rfl 39 rfl (by kernel_rfl)) (some 42) rfl (.bool true) (fun _ => by kernel_rfl) ?_
  refine k_val (want_no rfl) (some 43) rfl (.bool true) (fun _ => by kernel_rfl) ?_
  refine k_val (want_no rfl) (some 44) rfl (.bool true) (fun _ => by kernel_rfl) ?_
  refine k_val (want_on 24 true rfl 44 rfl (by kernel_rfl)) (some 45) rfl (.string zS) (fun _ => by kernel_rfl) ?_
  refine k_val (want_on 24 true rfl 44 rfl (by kernel_rfl)) (some 46) rfl (.int .u8 1) (fun _ => by kernel_rfl) ?_
  refine k_val (want_on 24 true rfl 44 rfl (by kernel_rfl)) (some 47) rfl (.bool true) (fun _ => by kernel_rfl) ?_
  refine k_val (want_no rfl) (some 48) rfl (.bool true) (fun _ => by kernel_rfl) ?_
  refine k_val (want_no rfl) (some 49) rfl (.bool true) (fun _ => by kernel_rfl) ?_
  refine k_load M (want_on 29 true rfl 49 rfl (by kernel_rfl)) (some 50) rfl 28 _ rfl 0 g1 0 (by kernel_rfl) 20 28 bb rfl 20 bb (Part.all _ _) (by decide) _ Try.underlying28 rfl inz28 ?_
  refine k_call (want_on 29 true rfl 49 rfl (by kernel_rfl)) (some 51) rfl 13 #[.agg (arr 20 bb)] (.bool false) (fun _ => by kernel_rfl) F.h11 ?_
  refine k_val (want_on 29 true rfl 49 rfl (by kernel_rfl)) (some 52) rfl (.bool true) (fun _ => by kernel_rfl) ?_
  refine k_val (want_no rfl) (some 53) rfl (.bool true) (fun _ => by kernel_rfl) ?_
  refine k_val (want_no rfl) (some 54) rfl (.bool true) (fun _ => by kernel_rfl) ?_
  refine k_call (want_on 34 true rfl 54 rfl (by kernel_rfl)) (some 55) rfl 23 #[] (.agg (arr 20 zz)) (fun _ => by kernel_rfl) F.h5 ?_
  refine k_call (want_on 34 true rfl 54 rfl (by kernel_rfl)) (some 56) rfl 13 #[.agg (arr 20 zz)] (.bool true) (fun _ => by kernel_rfl) F.h12 ?_
  refine k_val (want_no rfl) (some 57) rfl (.bool true) (fun _ => by kernel_rfl) ?_
  refine k_val (want_no rfl) (some 58) rfl (.bool true) (fun _ => by kernel_rfl) ?_
  refine k_val (want_on 38 true rfl 58 rfl (by kernel_rfl)) (some 59) rfl (.agg (arr 20 (fun _ => 0))) (fun _ => by kernel_rfl) ?_
  refine k_call (want_on 38 true rfl 58 rfl (by kernel_rfl)) (some 60) rfl 13 #[.agg (arr 20 (fun _ => 0))] (.bool false) (fun _ => by kernel_rfl) F.h13 ?_
  refine k_val (want_on 38 true rfl 58 rfl (by kernel_rfl)) (some 61) rfl (.bool true) (fun _ => by kernel_rfl) ?_
  refine k_val (want_no rfl) (some 62) rfl (.bool true) (fun _ => by kernel_rfl) ?_
  refine k_val (want_no rfl) (some 63) rfl (.bool true) (fun _ => by kernel_rfl) ?_
  refine k_val (want_on 43 true rfl 63 rfl (by kernel_rfl)) (some 64) rfl (.agg (arr 20 (fun _ => 0))) (fun _ => by kernel_rfl) ?_
  refine k_call (want_on 43 true rfl 63 rfl (by kernel_rfl)) (some 65) rfl 10 #[.agg (arr 20 (fun _ => 0))] (.string ⟨#[]⟩) (fun _ => by kernel_rfl) F.h14 ?_
  refine k_val (want_on 43 true rfl 63 rfl (by kernel_rfl)) (some 66) rfl (.bool true) (fun _ => by kernel_rfl) ?_
  refine k_val (want_no rfl) (some 67) rfl (.bool true) (fun _ => by kernel_rfl) ?_
  refine k_val (want_no rfl) (some 68) rfl (.bool true) (fun _ => by kernel_rfl) ?_
  refine k_load M (want_on 48 true rfl 68 rfl (by kernel_rfl)) (some 69) rfl 28 _ rfl 0 g1 0 (by kernel_rfl) 20 28 bb rfl 20 bb (Part.all _ _) (by decide) _ Try.underlying28 rfl inz28 ?_
  refine k_call (want_on 48 true rfl 68 rfl (by kernel_rfl)) (some 70) rfl 10 #[.agg (arr 20 bb)] (.string baseS) (fun _ => by kernel_rfl) F.h2 ?_
  refine k_call (want_on 48 true rfl 68 rfl (by kernel_rfl)) (some 71) rfl 24 #[] (.agg (arr 64 rb)) (fun _ => by kernel_rfl) F.h15 ?_
  refine k_call (want_on 48 true rfl 68 rfl (by kernel_rfl)) (some 72) rfl 25 #[.agg (arr 64 rb)] (.string baseS) (fun _ => by kernel_rfl) F.h16 ?_
  refine k_val (want_on 48 true rfl 68 rfl (by kernel_rfl)) (some 73) rfl (.bool true) (fun _ => by kernel_rfl) ?_
  refine k_val (want_no rfl) (some 74) rfl (.bool true) (fun _ => by kernel_rfl) ?_
  refine kl_nil ?_
  intro w13 M
  replace M : Mem w [⟨g1, .cells (arr 20 bb) 28⟩, ⟨g2, .cells (arr 20 bb) 28⟩, ⟨g3, .cells (arr 20 (fun _ => 0)) 28⟩] w13 := M
  refine pl_val (want_no rfl) (some 0) rfl (.bool true) (fun _ => by kernel_rfl) ?_
  refine pl_nil ?_
  refine au_then ?_
  refine wp_ret ?_
  exact bodyPost_ret (v := .bool true) (results_tmp1 Try.results6 _ _ _ (by kernel_rfl)) (by kernel_rfl) ⟨rfl, M.old⟩

structure reads1F (s : ByteArray)  : Prop where
  h1 : ∀ w, Calls Try.prog 6 #[] w fun r w' => r = .returned (.bool true) ∧ Below w.heap.size w w'

set_option maxRecDepth 100000 in
set_option maxHeartbeats 4000000 in
theorem reads1_gen (s : ByteArray)  (w : World) (F : reads1F s ) (hs : 4096 < (s.size : Int)) :
    Calls Try.prog 3 #[.string s] w fun r w' => r = .returned (.bool true) ∧ Below w.heap.size w w' := by
  go_enter Try.func3, Try.ntmps3
  have M := Mem.start w
  refine wp_seq ?_
  refine rg_lit ?_
  refine pl_val (want_no rfl) (some 2) rfl (.bool false) (fun _ => by kernel_rfl) ?_
  refine pl_nil ?_
  refine au_then ?_
  refine wp_seq ?_
  refine wp_seq ?_
  refine rg_lit ?_
  refine pl_val (want_no rfl) (some 7) rfl (.string s) (fun _ => by kernel_rfl) ?_
  refine pl_val (want_no rfl) (some 8) rfl (.int .i64 (s.size : Int)) (fun _ => by kernel_rfl) ?_
  refine pl_val (want_no rfl) (some 9) rfl (.bool true) (fun w => Eq.trans (b := .ok (.value (.bool (decide (4096 < (s.size : Int))))) w) (by kernel_rfl) (by rw [decide_eq_true hs])) ?_
  refine pl_nil ?_
  refine au_then ?_
  refine wp_cond_true (by kernel_rfl) ?_
  refine wp_seq ?_
  refine rg_lit ?_
  refine pl_call M (want_no rfl) (some 10) rfl 6 #[] (.bool true) (fun _ => by kernel_rfl) F.h1 ?_
  intro w1 M
  refine pl_val (want_no rfl) (some 2) rfl (.bool true) (fun _ => by kernel_rfl) ?_
  refine pl_nil ?_
  refine au_then ?_
  refine wp_ret ?_
  refine au_then_ret ?_
  exact bodyPost_ret (v := .bool true) (results_tmp1 Try.results3 _ _ _ (by kernel_rfl)) (by kernel_rfl) ⟨rfl, M.old⟩

structure reads2F (s : ByteArray) (c : Int) (q : Nat → Int) : Prop where
  h1 : ∀ w, Calls Try.prog 7 #[.string s] w fun r w' => r = .returned (.tuple #[.agg (arr 20 (fun _ => 0)), .int .i64 c]) ∧ Below w.heap.size w w'
  h2 : ∀ w, Calls Try.prog 8 #[.string s] w fun r w' => r = .returned (.tuple #[.agg (arr 64 q), .int .i64 c]) ∧ Below w.heap.size w w'
  h3 : ∀ w, Calls Try.prog 9 #[] w fun r w' => r = .returned (.bool true) ∧ Below w.heap.size w w'
  h4 : ∀ w, Calls Try.prog 10 #[.agg (arr 20 (fun _ => 0))] w fun r w' => r = .returned (.string ⟨#[]⟩) ∧ Below w.heap.size w w'
  h5 : ∀ w, Calls Try.prog 11 #[.agg (arr 20 (fun _ => 0)), .agg (arr 20 (fun _ => 0))] w fun r w' => r = .returned (.bool false) ∧ Below w.heap.size w w'
  h6 : ∀ w, Calls Try.prog 6 #[] w fun r w' => r = .returned (.bool true) ∧ Below w.heap.size w w'

set_option maxRecDepth 100000 in
set_option maxHeartbeats 4000000 in
theorem reads2_gen (s : ByteArray) (c : Int) (q : Nat → Int) (w : World) (F : reads2F s c q) (hs : ¬ 4096 < (s.size : Int)) (hc : ¬ c = 0) :
    Calls Try.prog 3 #[.string s] w fun r w' => r = .returned (.bool true) ∧ Below w.heap.size w w' := by
  go_enter Try.func3, Try.ntmps3
  have M := Mem.start w
  refine wp_seq ?_
  refine rg_lit ?_
  refine pl_val (want_no rfl) (some 2) rfl (.bool false) (fun _ => by kernel_rfl) ?_
  refine pl_nil ?_
  refine au_then ?_
  refine wp_seq ?_
  refine wp_seq ?_
  refine rg_lit ?_
  refine pl_val (want_no rfl) (some 7) rfl (.string s) (fun _ => by kernel_rfl) ?_
  refine pl_val (want_no rfl) (some 8) rfl (.int .i64 (s.size : Int)) (fun _ => by kernel_rfl) ?_
  refine pl_val (want_no rfl) (some 9) rfl (.bool false) (fun w => Eq.trans (b := .ok (.value (.bool (decide (4096 < (s.size : Int))))) w) (by kernel_rfl) (by rw [decide_eq_false hs])) ?_
  refine pl_nil ?_
  refine au_then ?_
  refine wp_cond_false (by kernel_rfl) ?_
  refine wp_skip ?_
  refine au_then ?_
  refine wp_seq ?_
  refine rg_lit ?_
  refine pl_val (want_no rfl) (some 12) rfl (.string s) (fun _ => by kernel_rfl) ?_
  refine pl_call M (want_no rfl) (some 13) rfl 7 #[.string s] (.tuple #[.agg (arr 20 (fun _ => 0)), .int .i64 c]) (fun _ => by kernel_rfl) F.h1 ?_
  intro w1 M
  refine pl_val (want_no rfl) (some 11) rfl (.tuple #[.agg (arr 20 (fun _ => 0)), .int .i64 c]) (fun _ => by kernel_rfl) ?_
  refine pl_val (want_no rfl) (some 14) rfl (.agg (arr 20 (fun _ => 0))) (fun _ => by kernel_rfl) ?_
  refine pl_val (want_no rfl) (some 15) rfl (.int .i64 c) (fun _ => by kernel_rfl) ?_
  refine pl_new M (want_no rfl) (some 3) rfl (.cells (arr 20 (fun _ => 0)) 28) (fun _ => by kernel_rfl) ?_
  intro g1 w2 M
  replace M : Mem w [⟨g1, .cells (arr 20 (fun _ => 0)) 28⟩] w2 := M
  refine pl_put M (want_no rfl) rfl 28 _ _ rfl 0 g1 (by kernel_rfl) 20 28 (fun _ => 0) (fun _ => 0) rfl (by kernel_rfl) inz28 ?_
  intro w3 M
  replace M : Mem w [⟨g1, .cells (arr 20 (fun _ => 0)) 28⟩] w3 := M
  refine pl_val (want_no rfl) (some 4) rfl (.int .i64 c) (fun _ => by kernel_rfl) ?_
  refine pl_nil ?_
  refine au_then ?_
  refine wp_seq ?_
  refine rg_lit ?_
  refine pl_val (want_no rfl) (some 17) rfl (.string s) (fun _ => by kernel_rfl) ?_
  refine pl_call M (want_no rfl) (some 18) rfl 8 #[.string s] (.tuple #[.agg (arr 64 q), .int .i64 c]) (fun _ => by kernel_rfl) F.h2 ?_
  intro w4 M
  refine pl_val (want_no rfl) (some 16) rfl (.tuple #[.agg (arr 64 q), .int .i64 c]) (fun _ => by kernel_rfl) ?_
  refine pl_val (want_no rfl) (some 19) rfl (.agg (arr 64 q)) (fun _ => by kernel_rfl) ?_
  refine pl_val (want_no rfl) (some 20) rfl (.int .i64 c) (fun _ => by kernel_rfl) ?_
  refine pl_new M (want_no rfl) (some 5) rfl (.cells (arr 64 (fun _ => 0)) 35) (fun _ => by kernel_rfl) ?_
  intro g2 w5 M
  replace M : Mem w [⟨g1, .cells (arr 20 (fun _ => 0)) 28⟩, ⟨g2, .cells (arr 64 (fun _ => 0)) 35⟩] w5 := M
  refine pl_put M (want_no rfl) rfl 35 _ _ rfl 1 g2 (by kernel_rfl) 64 35 (fun _ => 0) q rfl (by kernel_rfl) inz35 ?_
  intro w6 M
  replace M : Mem w [⟨g1, .cells (arr 20 (fun _ => 0)) 28⟩, ⟨g2, .cells (arr 64 q) 35⟩] w6 := M
  refine pl_val (want_no rfl) (some 6) rfl (.int .i64 c) (fun _ => by kernel_rfl) ?_
  refine pl_nil ?_
  refine au_then ?_
  refine wp_seq ?_
  refine wp_seq ?_
  refine rg_lit ?_
  refine pl_val (want_no rfl) (some 21) rfl (.int .i64 c) (fun _ => by kernel_rfl) ?_
  refine pl_val (want_no rfl) (some 22) rfl (.int .i64 c) (fun _ => by kernel_rfl) ?_
  refine pl_val (want_no rfl) (some 23) rfl (.bool false) (fun w => Eq.trans (b := .ok (.value (.bool (!(decide (c = c))))) w) (by kernel_rfl) (by simp)) ?_
  refine pl_val (want_no rfl) (some 24) rfl (.bool false) (fun _ => by kernel_rfl) ?_
  refine pl_call M (want_on 3 false rfl 24 rfl (by kernel_rfl)) (some 25) rfl 9 #[] (.bool true) (fun _ => by kernel_rfl) F.h3 ?_
  intro w7 M
  refine pl_val (want_on 3 false rfl 24 rfl (by kernel_rfl)) (some 26) rfl (.bool false) (fun _ => by kernel_rfl) ?_
  refine pl_val (want_no rfl) (some 27) rfl (.bool false) (fun _ => by kernel_rfl) ?_
  refine pl_nil ?_
  refine au_then ?_
  refine wp_cond_false (by kernel_rfl) ?_
  refine wp_skip ?_
  refine au_then ?_
  refine wp_seq ?_
  refine wp_seq ?_
  refine rg_lit ?_
  refine pl_val (want_no rfl) (some 28) rfl (.int .i64 c) (fun _ => by kernel_rfl) ?_
  refine pl_val (want_no rfl) (some 29) rfl (.bool true) (fun w => Eq.trans (b := .ok (.value (.bool (!(decide (c = 0))))) w) (by kernel_rfl) (by simp [hc])) ?_
  refine pl_nil ?_
  refine au_then ?_
  refine wp_cond_true (by kernel_rfl) ?_
  refine wp_seq ?_
  refine rg_lit ?_
  refine pl_load M (want_no rfl) (some 30) rfl 28 _ rfl 0 g1 0 (by kernel_rfl) 20 28 (fun _ => 0) rfl 20 (fun _ => 0) (Part.all _ _) (by decide) _ Try.underlying28 rfl inz28 ?_
  refine pl_call M (want_no rfl) (some 31) rfl 10 #[.agg (arr 20 (fun _ => 0))] (.string ⟨#[]⟩) (fun _ => by kernel_rfl) F.h4 ?_
  intro w8 M
  refine pl_val (want_no rfl) (some 32) rfl (.bool true) (fun _ => by kernel_rfl) ?_
  refine pl_val (want_no rfl) (some 33) rfl (.bool true) (fun _ => by kernel_rfl) ?_
  refine pl_load M (want_on 3 true rfl 33 rfl (by kernel_rfl)) (some 34) rfl 28 _ rfl 0 g1 0 (by kernel_rfl) 20 28 (fun _ => 0) rfl 20 (fun _ => 0) (Part.all _ _) (by decide) _ Try.underlying28 rfl inz28 ?_
  refine pl_load M (want_on 3 true rfl 33 rfl (by kernel_rfl)) (some 35) rfl 28 _ rfl 0 g1 0 (by kernel_rfl) 20 28 (fun _ => 0) rfl 20 (fun _ => 0) (Part.all _ _) (by decide) _ Try.underlying28 rfl inz28 ?_
  refine pl_call M (want_on 3 true rfl 33 rfl (by kernel_rfl)) (some 36) rfl 11 #[.agg (arr 20 (fun _ => 0)), .agg (arr 20 (fun _ => 0))] (.bool false) (fun _ => by kernel_rfl) F.h5 ?_
  intro w9 M
  refine pl_val (want_on 3 true rfl 33 rfl (by kernel_rfl)) (some 37) rfl (.bool true) (fun _ => by kernel_rfl) ?_
  refine pl_val (want_no rfl) (some 38) rfl (.bool true) (fun _ => by kernel_rfl) ?_
  refine pl_val (want_no rfl) (some 39) rfl (.bool true) (fun _ => by kernel_rfl) ?_
  refine pl_call M (want_on 9 true rfl 39 rfl (by kernel_rfl)) (some 40) rfl 6 #[] (.bool true) (fun _ => by kernel_rfl) F.h6 ?_
  intro w10 M
  refine pl_val (want_no rfl) (some 41) rfl (.bool true) (fun _ => by kernel_rfl) ?_
  refine pl_val (want_no rfl) (some 2) rfl (.bool true) (fun _ => by kernel_rfl) ?_
  refine pl_nil ?_
  refine au_then ?_
  refine wp_ret ?_
  refine au_then_ret ?_
  exact bodyPost_ret (v := .bool true) (results_tmp1 Try.results3 _ _ _ (by kernel_rfl)) (by kernel_rfl) ⟨rfl, M.old⟩

structure reads3F (s : ByteArray) (sm : Bool) (p q : Nat → Int) : Prop where
  h1 : ∀ w, Calls Try.prog 7 #[.string s] w fun r w' => r = .returned (.tuple #[.agg (arr 20 p), .int .i64 0]) ∧ Below w.heap.size w w'
  h2 : ∀ w, Calls Try.prog 8 #[.string s] w fun r w' => r = .returned (.tuple #[.agg (arr 64 q), .int .i64 0]) ∧ Below w.heap.size w w'
  h3 : ∀ w, Calls Try.prog 9 #[] w fun r w' => r = .returned (.bool true) ∧ Below w.heap.size w w'
  h4 : ∀ w, Calls Try.prog 10 #[.agg (arr 20 p)] w fun r w' => r = .returned (.string s) ∧ Below w.heap.size w w'
  h5 : ∀ w, Calls Try.prog 12 #[.agg (arr 20 p), .agg (arr 64 q)] w fun r w' => r = .returned (.bool true) ∧ Below w.heap.size w w'
  h6 : ∀ w, Calls Try.prog 13 #[.agg (arr 20 p)] w fun r w' => r = .returned (.bool sm) ∧ Below w.heap.size w w'
  h7 : ∀ w, Calls Try.prog 14 #[.agg (arr 64 q)] w fun r w' => r = .returned (.bool sm) ∧ Below w.heap.size w w'
  h8 : ∀ w, Calls Try.prog 15 #[.agg (arr 64 q)] w fun r w' => r = .returned (.bool true) ∧ Below w.heap.size w w'
  h9 : ∀ w, Calls Try.prog 6 #[] w fun r w' => r = .returned (.bool true) ∧ Below w.heap.size w w'

set_option maxRecDepth 100000 in
set_option maxHeartbeats 4000000 in
theorem reads3_gen (s : ByteArray) (sm : Bool) (p q : Nat → Int) (w : World) (F : reads3F s sm p q) (hs : ¬ 4096 < (s.size : Int)) :
    Calls Try.prog 3 #[.string s] w fun r w' => r = .returned (.bool true) ∧ Below w.heap.size w w' := by
  go_enter Try.func3, Try.ntmps3
  have M := Mem.start w
  refine wp_seq ?_
  refine rg_lit ?_
  refine pl_val (want_no rfl) (some 2) rfl (.bool false) (fun _ => by kernel_rfl) ?_
  refine pl_nil ?_
  refine au_then ?_
  refine wp_seq ?_
  refine wp_seq ?_
  refine rg_lit ?_
  refine pl_val (want_no rfl) (some 7) rfl (.string s) (fun _ => by kernel_rfl) ?_
  refine pl_val (want_no rfl) (some 8) rfl (.int .i64 (s.size : Int)) (fun _ => by kernel_rfl) ?_
  refine pl_val (want_no rfl) (some 9) rfl (.bool false) (fun w => Eq.trans (b := .ok (.value (.bool (decide (4096 < (s.size : Int))))) w) (by kernel_rfl) (by rw [decide_eq_false hs])) ?_
  refine pl_nil ?_
  refine au_then ?_
  refine wp_cond_false (by kernel_rfl) ?_
  refine wp_skip ?_
  refine au_then ?_
  refine wp_seq ?_
  refine rg_lit ?_
  refine pl_val (want_no rfl) (some 12) rfl (.string s) (fun _ => by kernel_rfl) ?_
  refine pl_call M (want_no rfl) (some 13) rfl 7 #[.string s] (.tuple #[.agg (arr 20 p), .int .i64 0]) (fun _ => by kernel_rfl) F.h1 ?_
  intro w1 M
  refine pl_val (want_no rfl) (some 11) rfl (.tuple #[.agg (arr 20 p), .int .i64 0]) (fun _ => by kernel_rfl) ?_
  refine pl_val (want_no rfl) (some 14) rfl (.agg (arr 20 p)) (fun _ => by kernel_rfl) ?_
  refine pl_val (want_no rfl) (some 15) rfl (.int .i64 0) (fun _ => by kernel_rfl) ?_
  refine pl_new M (want_no rfl) (some 3) rfl (.cells (arr 20 (fun _ => 0)) 28) (fun _ => by kernel_rfl) ?_
  intro g1 w2 M
  replace M : Mem w [⟨g1, .cells (arr 20 (fun _ => 0)) 28⟩] w2 := M
  refine pl_put M (want_no rfl) rfl 28 _ _ rfl 0 g1 (by kernel_rfl) 20 28 (fun _ => 0) p rfl (by kernel_rfl) inz28 ?_
  intro w3 M
  replace M : Mem w [⟨g1, .cells (arr 20 p) 28⟩] w3 := M
  refine pl_val (want_no rfl) (some 4) rfl (.int .i64 0) (fun _ => by kernel_rfl) ?_
  refine pl_nil ?_
  refine au_then ?_
  refine wp_seq ?_
  refine rg_lit ?_
  refine pl_val (want_no rfl) (some 17) rfl (.string s) (fun _ => by kernel_rfl) ?_
  refine pl_call M (want_no rfl) (some 18) rfl 8 #[.string s] (.tuple #[.agg (arr 64 q), .int .i64 0]) (fun _ => by kernel_rfl) F.h2 ?_
  intro w4 M
  refine pl_val (want_no rfl) (some 16) rfl (.tuple #[.agg (arr 64 q), .int .i64 0]) (fun _ => by kernel_rfl) ?_
  refine pl_val (want_no rfl) (some 19) rfl (.agg (arr 64 q)) (fun _ => by kernel_rfl) ?_
  refine pl_val (want_no rfl) (some 20) rfl (.int .i64 0) (fun _ => by kernel_rfl) ?_
  refine pl_new M (want_no rfl) (some 5) rfl (.cells (arr 64 (fun _ => 0)) 35) (fun _ => by kernel_rfl) ?_
  intro g2 w5 M
  replace M : Mem w [⟨g1, .cells (arr 20 p) 28⟩, ⟨g2, .cells (arr 64 (fun _ => 0)) 35⟩] w5 := M
  refine pl_put M (want_no rfl) rfl 35 _ _ rfl 1 g2 (by kernel_rfl) 64 35 (fun _ => 0) q rfl (by kernel_rfl) inz35 ?_
  intro w6 M
  replace M : Mem w [⟨g1, .cells (arr 20 p) 28⟩, ⟨g2, .cells (arr 64 q) 35⟩] w6 := M
  refine pl_val (want_no rfl) (some 6) rfl (.int .i64 0) (fun _ => by kernel_rfl) ?_
  refine pl_nil ?_
  refine au_then ?_
  refine wp_seq ?_
  refine wp_seq ?_
  refine rg_lit ?_
  refine pl_val (want_no rfl) (some 21) rfl (.int .i64 0) (fun _ => by kernel_rfl) ?_
  refine pl_val (want_no rfl) (some 22) rfl (.int .i64 0) (fun _ => by kernel_rfl) ?_
  refine pl_val (want_no rfl) (some 23) rfl (.bool false) (fun _ => by kernel_rfl) ?_
  refine pl_val (want_no rfl) (some 24) rfl (.bool false) (fun _ => by kernel_rfl) ?_
  refine pl_call M (want_on 3 false rfl 24 rfl (by kernel_rfl)) (some 25) rfl 9 #[] (.bool true) (fun _ => by kernel_rfl) F.h3 ?_
  intro w7 M
  refine pl_val (want_on 3 false rfl 24 rfl (by kernel_rfl)) (some 26) rfl (.bool false) (fun _ => by kernel_rfl) ?_
  refine pl_val (want_no rfl) (some 27) rfl (.bool false) (fun _ => by kernel_rfl) ?_
  refine pl_nil ?_
  refine au_then ?_
  refine wp_cond_false (by kernel_rfl) ?_
  refine wp_skip ?_
  refine au_then ?_
  refine wp_seq ?_
  refine wp_seq ?_
  refine rg_lit ?_
  refine pl_val (want_no rfl) (some 28) rfl (.int .i64 0) (fun _ => by kernel_rfl) ?_
  refine pl_val (want_no rfl) (some 29) rfl (.bool false) (fun _ => by kernel_rfl) ?_
  refine pl_nil ?_
  refine au_then ?_
  refine wp_cond_false (by kernel_rfl) ?_
  refine wp_skip ?_
  refine au_then ?_
  refine wp_seq ?_
  refine rg_tail M 23 (by kernel_rfl) (by kernel_rfl) ?_
  simp only [List.take_succ_cons, List.take_zero]
  refine k_load M (want_no rfl) (some 42) rfl 28 _ rfl 0 g1 0 (by kernel_rfl) 20 28 p rfl 20 p (Part.all _ _) (by decide) _ Try.underlying28 rfl inz28 ?_
  refine k_call (want_no rfl) (some 43) rfl 10 #[.agg (arr 20 p)] (.string s) (fun _ => by kernel_rfl) F.h4 ?_
  refine k_val (want_no rfl) (some 44) rfl (.string s) (fun _ => by kernel_rfl) ?_
  refine k_val (want_no rfl) (some 45) rfl (.bool true) (fun w => Eq.trans (b := .ok (.value (.bool (s.toList == s.toList))) w) (by kernel_rfl) (by simp)) ?_
  refine k_val (want_no rfl) (some 46) rfl (.bool true) (fun _ => by kernel_rfl) ?_
  refine k_load M (want_on 4 true rfl 46 rfl (by kernel_rfl)) (some 47) rfl 28 _ rfl 0 g1 0 (by kernel_rfl) 20 28 p rfl 20 p (Part.all _ _) (by decide) _ Try.underlying28 rfl inz28 ?_
  refine k_load M (want_on 4 true rfl 46 rfl (by kernel_rfl)) (some 48) rfl 35 _ rfl 1 g2 0 (by kernel_rfl) 64 35 q rfl 64 q (Part.all _ _) (by decide) _ Try.underlying35 rfl inz35 ?_
  refine k_call (want_on 4 true rfl 46 rfl (by kernel_rfl)) (some 49) rfl 12 #[.agg (arr 20 p), .agg (arr 64 q)] (.bool true) (fun _ => by kernel_rfl) F.h5 ?_
  refine k_val (want_no rfl) (some 50) rfl (.bool true) (fun _ => by kernel_rfl) ?_
  refine k_val (want_no rfl) (some 51) rfl (.bool true) (fun _ => by kernel_rfl) ?_
  refine k_load M (want_on 9 true rfl 51 rfl (by kernel_rfl)) (some 52) rfl 28 _ rfl 0 g1 0 (by kernel_rfl) 20 28 p rfl 20 p (Part.all _ _) (by decide) _ Try.underlying28 rfl inz28 ?_
  refine k_call (want_on 9 true rfl 51 rfl (by kernel_rfl)) (some 53) rfl 13 #[.agg (arr 20 p)] (.bool sm) (fun _ => by kernel_rfl) F.h6 ?_
  refine k_load M (want_on 9 true rfl 51 rfl (by kernel_rfl)) (some 54) rfl 35 _ rfl 1 g2 0 (by kernel_rfl) 64 35 q rfl 64 q (Part.all _ _) (by decide) _ Try.underlying35 rfl inz35 ?_
  refine k_call (want_on 9 true rfl 51 rfl (by kernel_rfl)) (some 55) rfl 14 #[.agg (arr 64 q)] (.bool sm) (fun _ => by kernel_rfl) F.h7 ?_
  refine k_val (want_on 9 true rfl 51 rfl (by kernel_rfl)) (some 56) rfl (.bool true) (fun w => by cases sm <;> kernel_rfl) ?_
  refine k_val (want_no rfl) (some 57) rfl (.bool true) (fun _ => by kernel_rfl) ?_
  refine k_val (want_no rfl) (some 58) rfl (.bool true) (fun _ => by kernel_rfl) ?_
  refine k_load M (want_on 16 true rfl 58 rfl (by kernel_rfl)) (some 59) rfl 35 _ rfl 1 g2 0 (by kernel_rfl) 64 35 q rfl 64 q (Part.all _ _) (by decide) _ Try.underlying35 rfl inz35 ?_
  refine k_call (want_on 16 true rfl 58 rfl (by kernel_rfl)) (some 60) rfl 15 #[.agg (arr 64 q)] (.bool true) (fun _ => by kernel_rfl) F.h8 ?_
  refine k_val (want_no rfl) (some 61) rfl (.bool true) (fun _ => by kernel_rfl) ?_
  refine k_val (want_no rfl) (some 62) rfl (.bool true) (fun _ => by kernel_rfl) ?_
  refine k_call (want_on 20 true rfl 62 rfl (by kernel_rfl)) (some 63) rfl 6 #[] (.bool true) (fun _ => by kernel_rfl) F.h9 ?_
  refine k_val (want_no rfl) (some 64) rfl (.bool true) (fun _ => by kernel_rfl) ?_
  refine kl_nil ?_
  intro w8 M
  replace M : Mem w [⟨g1, .cells (arr 20 p) 28⟩, ⟨g2, .cells (arr 64 q) 35⟩] w8 := M
  refine pl_val (want_no rfl) (some 2) rfl (.bool true) (fun _ => by kernel_rfl) ?_
  refine pl_nil ?_
  refine au_then ?_
  refine wp_ret ?_
  exact bodyPost_ret (v := .bool true) (results_tmp1 Try.results3 _ _ _ (by kernel_rfl)) (by kernel_rfl) ⟨rfl, M.old⟩

structure none1F (s : ByteArray) (c : Int) (k : Nat → Int) : Prop where
  h1 : ∀ w, Calls Try.prog 20 #[.string s] w fun r w' => r = .returned (.tuple #[.agg (arr 4 k), .int .i64 c]) ∧ Below w.heap.size w w'
  h2 : ∀ w, Calls Try.prog 6 #[] w fun r w' => r = .returned (.bool true) ∧ Below w.heap.size w w'

set_option maxRecDepth 100000 in
set_option maxHeartbeats 4000000 in
theorem none1_gen (s : ByteArray) (c : Int) (k : Nat → Int) (w : World) (F : none1F s c k) (hc : ¬ c = 0) :
    Calls Try.prog 5 #[.string s] w fun r w' => r = .returned (.bool true) ∧ Below w.heap.size w w' := by
  go_enter Try.func5, Try.ntmps5
  have M := Mem.start w
  refine wp_seq ?_
  refine rg_lit ?_
  refine pl_val (want_no rfl) (some 2) rfl (.bool false) (fun _ => by kernel_rfl) ?_
  refine pl_nil ?_
  refine au_then ?_
  refine wp_seq ?_
  refine rg_lit ?_
  refine pl_val (want_no rfl) (some 8) rfl (.string s) (fun _ => by kernel_rfl) ?_
  refine pl_call M (want_no rfl) (some 9) rfl 20 #[.string s] (.tuple #[.agg (arr 4 k), .int .i64 c]) (fun _ => by kernel_rfl) F.h1 ?_
  intro w1 M
  refine pl_val (want_no rfl) (some 7) rfl (.tuple #[.agg (arr 4 k), .int .i64 c]) (fun _ => by kernel_rfl) ?_
  refine pl_val (want_no rfl) (some 10) rfl (.agg (arr 4 k)) (fun _ => by kernel_rfl) ?_
  refine pl_val (want_no rfl) (some 11) rfl (.int .i64 c) (fun _ => by kernel_rfl) ?_
  refine pl_new M (want_no rfl) (some 3) rfl (.cells (arr 4 (fun _ => 0)) 51) (fun _ => by kernel_rfl) ?_
  intro g1 w2 M
  replace M : Mem w [⟨g1, .cells (arr 4 (fun _ => 0)) 51⟩] w2 := M
  refine pl_put M (want_no rfl) rfl 51 _ _ rfl 0 g1 (by kernel_rfl) 4 51 (fun _ => 0) k rfl (by kernel_rfl) inz51 ?_
  intro w3 M
  replace M : Mem w [⟨g1, .cells (arr 4 k) 51⟩] w3 := M
  refine pl_val (want_no rfl) (some 4) rfl (.int .i64 c) (fun _ => by kernel_rfl) ?_
  refine pl_nil ?_
  refine au_then ?_
  refine wp_seq ?_
  refine wp_seq ?_
  refine rg_lit ?_
  refine pl_val (want_no rfl) (some 12) rfl (.int .i64 c) (fun _ => by kernel_rfl) ?_
  refine pl_val (want_no rfl) (some 13) rfl (.bool true) (fun w => Eq.trans (b := .ok (.value (.bool (!(decide (c = 0))))) w) (by kernel_rfl) (by simp [hc])) ?_
  refine pl_nil ?_
  refine au_then ?_
  refine wp_cond_true (by kernel_rfl) ?_
  refine wp_seq ?_
  refine rg_lit ?_
  refine pl_call M (want_no rfl) (some 14) rfl 6 #[] (.bool true) (fun _ => by kernel_rfl) F.h2 ?_
  intro w4 M
  refine pl_val (want_no rfl) (some 2) rfl (.bool true) (fun _ => by kernel_rfl) ?_
  refine pl_nil ?_
  refine au_then ?_
  refine wp_ret ?_
  refine au_then_ret ?_
  exact bodyPost_ret (v := .bool true) (results_tmp1 Try.results5 _ _ _ (by kernel_rfl)) (by kernel_rfl) ⟨rfl, M.old⟩

structure none2F (s : ByteArray) (k bb : Nat → Int) : Prop where
  h1 : ∀ w, Calls Try.prog 20 #[.string s] w fun r w' => r = .returned (.tuple #[.agg (arr 4 k), .int .i64 0]) ∧ Below w.heap.size w w'
  h2 : ∀ w, Calls Try.prog 21 #[] w fun r w' => r = .returned (.agg (arr 20 bb)) ∧ Below w.heap.size w w'
  h3 : ∀ w, Calls Try.prog 10 #[.agg (arr 20 (fun _ => 0))] w fun r w' => r = .returned (.string ⟨#[]⟩) ∧ Below w.heap.size w w'
  h4 : ∀ w, Calls Try.prog 16 #[.agg (arr 20 bb), .agg (arr 20 (fun _ => 0))] w fun r w' => r = .returned (.agg (arr 20 (fun _ => 0))) ∧ Below w.heap.size w w'
  h5 : ∀ w, Calls Try.prog 16 #[.agg (arr 20 (fun _ => 0)), .agg (arr 20 bb)] w fun r w' => r = .returned (.agg (arr 20 (fun _ => 0))) ∧ Below w.heap.size w w'
  h6 : ∀ w, Calls Try.prog 18 #[.agg (arr 20 (fun _ => 0))] w fun r w' => r = .returned (.agg (arr 20 (fun _ => 0))) ∧ Below w.heap.size w w'
  h7 : ∀ w, Calls Try.prog 22 #[.agg (arr 20 (fun _ => 0)), .agg (arr 4 k)] w fun r w' => r = .returned (.agg (arr 20 (fun _ => 0))) ∧ Below w.heap.size w w'
  h8 : ∀ w, Calls Try.prog 11 #[.agg (arr 20 (fun _ => 0)), .agg (arr 20 (fun _ => 0))] w fun r w' => r = .returned (.bool false) ∧ Below w.heap.size w w'
  h9 : ∀ w, Calls Try.prog 11 #[.agg (arr 20 bb), .agg (arr 20 (fun _ => 0))] w fun r w' => r = .returned (.bool false) ∧ Below w.heap.size w w'
  h10 : ∀ w, Calls Try.prog 11 #[.agg (arr 20 (fun _ => 0)), .agg (arr 20 bb)] w fun r w' => r = .returned (.bool false) ∧ Below w.heap.size w w'
  h11 : ∀ w, Calls Try.prog 6 #[] w fun r w' => r = .returned (.bool true) ∧ Below w.heap.size w w'

set_option maxRecDepth 100000 in
set_option maxHeartbeats 4000000 in
theorem none2_gen (s : ByteArray) (k bb : Nat → Int) (w : World) (F : none2F s k bb)  :
    Calls Try.prog 5 #[.string s] w fun r w' => r = .returned (.bool true) ∧ Below w.heap.size w w' := by
  go_enter Try.func5, Try.ntmps5
  have M := Mem.start w
  refine wp_seq ?_
  refine rg_lit ?_
  refine pl_val (want_no rfl) (some 2) rfl (.bool false) (fun _ => by kernel_rfl) ?_
  refine pl_nil ?_
  refine au_then ?_
  refine wp_seq ?_
  refine rg_lit ?_
  refine pl_val (want_no rfl) (some 8) rfl (.string s) (fun _ => by kernel_rfl) ?_
  refine pl_call M (want_no rfl) (some 9) rfl 20 #[.string s] (.tuple #[.agg (arr 4 k), .int .i64 0]) (fun _ => by kernel_rfl) F.h1 ?_
  intro w1 M
  refine pl_val (want_no rfl) (some 7) rfl (.tuple #[.agg (arr 4 k), .int .i64 0]) (fun _ => by kernel_rfl) ?_
  refine pl_val (want_no rfl) (some 10) rfl (.agg (arr 4 k)) (fun _ => by kernel_rfl) ?_
  refine pl_val (want_no rfl) (some 11) rfl (.int .i64 0) (fun _ => by kernel_rfl) ?_
  refine pl_new M (want_no rfl) (some 3) rfl (.cells (arr 4 (fun _ => 0)) 51) (fun _ => by kernel_rfl) ?_
  intro g1 w2 M
  replace M : Mem w [⟨g1, .cells (arr 4 (fun _ => 0)) 51⟩] w2 := M
  refine pl_put M (want_no rfl) rfl 51 _ _ rfl 0 g1 (by kernel_rfl) 4 51 (fun _ => 0) k rfl (by kernel_rfl) inz51 ?_
  intro w3 M
  replace M : Mem w [⟨g1, .cells (arr 4 k) 51⟩] w3 := M
  refine pl_val (want_no rfl) (some 4) rfl (.int .i64 0) (fun _ => by kernel_rfl) ?_
  refine pl_nil ?_
  refine au_then ?_
  refine wp_seq ?_
  refine wp_seq ?_
  refine rg_lit ?_
  refine pl_val (want_no rfl) (some 12) rfl (.int .i64 0) (fun _ => by kernel_rfl) ?_
  refine pl_val (want_no rfl) (some 13) rfl (.bool false) (fun _ => by kernel_rfl) ?_
  refine pl_nil ?_
  refine au_then ?_
  refine wp_cond_false (by kernel_rfl) ?_
  refine wp_skip ?_
  refine au_then ?_
  refine wp_seq ?_
  refine rg_lit ?_
  refine pl_val (want_no rfl) (some 15) rfl (.agg (arr 20 (fun _ => 0))) (fun _ => by kernel_rfl) ?_
  refine pl_new M (want_no rfl) (some 5) rfl (.cells (arr 20 (fun _ => 0)) 28) (fun _ => by kernel_rfl) ?_
  intro g2 w4 M
  replace M : Mem w [⟨g1, .cells (arr 4 k) 51⟩, ⟨g2, .cells (arr 20 (fun _ => 0)) 28⟩] w4 := M
  refine pl_put M (want_no rfl) rfl 28 _ _ rfl 1 g2 (by kernel_rfl) 20 28 (fun _ => 0) (fun _ => 0) rfl (by kernel_rfl) inz28 ?_
  intro w5 M
  replace M : Mem w [⟨g1, .cells (arr 4 k) 51⟩, ⟨g2, .cells (arr 20 (fun _ => 0)) 28⟩] w5 := M
  refine pl_nil ?_
  refine au_then ?_
  refine wp_seq ?_
  refine rg_lit ?_
  refine pl_call M (want_no rfl) (some 16) rfl 21 #[] (.agg (arr 20 bb)) (fun _ => by kernel_rfl) F.h2 ?_
  intro w6 M
  refine pl_new M (want_no rfl) (some 6) rfl (.cells (arr 20 (fun _ => 0)) 28) (fun _ => by kernel_rfl) ?_
  intro g3 w7 M
  replace M : Mem w [⟨g1, .cells (arr 4 k) 51⟩, ⟨g2, .cells (arr 20 (fun _ => 0)) 28⟩, ⟨g3, .cells (arr 20 (fun _ => 0)) 28⟩] w7 := M
  refine pl_put M (want_no rfl) rfl 28 _ _ rfl 2 g3 (by kernel_rfl) 20 28 (fun _ => 0) bb rfl (by kernel_rfl) inz28 ?_
  intro w8 M
  replace M : Mem w [⟨g1, .cells (arr 4 k) 51⟩, ⟨g2, .cells (arr 20 (fun _ => 0)) 28⟩, ⟨g3, .cells (arr 20 bb) 28⟩] w8 := M
  refine pl_nil ?_
  refine au_then ?_
  refine wp_seq ?_
  refine rg_lit ?_
  refine pl_load M (want_no rfl) (some 17) rfl 28 _ rfl 1 g2 0 (by kernel_rfl) 20 28 (fun _ => 0) rfl 20 (fun _ => 0) (Part.all _ _) (by decide) _ Try.underlying28 rfl inz28 ?_
  refine pl_call M (want_no rfl) (some 18) rfl 10 #[.agg (arr 20 (fun _ => 0))] (.string ⟨#[]⟩) (fun _ => by kernel_rfl) F.h3 ?_
  intro w9 M
  refine pl_val (want_no rfl) (some 19) rfl (.bool true) (fun _ => by kernel_rfl) ?_
  refine pl_val (want_no rfl) (some 20) rfl (.bool true) (fun _ => by kernel_rfl) ?_
  refine pl_load M (want_on 3 true rfl 20 rfl (by kernel_rfl)) (some 21) rfl 28 _ rfl 2 g3 0 (by kernel_rfl) 20 28 bb rfl 20 bb (Part.all _ _) (by decide) _ Try.underlying28 rfl inz28 ?_
  refine pl_load M (want_on 3 true rfl 20 rfl (by kernel_rfl)) (some 22) rfl 28 _ rfl 1 g2 0 (by kernel_rfl) 20 28 (fun _ => 0) rfl 20 (fun _ => 0) (Part.all _ _) (by decide) _ Try.underlying28 rfl inz28 ?_
  refine pl_call M (want_on 3 true rfl 20 rfl (by kernel_rfl)) (some 23) rfl 16 #[.agg (arr 20 bb), .agg (arr 20 (fun _ => 0))] (.agg (arr 20 (fun _ => 0))) (fun _ => by kernel_rfl) F.h4 ?_
  intro w10 M
  refine pl_call M (want_on 3 true rfl 20 rfl (by kernel_rfl)) (some 24) rfl 10 #[.agg (arr 20 (fun _ => 0))] (.string ⟨#[]⟩) (fun _ => by kernel_rfl) F.h3 ?_
  intro w11 M
  refine pl_val (want_on 3 true rfl 20 rfl (by kernel_rfl)) (some 25) rfl (.bool true) (fun _ => by kernel_rfl) ?_
  refine pl_val (want_no rfl) (some 26) rfl (.bool true) (fun _ => by kernel_rfl) ?_
  refine pl_val (want_no rfl) (some 27) rfl (.bool true) (fun _ => by kernel_rfl) ?_
  refine pl_load M (want_on 10 true rfl 27 rfl (by kernel_rfl)) (some 28) rfl 28 _ rfl 1 g2 0 (by kernel_rfl) 20 28 (fun _ => 0) rfl 20 (fun _ => 0) (Part.all _ _) (by decide) _ Try.underlying28 rfl inz28 ?_
  refine pl_load M (want_on 10 true rfl 27 rfl (by kernel_rfl)) (some 29) rfl 28 _ rfl 2 g3 0 (by kernel_rfl) 20 28 bb rfl 20 bb (Part.all _ _) (by decide) _ Try.underlying28 rfl inz28 ?_
  refine pl_call M (want_on 10 true rfl 27 rfl (by kernel_rfl)) (some 30) rfl 16 #[.agg (arr 20 (fun _ => 0)), .agg (arr 20 bb)] (.agg (arr 20 (fun _ => 0))) (fun _ => by kernel_rfl) F.h5 ?_
  intro w12 M
  refine pl_call M (want_on 10 true rfl 27 rfl (by kernel_rfl)) (some 31) rfl 10 #[.agg (arr 20 (fun _ => 0))] (.string ⟨#[]⟩) (fun _ => by kernel_rfl) F.h3 ?_
  intro w13 M
  refine pl_val (want_on 10 true rfl 27 rfl (by kernel_rfl)) (some 32) rfl (.bool true) (fun _ => by kernel_rfl) ?_
  refine pl_val (want_no rfl) (some 33) rfl (.bool true) (fun _ => by kernel_rfl) ?_
  refine pl_val (want_no rfl) (some 34) rfl (.bool true) (fun _ => by kernel_rfl) ?_
  refine pl_load M (want_on 17 true rfl 34 rfl (by kernel_rfl)) (some 35) rfl 28 _ rfl 1 g2 0 (by kernel_rfl) 20 28 (fun _ => 0) rfl 20 (fun _ => 0) (Part.all _ _) (by decide) _ Try.underlying28 rfl inz28 ?_
  refine pl_call M (want_on 17 true rfl 34 rfl (by kernel_rfl)) (some 36) rfl 18 #[.agg (arr 20 (fun _ => 0))] (.agg (arr 20 (fun _ => 0))) (fun _ => by kernel_rfl) F.h6 ?_
  intro w14 M
  refine pl_call M (want_on 17 true rfl 34 rfl (by kernel_rfl)) (some 37) rfl 10 #[.agg (arr 20 (fun _ => 0))] (.string ⟨#[]⟩) (fun _ => by kernel_rfl) F.h3 ?_
  intro w15 M
  refine pl_val (want_on 17 true rfl 34 rfl (by kernel_rfl)) (some 38) rfl (.bool true) (fun _ => by kernel_rfl) ?_
  refine pl_val (want_no rfl) (some 39) rfl (.bool true) (fun _ => by kernel_rfl) ?_
  refine pl_val (want_no rfl) (some 40) rfl (.bool true) (fun _ => by kernel_rfl) ?_
  refine pl_load M (want_on 23 true rfl 40 rfl (by kernel_rfl)) (some 41) rfl 28 _ rfl 1 g2 0 (by kernel_rfl) 20 28 (fun _ => 0) rfl 20 (fun _ => 0) (Part.all _ _) (by decide) _ Try.underlying28 rfl inz28 ?_
  refine pl_load M (want_on 23 true rfl 40 rfl (by kernel_rfl)) (some 42) rfl 51 _ rfl 0 g1 0 (by kernel_rfl) 4 51 k rfl 4 k (Part.all _ _) (by decide) _ Try.underlying51 rfl inz51 ?_
  refine pl_call M (want_on 23 true rfl 40 rfl (by kernel_rfl)) (some 43) rfl 22 #[.agg (arr 20 (fun _ => 0)), .agg (arr 4 k)] (.agg (arr 20 (fun _ => 0))) (fun _ => by kernel_rfl) F.h7 ?_
  intro w16 M
  refine pl_call M (want_on 23 true rfl 40 rfl (by kernel_rfl)) (some 44) rfl 10 #[.agg (arr 20 (fun _ => 0))] (.string ⟨#[]⟩) (fun _ => by kernel_rfl) F.h3 ?_
  intro w17 M
  refine pl_val (want_on 23 true rfl 40 rfl (by kernel_rfl)) (some 45) rfl (.bool true) (fun _ => by kernel_rfl) ?_
  refine pl_val (want_no rfl) (some 46) rfl (.bool true) (fun _ => by kernel_rfl) ?_
  refine pl_val (want_no rfl) (some 47) rfl (.bool true) (fun _ => by kernel_rfl) ?_
  refine pl_load M (want_on 30 true rfl 47 rfl (by kernel_rfl)) (some 48) rfl 28 _ rfl 1 g2 0 (by kernel_rfl) 20 28 (fun _ => 0) rfl 20 (fun _ => 0) (Part.all _ _) (by decide) _ Try.underlying28 rfl inz28 ?_
  refine pl_load M (want_on 30 true rfl 47 rfl (by kernel_rfl)) (some 49) rfl 28 _ rfl 1 g2 0 (by kernel_rfl) 20 28 (fun _ => 0) rfl 20 (fun _ => 0) (Part.all _ _) (by decide) _ Try.underlying28 rfl inz28 ?_
  refine pl_call M (want_on 30 true rfl 47 rfl (by kernel_rfl)) (some 50) rfl 11 #[.agg (arr 20 (fun _ => 0)), .agg (arr 20 (fun _ => 0))] (.bool false) (fun _ => by kernel_rfl) F.h8 ?_
  intro w18 M
  refine pl_val (want_on 30 true rfl 47 rfl (by kernel_rfl)) (some 51) rfl (.bool true) (fun _ => by kernel_rfl) ?_
  refine pl_val (want_no rfl) (some 52) rfl (.bool true) (fun _ => by kernel_rfl) ?_
  refine pl_val (want_no rfl) (some 53) rfl (.bool true) (fun _ => by kernel_rfl) ?_
  refine pl_load M (want_on 36 true rfl 53 rfl (by kernel_rfl)) (some 54) rfl 28 _ rfl 2 g3 0 (by kernel_rfl) 20 28 bb rfl 20 bb (Part.all _ _) (by decide) _ Try.underlying28 rfl inz28 ?_
  refine pl_load M (want_on 36 true rfl 53 rfl (by kernel_rfl)) (some 55) rfl 28 _ rfl 1 g2 0 (by kernel_rfl) 20 28 (fun _ => 0) rfl 20 (fun _ => 0) (Part.all _ _) (by decide) _ Try.underlying28 rfl inz28 ?_
  refine pl_call M (want_on 36 true rfl 53 rfl (by kernel_rfl)) (some 56) rfl 11 #[.agg (arr 20 bb), .agg (arr 20 (fun _ => 0))] (.bool false) (fun _ => by kernel_rfl) F.h9 ?_
  intro w19 M
  refine pl_val (want_on 36 true rfl 53 rfl (by kernel_rfl)) (some 57) rfl (.bool true) (fun _ => by kernel_rfl) ?_
  refine pl_val (want_no rfl) (some 58) rfl (.bool true) (fun _ => by kernel_rfl) ?_
  refine pl_val (want_no rfl) (some 59) rfl (.bool true) (fun _ => by kernel_rfl) ?_
  refine pl_load M (want_on 42 true rfl 59 rfl (by kernel_rfl)) (some 60) rfl 28 _ rfl 1 g2 0 (by kernel_rfl) 20 28 (fun _ => 0) rfl 20 (fun _ => 0) (Part.all _ _) (by decide) _ Try.underlying28 rfl inz28 ?_
  refine pl_load M (want_on 42 true rfl 59 rfl (by kernel_rfl)) (some 61) rfl 28 _ rfl 2 g3 0 (by kernel_rfl) 20 28 bb rfl 20 bb (Part.all _ _) (by decide) _ Try.underlying28 rfl inz28 ?_
  refine pl_call M (want_on 42 true rfl 59 rfl (by kernel_rfl)) (some 62) rfl 11 #[.agg (arr 20 (fun _ => 0)), .agg (arr 20 bb)] (.bool false) (fun _ => by kernel_rfl) F.h10 ?_
  intro w20 M
  refine pl_val (want_on 42 true rfl 59 rfl (by kernel_rfl)) (some 63) rfl (.bool true) (fun _ => by kernel_rfl) ?_
  refine pl_val (want_no rfl) (some 64) rfl (.bool true) (fun _ => by kernel_rfl) ?_
  refine pl_val (want_no rfl) (some 65) rfl (.bool true) (fun _ => by kernel_rfl) ?_
  refine pl_call M (want_on 48 true rfl 65 rfl (by kernel_rfl)) (some 66) rfl 6 #[] (.bool true) (fun _ => by kernel_rfl) F.h11 ?_
  intro w21 M
  refine pl_val (want_no rfl) (some 67) rfl (.bool true) (fun _ => by kernel_rfl) ?_
  refine pl_val (want_no rfl) (some 2) rfl (.bool true) (fun _ => by kernel_rfl) ?_
  refine pl_nil ?_
  refine au_then ?_
  refine wp_ret ?_
  exact bodyPost_ret (v := .bool true) (results_tmp1 Try.results5 _ _ _ (by kernel_rfl)) (by kernel_rfl) ⟨rfl, M.old⟩

structure mulNF (px py pz pt k : Nat → Int) : Prop where
  h1 : ∀ w, Calls Try.prog 45 #[.agg (arr 20 (p4 5 px py pz pt))] w fun r w' => r = .returned (.bool true) ∧ Below w.heap.size w w'

set_option maxRecDepth 100000 in
set_option maxHeartbeats 4000000 in
theorem mulN_gen (px py pz pt k : Nat → Int) (w : World) (F : mulNF px py pz pt k)  :
    Calls Try.prog 22 #[.agg (arr 20 (p4 5 px py pz pt)), .agg (arr 4 k)] w fun r w' => r = .returned (.agg (arr 20 (fun _ => 0))) ∧ Below w.heap.size w w' := by
  go_enter Try.func22, Try.ntmps22
  have M := Mem.start w
  refine wp_seq ?_
  refine rg_lit ?_
  refine pl_new M (want_no rfl) (some 2) rfl (.cells (arr 20 (p4 5 px py pz pt)) 28) (fun _ => by kernel_rfl) ?_
  intro g1 w1 M
  replace M : Mem w [⟨g1, .cells (arr 20 (p4 5 px py pz pt)) 28⟩] w1 := M
  refine pl_new M (want_no rfl) (some 3) rfl (.cells (arr 4 k) 51) (fun _ => by kernel_rfl) ?_
  intro g2 w2 M
  replace M : Mem w [⟨g1, .cells (arr 20 (p4 5 px py pz pt)) 28⟩, ⟨g2, .cells (arr 4 k) 51⟩] w2 := M
  refine pl_new M (want_no rfl) (some 4) rfl (.cells (arr 20 (fun _ => 0)) 28) (fun _ => by kernel_rfl) ?_
  intro g3 w3 M
  replace M : Mem w [⟨g1, .cells (arr 20 (p4 5 px py pz pt)) 28⟩, ⟨g2, .cells (arr 4 k) 51⟩, ⟨g3, .cells (arr 20 (fun _ => 0)) 28⟩] w3 := M
  refine pl_nil ?_
  refine au_then ?_
  refine wp_seq ?_
  refine wp_seq ?_
  refine rg_lit ?_
  refine pl_load M (want_no rfl) (some 9) rfl 28 _ rfl 0 g1 0 (by kernel_rfl) 20 28 (p4 5 px py pz pt) rfl 20 (p4 5 px py pz pt) (Part.all _ _) (by decide) _ Try.underlying28 rfl inz28 ?_
  refine pl_call M (want_no rfl) (some 10) rfl 45 #[.agg (arr 20 (p4 5 px py pz pt))] (.bool true) (fun _ => by kernel_rfl) F.h1 ?_
  intro w4 M
  refine pl_nil ?_
  refine au_then ?_
  refine wp_cond_true (by kernel_rfl) ?_
  refine wp_seq ?_
  refine rg_lit ?_
  refine pl_val (want_no rfl) (some 11) rfl (.agg (arr 20 (fun _ => 0))) (fun _ => by kernel_rfl) ?_
  refine pl_put M (want_no rfl) rfl 28 _ _ rfl 2 g3 (by kernel_rfl) 20 28 (fun _ => 0) (fun _ => 0) rfl (by kernel_rfl) inz28 ?_
  intro w5 M
  replace M : Mem w [⟨g1, .cells (arr 20 (p4 5 px py pz pt)) 28⟩, ⟨g2, .cells (arr 4 k) 51⟩, ⟨g3, .cells (arr 20 (fun _ => 0)) 28⟩] w5 := M
  refine pl_nil ?_
  refine au_then ?_
  refine wp_ret ?_
  refine au_then_ret ?_
  exact bodyPost_ret (v := .agg (arr 20 (fun _ => 0))) (results_cell_row Try.results22 _ _ g3 28 (arr 20 (fun _ => 0)) (0, 0) _ (by kernel_rfl) (M.get 2 rfl) Try.underlying28 rfl (by rw [arr_size]; exact inz28)) (by kernel_rfl) ⟨rfl, M.old⟩


end Go.Proofs.Ytkeocdebfgcnnaa

/- What alive answers; EdwReads. -/
namespace Go.Proofs.Ytkeocdebfgcnnaa
open Go.RowKit

theorem bs_bt (s : ByteArray) (hs : s.size = 32) (f : Nat → Int) (hf : ∀ i, i < 32 → f i = bt s i) : bs ((List.range 32).map f) = s := by
  have hm : (List.range 32).map f = (List.range 32).map (bt s) := List.map_congr_left fun i hi => hf i (List.mem_range.1 hi)
  rw [hm]
  have hd : (bs ((List.range 32).map (bt s))).data = s.data := by
    apply Array.ext_getElem?
    intro i
    have hs' : s.data.size = 32 := hs
    by_cases hi : i < 32
    · simp only [bs, List.getElem?_toArray, List.getElem?_map, List.getElem?_range hi, Option.map_some, bt]
      rw [Array.getElem?_eq_getElem (by omega)]
      simp
    · simp only [bs, List.getElem?_toArray]
      rw [List.getElem?_eq_none (by simp; omega), Array.getElem?_eq_none (by omega)]
  cases s
  unfold bs at *
  simp only at hd
  rw [hd]
theorem bt_cut (s : ByteArray) {i : Nat} (hi : i < 32) : bt (cutS s) i = cutF s i := by
  have hb : 0 ≤ cutF s i ∧ cutF s i < 256 := upd_bd (bits_bd (bt_bd s 31).1 (bt_bd s 31).2).1 i
  exact bt_bs _ _ _ (by simp [List.getElem?_map, List.getElem?_range hi]) hb.1 hb.2
theorem enc_cut (s : ByteArray) (hs : s.size = 32) : encS (oddB s) (cutS s) = s := by
  unfold encS
  refine bs_bt s hs _ fun i hi => ?_
  have hb := bits_bd (bt_bd s 31).1 (bt_bd s 31).2
  have hr := bt_bd s 31
  have h31 : bt (cutS s) 31 = bt s 31 % 128 := by
    rw [bt_cut s (by omega)]
    unfold cutF upd
    rw [if_pos rfl]
    exact hb.2.2.2.2.1
  have ho := odd_eq s
  have hi2 : i ≠ 31 → bt (cutS s) i = bt s i := fun h => by
    rw [bt_cut s hi]
    unfold cutF upd
    rw [if_neg h]
  unfold encF
  cases h : oddB s
  · simp only [Bool.false_eq_true, if_false]
    rw [h] at ho
    have h2 : ¬ bt s 31 / 128 = 1 := by simpa using ho
    by_cases e : i = 31
    · rw [e, h31]
      omega
    · exact hi2 e
  · simp only [if_true]
    rw [h] at ho
    have h2 : bt s 31 / 128 = 1 := by simpa using ho
    unfold upd
    by_cases e : i = 31
    · rw [if_pos e, e, h31, (bits_bd (x := bt s 31 % 128) (by omega) (by omega)).2.2.2.2.2.2.2 (by omega)]
      omega
    · rw [if_neg e]
      exact hi2 e
theorem leb_val (s : ByteArray) (hs : s.size = 32) : lebytes (val s) = s := by
  rw [← pt_S, lebytes_S (pt_dig s 32), rb_val s hs]
theorem dec_back {s : ByteArray} (hs : s.size = 32) (h : rdecB s = true) : ptS (decPt s h) = s := by
  have hd := dec_eq s
  rw [h] at hd
  have hc := h
  unfold rdecB at hc
  simp only [Bool.and_eq_true, decide_eq_true_eq] at hc
  unfold decB oddE at hd
  rw [decX_n] at hd
  simp only [Bool.and_eq_true, beq_iff_eq] at hd
  have hv : 0 ≤ val (cutS s) := by rw [← pt_S]; exact (S_bd (pt_dig (cutS s) 32)).1
  have ey : rY s = val (cutS s) := by
    unfold rY
    exact Int.emod_eq_of_lt hv hc.1
  have e1 : (((decPt s h).x.val : Nat) : Int) = rdecX s := by
    show (((toF (rdecX s)).val : Nat) : Int) = rdecX s
    rw [toF_val, em_self (rdecX_bd s)]
  have e2 : (((decPt s h).y.val : Nat) : Int) = val (cutS s) := by
    show (((toF (rY s)).val : Nat) : Int) = val (cutS s)
    rw [toF_val, em_self (rY_bd s), ey]
  unfold ptS
  rw [e1, e2, leb_val _ (cutS_size s), hd.2.2]
  exact enc_cut s hs

/- Some answers. -/
theorem baseS_size : baseS.size = 32 := by decide
theorem base_b : rdecB baseS = true := by
  unfold rdecB rX
  rw [rr_eq]
  decide +kernel
def baseQ : Pt := decPt baseS base_b
theorem base_rep : Rep base5 baseQ := dec_rep baseS_size base_b
theorem rbase_rep : RRep (rdecP baseS) baseQ := rdec_rep baseS_size base_b
theorem base_c : decC baseS = 0 := by
  unfold decC
  rw [if_pos baseS_size, dec_eq, base_b]
  exact if_pos rfl
theorem c_base (w : World) : Calls Try.prog 21 #[] w fun r w' => r = .returned (.agg (arr 20 base5.f)) ∧ Below w.heap.size w w' := c_base_of base_c w
theorem c_rbase (w : World) : Calls Try.prog 24 #[] w fun r w' => r = .returned (.agg (arr 64 (rdecP baseS).f)) ∧ Below w.heap.size w w' :=
  rbase_gen (rdecP baseS).f w ⟨fun w => by
    have h := c_rdec baseS w
    rw [← code_eq, base_c] at h
    exact h⟩
def BX : Int := 15112221349535400772501151409588531511454012693041857206046113283949847762202
def BY : Int := 46316835694926478169428394003475163141307993866256225615783033603165251855960
theorem base_x : rdecX baseS = BX := by
  unfold rdecX rX
  rw [rr_eq]
  decide +kernel
theorem base_y : rY baseS = BY := by decide +kernel
theorem base_q : rdecP baseS = rofV BX BY := by
  unfold rdecP
  rw [if_pos baseS_size, base_b, base_x, base_y]
  exact if_pos rfl
theorem base_big : rsmallV (rofV BX BY) = false := by decide +kernel
theorem base_nsmall : smallV base5 = false := by
  have h1 := base_rep.small
  have h2 := rbase_rep.small
  rw [base_q, base_big] at h2
  cases h : smallV base5
  · rfl
  · exact absurd (h2.2 (h1.1 h)) Bool.false_ne_true
theorem zero_bytes : bytesV zero5 = zS := by
  rw [zero5_rep.bytes]
  decide +kernel
theorem shS_no : decP shS = none5 ∧ decC shS = 2 := by
  unfold decP decC
  rw [if_neg (by decide), if_neg (by decide)]
  exact ⟨rfl, rfl⟩
theorem same_yes {p q : P5} (hp : p.Ok) (hq : q.Ok) {b : Bool} (h : sameV p q = b) (w : World) : Calls Try.prog 11 #[.agg (arr 20 p.f), .agg (arr 20 q.f)] w fun r w' => r = .returned (.bool b) ∧ Below w.heap.size w w' := by
  subst h
  exact c_same p q w hp hq
theorem small_yes {p : P5} (hp : p.Ok) {b : Bool} (h : smallV p = b) (w : World) : Calls Try.prog 13 #[.agg (arr 20 p.f)] w fun r w' => r = .returned (.bool b) ∧ Below w.heap.size w w' := by
  subst h
  exact c_small p w hp
theorem bytes_yes {p : P5} (hp : p.Ok) {b : ByteArray} (h : bytesV p = b) (w : World) : Calls Try.prog 10 #[.agg (arr 20 p.f)] w fun r w' => r = .returned (.string b) ∧ Below w.heap.size w w' := by
  subst h
  exact c_bytes p w hp
theorem dec_yes {s : ByteArray} {p : P5} {c : Int} (h : decP s = p) (hc : decC s = c) (w : World) : Calls Try.prog 7 #[.string s] w fun r w' => r = .returned (.tuple #[.agg (arr 20 p.f), .int .i64 c]) ∧ Below w.heap.size w w' := by
  subst h
  subst hc
  exact c_decode s w
theorem none_bytes : bytesV none5 = ⟨#[]⟩ := by
  unfold bytesV
  rw [none5_b]
  exact if_pos rfl
theorem none_small : smallV none5 = false := by
  unfold smallV
  rw [none5_b]
  rfl
theorem alive_any (w : World) : Calls Try.prog 6 #[] w fun r w' => r = .returned (.bool true) ∧ Below w.heap.size w w' :=
  alive_gen base5.f zero5.f (negV base5).f (addV base5 (negV base5)).f (rdecP baseS).f w
    { h1 := c_base
      h2 := bytes_yes base5_ok (base_rep.bytes.trans (dec_back baseS_size base_b))
      h3 := dec_yes rfl base_c
      h4 := dec_yes shS_no.1 shS_no.2
      h5 := c_zero
      h6 := bytes_yes zero5_ok zero_bytes
      h7 := same_yes base5_ok base5_ok ((base_rep.same base_rep).2 rfl)
      h8 := fun w => c_neg base5 w base5_ok
      h9 := fun w => c_add base5 (negV base5) w base5_ok (negV_ok base5_ok)
      h10 := same_yes (addV_ok base5_ok (negV_ok base5_ok)) zero5_ok (((base_rep.add base_rep.neg).same zero5_rep).2 (add_neg' _))
      h11 := small_yes base5_ok base_nsmall
      h12 := small_yes zero5_ok (zero5_rep.small.2 (by rw [add_zero', add_zero', add_zero']))
      h13 := small_yes none5_ok none_small
      h14 := bytes_yes none5_ok none_bytes
      h15 := c_rbase
      h16 := fun w => by
        have h := c_rbytes (rdecP baseS) w rbase_rep.ok
        rwa [rbase_rep.bytes, show ptS baseQ = baseS from dec_back baseS_size base_b] at h }

/-- EdwReads. -/
theorem reads_any (s : ByteArray) (w : World) : Calls Try.prog 3 #[.string s] w fun r w' => r = .returned (.bool true) ∧ Below w.heap.size w w' := by
  by_cases hs : 4096 < (s.size : Int)
  · exact reads1_gen s w ⟨alive_any⟩ hs
  · by_cases hc : decC s = 0
    · have h32 : s.size = 32 := by
        refine Classical.byContradiction fun h => ?_
        unfold decC at hc
        rw [if_neg h] at hc
        cases hc
      have hB : rdecB s = true := by
        cases h : rdecB s
        · unfold decC at hc
          rw [if_pos h32, dec_eq, h] at hc
          cases hc
        · rfl
      have hp := dec_rep h32 hB
      have hq := rdec_rep h32 hB
      have hrc : rdecC s = 0 := by rw [← code_eq]; exact hc
      have hsm : rsmallV (rdecP s) = smallV (decP s) := by
        rw [Bool.eq_iff_iff, hp.small, hq.small]
      have hbk := dec_back h32 hB
      have hby : ∀ w, Calls Try.prog 10 #[.agg (arr 20 (decP s).f)] w fun r w' => r = .returned (.string s) ∧ Below w.heap.size w w' := bytes_yes hp.ok (hp.bytes.trans hbk)
      have hrb : ∀ w, Calls Try.prog 25 #[.agg (arr 64 (rdecP s).f)] w fun r w' => r = .returned (.string s) ∧ Below w.heap.size w w' := fun w => by
        have h := c_rbytes (rdecP s) w hq.ok
        rwa [hq.bytes, hbk] at h
      refine reads3_gen s (smallV (decP s)) (decP s).f (rdecP s).f w
        { h1 := dec_yes rfl hc
          h2 := fun w => by
            have h := c_rdec s w
            rwa [hrc] at h
          h3 := c_rGiven
          h4 := hby
          h5 := fun w => by
            have h := isF_gen (decP s).f (rdecP s).f s s w ⟨hby, hrb⟩
            simpa using h
          h6 := fun w => c_small _ w hp.ok
          h7 := fun w => by
            have h := c_rsmall _ w hq.ok
            rwa [hsm] at h
          h8 := fun w => by
            have h := c_ron _ w hq.ok
            rwa [hq.on] at h
          h9 := alive_any } hs
    · have hn : decP s = none5 := by
        unfold decP
        by_cases h : s.size = 32
        · rw [if_pos h]
          unfold decC at hc
          rw [if_pos h] at hc
          cases hb : decB s
          · exact if_neg Bool.false_ne_true
          · rw [hb] at hc
            exact absurd (if_pos rfl) hc
        · rw [if_neg h]
      refine reads2_gen s (decC s) (rdecP s).f w
        { h1 := dec_yes hn rfl
          h2 := fun w => by
            have h := c_rdec s w
            rwa [← code_eq] at h
          h3 := c_rGiven
          h4 := bytes_yes none5_ok none_bytes
          h5 := same_yes none5_ok none5_ok (by unfold sameV; rw [none5_b]; rfl)
          h6 := alive_any } hs hc


end Go.Proofs.Ytkeocdebfgcnnaa
