/- Numbers in parts, multiplied: the walk of times. -/
import Derived.Test.YtkndaajbedlajaaDoorP1
namespace Go.Proofs.YtkndaajbedlajaaDoor.Pol
open Go.RowKit

/-- Products of one part with all parts, added at their places. -/
def tr (P a b : Nat → Int) (i : Nat) : Nat → (Nat → Int)
  | 0 => P
  | j + 1 => upd (tr P a b i j) (i + j) (ua (tr P a b i j (i + j)) (um (a i) (b j)))
def tp (n : Nat) (a b : Nat → Int) : Nat → (Nat → Int)
  | 0 => fun _ => 0
  | i + 1 => tr (tp n a b i) a b i n
def tlo (P : Nat → Int) : Nat → (Nat → Int)
  | 0 => P
  | j + 1 => upd (tlo P j) j (ua (tlo P j j) (um (P (5 + j)) 5))
def tmF (a b : Nat → Int) : Nat → Int := crF (tlo (tp 5 a b 5) 4)
theorem cp_fn (a : Nat → Int) (j : Nat) (hj : j < 5) : (if 0 ≤ j ∧ j < 0 + 5 then w64 a (0 + (j - 0)) else w64 (fun _ => 0) j) = w64 a j := by
  rw [if_pos (by omega), Nat.sub_zero, Nat.zero_add]

set_option maxRecDepth 100000 in
set_option maxHeartbeats 4000000 in
theorem c_times (x y : Nat → Int) (w : World) (hL : Laid w)  :
    Calls Tryd.prog 43 #[.agg (av 5 (w64 x)), .agg (av 5 (w64 y))] w fun r w' => r = .returned (.agg (av 5 (w64 (tmF x y)))) ∧ Below w.heap.size w w' := by
  go_enter Tryd.func43, Tryd.ntmps43
  have M := Mem.start hL
  refine wp_seq ?_
  refine rg_lit ?_
  refine pl_new M (want_no rfl) (some 2) rfl (.cells (av 5 (w64 x)) 69) (fun _ => by kernel_rfl) ?_
  intro g1 u1 M
  replace M : Mem ⟨w, []⟩ [⟨g1, .cells (av 5 (w64 x)) 69⟩] u1 := M
  refine pl_new M (want_no rfl) (some 3) rfl (.cells (av 5 (w64 y)) 69) (fun _ => by kernel_rfl) ?_
  intro g2 u2 M
  replace M : Mem ⟨w, []⟩ [⟨g1, .cells (av 5 (w64 x)) 69⟩, ⟨g2, .cells (av 5 (w64 y)) 69⟩] u2 := M
  refine pl_new M (want_no rfl) (some 4) rfl (.cells (av 5 (w64 (fun _ => 0))) 69) (fun _ => by kernel_rfl) ?_
  intro g3 u3 M
  replace M : Mem ⟨w, []⟩ [⟨g1, .cells (av 5 (w64 x)) 69⟩, ⟨g2, .cells (av 5 (w64 y)) 69⟩, ⟨g3, .cells (av 5 (w64 (fun _ => 0))) 69⟩] u3 := M
  refine pl_nil ?_
  refine au_then ?_
  refine wp_seq ?_
  refine rg_lit ?_
  refine pl_new M (want_no rfl) (some 5) rfl (.cells (av 9 (w64 (fun _ => 0))) 94) (fun _ => by kernel_rfl) ?_
  intro g4 u4 M
  replace M : Mem ⟨w, []⟩ [⟨g1, .cells (av 5 (w64 x)) 69⟩, ⟨g2, .cells (av 5 (w64 y)) 69⟩, ⟨g3, .cells (av 5 (w64 (fun _ => 0))) 69⟩, ⟨g4, .cells (av 9 (w64 (fun _ => 0))) 94⟩] u4 := M
  refine pl_nil ?_
  refine au_then ?_
  refine wp_seq ?_
  refine wp_seq ?_
  refine rg_lit ?_
  refine pl_load M (want_no rfl) (some 13) rfl 69 _ rfl 0 g1 0 (by kernel_rfl) 5 69 (w64 x) rfl 5 (w64 x) (fun j _ => by rw [Nat.zero_add]) (by decide) _ Tryd.underlying69 rfl inz69 ?_
  refine pl_val (want_no rfl) (some 14) rfl (.int .i64 0) (fun _ => by kernel_rfl) ?_
  refine pl_nil ?_
  refine au_then ?_
  refine wp_block ?_
  refine au_loop (fun i a w' => ∃ v1 : Nat → Value, a = ⟨#[.agg (av 5 (w64 x)), .agg (av 5 (w64 y)), .pointer (some ⟨g1, 0, none⟩), .pointer (some ⟨g2, 0, none⟩), .pointer (some ⟨g3, 0, none⟩), .pointer (some ⟨g4, 0, none⟩), v1 6, v1 7, v1 8, v1 9, undef, undef, undef, .agg (av 5 (w64 x)), .int .i64 (i : Int), v1 15, v1 16, v1 17, v1 18, v1 19, v1 20, v1 21, v1 22, v1 23, v1 24, v1 25, v1 26, v1 27, v1 28, v1 29, v1 30, v1 31, v1 32, v1 33, v1 34, undef, undef, undef, undef, undef, undef, undef, undef, undef, undef, undef, undef, undef, undef, undef, undef, undef, undef, undef, undef], []⟩ ∧ Mem ⟨w, []⟩ [⟨g1, .cells (av 5 (w64 x)) 69⟩, ⟨g2, .cells (av 5 (w64 y)) 69⟩, ⟨g3, .cells (av 5 (w64 (fun _ => 0))) 69⟩, ⟨g4, .cells (av 9 (w64 (tp 5 x y i))) 94⟩] w') 5 ⟨fun k_ => ([undef, undef, undef, undef, undef, undef, undef, undef, undef, undef, undef, undef, undef, undef, undef, undef, undef, undef, undef, undef, undef, undef, undef, undef, undef, undef, undef, undef, undef] : List Value).getD (k_ - 6) undef, by kernel_rfl, M⟩ ?_ ?_
  · intro i a u0 hi hI
    obtain ⟨v1, rfl, M⟩ := hI
    refine wp_seq ?_
    refine rg_lit ?_
    refine pl_val (want_no rfl) (some 15) rfl (.bool true) (fun w => Eq.trans (b := .ok (.value (.bool (decide ((i : Int) < 5)))) w) (by kernel_rfl) (by rw [decide_eq_true (by omega)])) ?_
    refine pl_nil ?_
    refine au_then ?_
    refine wp_seq ?_
    refine wp_cond_true (by kernel_rfl) ?_
    refine wp_skip ?_
    refine au_then ?_
    refine wp_seq ?_
    refine wp_block ?_
    refine wp_seq ?_
    refine rg_lit ?_
    refine pl_val (want_no rfl) (some 16) rfl (.int .i64 (i : Int)) (fun _ => by kernel_rfl) ?_
    refine pl_val (want_no rfl) (some 17) rfl (.int .u64 (x (i))) (run_ixA 69 5 22 Tryd.underlying69 inz22 (fun _ => by kernel_rfl) _ _ rfl (w64 x) (by kernel_rfl) .i64 (i) (by kernel_rfl) (by omega) rfl) ?_
    refine pl_val (want_no rfl) (some 6) rfl (.int .i64 (i : Int)) (fun _ => by kernel_rfl) ?_
    refine pl_val (want_no rfl) (some 7) rfl (.int .u64 (x (i))) (fun _ => by kernel_rfl) ?_
    refine pl_nil ?_
    refine au_then ?_
    refine wp_seq ?_
    refine rg_lit ?_
    refine pl_load M (want_no rfl) (some 18) rfl 69 _ rfl 1 g2 0 (by kernel_rfl) 5 69 (w64 y) rfl 5 (w64 y) (fun j _ => by rw [Nat.zero_add]) (by decide) _ Tryd.underlying69 rfl inz69 ?_
    refine pl_val (want_no rfl) (some 19) rfl (.int .i64 0) (fun _ => by kernel_rfl) ?_
    refine pl_nil ?_
    refine au_then ?_
    refine wp_block ?_
    refine au_loop (fun j a w' => ∃ v2 : Nat → Value, a = ⟨#[.agg (av 5 (w64 x)), .agg (av 5 (w64 y)), .pointer (some ⟨g1, 0, none⟩), .pointer (some ⟨g2, 0, none⟩), .pointer (some ⟨g3, 0, none⟩), .pointer (some ⟨g4, 0, none⟩), .int .i64 (i : Int), .int .u64 (x (i)), v2 8, v2 9, undef, undef, undef, .agg (av 5 (w64 x)), .int .i64 (i : Int), .bool true, .int .i64 (i : Int), .int .u64 (x (i)), .agg (av 5 (w64 y)), .int .i64 (j : Int), v2 20, v2 21, v2 22, v2 23, v2 24, v2 25, v2 26, v2 27, v2 28, v2 29, v2 30, v2 31, v2 32, v2 33, v1 34, undef, undef, undef, undef, undef, undef, undef, undef, undef, undef, undef, undef, undef, undef, undef, undef, undef, undef, undef, undef], []⟩ ∧ Mem ⟨w, []⟩ [⟨g1, .cells (av 5 (w64 x)) 69⟩, ⟨g2, .cells (av 5 (w64 y)) 69⟩, ⟨g3, .cells (av 5 (w64 (fun _ => 0))) 69⟩, ⟨g4, .cells (av 9 (w64 (tr (tp 5 x y i) x y i j))) 94⟩] w') 5 ⟨fun k_ => ([v1 8, v1 9, undef, undef, undef, undef, undef, undef, undef, undef, undef, undef, v1 20, v1 21, v1 22, v1 23, v1 24, v1 25, v1 26, v1 27, v1 28, v1 29, v1 30, v1 31, v1 32, v1 33] : List Value).getD (k_ - 8) undef, by kernel_rfl, M⟩ ?_ ?_
    · intro j a u0 hj hI
      obtain ⟨v2, rfl, M⟩ := hI
      refine wp_seq ?_
      refine rg_lit ?_
      refine pl_val (want_no rfl) (some 20) rfl (.bool true) (fun w => Eq.trans (b := .ok (.value (.bool (decide ((j : Int) < 5)))) w) (by kernel_rfl) (by rw [decide_eq_true (by omega)])) ?_
      refine pl_nil ?_
      refine au_then ?_
      refine wp_seq ?_
      refine wp_cond_true (by kernel_rfl) ?_
      refine wp_skip ?_
      refine au_then ?_
      refine wp_seq ?_
      refine wp_block ?_
      refine wp_seq ?_
      refine rg_lit ?_
      refine pl_val (want_no rfl) (some 21) rfl (.int .i64 (j : Int)) (fun _ => by kernel_rfl) ?_
      refine pl_val (want_no rfl) (some 22) rfl (.int .u64 (y (j))) (run_ixA 69 5 22 Tryd.underlying69 inz22 (fun _ => by kernel_rfl) _ _ rfl (w64 y) (by kernel_rfl) .i64 (j) (by kernel_rfl) (by omega) rfl) ?_
      refine pl_val (want_no rfl) (some 8) rfl (.int .i64 (j : Int)) (fun _ => by kernel_rfl) ?_
      refine pl_val (want_no rfl) (some 9) rfl (.int .u64 (y (j))) (fun _ => by kernel_rfl) ?_
      refine pl_nil ?_
      refine au_then ?_
      refine rg_lit ?_
      refine pl_val (want_no rfl) (some 23) rfl (.int .i64 (i : Int)) (fun _ => by kernel_rfl) ?_
      refine pl_val (want_no rfl) (some 24) rfl (.int .i64 (j : Int)) (fun _ => by kernel_rfl) ?_
      refine pl_val (want_no rfl) (some 25) rfl (.int .i64 ((i + j : Nat) : Int)) (fun w => Eq.trans (b := .ok (.value (.int .i64 (IntKind.wrap .i64 ((i : Int) + (j : Int))))) w) (by kernel_rfl) (by rw [wrap64 (by omega) (by omega)]; congr 3)) ?_
      refine pl_val (want_no rfl) (some 26) rfl (.pointer (some ⟨g4, ((i + j : Nat)), none⟩)) (run_ix1 94 9 22 Tryd.underlying94 inz22 _ _ rfl g4 (by kernel_rfl) .i64 ((i + j : Nat)) (by kernel_rfl) (by omega)) ?_
      refine pl_cell M (want_no rfl) (some 27) rfl 22 _ rfl g4 ((i + j : Nat)) (by kernel_rfl) (.int .u64 ((tr (tp 5 x y i) x y i j) ((i + j : Nat)))) (fun _ => by kernel_rfl) (fun w M => M.cell 3 rfl (by omega) rfl) ?_
      refine pl_val (want_no rfl) (some 28) rfl (.int .u64 (x (i))) (fun _ => by kernel_rfl) ?_
      refine pl_val (want_no rfl) (some 29) rfl (.int .u64 (y (j))) (fun _ => by kernel_rfl) ?_
      refine pl_val (want_no rfl) (some 30) rfl (.int .u64 (um (x (i)) (y (j)))) (fun _ => by kernel_rfl) ?_
      refine pl_val (want_no rfl) (some 31) rfl (.int .u64 (ua ((tr (tp 5 x y i) x y i j) ((i + j : Nat))) (um (x (i)) (y (j))))) (fun _ => by kernel_rfl) ?_
      refine pl_val (want_no rfl) (some 32) rfl (.pointer (some ⟨g4, ((i + j : Nat)), none⟩)) (run_ix1 94 9 22 Tryd.underlying94 inz22 _ _ rfl g4 (by kernel_rfl) .i64 ((i + j : Nat)) (by kernel_rfl) (by omega)) ?_
      refine pl_put1 M (want_no rfl) rfl 22 _ _ rfl 3 g4 ((i + j : Nat)) (by kernel_rfl) 9 94 (w64 (tr (tp 5 x y i) x y i j)) rfl (.int .u64 (ua ((tr (tp 5 x y i) x y i j) ((i + j : Nat))) (um (x (i)) (y (j))))) (w64 (upd (tr (tp 5 x y i) x y i j) ((i + j : Nat)) (ua ((tr (tp 5 x y i) x y i j) ((i + j : Nat))) (um (x (i)) (y (j)))))) (by kernel_rfl) inz22 (by omega) rfl rfl (fun j _ => put_w64 _ _ _ j) ?_
      intro u5 M
      replace M : Mem ⟨w, []⟩ [⟨g1, .cells (av 5 (w64 x)) 69⟩, ⟨g2, .cells (av 5 (w64 y)) 69⟩, ⟨g3, .cells (av 5 (w64 (fun _ => 0))) 69⟩, ⟨g4, .cells (av 9 (w64 (upd (tr (tp 5 x y i) x y i j) ((i + j : Nat)) (ua ((tr (tp 5 x y i) x y i j) ((i + j : Nat))) (um (x (i)) (y (j))))))) 94⟩] u5 := M
      refine pl_nil ?_
      refine au_block ?_
      refine au_then ?_
      refine rg_lit ?_
      refine pl_val (want_no rfl) (some 33) rfl (.int .i64 ((j + 1 : Nat) : Int)) (fun w => Eq.trans (b := .ok (.value (.int .i64 (IntKind.wrap .i64 ((j : Int) + 1)))) w) (by kernel_rfl) (by rw [wrap64 (by omega) (by omega)]; congr 3)) ?_
      refine pl_val (want_no rfl) (some 19) rfl (.int .i64 ((j + 1 : Nat) : Int)) (fun _ => by kernel_rfl) ?_
      refine pl_nil ?_
      refine au_then ?_
      exact ⟨fun k_ => ([.int .i64 (j : Int), .int .u64 (y (j)), undef, undef, undef, undef, undef, undef, undef, undef, undef, undef, .bool true, .int .i64 (j : Int), .int .u64 (y (j)), .int .i64 (i : Int), .int .i64 (j : Int), .int .i64 ((i + j : Nat) : Int), .pointer (some ⟨g4, ((i + j : Nat)), none⟩), .int .u64 ((tr (tp 5 x y i) x y i j) ((i + j : Nat))), .int .u64 (x (i)), .int .u64 (y (j)), .int .u64 (um (x (i)) (y (j))), .int .u64 (ua ((tr (tp 5 x y i) x y i j) ((i + j : Nat))) (um (x (i)) (y (j)))), .pointer (some ⟨g4, ((i + j : Nat)), none⟩), .int .i64 ((j + 1 : Nat) : Int)] : List Value).getD (k_ - 8) undef, by kernel_rfl, M⟩
    · intro a u0 hI
      obtain ⟨v2, rfl, M⟩ := hI
      refine wp_seq ?_
      refine rg_lit ?_
      refine pl_val (want_no rfl) (some 20) rfl (.bool false) (fun w => Eq.trans (b := .ok (.value (.bool (decide (5 < 5)))) w) (by kernel_rfl) (by rw [decide_eq_false (by omega)])) ?_
      refine pl_nil ?_
      refine au_then ?_
      refine wp_seq ?_
      refine wp_cond_false (by kernel_rfl) ?_
      refine wp_exit ?_
      refine au_then_exit ?_
      refine au_then_exit ?_
      refine au_block_exit ?_
      refine au_block ?_
      refine au_then ?_
      refine rg_lit ?_
      refine pl_val (want_no rfl) (some 34) rfl (.int .i64 ((i + 1 : Nat) : Int)) (fun w => Eq.trans (b := .ok (.value (.int .i64 (IntKind.wrap .i64 ((i : Int) + 1)))) w) (by kernel_rfl) (by rw [wrap64 (by omega) (by omega)]; congr 3)) ?_
      refine pl_val (want_no rfl) (some 14) rfl (.int .i64 ((i + 1 : Nat) : Int)) (fun _ => by kernel_rfl) ?_
      refine pl_nil ?_
      refine au_then ?_
      exact ⟨fun k_ => ([.int .i64 (i : Int), .int .u64 (x (i)), v2 8, v2 9, undef, undef, undef, undef, undef, .bool true, .int .i64 (i : Int), .int .u64 (x (i)), .agg (av 5 (w64 y)), .int .i64 (5 : Int), .bool false, v2 21, v2 22, v2 23, v2 24, v2 25, v2 26, v2 27, v2 28, v2 29, v2 30, v2 31, v2 32, v2 33, .int .i64 ((i + 1 : Nat) : Int)] : List Value).getD (k_ - 6) undef, by kernel_rfl, M⟩
  · intro a u0 hI
    obtain ⟨v1, rfl, M⟩ := hI
    refine wp_seq ?_
    refine rg_lit ?_
    refine pl_val (want_no rfl) (some 15) rfl (.bool false) (fun w => Eq.trans (b := .ok (.value (.bool (decide (5 < 5)))) w) (by kernel_rfl) (by rw [decide_eq_false (by omega)])) ?_
    refine pl_nil ?_
    refine au_then ?_
    refine wp_seq ?_
    refine wp_cond_false (by kernel_rfl) ?_
    refine wp_exit ?_
    refine au_then_exit ?_
    refine au_then_exit ?_
    refine au_block_exit ?_
    refine au_then ?_
    refine wp_seq ?_
    refine rg_lit ?_
    refine pl_new M (want_no rfl) (some 10) rfl (.cells (av 5 (w64 (fun _ => 0))) 69) (fun _ => by kernel_rfl) ?_
    intro g5 u6 M
    replace M : Mem ⟨w, []⟩ [⟨g1, .cells (av 5 (w64 x)) 69⟩, ⟨g2, .cells (av 5 (w64 y)) 69⟩, ⟨g3, .cells (av 5 (w64 (fun _ => 0))) 69⟩, ⟨g4, .cells (av 9 (w64 (tp 5 x y 5))) 94⟩, ⟨g5, .cells (av 5 (w64 (fun _ => 0))) 69⟩] u6 := M
    refine pl_nil ?_
    refine au_then ?_
    refine wp_seq ?_
    refine rg_tail M 2 (by kernel_rfl) (by kernel_rfl) ?_
    simp only [List.take_succ_cons, List.take_zero]
    refine k_val (want_no rfl) (some 35) rfl (.slice (some ⟨g5, 0, none⟩) 5 5) (fun _ => by kernel_rfl) ?_
    refine k_val (want_no rfl) (some 36) rfl (.slice (some ⟨g4, 0, none⟩) 5 9) (fun _ => by kernel_rfl) ?_
    refine kl_nil ?_
    intro u7 M
    replace M : Mem ⟨w, []⟩ [⟨g1, .cells (av 5 (w64 x)) 69⟩, ⟨g2, .cells (av 5 (w64 y)) 69⟩, ⟨g3, .cells (av 5 (w64 (fun _ => 0))) 69⟩, ⟨g4, .cells (av 9 (w64 (tp 5 x y 5))) 94⟩, ⟨g5, .cells (av 5 (w64 (fun _ => 0))) 69⟩] u7 := M
    refine pl_copyB M (want_no rfl) (some 37) rfl 95 95 3 22 Tryd.underlying95 inz22 4 g5 5 69 (w64 (fun _ => 0)) rfl 3 g4 9 94 (w64 (tp 5 x y 5)) rfl 0 5 5 0 5 9 5 rfl (by decide) (by decide) (fun _ _ => rfl) (w64 (tp 5 x y 5)) (fun j hj => cp_fn (tp 5 x y 5) j hj) (fun _ => by kernel_rfl) ?_
    intro u8 M
    replace M : Mem ⟨w, []⟩ [⟨g1, .cells (av 5 (w64 x)) 69⟩, ⟨g2, .cells (av 5 (w64 y)) 69⟩, ⟨g3, .cells (av 5 (w64 (fun _ => 0))) 69⟩, ⟨g4, .cells (av 9 (w64 (tp 5 x y 5))) 94⟩, ⟨g5, .cells (av 5 (w64 (tp 5 x y 5))) 69⟩] u8 := M
    refine pl_nil ?_
    refine au_then ?_
    refine wp_seq ?_
    refine wp_seq ?_
    refine rg_lit ?_
    refine pl_val (want_no rfl) (some 38) rfl (.slice (some ⟨g4, 5, none⟩) 4 4) (fun _ => by kernel_rfl) ?_
    refine pl_val (want_no rfl) (some 39) rfl (.int .i64 4) (fun _ => by kernel_rfl) ?_
    refine pl_val (want_no rfl) (some 40) rfl (.int .i64 0) (fun _ => by kernel_rfl) ?_
    refine pl_nil ?_
    refine au_then ?_
    refine wp_block ?_
    refine au_loop (fun j a w' => ∃ v3 : Nat → Value, a = ⟨#[.agg (av 5 (w64 x)), .agg (av 5 (w64 y)), .pointer (some ⟨g1, 0, none⟩), .pointer (some ⟨g2, 0, none⟩), .pointer (some ⟨g3, 0, none⟩), .pointer (some ⟨g4, 0, none⟩), v1 6, v1 7, v1 8, v1 9, .pointer (some ⟨g5, 0, none⟩), v3 11, v3 12, .agg (av 5 (w64 x)), .int .i64 (5 : Int), .bool false, v1 16, v1 17, v1 18, v1 19, v1 20, v1 21, v1 22, v1 23, v1 24, v1 25, v1 26, v1 27, v1 28, v1 29, v1 30, v1 31, v1 32, v1 33, v1 34, .slice (some ⟨g5, 0, none⟩) 5 5, .slice (some ⟨g4, 0, none⟩) 5 9, .int .i64 5, .slice (some ⟨g4, 5, none⟩) 4 4, .int .i64 4, .int .i64 (j : Int), v3 41, v3 42, v3 43, v3 44, v3 45, v3 46, v3 47, v3 48, v3 49, v3 50, v3 51, v3 52, undef, undef], []⟩ ∧ Mem ⟨w, []⟩ [⟨g1, .cells (av 5 (w64 x)) 69⟩, ⟨g2, .cells (av 5 (w64 y)) 69⟩, ⟨g3, .cells (av 5 (w64 (fun _ => 0))) 69⟩, ⟨g4, .cells (av 9 (w64 (tp 5 x y 5))) 94⟩, ⟨g5, .cells (av 5 (w64 (tlo (tp 5 x y 5) j))) 69⟩] w') 4 ⟨fun k_ => ([undef, undef, undef, undef, undef, undef, undef, undef, undef, undef, undef, undef, undef, undef, undef, undef, undef, undef, undef, undef, undef, undef, undef, undef, undef, undef, undef, undef, undef, undef, undef, undef, undef, undef, undef, undef, undef, undef, undef, undef, undef, undef] : List Value).getD (k_ - 11) undef, by kernel_rfl, M⟩ ?_ ?_
    · intro j a u0 hj hI
      obtain ⟨v3, rfl, M⟩ := hI
      refine wp_seq ?_
      refine rg_lit ?_
      refine pl_val (want_no rfl) (some 41) rfl (.bool true) (fun w => Eq.trans (b := .ok (.value (.bool (decide ((j : Int) < 4)))) w) (by kernel_rfl) (by rw [decide_eq_true (by omega)])) ?_
      refine pl_nil ?_
      refine au_then ?_
      refine wp_seq ?_
      refine wp_cond_true (by kernel_rfl) ?_
      refine wp_skip ?_
      refine au_then ?_
      refine wp_seq ?_
      refine wp_block ?_
      refine wp_seq ?_
      refine rg_lit ?_
      refine pl_val (want_no rfl) (some 42) rfl (.int .i64 (j : Int)) (fun _ => by kernel_rfl) ?_
      refine pl_val (want_no rfl) (some 43) rfl (.pointer (some ⟨g4, (5 + j), none⟩)) (run_ixL 95 22 Tryd.underlying95 inz22 _ _ rfl g4 5 4 4 (by kernel_rfl) .i64 j (by kernel_rfl) hj) ?_
      refine pl_cell M (want_no rfl) (some 44) rfl 22 _ rfl g4 (5 + j) (by kernel_rfl) (.int .u64 ((tp 5 x y 5) (5 + j))) (fun _ => by kernel_rfl) (fun w M => M.cell 3 rfl (by omega) rfl) ?_
      refine pl_val (want_no rfl) (some 11) rfl (.int .i64 (j : Int)) (fun _ => by kernel_rfl) ?_
      refine pl_val (want_no rfl) (some 12) rfl (.int .u64 ((tp 5 x y 5) (5 + j))) (fun _ => by kernel_rfl) ?_
      refine pl_nil ?_
      refine au_then ?_
      refine rg_lit ?_
      refine pl_val (want_no rfl) (some 45) rfl (.int .i64 (j : Int)) (fun _ => by kernel_rfl) ?_
      refine pl_val (want_no rfl) (some 46) rfl (.pointer (some ⟨g5, j, none⟩)) (run_ix1 69 5 22 Tryd.underlying69 inz22 _ _ rfl g5 (by kernel_rfl) .i64 (j) (by kernel_rfl) (by omega)) ?_
      refine pl_cell M (want_no rfl) (some 47) rfl 22 _ rfl g5 j (by kernel_rfl) (.int .u64 ((tlo (tp 5 x y 5) j) j)) (fun _ => by kernel_rfl) (fun w M => M.cell 4 rfl (by omega) rfl) ?_
      refine pl_val (want_no rfl) (some 48) rfl (.int .u64 ((tp 5 x y 5) (5 + j))) (fun _ => by kernel_rfl) ?_
      refine pl_val (want_no rfl) (some 49) rfl (.int .u64 (um ((tp 5 x y 5) (5 + j)) 5)) (fun _ => by kernel_rfl) ?_
      refine pl_val (want_no rfl) (some 50) rfl (.int .u64 (ua ((tlo (tp 5 x y 5) j) j) (um ((tp 5 x y 5) (5 + j)) 5))) (fun _ => by kernel_rfl) ?_
      refine pl_val (want_no rfl) (some 51) rfl (.pointer (some ⟨g5, j, none⟩)) (run_ix1 69 5 22 Tryd.underlying69 inz22 _ _ rfl g5 (by kernel_rfl) .i64 (j) (by kernel_rfl) (by omega)) ?_
      refine pl_put1 M (want_no rfl) rfl 22 _ _ rfl 4 g5 j (by kernel_rfl) 5 69 (w64 (tlo (tp 5 x y 5) j)) rfl (.int .u64 (ua ((tlo (tp 5 x y 5) j) j) (um ((tp 5 x y 5) (5 + j)) 5))) (w64 (upd (tlo (tp 5 x y 5) j) j (ua ((tlo (tp 5 x y 5) j) j) (um ((tp 5 x y 5) (5 + j)) 5)))) (by kernel_rfl) inz22 (by omega) rfl rfl (fun j _ => put_w64 _ _ _ j) ?_
      intro u9 M
      replace M : Mem ⟨w, []⟩ [⟨g1, .cells (av 5 (w64 x)) 69⟩, ⟨g2, .cells (av 5 (w64 y)) 69⟩, ⟨g3, .cells (av 5 (w64 (fun _ => 0))) 69⟩, ⟨g4, .cells (av 9 (w64 (tp 5 x y 5))) 94⟩, ⟨g5, .cells (av 5 (w64 (upd (tlo (tp 5 x y 5) j) j (ua ((tlo (tp 5 x y 5) j) j) (um ((tp 5 x y 5) (5 + j)) 5))))) 69⟩] u9 := M
      refine pl_nil ?_
      refine au_block ?_
      refine au_then ?_
      refine rg_lit ?_
      refine pl_val (want_no rfl) (some 52) rfl (.int .i64 ((j + 1 : Nat) : Int)) (fun w => Eq.trans (b := .ok (.value (.int .i64 (IntKind.wrap .i64 ((j : Int) + 1)))) w) (by kernel_rfl) (by rw [wrap64 (by omega) (by omega)]; congr 3)) ?_
      refine pl_val (want_no rfl) (some 40) rfl (.int .i64 ((j + 1 : Nat) : Int)) (fun _ => by kernel_rfl) ?_
      refine pl_nil ?_
      refine au_then ?_
      exact ⟨fun k_ => ([.int .i64 (j : Int), .int .u64 ((tp 5 x y 5) (5 + j)), undef, undef, undef, undef, undef, undef, undef, undef, undef, undef, undef, undef, undef, undef, undef, undef, undef, undef, undef, undef, undef, undef, undef, undef, undef, undef, undef, undef, .bool true, .int .i64 (j : Int), .pointer (some ⟨g4, (5 + j), none⟩), .int .u64 ((tp 5 x y 5) (5 + j)), .int .i64 (j : Int), .pointer (some ⟨g5, j, none⟩), .int .u64 ((tlo (tp 5 x y 5) j) j), .int .u64 ((tp 5 x y 5) (5 + j)), .int .u64 (um ((tp 5 x y 5) (5 + j)) 5), .int .u64 (ua ((tlo (tp 5 x y 5) j) j) (um ((tp 5 x y 5) (5 + j)) 5)), .pointer (some ⟨g5, j, none⟩), .int .i64 ((j + 1 : Nat) : Int)] : List Value).getD (k_ - 11) undef, by kernel_rfl, M⟩
    · intro a u0 hI
      obtain ⟨v3, rfl, M⟩ := hI
      refine wp_seq ?_
      refine rg_lit ?_
      refine pl_val (want_no rfl) (some 41) rfl (.bool false) (fun w => Eq.trans (b := .ok (.value (.bool (decide (4 < 4)))) w) (by kernel_rfl) (by rw [decide_eq_false (by omega)])) ?_
      refine pl_nil ?_
      refine au_then ?_
      refine wp_seq ?_
      refine wp_cond_false (by kernel_rfl) ?_
      refine wp_exit ?_
      refine au_then_exit ?_
      refine au_then_exit ?_
      refine au_block_exit ?_
      refine au_then ?_
      refine wp_seq ?_
      refine rg_lit ?_
      refine pl_load M (want_no rfl) (some 53) rfl 69 _ rfl 4 g5 0 (by kernel_rfl) 5 69 (w64 (tlo (tp 5 x y 5) 4)) rfl 5 (w64 (tlo (tp 5 x y 5) 4)) (fun j _ => by rw [Nat.zero_add]) (by decide) _ Tryd.underlying69 rfl inz69 ?_
      refine pl_call M (want_no rfl) (some 54) rfl 59 #[.agg (av 5 (w64 (tlo (tp 5 x y 5) 4)))] (.agg (av 5 (w64 (crF (tlo (tp 5 x y 5) 4))))) (fun _ => by kernel_rfl) (fun w M => c_carried (tlo (tp 5 x y 5) 4) w M.laid) ?_
      intro u10 M
      refine pl_put M (want_no rfl) rfl 69 _ _ rfl 2 g3 0 (by kernel_rfl) 5 69 (w64 (fun _ => 0)) rfl 5 (w64 (crF (tlo (tp 5 x y 5) 4))) (w64 (crF (tlo (tp 5 x y 5) 4))) (by kernel_rfl) inz69 (by decide) (fun _ _ => rfl) (fun j hj => by rw [if_pos (by omega), Nat.sub_zero]) ?_
      intro u11 M
      replace M : Mem ⟨w, []⟩ [⟨g1, .cells (av 5 (w64 x)) 69⟩, ⟨g2, .cells (av 5 (w64 y)) 69⟩, ⟨g3, .cells (av 5 (w64 (crF (tlo (tp 5 x y 5) 4)))) 69⟩, ⟨g4, .cells (av 9 (w64 (tp 5 x y 5))) 94⟩, ⟨g5, .cells (av 5 (w64 (tlo (tp 5 x y 5) 4))) 69⟩] u11 := M
      refine pl_nil ?_
      refine au_then ?_
      refine wp_ret ?_
      exact bodyPost_ret (v := .agg (av 5 (w64 (crF (tlo (tp 5 x y 5) 4))))) (results_cell_row Tryd.results43 _ _ g3 69 (av 5 (w64 (crF (tlo (tp 5 x y 5) 4)))) (0, 0) _ (by kernel_rfl) (M.get 2 rfl) Tryd.underlying69 rfl (by rw [av_size]; exact inz69)) (by kernel_rfl) ⟨rfl, below_grown M.old⟩


end Go.Proofs.YtkndaajbedlajaaDoor.Pol
