/- Numbers in parts, multiplied: the walk of times. -/
import Derived.Test.YtenafinbaanicaaDoorP1
namespace Go.Proofs.YtenafinbaanicaaDoor.Pol
open Go.RowKit

/-- Products of one part with all parts, added at their places. -/
def tr (P a b : Nat → Int) (i : Nat) : Nat → (Nat → Int)
  | 0 => P
  | j + 1 => upd (tr P a b i j) (i + j) (ua (tr P a b i j (i + j)) (um (a i) (b j)))
def tp (n : Nat) (a b : Nat → Int) : Nat → (Nat → Int)
  | 0 => fun _ => 0
  | i + 1 => tr (tp n a b i) a b i n
def tlo (P : Nat → Int) : Nat → (Nat → Int)
  | 0 => P
  | j + 1 => upd (tlo P j) j (ua (tlo P j j) (um (P (5 + j)) 5))
def tmF (a b : Nat → Int) : Nat → Int := crF (tlo (tp 5 a b 5) 4)
theorem cp_fn (a : Nat → Int) (j : Nat) (hj : j < 5) : (if 0 ≤ j ∧ j < 0 + 5 then w64 a (0 + (j - 0)) else w64 (fun _ => 0) j) = w64 a j := by
  rw [if_pos (by omega), Nat.sub_zero, Nat.zero_add]

set_option maxRecDepth 100000 in
set_option maxHeartbeats 4000000 in
theorem c_times (x y : Nat → Int) (w : World) (hL : Laid w)  :
    Calls Tryd.prog 80 #[.agg (av 5 (w64 x)), .agg (av 5 (w64 y))] w fun r w' => r = .returned (.agg (av 5 (w64 (tmF x y)))) ∧ Below w.heap.size w w' := by
  go_enter Tryd.func80, Tryd.ntmps80
  have M := Mem.start hL
  refine sR ?_
  refine pN M 2 (.cells (av 5 (w64 x)) 122) fun g1 u1 M => ?_
  refine pN M 3 (.cells (av 5 (w64 y)) 122) fun g2 u2 M => ?_
  refine pN M 4 (.cells (av 5 (w64 (fun _ => 0))) 122) fun g3 u3 M => ?_
  refine nT ?_
  refine sR ?_
  refine pN M 5 (.cells (av 9 (w64 (fun _ => 0))) 140) fun g4 u4 M => ?_
  refine nT ?_
  refine wp_seq ?_
  refine sR ?_
  refine pA M 13 0 5 (w64 x) ?_
  refine rV 1 ?_
  refine nT ?_
  refine wp_block ?_
  refine au_loop (fun i a w' => ∃ v1 : Nat → Value, a = (fm ([.agg (av 5 (w64 x)), .agg (av 5 (w64 y)), .pointer (some ⟨g1, 0, none⟩), .pointer (some ⟨g2, 0, none⟩), .pointer (some ⟨g3, 0, none⟩), .pointer (some ⟨g4, 0, none⟩)] ++ vr v1 6 7 ++ [.agg (av 5 (w64 x)), .int .i64 (i : Int)] ++ vr v1 15 40)) ∧ Mem ⟨w, []⟩ [⟨g1, .cells (av 5 (w64 x)) 122⟩, ⟨g2, .cells (av 5 (w64 y)) 122⟩, ⟨g3, .cells (av 5 (w64 (fun _ => 0))) 122⟩, ⟨g4, .cells (av 9 (w64 (tp 5 x y i))) 140⟩] w') 5 (exS M) ?_ ?_
  · intro i a u0 hi hI
    obtain ⟨v1, rfl, M⟩ := hI
    refine sR ?_
    refine ZT 15 ((i : Int) < 5) ?_
    refine nT ?_
    refine wp_seq ?_
    refine wp_cond_true (by kernel_rfl) ?_
    refine wp_skip ?_
    refine au_then ?_
    refine wp_seq ?_
    refine wp_block ?_
    refine sR ?_
    refine rV 1 ?_
    refine pH 17 (.int .u64 (x (i))) (run_ixA 122 5 22 Tryd.underlying122 inz22 (fun _ => by kernel_rfl) _ _ rfl (w64 x) (by kernel_rfl) .i64 (i) (by kernel_rfl) (by omega) rfl) ?_
    refine rV 2 ?_
    refine nT ?_
    refine sR ?_
    refine pA M 18 1 5 (w64 y) ?_
    refine rV 1 ?_
    refine nT ?_
    refine wp_block ?_
    refine au_loop (fun j a w' => ∃ v2 : Nat → Value, a = (fm ([.agg (av 5 (w64 x)), .agg (av 5 (w64 y)), .pointer (some ⟨g1, 0, none⟩), .pointer (some ⟨g2, 0, none⟩), .pointer (some ⟨g3, 0, none⟩), .pointer (some ⟨g4, 0, none⟩), .int .i64 (i : Int), .int .u64 (x (i))] ++ vr v2 8 5 ++ [.agg (av 5 (w64 x)), .int .i64 (i : Int)] ++ vr v2 15 3 ++ [.agg (av 5 (w64 y)), .int .i64 (j : Int)] ++ vr v2 20 35)) ∧ Mem ⟨w, []⟩ [⟨g1, .cells (av 5 (w64 x)) 122⟩, ⟨g2, .cells (av 5 (w64 y)) 122⟩, ⟨g3, .cells (av 5 (w64 (fun _ => 0))) 122⟩, ⟨g4, .cells (av 9 (w64 (tr (tp 5 x y i) x y i j))) 140⟩] w') 5 (exS M) ?_ ?_
    · intro j a u0 hj hI
      obtain ⟨v2, rfl, M⟩ := hI
      refine sR ?_
      refine ZT 20 ((j : Int) < 5) ?_
      refine nT ?_
      refine wp_seq ?_
      refine wp_cond_true (by kernel_rfl) ?_
      refine wp_skip ?_
      refine au_then ?_
      refine wp_seq ?_
      refine wp_block ?_
      refine sR ?_
      refine rV 1 ?_
      refine pH 22 (.int .u64 (y (j))) (run_ixA 122 5 22 Tryd.underlying122 inz22 (fun _ => by kernel_rfl) _ _ rfl (w64 y) (by kernel_rfl) .i64 (j) (by kernel_rfl) (by omega) rfl) ?_
      refine rV 2 ?_
      refine nT ?_
      refine rg_lit ?_
      refine rV 2 ?_
      refine ZI 25 ((i : Int) + (j : Int)) ((i + j : Nat) : Int) ?_
      refine ZX 26 .i64 g4 ((i + j : Nat)) 9 ?_
      refine ZE M 27 3 ((i + j : Nat)) ?_
      refine rV 4 ?_
      refine ZX 32 .i64 g4 ((i + j : Nat)) 9 ?_
      refine ZP64 M 3 ((i + j : Nat)) (ua ((tr (tp 5 x y i) x y i j) ((i + j : Nat))) (um (x (i)) (y (j)))) fun u5 M => ?_
      refine pl_nil ?_
      refine au_block ?_
      refine au_then ?_
      refine rg_lit ?_
      refine ZI 33 ((j : Int) + 1) ((j + 1 : Nat) : Int) ?_
      refine rV 1 ?_
      refine nT ?_
      exact exS M
    · intro a u0 hI
      obtain ⟨v2, rfl, M⟩ := hI
      refine sR ?_
      refine ZF 20 (5 < 5) ?_
      refine nT ?_
      refine wp_seq ?_
      refine wp_cond_false (by kernel_rfl) ?_
      refine wp_exit ?_
      refine au_then_exit ?_
      refine au_then_exit ?_
      refine au_block_exit ?_
      refine au_block ?_
      refine au_then ?_
      refine rg_lit ?_
      refine ZI 34 ((i : Int) + 1) ((i + 1 : Nat) : Int) ?_
      refine rV 1 ?_
      refine nT ?_
      exact exS M
  · intro a u0 hI
    obtain ⟨v1, rfl, M⟩ := hI
    refine sR ?_
    refine ZF 15 (5 < 5) ?_
    refine nT ?_
    refine wp_seq ?_
    refine wp_cond_false (by kernel_rfl) ?_
    refine wp_exit ?_
    refine au_then_exit ?_
    refine au_then_exit ?_
    refine au_block_exit ?_
    refine au_then ?_
    refine sR ?_
    refine pN M 10 (.cells (av 5 (w64 (fun _ => 0))) 122) fun g5 u6 M => ?_
    refine nT ?_
    refine wp_seq ?_
    refine rg_tail M 2 (by kernel_rfl) (by kernel_rfl) ?_
    simp only [List.take_succ_cons, List.take_zero]
    refine kR 2 ?_
    refine kl_nil fun u7 M => ?_
    refine pl_copyB M (want_no rfl) (some 37) rfl 84 84 3 22 Tryd.underlying84 inz22 4 g5 5 122 (w64 (fun _ => 0)) rfl 3 g4 9 140 (w64 (tp 5 x y 5)) rfl 0 5 5 0 5 9 5 rfl (by decide) (by decide) (fun _ _ => rfl) (w64 (tp 5 x y 5)) (fun j hj => cp_fn (tp 5 x y 5) j hj) (fun _ => by kernel_rfl) fun u8 M => ?_
    refine nT ?_
    refine wp_seq ?_
    refine sq ?_
    refine wp_block ?_
    refine au_loop (fun j a w' => ∃ v3 : Nat → Value, a = (fm ([.agg (av 5 (w64 x)), .agg (av 5 (w64 y)), .pointer (some ⟨g1, 0, none⟩), .pointer (some ⟨g2, 0, none⟩), .pointer (some ⟨g3, 0, none⟩), .pointer (some ⟨g4, 0, none⟩)] ++ vr v3 6 4 ++ [.pointer (some ⟨g5, 0, none⟩)] ++ vr v3 11 2 ++ [.agg (av 5 (w64 x)), .int .i64 (5 : Int)] ++ vr v3 15 23 ++ [.slice (some ⟨g4, 5, none⟩) 4 4, .int .i64 4, .int .i64 (j : Int)] ++ vr v3 41 14)) ∧ Mem ⟨w, []⟩ [⟨g1, .cells (av 5 (w64 x)) 122⟩, ⟨g2, .cells (av 5 (w64 y)) 122⟩, ⟨g3, .cells (av 5 (w64 (fun _ => 0))) 122⟩, ⟨g4, .cells (av 9 (w64 (tp 5 x y 5))) 140⟩, ⟨g5, .cells (av 5 (w64 (tlo (tp 5 x y 5) j))) 122⟩] w') 4 (exS M) ?_ ?_
    · intro j a u0 hj hI
      obtain ⟨v3, rfl, M⟩ := hI
      refine sR ?_
      refine ZT 41 ((j : Int) < 4) ?_
      refine nT ?_
      refine wp_seq ?_
      refine wp_cond_true (by kernel_rfl) ?_
      refine wp_skip ?_
      refine au_then ?_
      refine wp_seq ?_
      refine wp_block ?_
      refine sR ?_
      refine rV 1 ?_
      refine pH 43 (.pointer (some ⟨g4, (5 + j), none⟩)) (run_ixL 84 22 Tryd.underlying84 inz22 _ _ rfl g4 5 4 4 (by kernel_rfl) .i64 j (by kernel_rfl) hj) ?_
      refine ZE M 44 3 (5 + j) ?_
      refine rV 2 ?_
      refine nT ?_
      refine rg_lit ?_
      refine rV 1 ?_
      refine ZX 46 .i64 g5 (j) 5 ?_
      refine ZE M 47 4 j ?_
      refine rV 3 ?_
      refine ZX 51 .i64 g5 (j) 5 ?_
      refine ZP64 M 4 j (ua ((tlo (tp 5 x y 5) j) j) (um ((tp 5 x y 5) (5 + j)) 5)) fun u9 M => ?_
      refine pl_nil ?_
      refine au_block ?_
      refine au_then ?_
      refine rg_lit ?_
      refine ZI 52 ((j : Int) + 1) ((j + 1 : Nat) : Int) ?_
      refine rV 1 ?_
      refine nT ?_
      exact exS M
    · intro a u0 hI
      obtain ⟨v3, rfl, M⟩ := hI
      refine sR ?_
      refine ZF 41 (4 < 4) ?_
      refine nT ?_
      refine wp_seq ?_
      refine wp_cond_false (by kernel_rfl) ?_
      refine wp_exit ?_
      refine au_then_exit ?_
      refine au_then_exit ?_
      refine au_block_exit ?_
      refine au_then ?_
      refine sR ?_
      refine pA M 53 4 5 (w64 (tlo (tp 5 x y 5) 4)) ?_
      refine ZC M 54 (fun w M => c_carried (tlo (tp 5 x y 5) 4) w M.laid) fun u10 M => ?_
      refine ZG M 2 5 (w64 (crF (tlo (tp 5 x y 5) 4))) fun u11 M => ?_
      refine nT ?_
      refine wp_ret ?_
      exact bc Tryd.results80 M 2 5 (w64 (crF (tlo (tp 5 x y 5) 4))) ⟨rfl, below_grown M.old⟩


end Go.Proofs.YtenafinbaanicaaDoor.Pol
