/- Numbers in parts: the walks of settled, carried, plus, least, numberOf, plain, factor, marked and text. -/
import Derived.Test.YtkndaajbedlajaaDoorP0
namespace Go.Proofs.YtkndaajbedlajaaDoor.Pol
open Go.RowKit

/-- What goes to the next part, and the parts that are settled. -/
def cy (sh : Nat) (a : Nat → Int) : Nat → Int
  | 0 => 0
  | j + 1 => sr (ua (a j) (cy sh a j)) sh
def st (m : Int) (sh : Nat) (a : Nat → Int) : Nat → (Nat → Int)
  | 0 => a
  | j + 1 => upd (st m sh a j) j (un (ua (a j) (cy sh a j)) m)
def s5 (a : Nat → Int) : Nat → Int := st 67108863 26 a 5
def c5 (a : Nat → Int) : Int := cy 26 a 5

set_option maxRecDepth 100000 in
set_option maxHeartbeats 4000000 in
theorem c_settled (x : Nat → Int) (w : World) (hL : Laid w)  :
    Calls Tryd.prog 60 #[.agg (av 5 (w64 x))] w fun r w' => r = .returned (.tuple #[.agg (av 5 (w64 (s5 x))), .int .u64 (c5 x)]) ∧ Below w.heap.size w w' := by
  go_enter Tryd.func60, Tryd.ntmps60
  have M := Mem.start hL
  refine wp_seq ?_
  refine rg_lit ?_
  refine pl_new M (want_no rfl) (some 1) rfl (.cells (av 5 (w64 x)) 69) (fun _ => by kernel_rfl) ?_
  intro g1 u1 M
  replace M : Mem ⟨w, []⟩ [⟨g1, .cells (av 5 (w64 x)) 69⟩] u1 := M
  refine pl_new M (want_no rfl) (some 2) rfl (.cells (av 5 (w64 (fun _ => 0))) 69) (fun _ => by kernel_rfl) ?_
  intro g2 u2 M
  replace M : Mem ⟨w, []⟩ [⟨g1, .cells (av 5 (w64 x)) 69⟩, ⟨g2, .cells (av 5 (w64 (fun _ => 0))) 69⟩] u2 := M
  refine pl_val (want_no rfl) (some 3) rfl (.int .u64 0) (fun _ => by kernel_rfl) ?_
  refine pl_nil ?_
  refine au_then ?_
  refine wp_seq ?_
  refine rg_lit ?_
  refine pl_val (want_no rfl) (some 4) rfl (.int .u64 0) (fun _ => by kernel_rfl) ?_
  refine pl_nil ?_
  refine au_then ?_
  refine wp_seq ?_
  refine wp_seq ?_
  refine rg_lit ?_
  refine pl_load M (want_no rfl) (some 7) rfl 69 _ rfl 0 g1 0 (by kernel_rfl) 5 69 (w64 x) rfl 5 (w64 x) (fun j _ => by rw [Nat.zero_add]) (by decide) _ Tryd.underlying69 rfl inz69 ?_
  refine pl_val (want_no rfl) (some 8) rfl (.int .i64 0) (fun _ => by kernel_rfl) ?_
  refine pl_nil ?_
  refine au_then ?_
  refine wp_block ?_
  refine au_loop (fun j a w' => ∃ v1 : Nat → Value, a = ⟨#[.agg (av 5 (w64 x)), .pointer (some ⟨g1, 0, none⟩), .pointer (some ⟨g2, 0, none⟩), .int .u64 0, .int .u64 (cy 26 x j), v1 5, v1 6, .agg (av 5 (w64 x)), .int .i64 (j : Int), v1 9, v1 10, v1 11, v1 12, v1 13, v1 14, v1 15, v1 16, v1 17, v1 18, v1 19, v1 20, v1 21, undef, undef], []⟩ ∧ Mem ⟨w, []⟩ [⟨g1, .cells (av 5 (w64 (st 67108863 26 x j))) 69⟩, ⟨g2, .cells (av 5 (w64 (fun _ => 0))) 69⟩] w') 5 ⟨fun k_ => ([undef, undef, undef, undef, undef, undef, undef, undef, undef, undef, undef, undef, undef, undef, undef, undef, undef] : List Value).getD (k_ - 5) undef, by kernel_rfl, M⟩ ?_ ?_
  · intro j a u0 hj hI
    obtain ⟨v1, rfl, M⟩ := hI
    refine wp_seq ?_
    refine rg_lit ?_
    refine pl_val (want_no rfl) (some 9) rfl (.bool true) (fun w => Eq.trans (b := .ok (.value (.bool (decide ((j : Int) < 5)))) w) (by kernel_rfl) (by rw [decide_eq_true (by omega)])) ?_
    refine pl_nil ?_
    refine au_then ?_
    refine wp_seq ?_
    refine wp_cond_true (by kernel_rfl) ?_
    refine wp_skip ?_
    refine au_then ?_
    refine wp_seq ?_
    refine wp_block ?_
    refine wp_seq ?_
    refine rg_lit ?_
    refine pl_val (want_no rfl) (some 10) rfl (.int .i64 (j : Int)) (fun _ => by kernel_rfl) ?_
    refine pl_val (want_no rfl) (some 11) rfl (.int .u64 (x (j))) (run_ixA 69 5 22 Tryd.underlying69 inz22 (fun _ => by kernel_rfl) _ _ rfl (w64 x) (by kernel_rfl) .i64 (j) (by kernel_rfl) (by omega) rfl) ?_
    refine pl_val (want_no rfl) (some 5) rfl (.int .i64 (j : Int)) (fun _ => by kernel_rfl) ?_
    refine pl_val (want_no rfl) (some 6) rfl (.int .u64 (x (j))) (fun _ => by kernel_rfl) ?_
    refine pl_nil ?_
    refine au_then ?_
    refine wp_seq ?_
    refine rg_lit ?_
    refine pl_val (want_no rfl) (some 12) rfl (.int .u64 (x (j))) (fun _ => by kernel_rfl) ?_
    refine pl_val (want_no rfl) (some 13) rfl (.int .u64 (cy 26 x j)) (fun _ => by kernel_rfl) ?_
    refine pl_val (want_no rfl) (some 14) rfl (.int .u64 (ua (x (j)) (cy 26 x j))) (fun _ => by kernel_rfl) ?_
    refine pl_val (want_no rfl) (some 6) rfl (.int .u64 (ua (x (j)) (cy 26 x j))) (fun _ => by kernel_rfl) ?_
    refine pl_nil ?_
    refine au_then ?_
    refine rg_lit ?_
    refine pl_val (want_no rfl) (some 15) rfl (.int .i64 (j : Int)) (fun _ => by kernel_rfl) ?_
    refine pl_val (want_no rfl) (some 16) rfl (.int .u64 (ua (x (j)) (cy 26 x j))) (fun _ => by kernel_rfl) ?_
    refine pl_val (want_no rfl) (some 17) rfl (.int .u64 (un (ua (x (j)) (cy 26 x j)) 67108863)) (fun _ => by kernel_rfl) ?_
    refine pl_val (want_no rfl) (some 18) rfl (.int .u64 (ua (x (j)) (cy 26 x j))) (fun _ => by kernel_rfl) ?_
    refine pl_val (want_no rfl) (some 19) rfl (.int .u64 (sr (ua (x (j)) (cy 26 x j)) 26)) (fun _ => by kernel_rfl) ?_
    refine pl_val (want_no rfl) (some 20) rfl (.pointer (some ⟨g1, j, none⟩)) (run_ix1 69 5 22 Tryd.underlying69 inz22 _ _ rfl g1 (by kernel_rfl) .i64 (j) (by kernel_rfl) (by omega)) ?_
    refine pl_put1 M (want_no rfl) rfl 22 _ _ rfl 0 g1 j (by kernel_rfl) 5 69 (w64 (st 67108863 26 x j)) rfl (.int .u64 (un (ua (x (j)) (cy 26 x j)) 67108863)) (w64 (upd (st 67108863 26 x j) j (un (ua (x (j)) (cy 26 x j)) 67108863))) (by kernel_rfl) inz22 (by omega) rfl rfl (fun j _ => put_w64 _ _ _ j) ?_
    intro u3 M
    replace M : Mem ⟨w, []⟩ [⟨g1, .cells (av 5 (w64 (upd (st 67108863 26 x j) j (un (ua (x (j)) (cy 26 x j)) 67108863)))) 69⟩, ⟨g2, .cells (av 5 (w64 (fun _ => 0))) 69⟩] u3 := M
    refine pl_val (want_no rfl) (some 4) rfl (.int .u64 (sr (ua (x (j)) (cy 26 x j)) 26)) (fun _ => by kernel_rfl) ?_
    refine pl_nil ?_
    refine au_block ?_
    refine au_then ?_
    refine rg_lit ?_
    refine pl_val (want_no rfl) (some 21) rfl (.int .i64 ((j + 1 : Nat) : Int)) (fun w => Eq.trans (b := .ok (.value (.int .i64 (IntKind.wrap .i64 ((j : Int) + 1)))) w) (by kernel_rfl) (by rw [wrap64 (by omega) (by omega)]; congr 3)) ?_
    refine pl_val (want_no rfl) (some 8) rfl (.int .i64 ((j + 1 : Nat) : Int)) (fun _ => by kernel_rfl) ?_
    refine pl_nil ?_
    refine au_then ?_
    exact ⟨fun k_ => ([.int .i64 (j : Int), .int .u64 (ua (x (j)) (cy 26 x j)), undef, undef, .bool true, .int .i64 (j : Int), .int .u64 (x (j)), .int .u64 (x (j)), .int .u64 (cy 26 x j), .int .u64 (ua (x (j)) (cy 26 x j)), .int .i64 (j : Int), .int .u64 (ua (x (j)) (cy 26 x j)), .int .u64 (un (ua (x (j)) (cy 26 x j)) 67108863), .int .u64 (ua (x (j)) (cy 26 x j)), .int .u64 (sr (ua (x (j)) (cy 26 x j)) 26), .pointer (some ⟨g1, j, none⟩), .int .i64 ((j + 1 : Nat) : Int)] : List Value).getD (k_ - 5) undef, by kernel_rfl, M⟩
  · intro a u0 hI
    obtain ⟨v1, rfl, M⟩ := hI
    refine wp_seq ?_
    refine rg_lit ?_
    refine pl_val (want_no rfl) (some 9) rfl (.bool false) (fun w => Eq.trans (b := .ok (.value (.bool (decide (5 < 5)))) w) (by kernel_rfl) (by rw [decide_eq_false (by omega)])) ?_
    refine pl_nil ?_
    refine au_then ?_
    refine wp_seq ?_
    refine wp_cond_false (by kernel_rfl) ?_
    refine wp_exit ?_
    refine au_then_exit ?_
    refine au_then_exit ?_
    refine au_block_exit ?_
    refine au_then ?_
    refine wp_seq ?_
    refine rg_lit ?_
    refine pl_load M (want_no rfl) (some 22) rfl 69 _ rfl 0 g1 0 (by kernel_rfl) 5 69 (w64 (st 67108863 26 x 5)) rfl 5 (w64 (st 67108863 26 x 5)) (fun j _ => by rw [Nat.zero_add]) (by decide) _ Tryd.underlying69 rfl inz69 ?_
    refine pl_val (want_no rfl) (some 23) rfl (.int .u64 (cy 26 x 5)) (fun _ => by kernel_rfl) ?_
    refine pl_put M (want_no rfl) rfl 69 _ _ rfl 1 g2 0 (by kernel_rfl) 5 69 (w64 (fun _ => 0)) rfl 5 (w64 (st 67108863 26 x 5)) (w64 (st 67108863 26 x 5)) (by kernel_rfl) inz69 (by decide) (fun _ _ => rfl) (fun j hj => by rw [if_pos (by omega), Nat.sub_zero]) ?_
    intro u4 M
    replace M : Mem ⟨w, []⟩ [⟨g1, .cells (av 5 (w64 (st 67108863 26 x 5))) 69⟩, ⟨g2, .cells (av 5 (w64 (st 67108863 26 x 5))) 69⟩] u4 := M
    refine pl_val (want_no rfl) (some 3) rfl (.int .u64 (cy 26 x 5)) (fun _ => by kernel_rfl) ?_
    refine pl_nil ?_
    refine au_then ?_
    refine wp_ret ?_
    exact bodyPost_ret (v := .tuple #[.agg (av 5 (w64 (st 67108863 26 x 5))), .int .u64 (cy 26 x 5)]) (results_cell_tmp Tryd.results60 _ _ g2 69 (av 5 (w64 (st 67108863 26 x 5))) (0, 0) _ _ (by kernel_rfl) (by kernel_rfl) (M.get 1 rfl) Tryd.underlying69 rfl (by rw [av_size]; exact inz69)) (by kernel_rfl) ⟨rfl, below_grown M.old⟩

def cr1 (a : Nat → Int) : Nat → Int := upd (s5 a) 0 (ua (s5 a 0) (um (c5 a) 5))
def crr (a : Nat → Int) : Nat → (Nat → Int)
  | 0 => a
  | j + 1 => cr1 (crr a j)
def crF (a : Nat → Int) : Nat → Int := cr1 (cr1 a)

set_option maxRecDepth 100000 in
set_option maxHeartbeats 4000000 in
theorem c_carried (x : Nat → Int) (w : World) (hL : Laid w)  :
    Calls Tryd.prog 59 #[.agg (av 5 (w64 x))] w fun r w' => r = .returned (.agg (av 5 (w64 (crF x)))) ∧ Below w.heap.size w w' := by
  go_enter Tryd.func59, Tryd.ntmps59
  have M := Mem.start hL
  refine wp_seq ?_
  refine rg_lit ?_
  refine pl_new M (want_no rfl) (some 1) rfl (.cells (av 5 (w64 x)) 69) (fun _ => by kernel_rfl) ?_
  intro g1 u1 M
  replace M : Mem ⟨w, []⟩ [⟨g1, .cells (av 5 (w64 x)) 69⟩] u1 := M
  refine pl_new M (want_no rfl) (some 2) rfl (.cells (av 5 (w64 (fun _ => 0))) 69) (fun _ => by kernel_rfl) ?_
  intro g2 u2 M
  replace M : Mem ⟨w, []⟩ [⟨g1, .cells (av 5 (w64 x)) 69⟩, ⟨g2, .cells (av 5 (w64 (fun _ => 0))) 69⟩] u2 := M
  refine pl_nil ?_
  refine au_then ?_
  refine wp_seq ?_
  refine wp_seq ?_
  refine rg_lit ?_
  refine pl_val (want_no rfl) (some 5) rfl (.int .i64 0) (fun _ => by kernel_rfl) ?_
  refine pl_nil ?_
  refine au_then ?_
  refine wp_block ?_
  refine au_loop (fun j a w' => ∃ v1 : Nat → Value, a = ⟨#[.agg (av 5 (w64 x)), .pointer (some ⟨g1, 0, none⟩), .pointer (some ⟨g2, 0, none⟩), v1 3, v1 4, .int .i64 (j : Int), v1 6, v1 7, v1 8, v1 9, v1 10, v1 11, v1 12, v1 13, v1 14, v1 15, v1 16, v1 17, v1 18, v1 19, undef], []⟩ ∧ Mem ⟨w, []⟩ [⟨g1, .cells (av 5 (w64 (crr x j))) 69⟩, ⟨g2, .cells (av 5 (w64 (fun _ => 0))) 69⟩] w') 2 ⟨fun k_ => ([undef, undef, undef, undef, undef, undef, undef, undef, undef, undef, undef, undef, undef, undef, undef, undef, undef] : List Value).getD (k_ - 3) undef, by kernel_rfl, M⟩ ?_ ?_
  · intro j a u0 hj hI
    obtain ⟨v1, rfl, M⟩ := hI
    refine wp_seq ?_
    refine rg_lit ?_
    refine pl_val (want_no rfl) (some 6) rfl (.bool true) (fun w => Eq.trans (b := .ok (.value (.bool (decide ((j : Int) < 2)))) w) (by kernel_rfl) (by rw [decide_eq_true (by omega)])) ?_
    refine pl_nil ?_
    refine au_then ?_
    refine wp_seq ?_
    refine wp_cond_true (by kernel_rfl) ?_
    refine wp_skip ?_
    refine au_then ?_
    refine wp_seq ?_
    refine wp_block ?_
    refine wp_seq ?_
    refine rg_lit ?_
    refine pl_load M (want_no rfl) (some 8) rfl 69 _ rfl 0 g1 0 (by kernel_rfl) 5 69 (w64 (crr x j)) rfl 5 (w64 (crr x j)) (fun j _ => by rw [Nat.zero_add]) (by decide) _ Tryd.underlying69 rfl inz69 ?_
    refine pl_call M (want_no rfl) (some 9) rfl 60 #[.agg (av 5 (w64 (crr x j)))] (.tuple #[.agg (av 5 (w64 (s5 (crr x j)))), .int .u64 (c5 (crr x j))]) (fun _ => by kernel_rfl) (fun w M => c_settled (crr x j) w M.laid) ?_
    intro u3 M
    refine pl_val (want_no rfl) (some 7) rfl (.tuple #[.agg (av 5 (w64 (s5 (crr x j)))), .int .u64 (c5 (crr x j))]) (fun _ => by kernel_rfl) ?_
    refine pl_val (want_no rfl) (some 10) rfl (.agg (av 5 (w64 (s5 (crr x j))))) (fun _ => by kernel_rfl) ?_
    refine pl_val (want_no rfl) (some 11) rfl (.int .u64 (c5 (crr x j))) (fun _ => by kernel_rfl) ?_
    refine pl_new M (want_no rfl) (some 3) rfl (.cells (av 5 (w64 (fun _ => 0))) 69) (fun _ => by kernel_rfl) ?_
    intro g3 u4 M
    replace M : Mem ⟨w, []⟩ [⟨g1, .cells (av 5 (w64 (crr x j))) 69⟩, ⟨g2, .cells (av 5 (w64 (fun _ => 0))) 69⟩, ⟨g3, .cells (av 5 (w64 (fun _ => 0))) 69⟩] u4 := M
    refine pl_put M (want_no rfl) rfl 69 _ _ rfl 2 g3 0 (by kernel_rfl) 5 69 (w64 (fun _ => 0)) rfl 5 (w64 (s5 (crr x j))) (w64 (s5 (crr x j))) (by kernel_rfl) inz69 (by decide) (fun _ _ => rfl) (fun j hj => by rw [if_pos (by omega), Nat.sub_zero]) ?_
    intro u5 M
    replace M : Mem ⟨w, []⟩ [⟨g1, .cells (av 5 (w64 (crr x j))) 69⟩, ⟨g2, .cells (av 5 (w64 (fun _ => 0))) 69⟩, ⟨g3, .cells (av 5 (w64 (s5 (crr x j)))) 69⟩] u5 := M
    refine pl_val (want_no rfl) (some 4) rfl (.int .u64 (c5 (crr x j))) (fun _ => by kernel_rfl) ?_
    refine pl_nil ?_
    refine au_then ?_
    refine wp_seq ?_
    refine rg_lit ?_
    refine pl_val (want_no rfl) (some 12) rfl (.pointer (some ⟨g3, 0, none⟩)) (fun _ => by kernel_rfl) ?_
    refine pl_cell M (want_no rfl) (some 13) rfl 22 _ rfl g3 0 (by kernel_rfl) (.int .u64 ((s5 (crr x j)) 0)) (fun _ => by kernel_rfl) (fun w M => M.cell 2 rfl (by decide) rfl) ?_
    refine pl_val (want_no rfl) (some 14) rfl (.int .u64 (c5 (crr x j))) (fun _ => by kernel_rfl) ?_
    refine pl_val (want_no rfl) (some 15) rfl (.int .u64 (um (c5 (crr x j)) 5)) (fun _ => by kernel_rfl) ?_
    refine pl_val (want_no rfl) (some 16) rfl (.int .u64 (ua ((s5 (crr x j)) 0) (um (c5 (crr x j)) 5))) (fun _ => by kernel_rfl) ?_
    refine pl_val (want_no rfl) (some 17) rfl (.pointer (some ⟨g3, 0, none⟩)) (fun _ => by kernel_rfl) ?_
    refine pl_put1 M (want_no rfl) rfl 22 _ _ rfl 2 g3 0 (by kernel_rfl) 5 69 (w64 (s5 (crr x j))) rfl (.int .u64 (ua ((s5 (crr x j)) 0) (um (c5 (crr x j)) 5))) (w64 (upd (s5 (crr x j)) 0 (ua ((s5 (crr x j)) 0) (um (c5 (crr x j)) 5)))) (by kernel_rfl) inz22 (by decide) rfl rfl (fun j _ => put_w64 _ _ _ j) ?_
    intro u6 M
    replace M : Mem ⟨w, []⟩ [⟨g1, .cells (av 5 (w64 (crr x j))) 69⟩, ⟨g2, .cells (av 5 (w64 (fun _ => 0))) 69⟩, ⟨g3, .cells (av 5 (w64 (upd (s5 (crr x j)) 0 (ua ((s5 (crr x j)) 0) (um (c5 (crr x j)) 5))))) 69⟩] u6 := M
    refine pl_nil ?_
    refine au_then ?_
    refine rg_lit ?_
    refine pl_load M (want_no rfl) (some 18) rfl 69 _ rfl 2 g3 0 (by kernel_rfl) 5 69 (w64 (upd (s5 (crr x j)) 0 (ua ((s5 (crr x j)) 0) (um (c5 (crr x j)) 5)))) rfl 5 (w64 (upd (s5 (crr x j)) 0 (ua ((s5 (crr x j)) 0) (um (c5 (crr x j)) 5)))) (fun j _ => by rw [Nat.zero_add]) (by decide) _ Tryd.underlying69 rfl inz69 ?_
    refine pl_put M (want_no rfl) rfl 69 _ _ rfl 0 g1 0 (by kernel_rfl) 5 69 (w64 (crr x j)) rfl 5 (w64 (upd (s5 (crr x j)) 0 (ua ((s5 (crr x j)) 0) (um (c5 (crr x j)) 5)))) (w64 (upd (s5 (crr x j)) 0 (ua ((s5 (crr x j)) 0) (um (c5 (crr x j)) 5)))) (by kernel_rfl) inz69 (by decide) (fun _ _ => rfl) (fun j hj => by rw [if_pos (by omega), Nat.sub_zero]) ?_
    intro u7 M
    replace M : Mem ⟨w, []⟩ [⟨g1, .cells (av 5 (w64 (upd (s5 (crr x j)) 0 (ua ((s5 (crr x j)) 0) (um (c5 (crr x j)) 5))))) 69⟩, ⟨g2, .cells (av 5 (w64 (fun _ => 0))) 69⟩, ⟨g3, .cells (av 5 (w64 (upd (s5 (crr x j)) 0 (ua ((s5 (crr x j)) 0) (um (c5 (crr x j)) 5))))) 69⟩] u7 := M
    refine pl_nil ?_
    refine au_block ?_
    refine au_then ?_
    refine rg_lit ?_
    refine pl_val (want_no rfl) (some 19) rfl (.int .i64 ((j + 1 : Nat) : Int)) (fun w => Eq.trans (b := .ok (.value (.int .i64 (IntKind.wrap .i64 ((j : Int) + 1)))) w) (by kernel_rfl) (by rw [wrap64 (by omega) (by omega)]; congr 3)) ?_
    refine pl_val (want_no rfl) (some 5) rfl (.int .i64 ((j + 1 : Nat) : Int)) (fun _ => by kernel_rfl) ?_
    refine pl_nil ?_
    refine au_then ?_
    exact ⟨fun k_ => ([.pointer (some ⟨g3, 0, none⟩), .int .u64 (c5 (crr x j)), undef, .bool true, .tuple #[.agg (av 5 (w64 (s5 (crr x j)))), .int .u64 (c5 (crr x j))], .agg (av 5 (w64 (crr x j))), .tuple #[.agg (av 5 (w64 (s5 (crr x j)))), .int .u64 (c5 (crr x j))], .agg (av 5 (w64 (s5 (crr x j)))), .int .u64 (c5 (crr x j)), .pointer (some ⟨g3, 0, none⟩), .int .u64 ((s5 (crr x j)) 0), .int .u64 (c5 (crr x j)), .int .u64 (um (c5 (crr x j)) 5), .int .u64 (ua ((s5 (crr x j)) 0) (um (c5 (crr x j)) 5)), .pointer (some ⟨g3, 0, none⟩), .agg (av 5 (w64 (upd (s5 (crr x j)) 0 (ua ((s5 (crr x j)) 0) (um (c5 (crr x j)) 5))))), .int .i64 ((j + 1 : Nat) : Int)] : List Value).getD (k_ - 3) undef, by kernel_rfl, M.drop (.cons_cons _ (.cons_cons _ (.cons _ (.slnil))))⟩
  · intro a u0 hI
    obtain ⟨v1, rfl, M⟩ := hI
    refine wp_seq ?_
    refine rg_lit ?_
    refine pl_val (want_no rfl) (some 6) rfl (.bool false) (fun w => Eq.trans (b := .ok (.value (.bool (decide (2 < 2)))) w) (by kernel_rfl) (by rw [decide_eq_false (by omega)])) ?_
    refine pl_nil ?_
    refine au_then ?_
    refine wp_seq ?_
    refine wp_cond_false (by kernel_rfl) ?_
    refine wp_exit ?_
    refine au_then_exit ?_
    refine au_then_exit ?_
    refine au_block_exit ?_
    refine au_then ?_
    refine wp_seq ?_
    refine rg_lit ?_
    refine pl_load M (want_no rfl) (some 20) rfl 69 _ rfl 0 g1 0 (by kernel_rfl) 5 69 (w64 (crr x 2)) rfl 5 (w64 (crr x 2)) (fun j _ => by rw [Nat.zero_add]) (by decide) _ Tryd.underlying69 rfl inz69 ?_
    refine pl_put M (want_no rfl) rfl 69 _ _ rfl 1 g2 0 (by kernel_rfl) 5 69 (w64 (fun _ => 0)) rfl 5 (w64 (crr x 2)) (w64 (crr x 2)) (by kernel_rfl) inz69 (by decide) (fun _ _ => rfl) (fun j hj => by rw [if_pos (by omega), Nat.sub_zero]) ?_
    intro u8 M
    replace M : Mem ⟨w, []⟩ [⟨g1, .cells (av 5 (w64 (crr x 2))) 69⟩, ⟨g2, .cells (av 5 (w64 (crr x 2))) 69⟩] u8 := M
    refine pl_nil ?_
    refine au_then ?_
    refine wp_ret ?_
    exact bodyPost_ret (v := .agg (av 5 (w64 (crr x 2)))) (results_cell_row Tryd.results59 _ _ g2 69 (av 5 (w64 (crr x 2))) (0, 0) _ (by kernel_rfl) (M.get 1 rfl) Tryd.underlying69 rfl (by rw [av_size]; exact inz69)) (by kernel_rfl) ⟨rfl, below_grown M.old⟩

def pls (a b : Nat → Int) : Nat → (Nat → Int)
  | 0 => a
  | j + 1 => upd (pls a b j) j (ua (pls a b j j) (b j))
def plF (a b : Nat → Int) : Nat → Int := pls a b 5

set_option maxRecDepth 100000 in
set_option maxHeartbeats 4000000 in
theorem c_plus (x y : Nat → Int) (w : World) (hL : Laid w)  :
    Calls Tryd.prog 41 #[.agg (av 5 (w64 x)), .agg (av 5 (w64 y))] w fun r w' => r = .returned (.agg (av 5 (w64 (plF x y)))) ∧ Below w.heap.size w w' := by
  go_enter Tryd.func41, Tryd.ntmps41
  have M := Mem.start hL
  refine wp_seq ?_
  refine rg_lit ?_
  refine pl_new M (want_no rfl) (some 2) rfl (.cells (av 5 (w64 x)) 69) (fun _ => by kernel_rfl) ?_
  intro g1 u1 M
  replace M : Mem ⟨w, []⟩ [⟨g1, .cells (av 5 (w64 x)) 69⟩] u1 := M
  refine pl_new M (want_no rfl) (some 3) rfl (.cells (av 5 (w64 y)) 69) (fun _ => by kernel_rfl) ?_
  intro g2 u2 M
  replace M : Mem ⟨w, []⟩ [⟨g1, .cells (av 5 (w64 x)) 69⟩, ⟨g2, .cells (av 5 (w64 y)) 69⟩] u2 := M
  refine pl_new M (want_no rfl) (some 4) rfl (.cells (av 5 (w64 (fun _ => 0))) 69) (fun _ => by kernel_rfl) ?_
  intro g3 u3 M
  replace M : Mem ⟨w, []⟩ [⟨g1, .cells (av 5 (w64 x)) 69⟩, ⟨g2, .cells (av 5 (w64 y)) 69⟩, ⟨g3, .cells (av 5 (w64 (fun _ => 0))) 69⟩] u3 := M
  refine pl_nil ?_
  refine au_then ?_
  refine wp_seq ?_
  refine wp_seq ?_
  refine rg_lit ?_
  refine pl_val (want_no rfl) (some 6) rfl (.int .i64 0) (fun _ => by kernel_rfl) ?_
  refine pl_nil ?_
  refine au_then ?_
  refine wp_block ?_
  refine au_loop (fun j a w' => ∃ v1 : Nat → Value, a = ⟨#[.agg (av 5 (w64 x)), .agg (av 5 (w64 y)), .pointer (some ⟨g1, 0, none⟩), .pointer (some ⟨g2, 0, none⟩), .pointer (some ⟨g3, 0, none⟩), v1 5, .int .i64 (j : Int), v1 7, v1 8, v1 9, v1 10, v1 11, v1 12, v1 13, v1 14, v1 15, v1 16, v1 17, undef], []⟩ ∧ Mem ⟨w, []⟩ [⟨g1, .cells (av 5 (w64 (pls x y j))) 69⟩, ⟨g2, .cells (av 5 (w64 y)) 69⟩, ⟨g3, .cells (av 5 (w64 (fun _ => 0))) 69⟩] w') 5 ⟨fun k_ => ([undef, undef, undef, undef, undef, undef, undef, undef, undef, undef, undef, undef, undef] : List Value).getD (k_ - 5) undef, by kernel_rfl, M⟩ ?_ ?_
  · intro j a u0 hj hI
    obtain ⟨v1, rfl, M⟩ := hI
    refine wp_seq ?_
    refine rg_lit ?_
    refine pl_val (want_no rfl) (some 7) rfl (.bool true) (fun w => Eq.trans (b := .ok (.value (.bool (decide ((j : Int) < 5)))) w) (by kernel_rfl) (by rw [decide_eq_true (by omega)])) ?_
    refine pl_nil ?_
    refine au_then ?_
    refine wp_seq ?_
    refine wp_cond_true (by kernel_rfl) ?_
    refine wp_skip ?_
    refine au_then ?_
    refine wp_seq ?_
    refine wp_block ?_
    refine wp_seq ?_
    refine rg_lit ?_
    refine pl_val (want_no rfl) (some 8) rfl (.int .i64 (j : Int)) (fun _ => by kernel_rfl) ?_
    refine pl_val (want_no rfl) (some 5) rfl (.int .i64 (j : Int)) (fun _ => by kernel_rfl) ?_
    refine pl_nil ?_
    refine au_then ?_
    refine rg_tail M 8 (by kernel_rfl) (by kernel_rfl) ?_
    simp only [List.take_succ_cons, List.take_zero]
    refine k_val (want_no rfl) (some 9) rfl (.int .i64 (j : Int)) (fun _ => by kernel_rfl) ?_
    refine k_val (want_no rfl) (some 10) rfl (.pointer (some ⟨g1, j, none⟩)) (run_ix1 69 5 22 Tryd.underlying69 inz22 _ _ rfl g1 (by kernel_rfl) .i64 (j) (by kernel_rfl) (by omega)) ?_
    refine k_cell M (want_no rfl) (some 11) rfl 22 _ rfl g1 j (by kernel_rfl) (.int .u64 ((pls x y j) j)) (fun _ => by kernel_rfl) (fun w M => M.cell 0 rfl (by omega) rfl) ?_
    refine k_val (want_no rfl) (some 12) rfl (.int .i64 (j : Int)) (fun _ => by kernel_rfl) ?_
    refine k_val (want_no rfl) (some 13) rfl (.pointer (some ⟨g2, j, none⟩)) (run_ix1 69 5 22 Tryd.underlying69 inz22 _ _ rfl g2 (by kernel_rfl) .i64 (j) (by kernel_rfl) (by omega)) ?_
    refine k_cell M (want_no rfl) (some 14) rfl 22 _ rfl g2 j (by kernel_rfl) (.int .u64 (y j)) (fun _ => by kernel_rfl) (fun w M => M.cell 1 rfl (by omega) rfl) ?_
    refine k_val (want_no rfl) (some 15) rfl (.int .u64 (ua ((pls x y j) j) (y j))) (fun _ => by kernel_rfl) ?_
    refine k_val (want_no rfl) (some 16) rfl (.pointer (some ⟨g1, j, none⟩)) (run_ix1 69 5 22 Tryd.underlying69 inz22 _ _ rfl g1 (by kernel_rfl) .i64 (j) (by kernel_rfl) (by omega)) ?_
    refine kl_nil ?_
    intro u4 M
    replace M : Mem ⟨w, []⟩ [⟨g1, .cells (av 5 (w64 (pls x y j))) 69⟩, ⟨g2, .cells (av 5 (w64 y)) 69⟩, ⟨g3, .cells (av 5 (w64 (fun _ => 0))) 69⟩] u4 := M
    refine pl_put1 M (want_no rfl) rfl 22 _ _ rfl 0 g1 j (by kernel_rfl) 5 69 (w64 (pls x y j)) rfl (.int .u64 (ua ((pls x y j) j) (y j))) (w64 (upd (pls x y j) j (ua ((pls x y j) j) (y j)))) (by kernel_rfl) inz22 (by omega) rfl rfl (fun j _ => put_w64 _ _ _ j) ?_
    intro u5 M
    replace M : Mem ⟨w, []⟩ [⟨g1, .cells (av 5 (w64 (upd (pls x y j) j (ua ((pls x y j) j) (y j))))) 69⟩, ⟨g2, .cells (av 5 (w64 y)) 69⟩, ⟨g3, .cells (av 5 (w64 (fun _ => 0))) 69⟩] u5 := M
    refine pl_nil ?_
    refine au_block ?_
    refine au_then ?_
    refine rg_lit ?_
    refine pl_val (want_no rfl) (some 17) rfl (.int .i64 ((j + 1 : Nat) : Int)) (fun w => Eq.trans (b := .ok (.value (.int .i64 (IntKind.wrap .i64 ((j : Int) + 1)))) w) (by kernel_rfl) (by rw [wrap64 (by omega) (by omega)]; congr 3)) ?_
    refine pl_val (want_no rfl) (some 6) rfl (.int .i64 ((j + 1 : Nat) : Int)) (fun _ => by kernel_rfl) ?_
    refine pl_nil ?_
    refine au_then ?_
    exact ⟨fun k_ => ([.int .i64 (j : Int), undef, .bool true, .int .i64 (j : Int), .int .i64 (j : Int), .pointer (some ⟨g1, j, none⟩), .int .u64 ((pls x y j) j), .int .i64 (j : Int), .pointer (some ⟨g2, j, none⟩), .int .u64 (y j), .int .u64 (ua ((pls x y j) j) (y j)), .pointer (some ⟨g1, j, none⟩), .int .i64 ((j + 1 : Nat) : Int)] : List Value).getD (k_ - 5) undef, by kernel_rfl, M⟩
  · intro a u0 hI
    obtain ⟨v1, rfl, M⟩ := hI
    refine wp_seq ?_
    refine rg_lit ?_
    refine pl_val (want_no rfl) (some 7) rfl (.bool false) (fun w => Eq.trans (b := .ok (.value (.bool (decide (5 < 5)))) w) (by kernel_rfl) (by rw [decide_eq_false (by omega)])) ?_
    refine pl_nil ?_
    refine au_then ?_
    refine wp_seq ?_
    refine wp_cond_false (by kernel_rfl) ?_
    refine wp_exit ?_
    refine au_then_exit ?_
    refine au_then_exit ?_
    refine au_block_exit ?_
    refine au_then ?_
    refine wp_seq ?_
    refine rg_lit ?_
    refine pl_load M (want_no rfl) (some 18) rfl 69 _ rfl 0 g1 0 (by kernel_rfl) 5 69 (w64 (pls x y 5)) rfl 5 (w64 (pls x y 5)) (fun j _ => by rw [Nat.zero_add]) (by decide) _ Tryd.underlying69 rfl inz69 ?_
    refine pl_put M (want_no rfl) rfl 69 _ _ rfl 2 g3 0 (by kernel_rfl) 5 69 (w64 (fun _ => 0)) rfl 5 (w64 (pls x y 5)) (w64 (pls x y 5)) (by kernel_rfl) inz69 (by decide) (fun _ _ => rfl) (fun j hj => by rw [if_pos (by omega), Nat.sub_zero]) ?_
    intro u6 M
    replace M : Mem ⟨w, []⟩ [⟨g1, .cells (av 5 (w64 (pls x y 5))) 69⟩, ⟨g2, .cells (av 5 (w64 y)) 69⟩, ⟨g3, .cells (av 5 (w64 (pls x y 5))) 69⟩] u6 := M
    refine pl_nil ?_
    refine au_then ?_
    refine wp_ret ?_
    exact bodyPost_ret (v := .agg (av 5 (w64 (pls x y 5)))) (results_cell_row Tryd.results41 _ _ g3 69 (av 5 (w64 (pls x y 5))) (0, 0) _ (by kernel_rfl) (M.get 2 rfl) Tryd.underlying69 rfl (by rw [av_size]; exact inz69)) (by kernel_rfl) ⟨rfl, below_grown M.old⟩

def mo5 (a : Nat → Int) : Nat → Int := upd a 0 (ua (a 0) 5)
def lsF (a : Nat → Int) : Nat → Int := s5 (upd a 0 (ua (a 0) (um (c5 (mo5 a)) 5)))

set_option maxRecDepth 100000 in
set_option maxHeartbeats 4000000 in
theorem c_least (x : Nat → Int) (w : World) (hL : Laid w)  :
    Calls Tryd.prog 44 #[.agg (av 5 (w64 x))] w fun r w' => r = .returned (.agg (av 5 (w64 (lsF x)))) ∧ Below w.heap.size w w' := by
  go_enter Tryd.func44, Tryd.ntmps44
  have M := Mem.start hL
  refine wp_seq ?_
  refine rg_lit ?_
  refine pl_new M (want_no rfl) (some 1) rfl (.cells (av 5 (w64 x)) 69) (fun _ => by kernel_rfl) ?_
  intro g1 u1 M
  replace M : Mem ⟨w, []⟩ [⟨g1, .cells (av 5 (w64 x)) 69⟩] u1 := M
  refine pl_new M (want_no rfl) (some 2) rfl (.cells (av 5 (w64 (fun _ => 0))) 69) (fun _ => by kernel_rfl) ?_
  intro g2 u2 M
  replace M : Mem ⟨w, []⟩ [⟨g1, .cells (av 5 (w64 x)) 69⟩, ⟨g2, .cells (av 5 (w64 (fun _ => 0))) 69⟩] u2 := M
  refine pl_nil ?_
  refine au_then ?_
  refine wp_seq ?_
  refine rg_lit ?_
  refine pl_load M (want_no rfl) (some 6) rfl 69 _ rfl 0 g1 0 (by kernel_rfl) 5 69 (w64 x) rfl 5 (w64 x) (fun j _ => by rw [Nat.zero_add]) (by decide) _ Tryd.underlying69 rfl inz69 ?_
  refine pl_new M (want_no rfl) (some 3) rfl (.cells (av 5 (w64 (fun _ => 0))) 69) (fun _ => by kernel_rfl) ?_
  intro g3 u3 M
  replace M : Mem ⟨w, []⟩ [⟨g1, .cells (av 5 (w64 x)) 69⟩, ⟨g2, .cells (av 5 (w64 (fun _ => 0))) 69⟩, ⟨g3, .cells (av 5 (w64 (fun _ => 0))) 69⟩] u3 := M
  refine pl_put M (want_no rfl) rfl 69 _ _ rfl 2 g3 0 (by kernel_rfl) 5 69 (w64 (fun _ => 0)) rfl 5 (w64 x) (w64 x) (by kernel_rfl) inz69 (by decide) (fun _ _ => rfl) (fun j hj => by rw [if_pos (by omega), Nat.sub_zero]) ?_
  intro u4 M
  replace M : Mem ⟨w, []⟩ [⟨g1, .cells (av 5 (w64 x)) 69⟩, ⟨g2, .cells (av 5 (w64 (fun _ => 0))) 69⟩, ⟨g3, .cells (av 5 (w64 x)) 69⟩] u4 := M
  refine pl_nil ?_
  refine au_then ?_
  refine wp_seq ?_
  refine rg_lit ?_
  refine pl_val (want_no rfl) (some 7) rfl (.pointer (some ⟨g3, 0, none⟩)) (fun _ => by kernel_rfl) ?_
  refine pl_cell M (want_no rfl) (some 8) rfl 22 _ rfl g3 0 (by kernel_rfl) (.int .u64 (x 0)) (fun _ => by kernel_rfl) (fun w M => M.cell 2 rfl (by decide) rfl) ?_
  refine pl_val (want_no rfl) (some 9) rfl (.int .u64 (ua (x 0) 5)) (fun _ => by kernel_rfl) ?_
  refine pl_val (want_no rfl) (some 10) rfl (.pointer (some ⟨g3, 0, none⟩)) (fun _ => by kernel_rfl) ?_
  refine pl_put1 M (want_no rfl) rfl 22 _ _ rfl 2 g3 0 (by kernel_rfl) 5 69 (w64 x) rfl (.int .u64 (ua (x 0) 5)) (w64 (upd x 0 (ua (x 0) 5))) (by kernel_rfl) inz22 (by decide) rfl rfl (fun j _ => put_w64 _ _ _ j) ?_
  intro u5 M
  replace M : Mem ⟨w, []⟩ [⟨g1, .cells (av 5 (w64 x)) 69⟩, ⟨g2, .cells (av 5 (w64 (fun _ => 0))) 69⟩, ⟨g3, .cells (av 5 (w64 (upd x 0 (ua (x 0) 5)))) 69⟩] u5 := M
  refine pl_nil ?_
  replace M : Mem ⟨w, []⟩ [⟨g1, .cells (av 5 (w64 x)) 69⟩, ⟨g2, .cells (av 5 (w64 (fun _ => 0))) 69⟩, ⟨g3, .cells (av 5 (w64 (mo5 x))) 69⟩] u5 := M
  refine au_then ?_
  refine wp_seq ?_
  refine rg_lit ?_
  refine pl_load M (want_no rfl) (some 12) rfl 69 _ rfl 2 g3 0 (by kernel_rfl) 5 69 (w64 (mo5 x)) rfl 5 (w64 (mo5 x)) (fun j _ => by rw [Nat.zero_add]) (by decide) _ Tryd.underlying69 rfl inz69 ?_
  refine pl_call M (want_no rfl) (some 13) rfl 60 #[.agg (av 5 (w64 (mo5 x)))] (.tuple #[.agg (av 5 (w64 (s5 (mo5 x)))), .int .u64 (c5 (mo5 x))]) (fun _ => by kernel_rfl) (fun w M => c_settled (mo5 x) w M.laid) ?_
  intro u6 M
  refine pl_val (want_no rfl) (some 11) rfl (.tuple #[.agg (av 5 (w64 (s5 (mo5 x)))), .int .u64 (c5 (mo5 x))]) (fun _ => by kernel_rfl) ?_
  refine pl_val (want_no rfl) (some 14) rfl (.agg (av 5 (w64 (s5 (mo5 x))))) (fun _ => by kernel_rfl) ?_
  refine pl_val (want_no rfl) (some 15) rfl (.int .u64 (c5 (mo5 x))) (fun _ => by kernel_rfl) ?_
  refine pl_new M (want_no rfl) (some 4) rfl (.cells (av 5 (w64 (fun _ => 0))) 69) (fun _ => by kernel_rfl) ?_
  intro g4 u7 M
  replace M : Mem ⟨w, []⟩ [⟨g1, .cells (av 5 (w64 x)) 69⟩, ⟨g2, .cells (av 5 (w64 (fun _ => 0))) 69⟩, ⟨g3, .cells (av 5 (w64 (mo5 x))) 69⟩, ⟨g4, .cells (av 5 (w64 (fun _ => 0))) 69⟩] u7 := M
  refine pl_put M (want_no rfl) rfl 69 _ _ rfl 3 g4 0 (by kernel_rfl) 5 69 (w64 (fun _ => 0)) rfl 5 (w64 (s5 (mo5 x))) (w64 (s5 (mo5 x))) (by kernel_rfl) inz69 (by decide) (fun _ _ => rfl) (fun j hj => by rw [if_pos (by omega), Nat.sub_zero]) ?_
  intro u8 M
  replace M : Mem ⟨w, []⟩ [⟨g1, .cells (av 5 (w64 x)) 69⟩, ⟨g2, .cells (av 5 (w64 (fun _ => 0))) 69⟩, ⟨g3, .cells (av 5 (w64 (mo5 x))) 69⟩, ⟨g4, .cells (av 5 (w64 (s5 (mo5 x)))) 69⟩] u8 := M
  refine pl_val (want_no rfl) (some 5) rfl (.int .u64 (c5 (mo5 x))) (fun _ => by kernel_rfl) ?_
  refine pl_nil ?_
  refine au_then ?_
  refine wp_seq ?_
  refine rg_lit ?_
  refine pl_val (want_no rfl) (some 16) rfl (.pointer (some ⟨g1, 0, none⟩)) (fun _ => by kernel_rfl) ?_
  refine pl_cell M (want_no rfl) (some 17) rfl 22 _ rfl g1 0 (by kernel_rfl) (.int .u64 (x 0)) (fun _ => by kernel_rfl) (fun w M => M.cell 0 rfl (by decide) rfl) ?_
  refine pl_val (want_no rfl) (some 18) rfl (.int .u64 (c5 (mo5 x))) (fun _ => by kernel_rfl) ?_
  refine pl_val (want_no rfl) (some 19) rfl (.int .u64 (um (c5 (mo5 x)) 5)) (fun _ => by kernel_rfl) ?_
  refine pl_val (want_no rfl) (some 20) rfl (.int .u64 (ua (x 0) (um (c5 (mo5 x)) 5))) (fun _ => by kernel_rfl) ?_
  refine pl_val (want_no rfl) (some 21) rfl (.pointer (some ⟨g1, 0, none⟩)) (fun _ => by kernel_rfl) ?_
  refine pl_put1 M (want_no rfl) rfl 22 _ _ rfl 0 g1 0 (by kernel_rfl) 5 69 (w64 x) rfl (.int .u64 (ua (x 0) (um (c5 (mo5 x)) 5))) (w64 (upd x 0 (ua (x 0) (um (c5 (mo5 x)) 5)))) (by kernel_rfl) inz22 (by decide) rfl rfl (fun j _ => put_w64 _ _ _ j) ?_
  intro u9 M
  replace M : Mem ⟨w, []⟩ [⟨g1, .cells (av 5 (w64 (upd x 0 (ua (x 0) (um (c5 (mo5 x)) 5))))) 69⟩, ⟨g2, .cells (av 5 (w64 (fun _ => 0))) 69⟩, ⟨g3, .cells (av 5 (w64 (mo5 x))) 69⟩, ⟨g4, .cells (av 5 (w64 (s5 (mo5 x)))) 69⟩] u9 := M
  refine pl_nil ?_
  refine au_then ?_
  refine wp_seq ?_
  refine rg_lit ?_
  refine pl_load M (want_no rfl) (some 23) rfl 69 _ rfl 0 g1 0 (by kernel_rfl) 5 69 (w64 (upd x 0 (ua (x 0) (um (c5 (mo5 x)) 5)))) rfl 5 (w64 (upd x 0 (ua (x 0) (um (c5 (mo5 x)) 5)))) (fun j _ => by rw [Nat.zero_add]) (by decide) _ Tryd.underlying69 rfl inz69 ?_
  refine pl_call M (want_no rfl) (some 24) rfl 60 #[.agg (av 5 (w64 (upd x 0 (ua (x 0) (um (c5 (mo5 x)) 5)))))] (.tuple #[.agg (av 5 (w64 (s5 (upd x 0 (ua (x 0) (um (c5 (mo5 x)) 5)))))), .int .u64 (c5 (upd x 0 (ua (x 0) (um (c5 (mo5 x)) 5))))]) (fun _ => by kernel_rfl) (fun w M => c_settled (upd x 0 (ua (x 0) (um (c5 (mo5 x)) 5))) w M.laid) ?_
  intro u10 M
  refine pl_val (want_no rfl) (some 22) rfl (.tuple #[.agg (av 5 (w64 (s5 (upd x 0 (ua (x 0) (um (c5 (mo5 x)) 5)))))), .int .u64 (c5 (upd x 0 (ua (x 0) (um (c5 (mo5 x)) 5))))]) (fun _ => by kernel_rfl) ?_
  refine pl_val (want_no rfl) (some 25) rfl (.agg (av 5 (w64 (s5 (upd x 0 (ua (x 0) (um (c5 (mo5 x)) 5))))))) (fun _ => by kernel_rfl) ?_
  refine pl_val (want_no rfl) (some 26) rfl (.int .u64 (c5 (upd x 0 (ua (x 0) (um (c5 (mo5 x)) 5))))) (fun _ => by kernel_rfl) ?_
  refine pl_put M (want_no rfl) rfl 69 _ _ rfl 0 g1 0 (by kernel_rfl) 5 69 (w64 (upd x 0 (ua (x 0) (um (c5 (mo5 x)) 5)))) rfl 5 (w64 (s5 (upd x 0 (ua (x 0) (um (c5 (mo5 x)) 5))))) (w64 (s5 (upd x 0 (ua (x 0) (um (c5 (mo5 x)) 5))))) (by kernel_rfl) inz69 (by decide) (fun _ _ => rfl) (fun j hj => by rw [if_pos (by omega), Nat.sub_zero]) ?_
  intro u11 M
  replace M : Mem ⟨w, []⟩ [⟨g1, .cells (av 5 (w64 (s5 (upd x 0 (ua (x 0) (um (c5 (mo5 x)) 5)))))) 69⟩, ⟨g2, .cells (av 5 (w64 (fun _ => 0))) 69⟩, ⟨g3, .cells (av 5 (w64 (mo5 x))) 69⟩, ⟨g4, .cells (av 5 (w64 (s5 (mo5 x)))) 69⟩] u11 := M
  refine pl_nil ?_
  refine au_then ?_
  refine wp_seq ?_
  refine rg_lit ?_
  refine pl_load M (want_no rfl) (some 27) rfl 69 _ rfl 0 g1 0 (by kernel_rfl) 5 69 (w64 (s5 (upd x 0 (ua (x 0) (um (c5 (mo5 x)) 5))))) rfl 5 (w64 (s5 (upd x 0 (ua (x 0) (um (c5 (mo5 x)) 5))))) (fun j _ => by rw [Nat.zero_add]) (by decide) _ Tryd.underlying69 rfl inz69 ?_
  refine pl_put M (want_no rfl) rfl 69 _ _ rfl 1 g2 0 (by kernel_rfl) 5 69 (w64 (fun _ => 0)) rfl 5 (w64 (s5 (upd x 0 (ua (x 0) (um (c5 (mo5 x)) 5))))) (w64 (s5 (upd x 0 (ua (x 0) (um (c5 (mo5 x)) 5))))) (by kernel_rfl) inz69 (by decide) (fun _ _ => rfl) (fun j hj => by rw [if_pos (by omega), Nat.sub_zero]) ?_
  intro u12 M
  replace M : Mem ⟨w, []⟩ [⟨g1, .cells (av 5 (w64 (s5 (upd x 0 (ua (x 0) (um (c5 (mo5 x)) 5)))))) 69⟩, ⟨g2, .cells (av 5 (w64 (s5 (upd x 0 (ua (x 0) (um (c5 (mo5 x)) 5)))))) 69⟩, ⟨g3, .cells (av 5 (w64 (mo5 x))) 69⟩, ⟨g4, .cells (av 5 (w64 (s5 (mo5 x)))) 69⟩] u12 := M
  refine pl_nil ?_
  refine au_then ?_
  refine wp_ret ?_
  exact bodyPost_ret (v := .agg (av 5 (w64 (s5 (upd x 0 (ua (x 0) (um (c5 (mo5 x)) 5))))))) (results_cell_row Tryd.results44 _ _ g2 69 (av 5 (w64 (s5 (upd x 0 (ua (x 0) (um (c5 (mo5 x)) 5)))))) (0, 0) _ (by kernel_rfl) (M.get 1 rfl) Tryd.underlying69 rfl (by rw [av_size]; exact inz69)) (by kernel_rfl) ⟨rfl, below_grown M.old⟩

def nof (p : Nat → Int) : Nat → (Nat → Int)
  | 0 => fun _ => 0
  | j + 1 => upd (nof p j) (8 * j / 26) (uo (nof p j (8 * j / 26)) (sl (cv .u64 (p j)) (8 * j % 26)))
def noF (p : Nat → Int) : Nat → Int := s5 (nof p 17)

set_option maxRecDepth 100000 in
set_option maxHeartbeats 4000000 in
theorem c_number (p : Nat → Int) (w : World) (hL : Laid w)  :
    Calls Tryd.prog 57 #[.agg (av 17 (w8 p))] w fun r w' => r = .returned (.agg (av 5 (w64 (noF p)))) ∧ Below w.heap.size w w' := by
  go_enter Tryd.func57, Tryd.ntmps57
  have M := Mem.start hL
  refine wp_seq ?_
  refine rg_lit ?_
  refine pl_new M (want_no rfl) (some 1) rfl (.cells (av 17 (w8 p)) 91) (fun _ => by kernel_rfl) ?_
  intro g1 u1 M
  replace M : Mem ⟨w, []⟩ [⟨g1, .cells (av 17 (w8 p)) 91⟩] u1 := M
  refine pl_new M (want_no rfl) (some 2) rfl (.cells (av 5 (w64 (fun _ => 0))) 69) (fun _ => by kernel_rfl) ?_
  intro g2 u2 M
  replace M : Mem ⟨w, []⟩ [⟨g1, .cells (av 17 (w8 p)) 91⟩, ⟨g2, .cells (av 5 (w64 (fun _ => 0))) 69⟩] u2 := M
  refine pl_nil ?_
  refine au_then ?_
  refine wp_seq ?_
  refine rg_lit ?_
  refine pl_new M (want_no rfl) (some 3) rfl (.cells (av 5 (w64 (fun _ => 0))) 69) (fun _ => by kernel_rfl) ?_
  intro g3 u3 M
  replace M : Mem ⟨w, []⟩ [⟨g1, .cells (av 17 (w8 p)) 91⟩, ⟨g2, .cells (av 5 (w64 (fun _ => 0))) 69⟩, ⟨g3, .cells (av 5 (w64 (fun _ => 0))) 69⟩] u3 := M
  refine pl_nil ?_
  refine au_then ?_
  refine wp_seq ?_
  refine wp_seq ?_
  refine rg_lit ?_
  refine pl_load M (want_no rfl) (some 6) rfl 91 _ rfl 0 g1 0 (by kernel_rfl) 17 91 (w8 p) rfl 17 (w8 p) (fun j _ => by rw [Nat.zero_add]) (by decide) _ Tryd.underlying91 rfl inz91 ?_
  refine pl_val (want_no rfl) (some 7) rfl (.int .i64 0) (fun _ => by kernel_rfl) ?_
  refine pl_nil ?_
  refine au_then ?_
  refine wp_block ?_
  refine au_loop (fun j a w' => ∃ v1 : Nat → Value, a = ⟨#[.agg (av 17 (w8 p)), .pointer (some ⟨g1, 0, none⟩), .pointer (some ⟨g2, 0, none⟩), .pointer (some ⟨g3, 0, none⟩), v1 4, v1 5, .agg (av 17 (w8 p)), .int .i64 (j : Int), v1 8, v1 9, v1 10, v1 11, v1 12, v1 13, v1 14, v1 15, v1 16, v1 17, v1 18, v1 19, v1 20, v1 21, v1 22, v1 23, v1 24, undef, undef, undef, undef, undef, undef], []⟩ ∧ Mem ⟨w, []⟩ [⟨g1, .cells (av 17 (w8 p)) 91⟩, ⟨g2, .cells (av 5 (w64 (fun _ => 0))) 69⟩, ⟨g3, .cells (av 5 (w64 (nof p j))) 69⟩] w') 17 ⟨fun k_ => ([undef, undef, undef, undef, undef, undef, undef, undef, undef, undef, undef, undef, undef, undef, undef, undef, undef, undef, undef, undef, undef] : List Value).getD (k_ - 4) undef, by kernel_rfl, M⟩ ?_ ?_
  · intro j a u0 hj hI
    obtain ⟨v1, rfl, M⟩ := hI
    refine wp_seq ?_
    refine rg_lit ?_
    refine pl_val (want_no rfl) (some 8) rfl (.bool true) (fun w => Eq.trans (b := .ok (.value (.bool (decide ((j : Int) < 17)))) w) (by kernel_rfl) (by rw [decide_eq_true (by omega)])) ?_
    refine pl_nil ?_
    refine au_then ?_
    refine wp_seq ?_
    refine wp_cond_true (by kernel_rfl) ?_
    refine wp_skip ?_
    refine au_then ?_
    refine wp_seq ?_
    refine wp_block ?_
    refine wp_seq ?_
    refine rg_lit ?_
    refine pl_val (want_no rfl) (some 9) rfl (.int .i64 (j : Int)) (fun _ => by kernel_rfl) ?_
    refine pl_val (want_no rfl) (some 10) rfl (.int .u8 (p (j))) (run_ixA 91 17 5 Tryd.underlying91 inz5 (fun _ => by kernel_rfl) _ _ rfl (w8 p) (by kernel_rfl) .i64 (j) (by kernel_rfl) (by omega) rfl) ?_
    refine pl_val (want_no rfl) (some 4) rfl (.int .i64 (j : Int)) (fun _ => by kernel_rfl) ?_
    refine pl_val (want_no rfl) (some 5) rfl (.int .u8 (p (j))) (fun _ => by kernel_rfl) ?_
    refine pl_nil ?_
    refine au_then ?_
    refine rg_tail M 13 (by kernel_rfl) (by kernel_rfl) ?_
    simp only [List.take_succ_cons, List.take_zero]
    refine k_val (want_no rfl) (some 11) rfl (.int .i64 (j : Int)) (fun _ => by kernel_rfl) ?_
    refine k_val (want_no rfl) (some 12) rfl (.int .i64 ((8 * j : Nat) : Int)) (fun w => Eq.trans (b := .ok (.value (.int .i64 (IntKind.wrap .i64 (8 * (j : Int))))) w) (by kernel_rfl) (by rw [wrap64 (by omega) (by omega)]; congr 3 <;> omega)) ?_
    refine k_val (want_no rfl) (some 13) rfl (.int .i64 ((8 * j / 26 : Nat) : Int)) (fun w => Eq.trans (b := .ok (.value (.int .i64 (IntKind.wrap .i64 (((8 * j : Nat) : Int).tdiv 26)))) w) (by kernel_rfl) (by rw [quo26 (8 * j) (by omega)])) ?_
    refine k_val (want_no rfl) (some 14) rfl (.pointer (some ⟨g3, ((8 * j / 26 : Nat)), none⟩)) (run_ix1 69 5 22 Tryd.underlying69 inz22 _ _ rfl g3 (by kernel_rfl) .i64 ((8 * j / 26 : Nat)) (by kernel_rfl) (by omega)) ?_
    refine k_cell M (want_no rfl) (some 15) rfl 22 _ rfl g3 ((8 * j / 26 : Nat)) (by kernel_rfl) (.int .u64 ((nof p j) ((8 * j / 26 : Nat)))) (fun _ => by kernel_rfl) (fun w M => M.cell 2 rfl (by omega) rfl) ?_
    refine k_val (want_no rfl) (some 16) rfl (.int .u8 (p (j))) (fun _ => by kernel_rfl) ?_
    refine k_val (want_no rfl) (some 17) rfl (.int .u64 (cv .u64 (p (j)))) (fun _ => by kernel_rfl) ?_
    refine k_val (want_no rfl) (some 18) rfl (.int .i64 (j : Int)) (fun _ => by kernel_rfl) ?_
    refine k_val (want_no rfl) (some 19) rfl (.int .i64 ((8 * j : Nat) : Int)) (fun w => Eq.trans (b := .ok (.value (.int .i64 (IntKind.wrap .i64 (8 * (j : Int))))) w) (by kernel_rfl) (by rw [wrap64 (by omega) (by omega)]; congr 3 <;> omega)) ?_
    refine k_val (want_no rfl) (some 20) rfl (.int .i64 ((8 * j % 26 : Nat) : Int)) (fun w => Eq.trans (b := .ok (.value (.int .i64 (Int.tmod ((8 * j : Nat) : Int) 26))) w) (by kernel_rfl) (by rw [rem26 (8 * j)])) ?_
    refine k_val (want_no rfl) (some 21) rfl (.int .u64 (sl (cv .u64 (p j)) (8 * j % 26))) (run_shlU 22 3 _ _ rfl _ .i64 (8 * j % 26) (by kernel_rfl) (by kernel_rfl) (by omega)) ?_
    refine k_val (want_no rfl) (some 22) rfl (.int .u64 (uo ((nof p j) ((8 * j / 26 : Nat))) (sl (cv .u64 (p j)) (8 * j % 26)))) (fun _ => by kernel_rfl) ?_
    refine k_val (want_no rfl) (some 23) rfl (.pointer (some ⟨g3, ((8 * j / 26 : Nat)), none⟩)) (run_ix1 69 5 22 Tryd.underlying69 inz22 _ _ rfl g3 (by kernel_rfl) .i64 ((8 * j / 26 : Nat)) (by kernel_rfl) (by omega)) ?_
    refine kl_nil ?_
    intro u4 M
    replace M : Mem ⟨w, []⟩ [⟨g1, .cells (av 17 (w8 p)) 91⟩, ⟨g2, .cells (av 5 (w64 (fun _ => 0))) 69⟩, ⟨g3, .cells (av 5 (w64 (nof p j))) 69⟩] u4 := M
    refine pl_put1 M (want_no rfl) rfl 22 _ _ rfl 2 g3 ((8 * j / 26 : Nat)) (by kernel_rfl) 5 69 (w64 (nof p j)) rfl (.int .u64 (uo ((nof p j) ((8 * j / 26 : Nat))) (sl (cv .u64 (p j)) (8 * j % 26)))) (w64 (upd (nof p j) ((8 * j / 26 : Nat)) (uo ((nof p j) ((8 * j / 26 : Nat))) (sl (cv .u64 (p j)) (8 * j % 26))))) (by kernel_rfl) inz22 (by omega) rfl rfl (fun j _ => put_w64 _ _ _ j) ?_
    intro u5 M
    replace M : Mem ⟨w, []⟩ [⟨g1, .cells (av 17 (w8 p)) 91⟩, ⟨g2, .cells (av 5 (w64 (fun _ => 0))) 69⟩, ⟨g3, .cells (av 5 (w64 (upd (nof p j) ((8 * j / 26 : Nat)) (uo ((nof p j) ((8 * j / 26 : Nat))) (sl (cv .u64 (p j)) (8 * j % 26)))))) 69⟩] u5 := M
    refine pl_nil ?_
    refine au_block ?_
    refine au_then ?_
    refine rg_lit ?_
    refine pl_val (want_no rfl) (some 24) rfl (.int .i64 ((j + 1 : Nat) : Int)) (fun w => Eq.trans (b := .ok (.value (.int .i64 (IntKind.wrap .i64 ((j : Int) + 1)))) w) (by kernel_rfl) (by rw [wrap64 (by omega) (by omega)]; congr 3)) ?_
    refine pl_val (want_no rfl) (some 7) rfl (.int .i64 ((j + 1 : Nat) : Int)) (fun _ => by kernel_rfl) ?_
    refine pl_nil ?_
    refine au_then ?_
    exact ⟨fun k_ => ([.int .i64 (j : Int), .int .u8 (p (j)), undef, undef, .bool true, .int .i64 (j : Int), .int .u8 (p (j)), .int .i64 (j : Int), .int .i64 ((8 * j : Nat) : Int), .int .i64 ((8 * j / 26 : Nat) : Int), .pointer (some ⟨g3, ((8 * j / 26 : Nat)), none⟩), .int .u64 ((nof p j) ((8 * j / 26 : Nat))), .int .u8 (p (j)), .int .u64 (cv .u64 (p (j))), .int .i64 (j : Int), .int .i64 ((8 * j : Nat) : Int), .int .i64 ((8 * j % 26 : Nat) : Int), .int .u64 (sl (cv .u64 (p j)) (8 * j % 26)), .int .u64 (uo ((nof p j) ((8 * j / 26 : Nat))) (sl (cv .u64 (p j)) (8 * j % 26))), .pointer (some ⟨g3, ((8 * j / 26 : Nat)), none⟩), .int .i64 ((j + 1 : Nat) : Int)] : List Value).getD (k_ - 4) undef, by kernel_rfl, M⟩
  · intro a u0 hI
    obtain ⟨v1, rfl, M⟩ := hI
    refine wp_seq ?_
    refine rg_lit ?_
    refine pl_val (want_no rfl) (some 8) rfl (.bool false) (fun w => Eq.trans (b := .ok (.value (.bool (decide (17 < 17)))) w) (by kernel_rfl) (by rw [decide_eq_false (by omega)])) ?_
    refine pl_nil ?_
    refine au_then ?_
    refine wp_seq ?_
    refine wp_cond_false (by kernel_rfl) ?_
    refine wp_exit ?_
    refine au_then_exit ?_
    refine au_then_exit ?_
    refine au_block_exit ?_
    refine au_then ?_
    refine wp_seq ?_
    refine rg_lit ?_
    refine pl_load M (want_no rfl) (some 26) rfl 69 _ rfl 2 g3 0 (by kernel_rfl) 5 69 (w64 (nof p 17)) rfl 5 (w64 (nof p 17)) (fun j _ => by rw [Nat.zero_add]) (by decide) _ Tryd.underlying69 rfl inz69 ?_
    refine pl_call M (want_no rfl) (some 27) rfl 60 #[.agg (av 5 (w64 (nof p 17)))] (.tuple #[.agg (av 5 (w64 (s5 (nof p 17)))), .int .u64 (c5 (nof p 17))]) (fun _ => by kernel_rfl) (fun w M => c_settled (nof p 17) w M.laid) ?_
    intro u6 M
    refine pl_val (want_no rfl) (some 25) rfl (.tuple #[.agg (av 5 (w64 (s5 (nof p 17)))), .int .u64 (c5 (nof p 17))]) (fun _ => by kernel_rfl) ?_
    refine pl_val (want_no rfl) (some 28) rfl (.agg (av 5 (w64 (s5 (nof p 17))))) (fun _ => by kernel_rfl) ?_
    refine pl_val (want_no rfl) (some 29) rfl (.int .u64 (c5 (nof p 17))) (fun _ => by kernel_rfl) ?_
    refine pl_put M (want_no rfl) rfl 69 _ _ rfl 2 g3 0 (by kernel_rfl) 5 69 (w64 (nof p 17)) rfl 5 (w64 (s5 (nof p 17))) (w64 (s5 (nof p 17))) (by kernel_rfl) inz69 (by decide) (fun _ _ => rfl) (fun j hj => by rw [if_pos (by omega), Nat.sub_zero]) ?_
    intro u7 M
    replace M : Mem ⟨w, []⟩ [⟨g1, .cells (av 17 (w8 p)) 91⟩, ⟨g2, .cells (av 5 (w64 (fun _ => 0))) 69⟩, ⟨g3, .cells (av 5 (w64 (s5 (nof p 17)))) 69⟩] u7 := M
    refine pl_nil ?_
    refine au_then ?_
    refine wp_seq ?_
    refine rg_lit ?_
    refine pl_load M (want_no rfl) (some 30) rfl 69 _ rfl 2 g3 0 (by kernel_rfl) 5 69 (w64 (s5 (nof p 17))) rfl 5 (w64 (s5 (nof p 17))) (fun j _ => by rw [Nat.zero_add]) (by decide) _ Tryd.underlying69 rfl inz69 ?_
    refine pl_put M (want_no rfl) rfl 69 _ _ rfl 1 g2 0 (by kernel_rfl) 5 69 (w64 (fun _ => 0)) rfl 5 (w64 (s5 (nof p 17))) (w64 (s5 (nof p 17))) (by kernel_rfl) inz69 (by decide) (fun _ _ => rfl) (fun j hj => by rw [if_pos (by omega), Nat.sub_zero]) ?_
    intro u8 M
    replace M : Mem ⟨w, []⟩ [⟨g1, .cells (av 17 (w8 p)) 91⟩, ⟨g2, .cells (av 5 (w64 (s5 (nof p 17)))) 69⟩, ⟨g3, .cells (av 5 (w64 (s5 (nof p 17)))) 69⟩] u8 := M
    refine pl_nil ?_
    refine au_then ?_
    refine wp_ret ?_
    exact bodyPost_ret (v := .agg (av 5 (w64 (s5 (nof p 17))))) (results_cell_row Tryd.results57 _ _ g2 69 (av 5 (w64 (s5 (nof p 17)))) (0, 0) _ (by kernel_rfl) (M.get 1 rfl) Tryd.underlying69 rfl (by rw [av_size]; exact inz69)) (by kernel_rfl) ⟨rfl, below_grown M.old⟩

/-- Some bytes, and 0 behind them. -/
def pd (b : Nat → Int) (n : Nat) : Nat → Int := fun i => if i < n then b i else 0
theorem pd_fn (b : Nat → Int) (n : Nat) (j : Nat) : (if 0 ≤ j ∧ j < 0 + n then w8 b (j - 0) else w8 (fun _ => 0) j) = w8 (pd b n) j := by
  unfold w8 pd
  by_cases h : j < n
  · rw [if_pos (by omega), if_pos h, Nat.sub_zero]
  · rw [if_neg (by omega), if_neg h]
def fc1 (p : Nat → Int) : Nat → Int := upd (upd (upd (upd p 3 (nb8 (p 3) 15)) 7 (nb8 (p 7) 15)) 11 (nb8 (p 11) 15)) 15 (nb8 (p 15) 15)
def fc2 (p : Nat → Int) : Nat → Int := upd (upd (upd p 4 (db8 (p 4) 3)) 8 (db8 (p 8) 3)) 12 (db8 (p 12) 3)
def mk (b : Nat → Int) (n : Nat) : Nat → Int := upd (pd b n) n 1

set_option maxRecDepth 100000 in
set_option maxHeartbeats 4000000 in
theorem c_plain (s : ByteArray) (hs : s.size = 16) (w : World) (hL : Laid w)  :
    Calls Tryd.prog 39 #[.string s] w fun r w' => r = .returned (.agg (av 5 (w64 (noF (pd (bt s) 16))))) ∧ Below w.heap.size w w' := by
  go_enter Tryd.func39, Tryd.ntmps39
  have M := Mem.start hL
  refine wp_seq ?_
  refine rg_lit ?_
  refine pl_new M (want_no rfl) (some 2) rfl (.cells (av 5 (w64 (fun _ => 0))) 69) (fun _ => by kernel_rfl) ?_
  intro g1 u1 M
  replace M : Mem ⟨w, []⟩ [⟨g1, .cells (av 5 (w64 (fun _ => 0))) 69⟩] u1 := M
  refine pl_nil ?_
  refine au_then ?_
  refine wp_seq ?_
  refine rg_lit ?_
  refine pl_new M (want_no rfl) (some 3) rfl (.cells (av 17 (w8 (fun _ => 0))) 91) (fun _ => by kernel_rfl) ?_
  intro g2 u2 M
  replace M : Mem ⟨w, []⟩ [⟨g1, .cells (av 5 (w64 (fun _ => 0))) 69⟩, ⟨g2, .cells (av 17 (w8 (fun _ => 0))) 91⟩] u2 := M
  refine pl_nil ?_
  refine au_then ?_
  refine wp_seq ?_
  refine rg_lit ?_
  refine pl_val (want_no rfl) (some 4) rfl (.slice (some ⟨g2, 0, none⟩) 17 17) (fun _ => by kernel_rfl) ?_
  refine pl_val (want_no rfl) (some 5) rfl (.string s) (fun _ => by kernel_rfl) ?_
  refine pl_copyS M (want_no rfl) (some 6) rfl 32 9 3 5 Tryd.underlying32 inz5 1 g2 17 91 (w8 (fun _ => 0)) rfl 0 17 17 s 16 (by rw [hs]; decide) (by decide) (w8 (pd (bt s) 16)) (fun j _ => pd_fn (bt s) 16 j) (fun _ => by kernel_rfl) ?_
  intro u3 M
  replace M : Mem ⟨w, []⟩ [⟨g1, .cells (av 5 (w64 (fun _ => 0))) 69⟩, ⟨g2, .cells (av 17 (w8 (pd (bt s) 16))) 91⟩] u3 := M
  refine pl_nil ?_
  refine au_then ?_
  refine wp_seq ?_
  refine rg_lit ?_
  refine pl_load M (want_no rfl) (some 7) rfl 91 _ rfl 1 g2 0 (by kernel_rfl) 17 91 (w8 (pd (bt s) 16)) rfl 17 (w8 (pd (bt s) 16)) (fun j _ => by rw [Nat.zero_add]) (by decide) _ Tryd.underlying91 rfl inz91 ?_
  refine pl_call M (want_no rfl) (some 8) rfl 57 #[.agg (av 17 (w8 (pd (bt s) 16)))] (.agg (av 5 (w64 (noF (pd (bt s) 16))))) (fun _ => by kernel_rfl) (fun w M => c_number (pd (bt s) 16) w M.laid) ?_
  intro u4 M
  refine pl_put M (want_no rfl) rfl 69 _ _ rfl 0 g1 0 (by kernel_rfl) 5 69 (w64 (fun _ => 0)) rfl 5 (w64 (noF (pd (bt s) 16))) (w64 (noF (pd (bt s) 16))) (by kernel_rfl) inz69 (by decide) (fun _ _ => rfl) (fun j hj => by rw [if_pos (by omega), Nat.sub_zero]) ?_
  intro u5 M
  replace M : Mem ⟨w, []⟩ [⟨g1, .cells (av 5 (w64 (noF (pd (bt s) 16)))) 69⟩, ⟨g2, .cells (av 17 (w8 (pd (bt s) 16))) 91⟩] u5 := M
  refine pl_nil ?_
  refine au_then ?_
  refine wp_ret ?_
  exact bodyPost_ret (v := .agg (av 5 (w64 (noF (pd (bt s) 16))))) (results_cell_row Tryd.results39 _ _ g1 69 (av 5 (w64 (noF (pd (bt s) 16)))) (0, 0) _ (by kernel_rfl) (M.get 0 rfl) Tryd.underlying69 rfl (by rw [av_size]; exact inz69)) (by kernel_rfl) ⟨rfl, below_grown M.old⟩

set_option maxRecDepth 100000 in
set_option maxHeartbeats 4000000 in
theorem c_factor (s : ByteArray) (hs : s.size = 16) (w : World) (hL : Laid w)  :
    Calls Tryd.prog 38 #[.string s] w fun r w' => r = .returned (.agg (av 5 (w64 (noF (fc2 (fc1 (pd (bt s) 16))))))) ∧ Below w.heap.size w w' := by
  go_enter Tryd.func38, Tryd.ntmps38
  have M := Mem.start hL
  refine wp_seq ?_
  refine rg_lit ?_
  refine pl_new M (want_no rfl) (some 2) rfl (.cells (av 5 (w64 (fun _ => 0))) 69) (fun _ => by kernel_rfl) ?_
  intro g1 u1 M
  replace M : Mem ⟨w, []⟩ [⟨g1, .cells (av 5 (w64 (fun _ => 0))) 69⟩] u1 := M
  refine pl_nil ?_
  refine au_then ?_
  refine wp_seq ?_
  refine rg_lit ?_
  refine pl_new M (want_no rfl) (some 3) rfl (.cells (av 17 (w8 (fun _ => 0))) 91) (fun _ => by kernel_rfl) ?_
  intro g2 u2 M
  replace M : Mem ⟨w, []⟩ [⟨g1, .cells (av 5 (w64 (fun _ => 0))) 69⟩, ⟨g2, .cells (av 17 (w8 (fun _ => 0))) 91⟩] u2 := M
  refine pl_nil ?_
  refine au_then ?_
  refine wp_seq ?_
  refine rg_lit ?_
  refine pl_val (want_no rfl) (some 6) rfl (.slice (some ⟨g2, 0, none⟩) 17 17) (fun _ => by kernel_rfl) ?_
  refine pl_val (want_no rfl) (some 7) rfl (.string s) (fun _ => by kernel_rfl) ?_
  refine pl_copyS M (want_no rfl) (some 8) rfl 32 9 3 5 Tryd.underlying32 inz5 1 g2 17 91 (w8 (fun _ => 0)) rfl 0 17 17 s 16 (by rw [hs]; decide) (by decide) (w8 (pd (bt s) 16)) (fun j _ => pd_fn (bt s) 16 j) (fun _ => by kernel_rfl) ?_
  intro u3 M
  replace M : Mem ⟨w, []⟩ [⟨g1, .cells (av 5 (w64 (fun _ => 0))) 69⟩, ⟨g2, .cells (av 17 (w8 (pd (bt s) 16))) 91⟩] u3 := M
  refine pl_nil ?_
  refine au_then ?_
  refine wp_seq ?_
  refine wp_seq ?_
  refine rg_lit ?_
  refine pl_val (want_no rfl) (some 4) rfl (.int .i64 3) (fun _ => by kernel_rfl) ?_
  refine pl_nil ?_
  refine au_then ?_
  refine wp_block ?_
  refine wp_loop_rounds 5 ?_
  refine rounds_go ?_
  refine wp_seq ?_
  refine wp_seq ?_
  refine rg_lit ?_
  refine pl_val (want_no rfl) (some 9) rfl (.int .i64 3) (fun _ => by kernel_rfl) ?_
  refine pl_val (want_no rfl) (some 10) rfl (.bool true) (fun _ => by kernel_rfl) ?_
  refine pl_nil ?_
  refine au_then ?_
  refine wp_cond_true (by kernel_rfl) ?_
  refine wp_skip ?_
  refine au_then ?_
  refine wp_seq ?_
  refine wp_block ?_
  refine rg_lit ?_
  refine pl_val (want_no rfl) (some 13) rfl (.int .i64 3) (fun _ => by kernel_rfl) ?_
  refine pl_val (want_no rfl) (some 14) rfl (.pointer (some ⟨g2, 3, none⟩)) (fun _ => by kernel_rfl) ?_
  refine pl_cell M (want_no rfl) (some 15) rfl 5 _ rfl g2 3 (by kernel_rfl) (.int .u8 ((pd (bt s) 16) 3)) (fun _ => by kernel_rfl) (fun w M => M.cell 1 rfl (by decide) rfl) ?_
  refine pl_val (want_no rfl) (some 16) rfl (.int .u8 (nb8 ((pd (bt s) 16) 3) 15)) (fun _ => by kernel_rfl) ?_
  refine pl_val (want_no rfl) (some 17) rfl (.pointer (some ⟨g2, 3, none⟩)) (fun _ => by kernel_rfl) ?_
  refine pl_put1 M (want_no rfl) rfl 5 _ _ rfl 1 g2 3 (by kernel_rfl) 17 91 (w8 (pd (bt s) 16)) rfl (.int .u8 (nb8 ((pd (bt s) 16) 3) 15)) (w8 (upd (pd (bt s) 16) 3 (nb8 ((pd (bt s) 16) 3) 15))) (by kernel_rfl) inz5 (by decide) rfl rfl (fun j _ => put_w8 _ _ _ j) ?_
  intro u4 M
  replace M : Mem ⟨w, []⟩ [⟨g1, .cells (av 5 (w64 (fun _ => 0))) 69⟩, ⟨g2, .cells (av 17 (w8 (upd (pd (bt s) 16) 3 (nb8 ((pd (bt s) 16) 3) 15)))) 91⟩] u4 := M
  refine pl_nil ?_
  refine au_block ?_
  refine au_then ?_
  refine rg_lit ?_
  refine pl_val (want_no rfl) (some 11) rfl (.int .i64 3) (fun _ => by kernel_rfl) ?_
  refine pl_val (want_no rfl) (some 12) rfl (.int .i64 7) (fun _ => by kernel_rfl) ?_
  refine pl_val (want_no rfl) (some 4) rfl (.int .i64 7) (fun _ => by kernel_rfl) ?_
  refine pl_nil ?_
  refine au_then ?_
  refine rounds_go ?_
  refine wp_seq ?_
  refine wp_seq ?_
  refine rg_lit ?_
  refine pl_val (want_no rfl) (some 9) rfl (.int .i64 7) (fun _ => by kernel_rfl) ?_
  refine pl_val (want_no rfl) (some 10) rfl (.bool true) (fun _ => by kernel_rfl) ?_
  refine pl_nil ?_
  refine au_then ?_
  refine wp_cond_true (by kernel_rfl) ?_
  refine wp_skip ?_
  refine au_then ?_
  refine wp_seq ?_
  refine wp_block ?_
  refine rg_lit ?_
  refine pl_val (want_no rfl) (some 13) rfl (.int .i64 7) (fun _ => by kernel_rfl) ?_
  refine pl_val (want_no rfl) (some 14) rfl (.pointer (some ⟨g2, 7, none⟩)) (fun _ => by kernel_rfl) ?_
  refine pl_cell M (want_no rfl) (some 15) rfl 5 _ rfl g2 7 (by kernel_rfl) (.int .u8 ((pd (bt s) 16) 7)) (fun _ => by kernel_rfl) (fun w M => M.cell 1 rfl (by decide) rfl) ?_
  refine pl_val (want_no rfl) (some 16) rfl (.int .u8 (nb8 ((pd (bt s) 16) 7) 15)) (fun _ => by kernel_rfl) ?_
  refine pl_val (want_no rfl) (some 17) rfl (.pointer (some ⟨g2, 7, none⟩)) (fun _ => by kernel_rfl) ?_
  refine pl_put1 M (want_no rfl) rfl 5 _ _ rfl 1 g2 7 (by kernel_rfl) 17 91 (w8 (upd (pd (bt s) 16) 3 (nb8 ((pd (bt s) 16) 3) 15))) rfl (.int .u8 (nb8 ((pd (bt s) 16) 7) 15)) (w8 (upd (upd (pd (bt s) 16) 3 (nb8 ((pd (bt s) 16) 3) 15)) 7 (nb8 ((pd (bt s) 16) 7) 15))) (by kernel_rfl) inz5 (by decide) rfl rfl (fun j _ => put_w8 _ _ _ j) ?_
  intro u5 M
  replace M : Mem ⟨w, []⟩ [⟨g1, .cells (av 5 (w64 (fun _ => 0))) 69⟩, ⟨g2, .cells (av 17 (w8 (upd (upd (pd (bt s) 16) 3 (nb8 ((pd (bt s) 16) 3) 15)) 7 (nb8 ((pd (bt s) 16) 7) 15)))) 91⟩] u5 := M
  refine pl_nil ?_
  refine au_block ?_
  refine au_then ?_
  refine rg_lit ?_
  refine pl_val (want_no rfl) (some 11) rfl (.int .i64 7) (fun _ => by kernel_rfl) ?_
  refine pl_val (want_no rfl) (some 12) rfl (.int .i64 11) (fun _ => by kernel_rfl) ?_
  refine pl_val (want_no rfl) (some 4) rfl (.int .i64 11) (fun _ => by kernel_rfl) ?_
  refine pl_nil ?_
  refine au_then ?_
  refine rounds_go ?_
  refine wp_seq ?_
  refine wp_seq ?_
  refine rg_lit ?_
  refine pl_val (want_no rfl) (some 9) rfl (.int .i64 11) (fun _ => by kernel_rfl) ?_
  refine pl_val (want_no rfl) (some 10) rfl (.bool true) (fun _ => by kernel_rfl) ?_
  refine pl_nil ?_
  refine au_then ?_
  refine wp_cond_true (by kernel_rfl) ?_
  refine wp_skip ?_
  refine au_then ?_
  refine wp_seq ?_
  refine wp_block ?_
  refine rg_lit ?_
  refine pl_val (want_no rfl) (some 13) rfl (.int .i64 11) (fun _ => by kernel_rfl) ?_
  refine pl_val (want_no rfl) (some 14) rfl (.pointer (some ⟨g2, 11, none⟩)) (fun _ => by kernel_rfl) ?_
  refine pl_cell M (want_no rfl) (some 15) rfl 5 _ rfl g2 11 (by kernel_rfl) (.int .u8 ((pd (bt s) 16) 11)) (fun _ => by kernel_rfl) (fun w M => M.cell 1 rfl (by decide) rfl) ?_
  refine pl_val (want_no rfl) (some 16) rfl (.int .u8 (nb8 ((pd (bt s) 16) 11) 15)) (fun _ => by kernel_rfl) ?_
  refine pl_val (want_no rfl) (some 17) rfl (.pointer (some ⟨g2, 11, none⟩)) (fun _ => by kernel_rfl) ?_
  refine pl_put1 M (want_no rfl) rfl 5 _ _ rfl 1 g2 11 (by kernel_rfl) 17 91 (w8 (upd (upd (pd (bt s) 16) 3 (nb8 ((pd (bt s) 16) 3) 15)) 7 (nb8 ((pd (bt s) 16) 7) 15))) rfl (.int .u8 (nb8 ((pd (bt s) 16) 11) 15)) (w8 (upd (upd (upd (pd (bt s) 16) 3 (nb8 ((pd (bt s) 16) 3) 15)) 7 (nb8 ((pd (bt s) 16) 7) 15)) 11 (nb8 ((pd (bt s) 16) 11) 15))) (by kernel_rfl) inz5 (by decide) rfl rfl (fun j _ => put_w8 _ _ _ j) ?_
  intro u6 M
  replace M : Mem ⟨w, []⟩ [⟨g1, .cells (av 5 (w64 (fun _ => 0))) 69⟩, ⟨g2, .cells (av 17 (w8 (upd (upd (upd (pd (bt s) 16) 3 (nb8 ((pd (bt s) 16) 3) 15)) 7 (nb8 ((pd (bt s) 16) 7) 15)) 11 (nb8 ((pd (bt s) 16) 11) 15)))) 91⟩] u6 := M
  refine pl_nil ?_
  refine au_block ?_
  refine au_then ?_
  refine rg_lit ?_
  refine pl_val (want_no rfl) (some 11) rfl (.int .i64 11) (fun _ => by kernel_rfl) ?_
  refine pl_val (want_no rfl) (some 12) rfl (.int .i64 15) (fun _ => by kernel_rfl) ?_
  refine pl_val (want_no rfl) (some 4) rfl (.int .i64 15) (fun _ => by kernel_rfl) ?_
  refine pl_nil ?_
  refine au_then ?_
  refine rounds_go ?_
  refine wp_seq ?_
  refine wp_seq ?_
  refine rg_lit ?_
  refine pl_val (want_no rfl) (some 9) rfl (.int .i64 15) (fun _ => by kernel_rfl) ?_
  refine pl_val (want_no rfl) (some 10) rfl (.bool true) (fun _ => by kernel_rfl) ?_
  refine pl_nil ?_
  refine au_then ?_
  refine wp_cond_true (by kernel_rfl) ?_
  refine wp_skip ?_
  refine au_then ?_
  refine wp_seq ?_
  refine wp_block ?_
  refine rg_lit ?_
  refine pl_val (want_no rfl) (some 13) rfl (.int .i64 15) (fun _ => by kernel_rfl) ?_
  refine pl_val (want_no rfl) (some 14) rfl (.pointer (some ⟨g2, 15, none⟩)) (fun _ => by kernel_rfl) ?_
  refine pl_cell M (want_no rfl) (some 15) rfl 5 _ rfl g2 15 (by kernel_rfl) (.int .u8 ((pd (bt s) 16) 15)) (fun _ => by kernel_rfl) (fun w M => M.cell 1 rfl (by decide) rfl) ?_
  refine pl_val (want_no rfl) (some 16) rfl (.int .u8 (nb8 ((pd (bt s) 16) 15) 15)) (fun _ => by kernel_rfl) ?_
  refine pl_val (want_no rfl) (some 17) rfl (.pointer (some ⟨g2, 15, none⟩)) (fun _ => by kernel_rfl) ?_
  refine pl_put1 M (want_no rfl) rfl 5 _ _ rfl 1 g2 15 (by kernel_rfl) 17 91 (w8 (upd (upd (upd (pd (bt s) 16) 3 (nb8 ((pd (bt s) 16) 3) 15)) 7 (nb8 ((pd (bt s) 16) 7) 15)) 11 (nb8 ((pd (bt s) 16) 11) 15))) rfl (.int .u8 (nb8 ((pd (bt s) 16) 15) 15)) (w8 (upd (upd (upd (upd (pd (bt s) 16) 3 (nb8 ((pd (bt s) 16) 3) 15)) 7 (nb8 ((pd (bt s) 16) 7) 15)) 11 (nb8 ((pd (bt s) 16) 11) 15)) 15 (nb8 ((pd (bt s) 16) 15) 15))) (by kernel_rfl) inz5 (by decide) rfl rfl (fun j _ => put_w8 _ _ _ j) ?_
  intro u7 M
  replace M : Mem ⟨w, []⟩ [⟨g1, .cells (av 5 (w64 (fun _ => 0))) 69⟩, ⟨g2, .cells (av 17 (w8 (upd (upd (upd (upd (pd (bt s) 16) 3 (nb8 ((pd (bt s) 16) 3) 15)) 7 (nb8 ((pd (bt s) 16) 7) 15)) 11 (nb8 ((pd (bt s) 16) 11) 15)) 15 (nb8 ((pd (bt s) 16) 15) 15)))) 91⟩] u7 := M
  refine pl_nil ?_
  refine au_block ?_
  refine au_then ?_
  refine rg_lit ?_
  refine pl_val (want_no rfl) (some 11) rfl (.int .i64 15) (fun _ => by kernel_rfl) ?_
  refine pl_val (want_no rfl) (some 12) rfl (.int .i64 19) (fun _ => by kernel_rfl) ?_
  refine pl_val (want_no rfl) (some 4) rfl (.int .i64 19) (fun _ => by kernel_rfl) ?_
  refine pl_nil ?_
  refine au_then ?_
  refine rounds_go ?_
  refine wp_seq ?_
  refine wp_seq ?_
  refine rg_lit ?_
  refine pl_val (want_no rfl) (some 9) rfl (.int .i64 19) (fun _ => by kernel_rfl) ?_
  refine pl_val (want_no rfl) (some 10) rfl (.bool false) (fun _ => by kernel_rfl) ?_
  refine pl_nil ?_
  refine au_then ?_
  refine wp_cond_false (by kernel_rfl) ?_
  refine wp_exit ?_
  refine au_then_exit ?_
  refine au_then_exit ?_
  refine au_block_exit ?_
  refine au_then ?_
  refine wp_seq ?_
  refine wp_seq ?_
  refine rg_lit ?_
  refine pl_val (want_no rfl) (some 5) rfl (.int .i64 4) (fun _ => by kernel_rfl) ?_
  refine pl_nil ?_
  replace M : Mem ⟨w, []⟩ [⟨g1, .cells (av 5 (w64 (fun _ => 0))) 69⟩, ⟨g2, .cells (av 17 (w8 (fc1 (pd (bt s) 16)))) 91⟩] u7 := M
  refine au_then ?_
  refine wp_block ?_
  refine wp_loop_rounds 4 ?_
  refine rounds_go ?_
  refine wp_seq ?_
  refine wp_seq ?_
  refine rg_lit ?_
  refine pl_val (want_no rfl) (some 18) rfl (.int .i64 4) (fun _ => by kernel_rfl) ?_
  refine pl_val (want_no rfl) (some 19) rfl (.bool true) (fun _ => by kernel_rfl) ?_
  refine pl_nil ?_
  refine au_then ?_
  refine wp_cond_true (by kernel_rfl) ?_
  refine wp_skip ?_
  refine au_then ?_
  refine wp_seq ?_
  refine wp_block ?_
  refine rg_lit ?_
  refine pl_val (want_no rfl) (some 22) rfl (.int .i64 4) (fun _ => by kernel_rfl) ?_
  refine pl_val (want_no rfl) (some 23) rfl (.pointer (some ⟨g2, 4, none⟩)) (fun _ => by kernel_rfl) ?_
  refine pl_cell M (want_no rfl) (some 24) rfl 5 _ rfl g2 4 (by kernel_rfl) (.int .u8 ((fc1 (pd (bt s) 16)) 4)) (fun _ => by kernel_rfl) (fun w M => M.cell 1 rfl (by decide) rfl) ?_
  refine pl_val (want_no rfl) (some 25) rfl (.int .u8 (db8 ((fc1 (pd (bt s) 16)) 4) 3)) (fun _ => by kernel_rfl) ?_
  refine pl_val (want_no rfl) (some 26) rfl (.pointer (some ⟨g2, 4, none⟩)) (fun _ => by kernel_rfl) ?_
  refine pl_put1 M (want_no rfl) rfl 5 _ _ rfl 1 g2 4 (by kernel_rfl) 17 91 (w8 (fc1 (pd (bt s) 16))) rfl (.int .u8 (db8 ((fc1 (pd (bt s) 16)) 4) 3)) (w8 (upd (fc1 (pd (bt s) 16)) 4 (db8 ((fc1 (pd (bt s) 16)) 4) 3))) (by kernel_rfl) inz5 (by decide) rfl rfl (fun j _ => put_w8 _ _ _ j) ?_
  intro u8 M
  replace M : Mem ⟨w, []⟩ [⟨g1, .cells (av 5 (w64 (fun _ => 0))) 69⟩, ⟨g2, .cells (av 17 (w8 (upd (fc1 (pd (bt s) 16)) 4 (db8 ((fc1 (pd (bt s) 16)) 4) 3)))) 91⟩] u8 := M
  refine pl_nil ?_
  refine au_block ?_
  refine au_then ?_
  refine rg_lit ?_
  refine pl_val (want_no rfl) (some 20) rfl (.int .i64 4) (fun _ => by kernel_rfl) ?_
  refine pl_val (want_no rfl) (some 21) rfl (.int .i64 8) (fun _ => by kernel_rfl) ?_
  refine pl_val (want_no rfl) (some 5) rfl (.int .i64 8) (fun _ => by kernel_rfl) ?_
  refine pl_nil ?_
  refine au_then ?_
  refine rounds_go ?_
  refine wp_seq ?_
  refine wp_seq ?_
  refine rg_lit ?_
  refine pl_val (want_no rfl) (some 18) rfl (.int .i64 8) (fun _ => by kernel_rfl) ?_
  refine pl_val (want_no rfl) (some 19) rfl (.bool true) (fun _ => by kernel_rfl) ?_
  refine pl_nil ?_
  refine au_then ?_
  refine wp_cond_true (by kernel_rfl) ?_
  refine wp_skip ?_
  refine au_then ?_
  refine wp_seq ?_
  refine wp_block ?_
  refine rg_lit ?_
  refine pl_val (want_no rfl) (some 22) rfl (.int .i64 8) (fun _ => by kernel_rfl) ?_
  refine pl_val (want_no rfl) (some 23) rfl (.pointer (some ⟨g2, 8, none⟩)) (fun _ => by kernel_rfl) ?_
  refine pl_cell M (want_no rfl) (some 24) rfl 5 _ rfl g2 8 (by kernel_rfl) (.int .u8 ((fc1 (pd (bt s) 16)) 8)) (fun _ => by kernel_rfl) (fun w M => M.cell 1 rfl (by decide) rfl) ?_
  refine pl_val (want_no rfl) (some 25) rfl (.int .u8 (db8 ((fc1 (pd (bt s) 16)) 8) 3)) (fun _ => by kernel_rfl) ?_
  refine pl_val (want_no rfl) (some 26) rfl (.pointer (some ⟨g2, 8, none⟩)) (fun _ => by kernel_rfl) ?_
  refine pl_put1 M (want_no rfl) rfl 5 _ _ rfl 1 g2 8 (by kernel_rfl) 17 91 (w8 (upd (fc1 (pd (bt s) 16)) 4 (db8 ((fc1 (pd (bt s) 16)) 4) 3))) rfl (.int .u8 (db8 ((fc1 (pd (bt s) 16)) 8) 3)) (w8 (upd (upd (fc1 (pd (bt s) 16)) 4 (db8 ((fc1 (pd (bt s) 16)) 4) 3)) 8 (db8 ((fc1 (pd (bt s) 16)) 8) 3))) (by kernel_rfl) inz5 (by decide) rfl rfl (fun j _ => put_w8 _ _ _ j) ?_
  intro u9 M
  replace M : Mem ⟨w, []⟩ [⟨g1, .cells (av 5 (w64 (fun _ => 0))) 69⟩, ⟨g2, .cells (av 17 (w8 (upd (upd (fc1 (pd (bt s) 16)) 4 (db8 ((fc1 (pd (bt s) 16)) 4) 3)) 8 (db8 ((fc1 (pd (bt s) 16)) 8) 3)))) 91⟩] u9 := M
  refine pl_nil ?_
  refine au_block ?_
  refine au_then ?_
  refine rg_lit ?_
  refine pl_val (want_no rfl) (some 20) rfl (.int .i64 8) (fun _ => by kernel_rfl) ?_
  refine pl_val (want_no rfl) (some 21) rfl (.int .i64 12) (fun _ => by kernel_rfl) ?_
  refine pl_val (want_no rfl) (some 5) rfl (.int .i64 12) (fun _ => by kernel_rfl) ?_
  refine pl_nil ?_
  refine au_then ?_
  refine rounds_go ?_
  refine wp_seq ?_
  refine wp_seq ?_
  refine rg_lit ?_
  refine pl_val (want_no rfl) (some 18) rfl (.int .i64 12) (fun _ => by kernel_rfl) ?_
  refine pl_val (want_no rfl) (some 19) rfl (.bool true) (fun _ => by kernel_rfl) ?_
  refine pl_nil ?_
  refine au_then ?_
  refine wp_cond_true (by kernel_rfl) ?_
  refine wp_skip ?_
  refine au_then ?_
  refine wp_seq ?_
  refine wp_block ?_
  refine rg_lit ?_
  refine pl_val (want_no rfl) (some 22) rfl (.int .i64 12) (fun _ => by kernel_rfl) ?_
  refine pl_val (want_no rfl) (some 23) rfl (.pointer (some ⟨g2, 12, none⟩)) (fun _ => by kernel_rfl) ?_
  refine pl_cell M (want_no rfl) (some 24) rfl 5 _ rfl g2 12 (by kernel_rfl) (.int .u8 ((fc1 (pd (bt s) 16)) 12)) (fun _ => by kernel_rfl) (fun w M => M.cell 1 rfl (by decide) rfl) ?_
  refine pl_val (want_no rfl) (some 25) rfl (.int .u8 (db8 ((fc1 (pd (bt s) 16)) 12) 3)) (fun _ => by kernel_rfl) ?_
  refine pl_val (want_no rfl) (some 26) rfl (.pointer (some ⟨g2, 12, none⟩)) (fun _ => by kernel_rfl) ?_
  refine pl_put1 M (want_no rfl) rfl 5 _ _ rfl 1 g2 12 (by kernel_rfl) 17 91 (w8 (upd (upd (fc1 (pd (bt s) 16)) 4 (db8 ((fc1 (pd (bt s) 16)) 4) 3)) 8 (db8 ((fc1 (pd (bt s) 16)) 8) 3))) rfl (.int .u8 (db8 ((fc1 (pd (bt s) 16)) 12) 3)) (w8 (upd (upd (upd (fc1 (pd (bt s) 16)) 4 (db8 ((fc1 (pd (bt s) 16)) 4) 3)) 8 (db8 ((fc1 (pd (bt s) 16)) 8) 3)) 12 (db8 ((fc1 (pd (bt s) 16)) 12) 3))) (by kernel_rfl) inz5 (by decide) rfl rfl (fun j _ => put_w8 _ _ _ j) ?_
  intro u10 M
  replace M : Mem ⟨w, []⟩ [⟨g1, .cells (av 5 (w64 (fun _ => 0))) 69⟩, ⟨g2, .cells (av 17 (w8 (upd (upd (upd (fc1 (pd (bt s) 16)) 4 (db8 ((fc1 (pd (bt s) 16)) 4) 3)) 8 (db8 ((fc1 (pd (bt s) 16)) 8) 3)) 12 (db8 ((fc1 (pd (bt s) 16)) 12) 3)))) 91⟩] u10 := M
  refine pl_nil ?_
  refine au_block ?_
  refine au_then ?_
  refine rg_lit ?_
  refine pl_val (want_no rfl) (some 20) rfl (.int .i64 12) (fun _ => by kernel_rfl) ?_
  refine pl_val (want_no rfl) (some 21) rfl (.int .i64 16) (fun _ => by kernel_rfl) ?_
  refine pl_val (want_no rfl) (some 5) rfl (.int .i64 16) (fun _ => by kernel_rfl) ?_
  refine pl_nil ?_
  refine au_then ?_
  refine rounds_go ?_
  refine wp_seq ?_
  refine wp_seq ?_
  refine rg_lit ?_
  refine pl_val (want_no rfl) (some 18) rfl (.int .i64 16) (fun _ => by kernel_rfl) ?_
  refine pl_val (want_no rfl) (some 19) rfl (.bool false) (fun _ => by kernel_rfl) ?_
  refine pl_nil ?_
  refine au_then ?_
  refine wp_cond_false (by kernel_rfl) ?_
  refine wp_exit ?_
  refine au_then_exit ?_
  refine au_then_exit ?_
  refine au_block_exit ?_
  refine au_then ?_
  refine wp_seq ?_
  replace M : Mem ⟨w, []⟩ [⟨g1, .cells (av 5 (w64 (fun _ => 0))) 69⟩, ⟨g2, .cells (av 17 (w8 (fc2 (fc1 (pd (bt s) 16))))) 91⟩] u10 := M
  refine rg_lit ?_
  refine pl_load M (want_no rfl) (some 27) rfl 91 _ rfl 1 g2 0 (by kernel_rfl) 17 91 (w8 (fc2 (fc1 (pd (bt s) 16)))) rfl 17 (w8 (fc2 (fc1 (pd (bt s) 16)))) (fun j _ => by rw [Nat.zero_add]) (by decide) _ Tryd.underlying91 rfl inz91 ?_
  refine pl_call M (want_no rfl) (some 28) rfl 57 #[.agg (av 17 (w8 (fc2 (fc1 (pd (bt s) 16)))))] (.agg (av 5 (w64 (noF (fc2 (fc1 (pd (bt s) 16))))))) (fun _ => by kernel_rfl) (fun w M => c_number (fc2 (fc1 (pd (bt s) 16))) w M.laid) ?_
  intro u11 M
  refine pl_put M (want_no rfl) rfl 69 _ _ rfl 0 g1 0 (by kernel_rfl) 5 69 (w64 (fun _ => 0)) rfl 5 (w64 (noF (fc2 (fc1 (pd (bt s) 16))))) (w64 (noF (fc2 (fc1 (pd (bt s) 16))))) (by kernel_rfl) inz69 (by decide) (fun _ _ => rfl) (fun j hj => by rw [if_pos (by omega), Nat.sub_zero]) ?_
  intro u12 M
  replace M : Mem ⟨w, []⟩ [⟨g1, .cells (av 5 (w64 (noF (fc2 (fc1 (pd (bt s) 16)))))) 69⟩, ⟨g2, .cells (av 17 (w8 (fc2 (fc1 (pd (bt s) 16))))) 91⟩] u12 := M
  refine pl_nil ?_
  refine au_then ?_
  refine wp_ret ?_
  exact bodyPost_ret (v := .agg (av 5 (w64 (noF (fc2 (fc1 (pd (bt s) 16))))))) (results_cell_row Tryd.results38 _ _ g1 69 (av 5 (w64 (noF (fc2 (fc1 (pd (bt s) 16)))))) (0, 0) _ (by kernel_rfl) (M.get 0 rfl) Tryd.underlying69 rfl (by rw [av_size]; exact inz69)) (by kernel_rfl) ⟨rfl, below_grown M.old⟩

set_option maxRecDepth 100000 in
set_option maxHeartbeats 4000000 in
theorem c_marked (b : Nat → Int) (n : Nat) (hn : n ≤ 16) (gq off cap : Nat) (w : World) (hL : Laid w) (hsrc : ∀ j, j < n → w.cell? ⟨gq, off + j, none⟩ = some (w8 b j)) :
    Calls Tryd.prog 42 #[.slice (some ⟨gq, off, none⟩) n cap] w fun r w' => r = .returned (.agg (av 5 (w64 (noF (mk b n))))) ∧ Below w.heap.size w w' := by
  go_enter Tryd.func42, Tryd.ntmps42
  have M := Mem.start hL
  refine wp_seq ?_
  refine rg_lit ?_
  refine pl_new M (want_no rfl) (some 2) rfl (.cells (av 5 (w64 (fun _ => 0))) 69) (fun _ => by kernel_rfl) ?_
  intro g1 u1 M
  replace M : Mem ⟨w, []⟩ [⟨g1, .cells (av 5 (w64 (fun _ => 0))) 69⟩] u1 := M
  refine pl_nil ?_
  refine au_then ?_
  refine wp_seq ?_
  refine rg_lit ?_
  refine pl_new M (want_no rfl) (some 3) rfl (.cells (av 17 (w8 (fun _ => 0))) 91) (fun _ => by kernel_rfl) ?_
  intro g2 u2 M
  replace M : Mem ⟨w, []⟩ [⟨g1, .cells (av 5 (w64 (fun _ => 0))) 69⟩, ⟨g2, .cells (av 17 (w8 (fun _ => 0))) 91⟩] u2 := M
  refine pl_nil ?_
  refine au_then ?_
  refine wp_seq ?_
  refine rg_lit ?_
  refine pl_val (want_no rfl) (some 4) rfl (.slice (some ⟨g2, 0, none⟩) 17 17) (fun _ => by kernel_rfl) ?_
  refine pl_val (want_no rfl) (some 5) rfl (.slice (some ⟨gq, off, none⟩) n cap) (fun _ => by kernel_rfl) ?_
  refine pl_copyC M (want_no rfl) (some 6) rfl 32 32 3 5 Tryd.underlying32 inz5 1 g2 17 91 (w8 (fun _ => 0)) rfl gq (w8 b) 0 17 17 off n cap n (Nat.min_eq_left (by omega)).symm (by omega) (fun w M j hj => M.oldc (hsrc j hj) (by simp)) (fun _ => rfl) (w8 (pd b n)) (fun j _ => pd_fn b n j) (fun _ => by kernel_rfl) ?_
  intro u3 M
  replace M : Mem ⟨w, []⟩ [⟨g1, .cells (av 5 (w64 (fun _ => 0))) 69⟩, ⟨g2, .cells (av 17 (w8 (pd b n))) 91⟩] u3 := M
  refine pl_val (want_no rfl) (some 7) rfl (.pointer (some ⟨g2, n, none⟩)) (run_ix1 91 17 5 Tryd.underlying91 inz5 _ _ rfl g2 (by kernel_rfl) .i64 (n) (by kernel_rfl) (by omega)) ?_
  refine pl_put1 M (want_no rfl) rfl 5 _ _ rfl 1 g2 n (by kernel_rfl) 17 91 (w8 (pd b n)) rfl (.int .u8 1) (w8 (upd (pd b n) n 1)) (by kernel_rfl) inz5 (by omega) rfl rfl (fun j _ => put_w8 _ _ _ j) ?_
  intro u4 M
  replace M : Mem ⟨w, []⟩ [⟨g1, .cells (av 5 (w64 (fun _ => 0))) 69⟩, ⟨g2, .cells (av 17 (w8 (upd (pd b n) n 1))) 91⟩] u4 := M
  refine pl_nil ?_
  replace M : Mem ⟨w, []⟩ [⟨g1, .cells (av 5 (w64 (fun _ => 0))) 69⟩, ⟨g2, .cells (av 17 (w8 (mk b n))) 91⟩] u4 := M
  refine au_then ?_
  refine wp_seq ?_
  refine rg_lit ?_
  refine pl_load M (want_no rfl) (some 8) rfl 91 _ rfl 1 g2 0 (by kernel_rfl) 17 91 (w8 (mk b n)) rfl 17 (w8 (mk b n)) (fun j _ => by rw [Nat.zero_add]) (by decide) _ Tryd.underlying91 rfl inz91 ?_
  refine pl_call M (want_no rfl) (some 9) rfl 57 #[.agg (av 17 (w8 (mk b n)))] (.agg (av 5 (w64 (noF (mk b n))))) (fun _ => by kernel_rfl) (fun w M => c_number (mk b n) w M.laid) ?_
  intro u5 M
  refine pl_put M (want_no rfl) rfl 69 _ _ rfl 0 g1 0 (by kernel_rfl) 5 69 (w64 (fun _ => 0)) rfl 5 (w64 (noF (mk b n))) (w64 (noF (mk b n))) (by kernel_rfl) inz69 (by decide) (fun _ _ => rfl) (fun j hj => by rw [if_pos (by omega), Nat.sub_zero]) ?_
  intro u6 M
  replace M : Mem ⟨w, []⟩ [⟨g1, .cells (av 5 (w64 (noF (mk b n)))) 69⟩, ⟨g2, .cells (av 17 (w8 (mk b n))) 91⟩] u6 := M
  refine pl_nil ?_
  refine au_then ?_
  refine wp_ret ?_
  exact bodyPost_ret (v := .agg (av 5 (w64 (noF (mk b n))))) (results_cell_row Tryd.results42 _ _ g1 69 (av 5 (w64 (noF (mk b n)))) (0, 0) _ (by kernel_rfl) (M.get 0 rfl) Tryd.underlying69 rfl (by rw [av_size]; exact inz69)) (by kernel_rfl) ⟨rfl, below_grown M.old⟩

/-- The parts, and 0 behind them. -/
def p6 (a : Nat → Int) : Nat → Int := fun i => if i < 5 then a i else 0
theorem p6_fn (a : Nat → Int) (j : Nat) : (if 0 ≤ j ∧ j < 0 + 5 then w64 a (0 + (j - 0)) else w64 (fun _ => 0) j) = w64 (p6 a) j := by
  unfold w64 p6
  by_cases h : j < 5
  · rw [if_pos (by omega), if_pos h, Nat.sub_zero, Nat.zero_add]
  · rw [if_neg (by omega), if_neg h]
def tb (a : Nat → Int) (i : Nat) : Int := cv .u8 (sr (uo (p6 a (8 * i / 26)) (sl (p6 a (8 * i / 26 + 1)) 26)) (8 * i % 26))
def tbs (a : Nat → Int) : Nat → (Nat → Int)
  | 0 => fun _ => 0
  | j + 1 => upd (tbs a j) j (tb a j)
theorem cv8_nn (x : Int) : 0 ≤ cv .u8 x ∧ cv .u8 x < 256 := by
  unfold cv
  simp [IntKind.wrap, IntKind.signed, IntKind.bits]
  omega
theorem tbs_at (a : Nat → Int) : ∀ n, ∀ i, i < n → tbs a n i = tb a i
  | 0, i, h => absurd h (by omega)
  | n + 1, i, h => by
    unfold tbs upd
    by_cases e : i = n
    · rw [if_pos e, e]
    · rw [if_neg e, tbs_at a n i (by omega)]
theorem tbs_map (a : Nat → Int) : (List.range 16).map (tbs a 16) = (List.range 16).map (tb a) := List.map_congr_left fun i hi => tbs_at a 16 i (List.mem_range.1 hi)
theorem tb_nn (a : Nat → Int) : ∀ y ∈ (List.range 16).map (tb a), 0 ≤ y ∧ y < 256 := fun y hy => by
  obtain ⟨i, _, rfl⟩ := List.mem_map.1 hy
  exact cv8_nn _
/-- The lowest sixteen bytes. -/
def txS (a : Nat → Int) : ByteArray := bs ((List.range 16).map (tb (s5 a)))

set_option maxRecDepth 100000 in
set_option maxHeartbeats 4000000 in
theorem c_text (x : Nat → Int) (w : World) (hL : Laid w)  :
    Calls Tryd.prog 45 #[.agg (av 5 (w64 x))] w fun r w' => r = .returned (.string (txS x)) ∧ Below w.heap.size w w' := by
  go_enter Tryd.func45, Tryd.ntmps45
  have M := Mem.start hL
  refine wp_seq ?_
  refine rg_lit ?_
  refine pl_new M (want_no rfl) (some 1) rfl (.cells (av 5 (w64 x)) 69) (fun _ => by kernel_rfl) ?_
  intro g1 u1 M
  replace M : Mem ⟨w, []⟩ [⟨g1, .cells (av 5 (w64 x)) 69⟩] u1 := M
  refine pl_val (want_no rfl) (some 2) rfl (.string ⟨#[]⟩) (fun _ => by kernel_rfl) ?_
  refine pl_nil ?_
  refine au_then ?_
  refine wp_seq ?_
  refine rg_lit ?_
  refine pl_load M (want_no rfl) (some 8) rfl 69 _ rfl 0 g1 0 (by kernel_rfl) 5 69 (w64 x) rfl 5 (w64 x) (fun j _ => by rw [Nat.zero_add]) (by decide) _ Tryd.underlying69 rfl inz69 ?_
  refine pl_call M (want_no rfl) (some 9) rfl 60 #[.agg (av 5 (w64 x))] (.tuple #[.agg (av 5 (w64 (s5 x))), .int .u64 (c5 x)]) (fun _ => by kernel_rfl) (fun w M => c_settled x w M.laid) ?_
  intro u2 M
  refine pl_val (want_no rfl) (some 7) rfl (.tuple #[.agg (av 5 (w64 (s5 x))), .int .u64 (c5 x)]) (fun _ => by kernel_rfl) ?_
  refine pl_val (want_no rfl) (some 10) rfl (.agg (av 5 (w64 (s5 x)))) (fun _ => by kernel_rfl) ?_
  refine pl_val (want_no rfl) (some 11) rfl (.int .u64 (c5 x)) (fun _ => by kernel_rfl) ?_
  refine pl_put M (want_no rfl) rfl 69 _ _ rfl 0 g1 0 (by kernel_rfl) 5 69 (w64 x) rfl 5 (w64 (s5 x)) (w64 (s5 x)) (by kernel_rfl) inz69 (by decide) (fun _ _ => rfl) (fun j hj => by rw [if_pos (by omega), Nat.sub_zero]) ?_
  intro u3 M
  replace M : Mem ⟨w, []⟩ [⟨g1, .cells (av 5 (w64 (s5 x))) 69⟩] u3 := M
  refine pl_nil ?_
  refine au_then ?_
  refine wp_seq ?_
  refine rg_lit ?_
  refine pl_new M (want_no rfl) (some 3) rfl (.cells (av 6 (w64 (fun _ => 0))) 98) (fun _ => by kernel_rfl) ?_
  intro g2 u4 M
  replace M : Mem ⟨w, []⟩ [⟨g1, .cells (av 5 (w64 (s5 x))) 69⟩, ⟨g2, .cells (av 6 (w64 (fun _ => 0))) 98⟩] u4 := M
  refine pl_nil ?_
  refine au_then ?_
  refine wp_seq ?_
  refine rg_tail M 2 (by kernel_rfl) (by kernel_rfl) ?_
  simp only [List.take_succ_cons, List.take_zero]
  refine k_val (want_no rfl) (some 12) rfl (.slice (some ⟨g2, 0, none⟩) 6 6) (fun _ => by kernel_rfl) ?_
  refine k_val (want_no rfl) (some 13) rfl (.slice (some ⟨g1, 0, none⟩) 5 5) (fun _ => by kernel_rfl) ?_
  refine kl_nil ?_
  intro u5 M
  replace M : Mem ⟨w, []⟩ [⟨g1, .cells (av 5 (w64 (s5 x))) 69⟩, ⟨g2, .cells (av 6 (w64 (fun _ => 0))) 98⟩] u5 := M
  refine pl_copyB M (want_no rfl) (some 14) rfl 95 95 3 22 Tryd.underlying95 inz22 1 g2 6 98 (w64 (fun _ => 0)) rfl 0 g1 5 69 (w64 (s5 x)) rfl 0 6 6 0 5 5 5 rfl (by decide) (by decide) (fun _ _ => rfl) (w64 (p6 (s5 x))) (fun j _ => p6_fn (s5 x) j) (fun _ => by kernel_rfl) ?_
  intro u6 M
  replace M : Mem ⟨w, []⟩ [⟨g1, .cells (av 5 (w64 (s5 x))) 69⟩, ⟨g2, .cells (av 6 (w64 (p6 (s5 x)))) 98⟩] u6 := M
  refine pl_nil ?_
  refine au_then ?_
  refine wp_seq ?_
  refine rg_lit ?_
  refine pl_new M (want_no rfl) (some 4) rfl (.cells (av 16 (w8 (fun _ => 0))) 99) (fun _ => by kernel_rfl) ?_
  intro g3 u7 M
  replace M : Mem ⟨w, []⟩ [⟨g1, .cells (av 5 (w64 (s5 x))) 69⟩, ⟨g2, .cells (av 6 (w64 (p6 (s5 x)))) 98⟩, ⟨g3, .cells (av 16 (w8 (fun _ => 0))) 99⟩] u7 := M
  refine pl_nil ?_
  refine au_then ?_
  refine wp_seq ?_
  refine wp_seq ?_
  refine rg_lit ?_
  refine pl_val (want_no rfl) (some 15) rfl (.int .i64 0) (fun _ => by kernel_rfl) ?_
  refine pl_nil ?_
  refine au_then ?_
  refine wp_block ?_
  refine au_loop (fun j a w' => ∃ v1 : Nat → Value, a = ⟨#[.agg (av 5 (w64 x)), .pointer (some ⟨g1, 0, none⟩), .string ⟨#[]⟩, .pointer (some ⟨g2, 0, none⟩), .pointer (some ⟨g3, 0, none⟩), v1 5, v1 6, .tuple #[.agg (av 5 (w64 (s5 x))), .int .u64 (c5 x)], .agg (av 5 (w64 x)), .tuple #[.agg (av 5 (w64 (s5 x))), .int .u64 (c5 x)], .agg (av 5 (w64 (s5 x))), .int .u64 (c5 x), .slice (some ⟨g2, 0, none⟩) 6 6, .slice (some ⟨g1, 0, none⟩) 5 5, .int .i64 5, .int .i64 (j : Int), v1 16, v1 17, v1 18, v1 19, v1 20, v1 21, v1 22, v1 23, v1 24, v1 25, v1 26, v1 27, v1 28, v1 29, v1 30, v1 31, v1 32, v1 33, v1 34, v1 35, v1 36, v1 37, undef, undef], []⟩ ∧ Mem ⟨w, []⟩ [⟨g1, .cells (av 5 (w64 (s5 x))) 69⟩, ⟨g2, .cells (av 6 (w64 (p6 (s5 x)))) 98⟩, ⟨g3, .cells (av 16 (w8 (tbs (s5 x) j))) 99⟩] w') 16 ⟨fun k_ => ([undef, undef, undef, undef, undef, undef, undef, undef, undef, undef, undef, undef, undef, undef, undef, undef, undef, undef, undef, undef, undef, undef, undef, undef, undef, undef, undef, undef, undef, undef, undef, undef, undef] : List Value).getD (k_ - 5) undef, by kernel_rfl, M⟩ ?_ ?_
  · intro j a u0 hj hI
    obtain ⟨v1, rfl, M⟩ := hI
    refine wp_seq ?_
    refine rg_lit ?_
    refine pl_val (want_no rfl) (some 16) rfl (.bool true) (fun w => Eq.trans (b := .ok (.value (.bool (decide ((j : Int) < 16)))) w) (by kernel_rfl) (by rw [decide_eq_true (by omega)])) ?_
    refine pl_nil ?_
    refine au_then ?_
    refine wp_seq ?_
    refine wp_cond_true (by kernel_rfl) ?_
    refine wp_skip ?_
    refine au_then ?_
    refine wp_seq ?_
    refine wp_block ?_
    refine wp_seq ?_
    refine rg_lit ?_
    refine pl_val (want_no rfl) (some 17) rfl (.int .i64 (j : Int)) (fun _ => by kernel_rfl) ?_
    refine pl_val (want_no rfl) (some 5) rfl (.int .i64 (j : Int)) (fun _ => by kernel_rfl) ?_
    refine pl_nil ?_
    refine au_then ?_
    refine wp_seq ?_
    refine rg_lit ?_
    refine pl_val (want_no rfl) (some 18) rfl (.int .i64 (j : Int)) (fun _ => by kernel_rfl) ?_
    refine pl_val (want_no rfl) (some 19) rfl (.int .i64 ((8 * j : Nat) : Int)) (fun w => Eq.trans (b := .ok (.value (.int .i64 (IntKind.wrap .i64 (8 * (j : Int))))) w) (by kernel_rfl) (by rw [wrap64 (by omega) (by omega)]; congr 3 <;> omega)) ?_
    refine pl_val (want_no rfl) (some 20) rfl (.int .i64 ((8 * j / 26 : Nat) : Int)) (fun w => Eq.trans (b := .ok (.value (.int .i64 (IntKind.wrap .i64 (((8 * j : Nat) : Int).tdiv 26)))) w) (by kernel_rfl) (by rw [quo26 (8 * j) (by omega)])) ?_
    refine pl_val (want_no rfl) (some 6) rfl (.int .i64 ((8 * j / 26 : Nat) : Int)) (fun _ => by kernel_rfl) ?_
    refine pl_nil ?_
    refine au_then ?_
    refine rg_tail M 16 (by kernel_rfl) (by kernel_rfl) ?_
    simp only [List.take_succ_cons, List.take_zero]
    refine k_val (want_no rfl) (some 21) rfl (.int .i64 (j : Int)) (fun _ => by kernel_rfl) ?_
    refine k_val (want_no rfl) (some 22) rfl (.int .i64 ((8 * j / 26 : Nat) : Int)) (fun _ => by kernel_rfl) ?_
    refine k_val (want_no rfl) (some 23) rfl (.pointer (some ⟨g2, ((8 * j / 26 : Nat)), none⟩)) (run_ix1 98 6 22 Tryd.underlying98 inz22 _ _ rfl g2 (by kernel_rfl) .i64 ((8 * j / 26 : Nat)) (by kernel_rfl) (by omega)) ?_
    refine k_cell M (want_no rfl) (some 24) rfl 22 _ rfl g2 ((8 * j / 26 : Nat)) (by kernel_rfl) (.int .u64 ((p6 (s5 x)) ((8 * j / 26 : Nat)))) (fun _ => by kernel_rfl) (fun w M => M.cell 1 rfl (by omega) rfl) ?_
    refine k_val (want_no rfl) (some 25) rfl (.int .i64 ((8 * j / 26 : Nat) : Int)) (fun _ => by kernel_rfl) ?_
    refine k_val (want_no rfl) (some 26) rfl (.int .i64 ((8 * j / 26 + 1 : Nat) : Int)) (fun w => Eq.trans (b := .ok (.value (.int .i64 (IntKind.wrap .i64 (((8 * j / 26 : Nat) : Int) + 1)))) w) (by kernel_rfl) (by rw [wrap64 (by omega) (by omega)]; congr 3)) ?_
    refine k_val (want_no rfl) (some 27) rfl (.pointer (some ⟨g2, ((8 * j / 26 + 1 : Nat)), none⟩)) (run_ix1 98 6 22 Tryd.underlying98 inz22 _ _ rfl g2 (by kernel_rfl) .i64 ((8 * j / 26 + 1 : Nat)) (by kernel_rfl) (by omega)) ?_
    refine k_cell M (want_no rfl) (some 28) rfl 22 _ rfl g2 ((8 * j / 26 + 1 : Nat)) (by kernel_rfl) (.int .u64 ((p6 (s5 x)) ((8 * j / 26 + 1 : Nat)))) (fun _ => by kernel_rfl) (fun w M => M.cell 1 rfl (by omega) rfl) ?_
    refine k_val (want_no rfl) (some 29) rfl (.int .u64 (sl ((p6 (s5 x)) ((8 * j / 26 + 1 : Nat))) 26)) (fun _ => by kernel_rfl) ?_
    refine k_val (want_no rfl) (some 30) rfl (.int .u64 (uo ((p6 (s5 x)) ((8 * j / 26 : Nat))) (sl ((p6 (s5 x)) ((8 * j / 26 + 1 : Nat))) 26))) (fun _ => by kernel_rfl) ?_
    refine k_val (want_no rfl) (some 31) rfl (.int .i64 (j : Int)) (fun _ => by kernel_rfl) ?_
    refine k_val (want_no rfl) (some 32) rfl (.int .i64 ((8 * j : Nat) : Int)) (fun w => Eq.trans (b := .ok (.value (.int .i64 (IntKind.wrap .i64 (8 * (j : Int))))) w) (by kernel_rfl) (by rw [wrap64 (by omega) (by omega)]; congr 3 <;> omega)) ?_
    refine k_val (want_no rfl) (some 33) rfl (.int .i64 ((8 * j % 26 : Nat) : Int)) (fun w => Eq.trans (b := .ok (.value (.int .i64 (Int.tmod ((8 * j : Nat) : Int) 26))) w) (by kernel_rfl) (by rw [rem26 (8 * j)])) ?_
    refine k_val (want_no rfl) (some 34) rfl (.int .u64 (sr (uo (p6 (s5 x) (8 * j / 26)) (sl (p6 (s5 x) (8 * j / 26 + 1)) 26)) (8 * j % 26))) (run_shrU 22 3 _ _ rfl _ .i64 (8 * j % 26) (by kernel_rfl) (by kernel_rfl) (by omega)) ?_
    refine k_val (want_no rfl) (some 35) rfl (.int .u8 (cv .u8 (sr (uo (p6 (s5 x) (8 * j / 26)) (sl (p6 (s5 x) (8 * j / 26 + 1)) 26)) (8 * j % 26)))) (fun _ => by kernel_rfl) ?_
    refine k_val (want_no rfl) (some 36) rfl (.pointer (some ⟨g3, j, none⟩)) (run_ix1 99 16 5 Tryd.underlying99 inz5 _ _ rfl g3 (by kernel_rfl) .i64 (j) (by kernel_rfl) (by omega)) ?_
    refine kl_nil ?_
    intro u8 M
    replace M : Mem ⟨w, []⟩ [⟨g1, .cells (av 5 (w64 (s5 x))) 69⟩, ⟨g2, .cells (av 6 (w64 (p6 (s5 x)))) 98⟩, ⟨g3, .cells (av 16 (w8 (tbs (s5 x) j))) 99⟩] u8 := M
    refine pl_put1 M (want_no rfl) rfl 5 _ _ rfl 2 g3 j (by kernel_rfl) 16 99 (w8 (tbs (s5 x) j)) rfl (.int .u8 (cv .u8 (sr (uo (p6 (s5 x) (8 * j / 26)) (sl (p6 (s5 x) (8 * j / 26 + 1)) 26)) (8 * j % 26)))) (w8 (upd (tbs (s5 x) j) j (cv .u8 (sr (uo (p6 (s5 x) (8 * j / 26)) (sl (p6 (s5 x) (8 * j / 26 + 1)) 26)) (8 * j % 26))))) (by kernel_rfl) inz5 (by omega) rfl rfl (fun j _ => put_w8 _ _ _ j) ?_
    intro u9 M
    replace M : Mem ⟨w, []⟩ [⟨g1, .cells (av 5 (w64 (s5 x))) 69⟩, ⟨g2, .cells (av 6 (w64 (p6 (s5 x)))) 98⟩, ⟨g3, .cells (av 16 (w8 (upd (tbs (s5 x) j) j (cv .u8 (sr (uo (p6 (s5 x) (8 * j / 26)) (sl (p6 (s5 x) (8 * j / 26 + 1)) 26)) (8 * j % 26)))))) 99⟩] u9 := M
    refine pl_nil ?_
    refine au_block ?_
    refine au_then ?_
    refine rg_lit ?_
    refine pl_val (want_no rfl) (some 37) rfl (.int .i64 ((j + 1 : Nat) : Int)) (fun w => Eq.trans (b := .ok (.value (.int .i64 (IntKind.wrap .i64 ((j : Int) + 1)))) w) (by kernel_rfl) (by rw [wrap64 (by omega) (by omega)]; congr 3)) ?_
    refine pl_val (want_no rfl) (some 15) rfl (.int .i64 ((j + 1 : Nat) : Int)) (fun _ => by kernel_rfl) ?_
    refine pl_nil ?_
    refine au_then ?_
    exact ⟨fun k_ => ([.int .i64 (j : Int), .int .i64 ((8 * j / 26 : Nat) : Int), undef, undef, undef, undef, undef, undef, undef, undef, undef, .bool true, .int .i64 (j : Int), .int .i64 (j : Int), .int .i64 ((8 * j : Nat) : Int), .int .i64 ((8 * j / 26 : Nat) : Int), .int .i64 (j : Int), .int .i64 ((8 * j / 26 : Nat) : Int), .pointer (some ⟨g2, ((8 * j / 26 : Nat)), none⟩), .int .u64 ((p6 (s5 x)) ((8 * j / 26 : Nat))), .int .i64 ((8 * j / 26 : Nat) : Int), .int .i64 ((8 * j / 26 + 1 : Nat) : Int), .pointer (some ⟨g2, ((8 * j / 26 + 1 : Nat)), none⟩), .int .u64 ((p6 (s5 x)) ((8 * j / 26 + 1 : Nat))), .int .u64 (sl ((p6 (s5 x)) ((8 * j / 26 + 1 : Nat))) 26), .int .u64 (uo ((p6 (s5 x)) ((8 * j / 26 : Nat))) (sl ((p6 (s5 x)) ((8 * j / 26 + 1 : Nat))) 26)), .int .i64 (j : Int), .int .i64 ((8 * j : Nat) : Int), .int .i64 ((8 * j % 26 : Nat) : Int), .int .u64 (sr (uo (p6 (s5 x) (8 * j / 26)) (sl (p6 (s5 x) (8 * j / 26 + 1)) 26)) (8 * j % 26)), .int .u8 (cv .u8 (sr (uo (p6 (s5 x) (8 * j / 26)) (sl (p6 (s5 x) (8 * j / 26 + 1)) 26)) (8 * j % 26))), .pointer (some ⟨g3, j, none⟩), .int .i64 ((j + 1 : Nat) : Int)] : List Value).getD (k_ - 5) undef, by kernel_rfl, M⟩
  · intro a u0 hI
    obtain ⟨v1, rfl, M⟩ := hI
    refine wp_seq ?_
    refine rg_lit ?_
    refine pl_val (want_no rfl) (some 16) rfl (.bool false) (fun w => Eq.trans (b := .ok (.value (.bool (decide (16 < 16)))) w) (by kernel_rfl) (by rw [decide_eq_false (by omega)])) ?_
    refine pl_nil ?_
    refine au_then ?_
    refine wp_seq ?_
    refine wp_cond_false (by kernel_rfl) ?_
    refine wp_exit ?_
    refine au_then_exit ?_
    refine au_then_exit ?_
    refine au_block_exit ?_
    refine au_then ?_
    refine wp_seq ?_
    refine rg_lit ?_
    refine pl_val (want_no rfl) (some 38) rfl (.slice (some ⟨g3, 0, none⟩) 16 16) (fun _ => by kernel_rfl) ?_
    refine pl_back M (want_no rfl) (some 39) rfl _ rfl 2 g3 16 16 (by kernel_rfl) _ rfl ((List.range 16).map (tbs (s5 x) 16)) 16 (sb_av 16 _ _) (by simp) (by rw [tbs_map]; exact tb_nn _) ?_
    rw [tbs_map]
    refine pl_val (want_no rfl) (some 2) rfl (.string (txS x)) (fun _ => by kernel_rfl) ?_
    refine pl_nil ?_
    refine au_then ?_
    refine wp_ret ?_
    exact bodyPost_ret (v := .string (txS x)) (results_tmp1 Tryd.results45 _ _ _ (by kernel_rfl)) (by kernel_rfl) ⟨rfl, below_grown M.old⟩


end Go.Proofs.YtkndaajbedlajaaDoor.Pol
