/- The document: the walks of carry, times and whole. -/
import Derived.Test.YtkndaajbedlajaaDoorP2
namespace Go.Proofs.YtkndaajbedlajaaDoor.Pol
open Go.RowKit

theorem st_ge (m : Int) (sh : Nat) (a : Nat → Int) : ∀ j i, j ≤ i → st m sh a j i = a i
  | 0, _, _ => rfl
  | j + 1, i, h => by
    unfold st upd
    rw [if_neg (by omega), st_ge m sh a j i (by omega)]
theorem st_cell (m : Int) (sh : Nat) (a : Nat → Int) (j : Nat) : w64 (st m sh a j) j = .int .u64 (a j) := by
  unfold w64
  rw [st_ge m sh a j j (Nat.le_refl _)]
def dch (a : Nat → Int) : Nat → Int := st 255 8 a 18
def dtop (a : Nat → Int) : Int := uo (uo (sr (dch a 16) 2) (sl (dch a 17) 6)) (sl (cy 8 a 18) 14)
def d0 (a : Nat → Int) : Nat → Int := upd (upd (dch a) 16 (un (dch a 16) 3)) 17 0
def d1 (a : Nat → Int) : Nat → Int := upd (d0 a) 0 (ua (d0 a 0) (um 5 (dtop a)))
def dr (a : Nat → Int) : Nat → (Nat → Int)
  | 0 => a
  | j + 1 => d1 (dr a j)
def dcF (a : Nat → Int) : Nat → Int := st 255 8 (dr a 3) 18

set_option maxRecDepth 100000 in
set_option maxHeartbeats 4000000 in
theorem d_carry (x : Nat → Int) (w : World) (hL : Laid w)  :
    Calls Tryd.prog 51 #[.agg (av 18 (w64 x))] w fun r w' => r = .returned (.agg (av 18 (w64 (dcF x)))) ∧ Below w.heap.size w w' := by
  go_enter Tryd.func51, Tryd.ntmps51
  have M := Mem.start hL
  refine wp_seq ?_
  refine rg_lit ?_
  refine pl_new M (want_no rfl) (some 1) rfl (.cells (av 18 (w64 x)) 84) (fun _ => by kernel_rfl) ?_
  intro g1 u1 M
  replace M : Mem ⟨w, []⟩ [⟨g1, .cells (av 18 (w64 x)) 84⟩] u1 := M
  refine pl_new M (want_no rfl) (some 2) rfl (.cells (av 18 (w64 (fun _ => 0))) 84) (fun _ => by kernel_rfl) ?_
  intro g2 u2 M
  replace M : Mem ⟨w, []⟩ [⟨g1, .cells (av 18 (w64 x)) 84⟩, ⟨g2, .cells (av 18 (w64 (fun _ => 0))) 84⟩] u2 := M
  refine pl_nil ?_
  refine au_then ?_
  refine wp_seq ?_
  refine wp_seq ?_
  refine rg_lit ?_
  refine pl_val (want_no rfl) (some 3) rfl (.int .i64 0) (fun _ => by kernel_rfl) ?_
  refine pl_nil ?_
  refine au_then ?_
  refine wp_block ?_
  refine au_loop (fun i a w' => ∃ v1 : Nat → Value, a = ⟨#[.agg (av 18 (w64 x)), .pointer (some ⟨g1, 0, none⟩), .pointer (some ⟨g2, 0, none⟩), .int .i64 (i : Int), v1 4, v1 5, v1 6, v1 7, undef, undef, undef, v1 11, v1 12, v1 13, v1 14, v1 15, v1 16, v1 17, v1 18, v1 19, v1 20, v1 21, v1 22, v1 23, v1 24, v1 25, v1 26, v1 27, v1 28, v1 29, v1 30, v1 31, v1 32, v1 33, v1 34, v1 35, v1 36, v1 37, v1 38, v1 39, v1 40, v1 41, v1 42, v1 43, v1 44, v1 45, v1 46, v1 47, v1 48, v1 49, v1 50, undef, undef, undef, undef, undef, undef, undef, undef, undef, undef, undef, undef, undef, undef, undef, undef], []⟩ ∧ Mem ⟨w, []⟩ [⟨g1, .cells (av 18 (w64 (dr x i))) 84⟩, ⟨g2, .cells (av 18 (w64 (fun _ => 0))) 84⟩] w') 3 ⟨fun k_ => ([undef, undef, undef, undef, undef, undef, undef, undef, undef, undef, undef, undef, undef, undef, undef, undef, undef, undef, undef, undef, undef, undef, undef, undef, undef, undef, undef, undef, undef, undef, undef, undef, undef, undef, undef, undef, undef, undef, undef, undef, undef, undef, undef, undef, undef, undef, undef] : List Value).getD (k_ - 4) undef, by kernel_rfl, M⟩ ?_ ?_
  · intro i a u0 hi hI
    obtain ⟨v1, rfl, M⟩ := hI
    refine wp_seq ?_
    refine wp_seq ?_
    refine rg_lit ?_
    refine pl_val (want_no rfl) (some 11) rfl (.int .i64 (i : Int)) (fun _ => by kernel_rfl) ?_
    refine pl_val (want_no rfl) (some 12) rfl (.bool true) (fun w => Eq.trans (b := .ok (.value (.bool (decide ((i : Int) < 3)))) w) (by kernel_rfl) (by rw [decide_eq_true (by omega)])) ?_
    refine pl_nil ?_
    refine au_then ?_
    refine wp_cond_true (by kernel_rfl) ?_
    refine wp_skip ?_
    refine au_then ?_
    refine wp_seq ?_
    refine wp_block ?_
    refine wp_seq ?_
    refine rg_lit ?_
    refine pl_val (want_no rfl) (some 4) rfl (.int .u64 0) (fun _ => by kernel_rfl) ?_
    refine pl_nil ?_
    refine au_then ?_
    refine wp_seq ?_
    refine wp_seq ?_
    refine rg_lit ?_
    refine pl_val (want_no rfl) (some 5) rfl (.int .i64 0) (fun _ => by kernel_rfl) ?_
    refine pl_nil ?_
    refine au_then ?_
    refine wp_block ?_
    refine au_loop (fun j a w' => ∃ v2 : Nat → Value, a = ⟨#[.agg (av 18 (w64 x)), .pointer (some ⟨g1, 0, none⟩), .pointer (some ⟨g2, 0, none⟩), .int .i64 (i : Int), .int .u64 (cy 8 (dr x i) j), .int .i64 (j : Int), v2 6, v1 7, undef, undef, undef, .int .i64 (i : Int), .bool true, v1 13, v1 14, v2 15, v2 16, v2 17, v2 18, v2 19, v2 20, v2 21, v2 22, v2 23, v2 24, v2 25, v2 26, v2 27, v2 28, v2 29, v1 30, v1 31, v1 32, v1 33, v1 34, v1 35, v1 36, v1 37, v1 38, v1 39, v1 40, v1 41, v1 42, v1 43, v1 44, v1 45, v1 46, v1 47, v1 48, v1 49, v1 50, undef, undef, undef, undef, undef, undef, undef, undef, undef, undef, undef, undef, undef, undef, undef, undef], []⟩ ∧ Mem ⟨w, []⟩ [⟨g1, .cells (av 18 (w64 (st 255 8 (dr x i) j))) 84⟩, ⟨g2, .cells (av 18 (w64 (fun _ => 0))) 84⟩] w') 18 ⟨fun k_ => ([v1 6, undef, undef, undef, undef, undef, undef, undef, undef, v1 15, v1 16, v1 17, v1 18, v1 19, v1 20, v1 21, v1 22, v1 23, v1 24, v1 25, v1 26, v1 27, v1 28, v1 29] : List Value).getD (k_ - 6) undef, by kernel_rfl, M⟩ ?_ ?_
    · intro j a u0 hj hI
      obtain ⟨v2, rfl, M⟩ := hI
      refine wp_seq ?_
      refine wp_seq ?_
      refine rg_lit ?_
      refine pl_val (want_no rfl) (some 15) rfl (.int .i64 (j : Int)) (fun _ => by kernel_rfl) ?_
      refine pl_val (want_no rfl) (some 16) rfl (.bool true) (fun w => Eq.trans (b := .ok (.value (.bool (decide ((j : Int) < 18)))) w) (by kernel_rfl) (by rw [decide_eq_true (by omega)])) ?_
      refine pl_nil ?_
      refine au_then ?_
      refine wp_cond_true (by kernel_rfl) ?_
      refine wp_skip ?_
      refine au_then ?_
      refine wp_seq ?_
      refine wp_block ?_
      refine wp_seq ?_
      refine rg_lit ?_
      refine pl_val (want_no rfl) (some 19) rfl (.int .i64 (j : Int)) (fun _ => by kernel_rfl) ?_
      refine pl_val (want_no rfl) (some 20) rfl (.pointer (some ⟨g1, j, none⟩)) (run_ix1 84 18 22 Tryd.underlying84 inz22 _ _ rfl g1 (by kernel_rfl) .i64 (j) (by kernel_rfl) (by omega)) ?_
      refine pl_cell M (want_no rfl) (some 21) rfl 22 _ rfl g1 j (by kernel_rfl) (.int .u64 ((dr x i) j)) (fun _ => by kernel_rfl) (fun w M => M.cell 0 rfl (by omega) (st_cell 255 8 (dr x i) j)) ?_
      refine pl_val (want_no rfl) (some 22) rfl (.int .u64 (cy 8 (dr x i) j)) (fun _ => by kernel_rfl) ?_
      refine pl_val (want_no rfl) (some 23) rfl (.int .u64 (ua ((dr x i) j) (cy 8 (dr x i) j))) (fun _ => by kernel_rfl) ?_
      refine pl_val (want_no rfl) (some 6) rfl (.int .u64 (ua ((dr x i) j) (cy 8 (dr x i) j))) (fun _ => by kernel_rfl) ?_
      refine pl_nil ?_
      refine au_then ?_
      refine wp_seq ?_
      refine rg_lit ?_
      refine pl_val (want_no rfl) (some 24) rfl (.int .i64 (j : Int)) (fun _ => by kernel_rfl) ?_
      refine pl_val (want_no rfl) (some 25) rfl (.int .u64 (ua ((dr x i) j) (cy 8 (dr x i) j))) (fun _ => by kernel_rfl) ?_
      refine pl_val (want_no rfl) (some 26) rfl (.int .u64 (un (ua ((dr x i) j) (cy 8 (dr x i) j)) 255)) (fun _ => by kernel_rfl) ?_
      refine pl_val (want_no rfl) (some 27) rfl (.pointer (some ⟨g1, j, none⟩)) (run_ix1 84 18 22 Tryd.underlying84 inz22 _ _ rfl g1 (by kernel_rfl) .i64 (j) (by kernel_rfl) (by omega)) ?_
      refine pl_put1 M (want_no rfl) rfl 22 _ _ rfl 0 g1 j (by kernel_rfl) 18 84 (w64 (st 255 8 (dr x i) j)) rfl (.int .u64 (un (ua ((dr x i) j) (cy 8 (dr x i) j)) 255)) (w64 (upd (st 255 8 (dr x i) j) j (un (ua ((dr x i) j) (cy 8 (dr x i) j)) 255))) (by kernel_rfl) inz22 (by omega) rfl rfl (fun j _ => put_w64 _ _ _ j) ?_
      intro u3 M
      replace M : Mem ⟨w, []⟩ [⟨g1, .cells (av 18 (w64 (upd (st 255 8 (dr x i) j) j (un (ua ((dr x i) j) (cy 8 (dr x i) j)) 255)))) 84⟩, ⟨g2, .cells (av 18 (w64 (fun _ => 0))) 84⟩] u3 := M
      refine pl_nil ?_
      refine au_then ?_
      refine rg_lit ?_
      refine pl_val (want_no rfl) (some 28) rfl (.int .u64 (ua ((dr x i) j) (cy 8 (dr x i) j))) (fun _ => by kernel_rfl) ?_
      refine pl_val (want_no rfl) (some 29) rfl (.int .u64 (sr (ua ((dr x i) j) (cy 8 (dr x i) j)) 8)) (fun _ => by kernel_rfl) ?_
      refine pl_val (want_no rfl) (some 4) rfl (.int .u64 (sr (ua ((dr x i) j) (cy 8 (dr x i) j)) 8)) (fun _ => by kernel_rfl) ?_
      refine pl_nil ?_
      refine au_block ?_
      refine au_then ?_
      refine rg_lit ?_
      refine pl_val (want_no rfl) (some 17) rfl (.int .i64 (j : Int)) (fun _ => by kernel_rfl) ?_
      refine pl_val (want_no rfl) (some 18) rfl (.int .i64 ((j + 1 : Nat) : Int)) (fun w => Eq.trans (b := .ok (.value (.int .i64 (IntKind.wrap .i64 ((j : Int) + 1)))) w) (by kernel_rfl) (by rw [wrap64 (by omega) (by omega)]; congr 3)) ?_
      refine pl_val (want_no rfl) (some 5) rfl (.int .i64 ((j + 1 : Nat) : Int)) (fun _ => by kernel_rfl) ?_
      refine pl_nil ?_
      refine au_then ?_
      exact ⟨fun k_ => ([.int .u64 (ua ((dr x i) j) (cy 8 (dr x i) j)), undef, undef, undef, undef, undef, undef, undef, undef, .int .i64 (j : Int), .bool true, .int .i64 (j : Int), .int .i64 ((j + 1 : Nat) : Int), .int .i64 (j : Int), .pointer (some ⟨g1, j, none⟩), .int .u64 ((dr x i) j), .int .u64 (cy 8 (dr x i) j), .int .u64 (ua ((dr x i) j) (cy 8 (dr x i) j)), .int .i64 (j : Int), .int .u64 (ua ((dr x i) j) (cy 8 (dr x i) j)), .int .u64 (un (ua ((dr x i) j) (cy 8 (dr x i) j)) 255), .pointer (some ⟨g1, j, none⟩), .int .u64 (ua ((dr x i) j) (cy 8 (dr x i) j)), .int .u64 (sr (ua ((dr x i) j) (cy 8 (dr x i) j)) 8)] : List Value).getD (k_ - 6) undef, by kernel_rfl, M⟩
    · intro a u0 hI
      obtain ⟨v2, rfl, M⟩ := hI
      refine wp_seq ?_
      refine wp_seq ?_
      refine rg_lit ?_
      refine pl_val (want_no rfl) (some 15) rfl (.int .i64 (18 : Int)) (fun _ => by kernel_rfl) ?_
      refine pl_val (want_no rfl) (some 16) rfl (.bool false) (fun w => Eq.trans (b := .ok (.value (.bool (decide (18 < 18)))) w) (by kernel_rfl) (by rw [decide_eq_false (by omega)])) ?_
      refine pl_nil ?_
      refine au_then ?_
      refine wp_cond_false (by kernel_rfl) ?_
      refine wp_exit ?_
      refine au_then_exit ?_
      refine au_then_exit ?_
      refine au_block_exit ?_
      refine au_then ?_
      refine wp_seq ?_
      replace M : Mem ⟨w, []⟩ [⟨g1, .cells (av 18 (w64 (dch (dr x i)))) 84⟩, ⟨g2, .cells (av 18 (w64 (fun _ => 0))) 84⟩] u0 := M
      refine rg_lit ?_
      refine pl_val (want_no rfl) (some 30) rfl (.pointer (some ⟨g1, 16, none⟩)) (fun _ => by kernel_rfl) ?_
      refine pl_cell M (want_no rfl) (some 31) rfl 22 _ rfl g1 16 (by kernel_rfl) (.int .u64 ((dch (dr x i)) 16)) (fun _ => by kernel_rfl) (fun w M => M.cell 0 rfl (by decide) rfl) ?_
      refine pl_val (want_no rfl) (some 32) rfl (.int .u64 (sr ((dch (dr x i)) 16) 2)) (fun _ => by kernel_rfl) ?_
      refine pl_val (want_no rfl) (some 33) rfl (.pointer (some ⟨g1, 17, none⟩)) (fun _ => by kernel_rfl) ?_
      refine pl_cell M (want_no rfl) (some 34) rfl 22 _ rfl g1 17 (by kernel_rfl) (.int .u64 ((dch (dr x i)) 17)) (fun _ => by kernel_rfl) (fun w M => M.cell 0 rfl (by decide) rfl) ?_
      refine pl_val (want_no rfl) (some 35) rfl (.int .u64 (sl ((dch (dr x i)) 17) 6)) (fun _ => by kernel_rfl) ?_
      refine pl_val (want_no rfl) (some 36) rfl (.int .u64 (uo (sr ((dch (dr x i)) 16) 2) (sl ((dch (dr x i)) 17) 6))) (fun _ => by kernel_rfl) ?_
      refine pl_val (want_no rfl) (some 37) rfl (.int .u64 (cy 8 (dr x i) 18)) (fun _ => by kernel_rfl) ?_
      refine pl_val (want_no rfl) (some 38) rfl (.int .u64 (sl (cy 8 (dr x i) 18) 14)) (fun _ => by kernel_rfl) ?_
      refine pl_val (want_no rfl) (some 39) rfl (.int .u64 (uo (uo (sr ((dch (dr x i)) 16) 2) (sl ((dch (dr x i)) 17) 6)) (sl (cy 8 (dr x i) 18) 14))) (fun _ => by kernel_rfl) ?_
      refine pl_val (want_no rfl) (some 7) rfl (.int .u64 (uo (uo (sr ((dch (dr x i)) 16) 2) (sl ((dch (dr x i)) 17) 6)) (sl (cy 8 (dr x i) 18) 14))) (fun _ => by kernel_rfl) ?_
      refine pl_nil ?_
      refine au_then ?_
      refine wp_seq ?_
      refine rg_lit ?_
      refine pl_val (want_no rfl) (some 40) rfl (.pointer (some ⟨g1, 16, none⟩)) (fun _ => by kernel_rfl) ?_
      refine pl_cell M (want_no rfl) (some 41) rfl 22 _ rfl g1 16 (by kernel_rfl) (.int .u64 ((dch (dr x i)) 16)) (fun _ => by kernel_rfl) (fun w M => M.cell 0 rfl (by decide) rfl) ?_
      refine pl_val (want_no rfl) (some 42) rfl (.int .u64 (un ((dch (dr x i)) 16) 3)) (fun _ => by kernel_rfl) ?_
      refine pl_val (want_no rfl) (some 43) rfl (.pointer (some ⟨g1, 16, none⟩)) (fun _ => by kernel_rfl) ?_
      refine pl_put1 M (want_no rfl) rfl 22 _ _ rfl 0 g1 16 (by kernel_rfl) 18 84 (w64 (dch (dr x i))) rfl (.int .u64 (un ((dch (dr x i)) 16) 3)) (w64 (upd (dch (dr x i)) 16 (un ((dch (dr x i)) 16) 3))) (by kernel_rfl) inz22 (by decide) rfl rfl (fun j _ => put_w64 _ _ _ j) ?_
      intro u4 M
      replace M : Mem ⟨w, []⟩ [⟨g1, .cells (av 18 (w64 (upd (dch (dr x i)) 16 (un ((dch (dr x i)) 16) 3)))) 84⟩, ⟨g2, .cells (av 18 (w64 (fun _ => 0))) 84⟩] u4 := M
      refine pl_nil ?_
      refine au_then ?_
      refine wp_seq ?_
      refine rg_lit ?_
      refine pl_val (want_no rfl) (some 44) rfl (.pointer (some ⟨g1, 17, none⟩)) (fun _ => by kernel_rfl) ?_
      refine pl_put1 M (want_no rfl) rfl 22 _ _ rfl 0 g1 17 (by kernel_rfl) 18 84 (w64 (upd (dch (dr x i)) 16 (un ((dch (dr x i)) 16) 3))) rfl (.int .u64 0) (w64 (upd (upd (dch (dr x i)) 16 (un ((dch (dr x i)) 16) 3)) 17 0)) (by kernel_rfl) inz22 (by decide) rfl rfl (fun j _ => put_w64 _ _ _ j) ?_
      intro u5 M
      replace M : Mem ⟨w, []⟩ [⟨g1, .cells (av 18 (w64 (upd (upd (dch (dr x i)) 16 (un ((dch (dr x i)) 16) 3)) 17 0))) 84⟩, ⟨g2, .cells (av 18 (w64 (fun _ => 0))) 84⟩] u5 := M
      refine pl_nil ?_
      replace M : Mem ⟨w, []⟩ [⟨g1, .cells (av 18 (w64 (d0 (dr x i)))) 84⟩, ⟨g2, .cells (av 18 (w64 (fun _ => 0))) 84⟩] u5 := M
      refine au_then ?_
      refine rg_lit ?_
      refine pl_val (want_no rfl) (some 45) rfl (.pointer (some ⟨g1, 0, none⟩)) (fun _ => by kernel_rfl) ?_
      refine pl_cell M (want_no rfl) (some 46) rfl 22 _ rfl g1 0 (by kernel_rfl) (.int .u64 ((d0 (dr x i)) 0)) (fun _ => by kernel_rfl) (fun w M => M.cell 0 rfl (by decide) rfl) ?_
      refine pl_val (want_no rfl) (some 47) rfl (.int .u64 (dtop (dr x i))) (fun _ => by kernel_rfl) ?_
      refine pl_val (want_no rfl) (some 48) rfl (.int .u64 (um 5 (dtop (dr x i)))) (fun _ => by kernel_rfl) ?_
      refine pl_val (want_no rfl) (some 49) rfl (.int .u64 (ua ((d0 (dr x i)) 0) (um 5 (dtop (dr x i))))) (fun _ => by kernel_rfl) ?_
      refine pl_val (want_no rfl) (some 50) rfl (.pointer (some ⟨g1, 0, none⟩)) (fun _ => by kernel_rfl) ?_
      refine pl_put1 M (want_no rfl) rfl 22 _ _ rfl 0 g1 0 (by kernel_rfl) 18 84 (w64 (d0 (dr x i))) rfl (.int .u64 (ua ((d0 (dr x i)) 0) (um 5 (dtop (dr x i))))) (w64 (upd (d0 (dr x i)) 0 (ua ((d0 (dr x i)) 0) (um 5 (dtop (dr x i)))))) (by kernel_rfl) inz22 (by decide) rfl rfl (fun j _ => put_w64 _ _ _ j) ?_
      intro u6 M
      replace M : Mem ⟨w, []⟩ [⟨g1, .cells (av 18 (w64 (upd (d0 (dr x i)) 0 (ua ((d0 (dr x i)) 0) (um 5 (dtop (dr x i))))))) 84⟩, ⟨g2, .cells (av 18 (w64 (fun _ => 0))) 84⟩] u6 := M
      refine pl_nil ?_
      replace M : Mem ⟨w, []⟩ [⟨g1, .cells (av 18 (w64 (d1 (dr x i)))) 84⟩, ⟨g2, .cells (av 18 (w64 (fun _ => 0))) 84⟩] u6 := M
      refine au_block ?_
      refine au_then ?_
      refine rg_lit ?_
      refine pl_val (want_no rfl) (some 13) rfl (.int .i64 (i : Int)) (fun _ => by kernel_rfl) ?_
      refine pl_val (want_no rfl) (some 14) rfl (.int .i64 ((i + 1 : Nat) : Int)) (fun w => Eq.trans (b := .ok (.value (.int .i64 (IntKind.wrap .i64 ((i : Int) + 1)))) w) (by kernel_rfl) (by rw [wrap64 (by omega) (by omega)]; congr 3)) ?_
      refine pl_val (want_no rfl) (some 3) rfl (.int .i64 ((i + 1 : Nat) : Int)) (fun _ => by kernel_rfl) ?_
      refine pl_nil ?_
      refine au_then ?_
      exact ⟨fun k_ => ([.int .u64 (cy 8 (dr x i) 18), .int .i64 (18 : Int), v2 6, .int .u64 (dtop (dr x i)), undef, undef, undef, .int .i64 (i : Int), .bool true, .int .i64 (i : Int), .int .i64 ((i + 1 : Nat) : Int), .int .i64 (18 : Int), .bool false, v2 17, v2 18, v2 19, v2 20, v2 21, v2 22, v2 23, v2 24, v2 25, v2 26, v2 27, v2 28, v2 29, .pointer (some ⟨g1, 16, none⟩), .int .u64 ((dch (dr x i)) 16), .int .u64 (sr ((dch (dr x i)) 16) 2), .pointer (some ⟨g1, 17, none⟩), .int .u64 ((dch (dr x i)) 17), .int .u64 (sl ((dch (dr x i)) 17) 6), .int .u64 (uo (sr ((dch (dr x i)) 16) 2) (sl ((dch (dr x i)) 17) 6)), .int .u64 (cy 8 (dr x i) 18), .int .u64 (sl (cy 8 (dr x i) 18) 14), .int .u64 (uo (uo (sr ((dch (dr x i)) 16) 2) (sl ((dch (dr x i)) 17) 6)) (sl (cy 8 (dr x i) 18) 14)), .pointer (some ⟨g1, 16, none⟩), .int .u64 ((dch (dr x i)) 16), .int .u64 (un ((dch (dr x i)) 16) 3), .pointer (some ⟨g1, 16, none⟩), .pointer (some ⟨g1, 17, none⟩), .pointer (some ⟨g1, 0, none⟩), .int .u64 ((d0 (dr x i)) 0), .int .u64 (dtop (dr x i)), .int .u64 (um 5 (dtop (dr x i))), .int .u64 (ua ((d0 (dr x i)) 0) (um 5 (dtop (dr x i)))), .pointer (some ⟨g1, 0, none⟩)] : List Value).getD (k_ - 4) undef, by kernel_rfl, M⟩
  · intro a u0 hI
    obtain ⟨v1, rfl, M⟩ := hI
    refine wp_seq ?_
    refine wp_seq ?_
    refine rg_lit ?_
    refine pl_val (want_no rfl) (some 11) rfl (.int .i64 (3 : Int)) (fun _ => by kernel_rfl) ?_
    refine pl_val (want_no rfl) (some 12) rfl (.bool false) (fun w => Eq.trans (b := .ok (.value (.bool (decide (3 < 3)))) w) (by kernel_rfl) (by rw [decide_eq_false (by omega)])) ?_
    refine pl_nil ?_
    refine au_then ?_
    refine wp_cond_false (by kernel_rfl) ?_
    refine wp_exit ?_
    refine au_then_exit ?_
    refine au_then_exit ?_
    refine au_block_exit ?_
    refine au_then ?_
    refine wp_seq ?_
    refine rg_lit ?_
    refine pl_val (want_no rfl) (some 8) rfl (.int .u64 0) (fun _ => by kernel_rfl) ?_
    refine pl_nil ?_
    refine au_then ?_
    refine wp_seq ?_
    refine wp_seq ?_
    refine rg_lit ?_
    refine pl_val (want_no rfl) (some 9) rfl (.int .i64 0) (fun _ => by kernel_rfl) ?_
    refine pl_nil ?_
    refine au_then ?_
    refine wp_block ?_
    refine au_loop (fun j a w' => ∃ v3 : Nat → Value, a = ⟨#[.agg (av 18 (w64 x)), .pointer (some ⟨g1, 0, none⟩), .pointer (some ⟨g2, 0, none⟩), .int .i64 (3 : Int), v1 4, v1 5, v1 6, v1 7, .int .u64 (cy 8 (dr x 3) j), .int .i64 (j : Int), v3 10, .int .i64 (3 : Int), .bool false, v1 13, v1 14, v1 15, v1 16, v1 17, v1 18, v1 19, v1 20, v1 21, v1 22, v1 23, v1 24, v1 25, v1 26, v1 27, v1 28, v1 29, v1 30, v1 31, v1 32, v1 33, v1 34, v1 35, v1 36, v1 37, v1 38, v1 39, v1 40, v1 41, v1 42, v1 43, v1 44, v1 45, v1 46, v1 47, v1 48, v1 49, v1 50, v3 51, v3 52, v3 53, v3 54, v3 55, v3 56, v3 57, v3 58, v3 59, v3 60, v3 61, v3 62, v3 63, v3 64, v3 65, undef], []⟩ ∧ Mem ⟨w, []⟩ [⟨g1, .cells (av 18 (w64 (st 255 8 (dr x 3) j))) 84⟩, ⟨g2, .cells (av 18 (w64 (fun _ => 0))) 84⟩] w') 18 ⟨fun k_ => ([undef, undef, undef, undef, undef, undef, undef, undef, undef, undef, undef, undef, undef, undef, undef, undef, undef, undef, undef, undef, undef, undef, undef, undef, undef, undef, undef, undef, undef, undef, undef, undef, undef, undef, undef, undef, undef, undef, undef, undef, undef, undef, undef, undef, undef, undef, undef, undef, undef, undef, undef, undef, undef, undef, undef, undef] : List Value).getD (k_ - 10) undef, by kernel_rfl, M⟩ ?_ ?_
    · intro j a u0 hj hI
      obtain ⟨v3, rfl, M⟩ := hI
      refine wp_seq ?_
      refine wp_seq ?_
      refine rg_lit ?_
      refine pl_val (want_no rfl) (some 51) rfl (.int .i64 (j : Int)) (fun _ => by kernel_rfl) ?_
      refine pl_val (want_no rfl) (some 52) rfl (.bool true) (fun w => Eq.trans (b := .ok (.value (.bool (decide ((j : Int) < 18)))) w) (by kernel_rfl) (by rw [decide_eq_true (by omega)])) ?_
      refine pl_nil ?_
      refine au_then ?_
      refine wp_cond_true (by kernel_rfl) ?_
      refine wp_skip ?_
      refine au_then ?_
      refine wp_seq ?_
      refine wp_block ?_
      refine wp_seq ?_
      refine rg_lit ?_
      refine pl_val (want_no rfl) (some 55) rfl (.int .i64 (j : Int)) (fun _ => by kernel_rfl) ?_
      refine pl_val (want_no rfl) (some 56) rfl (.pointer (some ⟨g1, j, none⟩)) (run_ix1 84 18 22 Tryd.underlying84 inz22 _ _ rfl g1 (by kernel_rfl) .i64 (j) (by kernel_rfl) (by omega)) ?_
      refine pl_cell M (want_no rfl) (some 57) rfl 22 _ rfl g1 j (by kernel_rfl) (.int .u64 ((dr x 3) j)) (fun _ => by kernel_rfl) (fun w M => M.cell 0 rfl (by omega) (st_cell 255 8 (dr x 3) j)) ?_
      refine pl_val (want_no rfl) (some 58) rfl (.int .u64 (cy 8 (dr x 3) j)) (fun _ => by kernel_rfl) ?_
      refine pl_val (want_no rfl) (some 59) rfl (.int .u64 (ua ((dr x 3) j) (cy 8 (dr x 3) j))) (fun _ => by kernel_rfl) ?_
      refine pl_val (want_no rfl) (some 10) rfl (.int .u64 (ua ((dr x 3) j) (cy 8 (dr x 3) j))) (fun _ => by kernel_rfl) ?_
      refine pl_nil ?_
      refine au_then ?_
      refine wp_seq ?_
      refine rg_lit ?_
      refine pl_val (want_no rfl) (some 60) rfl (.int .i64 (j : Int)) (fun _ => by kernel_rfl) ?_
      refine pl_val (want_no rfl) (some 61) rfl (.int .u64 (ua ((dr x 3) j) (cy 8 (dr x 3) j))) (fun _ => by kernel_rfl) ?_
      refine pl_val (want_no rfl) (some 62) rfl (.int .u64 (un (ua ((dr x 3) j) (cy 8 (dr x 3) j)) 255)) (fun _ => by kernel_rfl) ?_
      refine pl_val (want_no rfl) (some 63) rfl (.pointer (some ⟨g1, j, none⟩)) (run_ix1 84 18 22 Tryd.underlying84 inz22 _ _ rfl g1 (by kernel_rfl) .i64 (j) (by kernel_rfl) (by omega)) ?_
      refine pl_put1 M (want_no rfl) rfl 22 _ _ rfl 0 g1 j (by kernel_rfl) 18 84 (w64 (st 255 8 (dr x 3) j)) rfl (.int .u64 (un (ua ((dr x 3) j) (cy 8 (dr x 3) j)) 255)) (w64 (upd (st 255 8 (dr x 3) j) j (un (ua ((dr x 3) j) (cy 8 (dr x 3) j)) 255))) (by kernel_rfl) inz22 (by omega) rfl rfl (fun j _ => put_w64 _ _ _ j) ?_
      intro u7 M
      replace M : Mem ⟨w, []⟩ [⟨g1, .cells (av 18 (w64 (upd (st 255 8 (dr x 3) j) j (un (ua ((dr x 3) j) (cy 8 (dr x 3) j)) 255)))) 84⟩, ⟨g2, .cells (av 18 (w64 (fun _ => 0))) 84⟩] u7 := M
      refine pl_nil ?_
      refine au_then ?_
      refine rg_lit ?_
      refine pl_val (want_no rfl) (some 64) rfl (.int .u64 (ua ((dr x 3) j) (cy 8 (dr x 3) j))) (fun _ => by kernel_rfl) ?_
      refine pl_val (want_no rfl) (some 65) rfl (.int .u64 (sr (ua ((dr x 3) j) (cy 8 (dr x 3) j)) 8)) (fun _ => by kernel_rfl) ?_
      refine pl_val (want_no rfl) (some 8) rfl (.int .u64 (sr (ua ((dr x 3) j) (cy 8 (dr x 3) j)) 8)) (fun _ => by kernel_rfl) ?_
      refine pl_nil ?_
      refine au_block ?_
      refine au_then ?_
      refine rg_lit ?_
      refine pl_val (want_no rfl) (some 53) rfl (.int .i64 (j : Int)) (fun _ => by kernel_rfl) ?_
      refine pl_val (want_no rfl) (some 54) rfl (.int .i64 ((j + 1 : Nat) : Int)) (fun w => Eq.trans (b := .ok (.value (.int .i64 (IntKind.wrap .i64 ((j : Int) + 1)))) w) (by kernel_rfl) (by rw [wrap64 (by omega) (by omega)]; congr 3)) ?_
      refine pl_val (want_no rfl) (some 9) rfl (.int .i64 ((j + 1 : Nat) : Int)) (fun _ => by kernel_rfl) ?_
      refine pl_nil ?_
      refine au_then ?_
      exact ⟨fun k_ => ([.int .u64 (ua ((dr x 3) j) (cy 8 (dr x 3) j)), undef, undef, undef, undef, undef, undef, undef, undef, undef, undef, undef, undef, undef, undef, undef, undef, undef, undef, undef, undef, undef, undef, undef, undef, undef, undef, undef, undef, undef, undef, undef, undef, undef, undef, undef, undef, undef, undef, undef, undef, .int .i64 (j : Int), .bool true, .int .i64 (j : Int), .int .i64 ((j + 1 : Nat) : Int), .int .i64 (j : Int), .pointer (some ⟨g1, j, none⟩), .int .u64 ((dr x 3) j), .int .u64 (cy 8 (dr x 3) j), .int .u64 (ua ((dr x 3) j) (cy 8 (dr x 3) j)), .int .i64 (j : Int), .int .u64 (ua ((dr x 3) j) (cy 8 (dr x 3) j)), .int .u64 (un (ua ((dr x 3) j) (cy 8 (dr x 3) j)) 255), .pointer (some ⟨g1, j, none⟩), .int .u64 (ua ((dr x 3) j) (cy 8 (dr x 3) j)), .int .u64 (sr (ua ((dr x 3) j) (cy 8 (dr x 3) j)) 8)] : List Value).getD (k_ - 10) undef, by kernel_rfl, M⟩
    · intro a u0 hI
      obtain ⟨v3, rfl, M⟩ := hI
      refine wp_seq ?_
      refine wp_seq ?_
      refine rg_lit ?_
      refine pl_val (want_no rfl) (some 51) rfl (.int .i64 (18 : Int)) (fun _ => by kernel_rfl) ?_
      refine pl_val (want_no rfl) (some 52) rfl (.bool false) (fun w => Eq.trans (b := .ok (.value (.bool (decide (18 < 18)))) w) (by kernel_rfl) (by rw [decide_eq_false (by omega)])) ?_
      refine pl_nil ?_
      refine au_then ?_
      refine wp_cond_false (by kernel_rfl) ?_
      refine wp_exit ?_
      refine au_then_exit ?_
      refine au_then_exit ?_
      refine au_block_exit ?_
      refine au_then ?_
      refine wp_seq ?_
      refine rg_lit ?_
      refine pl_load M (want_no rfl) (some 66) rfl 84 _ rfl 0 g1 0 (by kernel_rfl) 18 84 (w64 (st 255 8 (dr x 3) 18)) rfl 18 (w64 (st 255 8 (dr x 3) 18)) (fun j _ => by rw [Nat.zero_add]) (by decide) _ Tryd.underlying84 rfl inz84 ?_
      refine pl_put M (want_no rfl) rfl 84 _ _ rfl 1 g2 0 (by kernel_rfl) 18 84 (w64 (fun _ => 0)) rfl 18 (w64 (st 255 8 (dr x 3) 18)) (w64 (st 255 8 (dr x 3) 18)) (by kernel_rfl) inz84 (by decide) (fun _ _ => rfl) (fun j hj => by rw [if_pos (by omega), Nat.sub_zero]) ?_
      intro u8 M
      replace M : Mem ⟨w, []⟩ [⟨g1, .cells (av 18 (w64 (st 255 8 (dr x 3) 18))) 84⟩, ⟨g2, .cells (av 18 (w64 (st 255 8 (dr x 3) 18))) 84⟩] u8 := M
      refine pl_nil ?_
      refine au_then ?_
      refine wp_ret ?_
      exact bodyPost_ret (v := .agg (av 18 (w64 (st 255 8 (dr x 3) 18)))) (results_cell_row Tryd.results51 _ _ g2 84 (av 18 (w64 (st 255 8 (dr x 3) 18))) (0, 0) _ (by kernel_rfl) (M.get 1 rfl) Tryd.underlying84 rfl (by rw [av_size]; exact inz84)) (by kernel_rfl) ⟨rfl, below_grown M.old⟩

def dT (a b : Nat → Int) : Nat → Int := st 255 8 (tp 18 a b 18) 36
def dlo (T : Nat → Int) : Nat → (Nat → Int)
  | 0 => fun _ => 0
  | j + 1 => upd (dlo T j) j (T j)
def dhi (T : Nat → Int) : Nat → (Nat → Int)
  | 0 => fun _ => 0
  | j + 1 => upd (dhi T j) j (uo (sr (T (16 + j)) 2) (un (sl (T (17 + j)) 6) 255))
def dl2 (T : Nat → Int) : Nat → Int := upd (dlo T 17) 16 (un (dlo T 17 16) 3)
def dl3 (T : Nat → Int) : Nat → (Nat → Int)
  | 0 => dl2 T
  | j + 1 => upd (dl3 T j) j (ua (dl3 T j j) (um 5 (dhi T 17 j)))
def dtF (a b : Nat → Int) : Nat → Int := dcF (dl3 (dT a b) 18)

set_option maxRecDepth 100000 in
set_option maxHeartbeats 4000000 in
theorem d_times (x y : Nat → Int) (w : World) (hL : Laid w)  :
    Calls Tryd.prog 50 #[.agg (av 18 (w64 x)), .agg (av 18 (w64 y))] w fun r w' => r = .returned (.agg (av 18 (w64 (dtF x y)))) ∧ Below w.heap.size w w' := by
  go_enter Tryd.func50, Tryd.ntmps50
  have M := Mem.start hL
  refine wp_seq ?_
  refine rg_lit ?_
  refine pl_new M (want_no rfl) (some 2) rfl (.cells (av 18 (w64 x)) 84) (fun _ => by kernel_rfl) ?_
  intro g1 u1 M
  replace M : Mem ⟨w, []⟩ [⟨g1, .cells (av 18 (w64 x)) 84⟩] u1 := M
  refine pl_new M (want_no rfl) (some 3) rfl (.cells (av 18 (w64 y)) 84) (fun _ => by kernel_rfl) ?_
  intro g2 u2 M
  replace M : Mem ⟨w, []⟩ [⟨g1, .cells (av 18 (w64 x)) 84⟩, ⟨g2, .cells (av 18 (w64 y)) 84⟩] u2 := M
  refine pl_new M (want_no rfl) (some 4) rfl (.cells (av 18 (w64 (fun _ => 0))) 84) (fun _ => by kernel_rfl) ?_
  intro g3 u3 M
  replace M : Mem ⟨w, []⟩ [⟨g1, .cells (av 18 (w64 x)) 84⟩, ⟨g2, .cells (av 18 (w64 y)) 84⟩, ⟨g3, .cells (av 18 (w64 (fun _ => 0))) 84⟩] u3 := M
  refine pl_nil ?_
  refine au_then ?_
  refine wp_seq ?_
  refine rg_lit ?_
  refine pl_new M (want_no rfl) (some 5) rfl (.cells (av 36 (w64 (fun _ => 0))) 100) (fun _ => by kernel_rfl) ?_
  intro g4 u4 M
  replace M : Mem ⟨w, []⟩ [⟨g1, .cells (av 18 (w64 x)) 84⟩, ⟨g2, .cells (av 18 (w64 y)) 84⟩, ⟨g3, .cells (av 18 (w64 (fun _ => 0))) 84⟩, ⟨g4, .cells (av 36 (w64 (fun _ => 0))) 100⟩] u4 := M
  refine pl_nil ?_
  refine au_then ?_
  refine wp_seq ?_
  refine wp_seq ?_
  refine rg_lit ?_
  refine pl_val (want_no rfl) (some 6) rfl (.int .i64 0) (fun _ => by kernel_rfl) ?_
  refine pl_nil ?_
  refine au_then ?_
  refine wp_block ?_
  refine au_loop (fun i a w' => ∃ v1 : Nat → Value, a = ⟨#[.agg (av 18 (w64 x)), .agg (av 18 (w64 y)), .pointer (some ⟨g1, 0, none⟩), .pointer (some ⟨g2, 0, none⟩), .pointer (some ⟨g3, 0, none⟩), .pointer (some ⟨g4, 0, none⟩), .int .i64 (i : Int), v1 7, undef, undef, undef, undef, undef, undef, undef, v1 15, v1 16, v1 17, v1 18, v1 19, v1 20, v1 21, v1 22, v1 23, v1 24, v1 25, v1 26, v1 27, v1 28, v1 29, v1 30, v1 31, v1 32, v1 33, v1 34, v1 35, v1 36, v1 37, v1 38, v1 39, undef, undef, undef, undef, undef, undef, undef, undef, undef, undef, undef, undef, undef, undef, undef, undef, undef, undef, undef, undef, undef, undef, undef, undef, undef, undef, undef, undef, undef, undef, undef, undef, undef, undef, undef, undef, undef, undef, undef, undef, undef, undef, undef, undef, undef, undef, undef, undef, undef, undef, undef, undef, undef, undef, undef, undef, undef, undef], []⟩ ∧ Mem ⟨w, []⟩ [⟨g1, .cells (av 18 (w64 x)) 84⟩, ⟨g2, .cells (av 18 (w64 y)) 84⟩, ⟨g3, .cells (av 18 (w64 (fun _ => 0))) 84⟩, ⟨g4, .cells (av 36 (w64 (tp 18 x y i))) 100⟩] w') 18 ⟨fun k_ => ([undef, undef, undef, undef, undef, undef, undef, undef, undef, undef, undef, undef, undef, undef, undef, undef, undef, undef, undef, undef, undef, undef, undef, undef, undef, undef, undef, undef, undef, undef, undef, undef, undef] : List Value).getD (k_ - 7) undef, by kernel_rfl, M⟩ ?_ ?_
  · intro i a u0 hi hI
    obtain ⟨v1, rfl, M⟩ := hI
    refine wp_seq ?_
    refine wp_seq ?_
    refine rg_lit ?_
    refine pl_val (want_no rfl) (some 15) rfl (.int .i64 (i : Int)) (fun _ => by kernel_rfl) ?_
    refine pl_val (want_no rfl) (some 16) rfl (.bool true) (fun w => Eq.trans (b := .ok (.value (.bool (decide ((i : Int) < 18)))) w) (by kernel_rfl) (by rw [decide_eq_true (by omega)])) ?_
    refine pl_nil ?_
    refine au_then ?_
    refine wp_cond_true (by kernel_rfl) ?_
    refine wp_skip ?_
    refine au_then ?_
    refine wp_seq ?_
    refine wp_block ?_
    refine wp_seq ?_
    refine rg_lit ?_
    refine pl_val (want_no rfl) (some 7) rfl (.int .i64 0) (fun _ => by kernel_rfl) ?_
    refine pl_nil ?_
    refine au_then ?_
    refine wp_block ?_
    refine au_loop (fun j a w' => ∃ v2 : Nat → Value, a = ⟨#[.agg (av 18 (w64 x)), .agg (av 18 (w64 y)), .pointer (some ⟨g1, 0, none⟩), .pointer (some ⟨g2, 0, none⟩), .pointer (some ⟨g3, 0, none⟩), .pointer (some ⟨g4, 0, none⟩), .int .i64 (i : Int), .int .i64 (j : Int), undef, undef, undef, undef, undef, undef, undef, .int .i64 (i : Int), .bool true, v1 17, v1 18, v2 19, v2 20, v2 21, v2 22, v2 23, v2 24, v2 25, v2 26, v2 27, v2 28, v2 29, v2 30, v2 31, v2 32, v2 33, v2 34, v2 35, v2 36, v2 37, v2 38, v2 39, undef, undef, undef, undef, undef, undef, undef, undef, undef, undef, undef, undef, undef, undef, undef, undef, undef, undef, undef, undef, undef, undef, undef, undef, undef, undef, undef, undef, undef, undef, undef, undef, undef, undef, undef, undef, undef, undef, undef, undef, undef, undef, undef, undef, undef, undef, undef, undef, undef, undef, undef, undef, undef, undef, undef, undef, undef, undef], []⟩ ∧ Mem ⟨w, []⟩ [⟨g1, .cells (av 18 (w64 x)) 84⟩, ⟨g2, .cells (av 18 (w64 y)) 84⟩, ⟨g3, .cells (av 18 (w64 (fun _ => 0))) 84⟩, ⟨g4, .cells (av 36 (w64 (tr (tp 18 x y i) x y i j))) 100⟩] w') 18 ⟨fun k_ => ([v1 19, v1 20, v1 21, v1 22, v1 23, v1 24, v1 25, v1 26, v1 27, v1 28, v1 29, v1 30, v1 31, v1 32, v1 33, v1 34, v1 35, v1 36, v1 37, v1 38, v1 39] : List Value).getD (k_ - 19) undef, by kernel_rfl, M⟩ ?_ ?_
    · intro j a u0 hj hI
      obtain ⟨v2, rfl, M⟩ := hI
      refine wp_seq ?_
      refine wp_seq ?_
      refine rg_lit ?_
      refine pl_val (want_no rfl) (some 19) rfl (.int .i64 (j : Int)) (fun _ => by kernel_rfl) ?_
      refine pl_val (want_no rfl) (some 20) rfl (.bool true) (fun w => Eq.trans (b := .ok (.value (.bool (decide ((j : Int) < 18)))) w) (by kernel_rfl) (by rw [decide_eq_true (by omega)])) ?_
      refine pl_nil ?_
      refine au_then ?_
      refine wp_cond_true (by kernel_rfl) ?_
      refine wp_skip ?_
      refine au_then ?_
      refine wp_seq ?_
      refine wp_block ?_
      refine rg_tail M 17 (by kernel_rfl) (by kernel_rfl) ?_
      simp only [List.take_succ_cons, List.take_zero]
      refine k_val (want_no rfl) (some 23) rfl (.int .i64 (i : Int)) (fun _ => by kernel_rfl) ?_
      refine k_val (want_no rfl) (some 24) rfl (.int .i64 (j : Int)) (fun _ => by kernel_rfl) ?_
      refine k_val (want_no rfl) (some 25) rfl (.int .i64 ((i + j : Nat) : Int)) (fun w => Eq.trans (b := .ok (.value (.int .i64 (IntKind.wrap .i64 ((i : Int) + (j : Int))))) w) (by kernel_rfl) (by rw [wrap64 (by omega) (by omega)]; congr 3)) ?_
      refine k_val (want_no rfl) (some 26) rfl (.int .i64 (i : Int)) (fun _ => by kernel_rfl) ?_
      refine k_val (want_no rfl) (some 27) rfl (.int .i64 (j : Int)) (fun _ => by kernel_rfl) ?_
      refine k_val (want_no rfl) (some 28) rfl (.int .i64 ((i + j : Nat) : Int)) (fun w => Eq.trans (b := .ok (.value (.int .i64 (IntKind.wrap .i64 ((i : Int) + (j : Int))))) w) (by kernel_rfl) (by rw [wrap64 (by omega) (by omega)]; congr 3)) ?_
      refine k_val (want_no rfl) (some 29) rfl (.pointer (some ⟨g4, ((i + j : Nat)), none⟩)) (run_ix1 100 36 22 Tryd.underlying100 inz22 _ _ rfl g4 (by kernel_rfl) .i64 ((i + j : Nat)) (by kernel_rfl) (by omega)) ?_
      refine k_cell M (want_no rfl) (some 30) rfl 22 _ rfl g4 ((i + j : Nat)) (by kernel_rfl) (.int .u64 ((tr (tp 18 x y i) x y i j) ((i + j : Nat)))) (fun _ => by kernel_rfl) (fun w M => M.cell 3 rfl (by omega) rfl) ?_
      refine k_val (want_no rfl) (some 31) rfl (.int .i64 (i : Int)) (fun _ => by kernel_rfl) ?_
      refine k_val (want_no rfl) (some 32) rfl (.pointer (some ⟨g1, i, none⟩)) (run_ix1 84 18 22 Tryd.underlying84 inz22 _ _ rfl g1 (by kernel_rfl) .i64 (i) (by kernel_rfl) (by omega)) ?_
      refine k_cell M (want_no rfl) (some 33) rfl 22 _ rfl g1 i (by kernel_rfl) (.int .u64 (x i)) (fun _ => by kernel_rfl) (fun w M => M.cell 0 rfl (by omega) rfl) ?_
      refine k_val (want_no rfl) (some 34) rfl (.int .i64 (j : Int)) (fun _ => by kernel_rfl) ?_
      refine k_val (want_no rfl) (some 35) rfl (.pointer (some ⟨g2, j, none⟩)) (run_ix1 84 18 22 Tryd.underlying84 inz22 _ _ rfl g2 (by kernel_rfl) .i64 (j) (by kernel_rfl) (by omega)) ?_
      refine k_cell M (want_no rfl) (some 36) rfl 22 _ rfl g2 j (by kernel_rfl) (.int .u64 (y j)) (fun _ => by kernel_rfl) (fun w M => M.cell 1 rfl (by omega) rfl) ?_
      refine k_val (want_no rfl) (some 37) rfl (.int .u64 (um (x i) (y j))) (fun _ => by kernel_rfl) ?_
      refine k_val (want_no rfl) (some 38) rfl (.int .u64 (ua ((tr (tp 18 x y i) x y i j) ((i + j : Nat))) (um (x i) (y j)))) (fun _ => by kernel_rfl) ?_
      refine k_val (want_no rfl) (some 39) rfl (.pointer (some ⟨g4, ((i + j : Nat)), none⟩)) (run_ix1 100 36 22 Tryd.underlying100 inz22 _ _ rfl g4 (by kernel_rfl) .i64 ((i + j : Nat)) (by kernel_rfl) (by omega)) ?_
      refine kl_nil ?_
      intro u5 M
      replace M : Mem ⟨w, []⟩ [⟨g1, .cells (av 18 (w64 x)) 84⟩, ⟨g2, .cells (av 18 (w64 y)) 84⟩, ⟨g3, .cells (av 18 (w64 (fun _ => 0))) 84⟩, ⟨g4, .cells (av 36 (w64 (tr (tp 18 x y i) x y i j))) 100⟩] u5 := M
      refine pl_put1 M (want_no rfl) rfl 22 _ _ rfl 3 g4 ((i + j : Nat)) (by kernel_rfl) 36 100 (w64 (tr (tp 18 x y i) x y i j)) rfl (.int .u64 (ua ((tr (tp 18 x y i) x y i j) ((i + j : Nat))) (um (x i) (y j)))) (w64 (upd (tr (tp 18 x y i) x y i j) ((i + j : Nat)) (ua ((tr (tp 18 x y i) x y i j) ((i + j : Nat))) (um (x i) (y j))))) (by kernel_rfl) inz22 (by omega) rfl rfl (fun j _ => put_w64 _ _ _ j) ?_
      intro u6 M
      replace M : Mem ⟨w, []⟩ [⟨g1, .cells (av 18 (w64 x)) 84⟩, ⟨g2, .cells (av 18 (w64 y)) 84⟩, ⟨g3, .cells (av 18 (w64 (fun _ => 0))) 84⟩, ⟨g4, .cells (av 36 (w64 (upd (tr (tp 18 x y i) x y i j) ((i + j : Nat)) (ua ((tr (tp 18 x y i) x y i j) ((i + j : Nat))) (um (x i) (y j)))))) 100⟩] u6 := M
      refine pl_nil ?_
      refine au_block ?_
      refine au_then ?_
      refine rg_lit ?_
      refine pl_val (want_no rfl) (some 21) rfl (.int .i64 (j : Int)) (fun _ => by kernel_rfl) ?_
      refine pl_val (want_no rfl) (some 22) rfl (.int .i64 ((j + 1 : Nat) : Int)) (fun w => Eq.trans (b := .ok (.value (.int .i64 (IntKind.wrap .i64 ((j : Int) + 1)))) w) (by kernel_rfl) (by rw [wrap64 (by omega) (by omega)]; congr 3)) ?_
      refine pl_val (want_no rfl) (some 7) rfl (.int .i64 ((j + 1 : Nat) : Int)) (fun _ => by kernel_rfl) ?_
      refine pl_nil ?_
      refine au_then ?_
      exact ⟨fun k_ => ([.int .i64 (j : Int), .bool true, .int .i64 (j : Int), .int .i64 ((j + 1 : Nat) : Int), .int .i64 (i : Int), .int .i64 (j : Int), .int .i64 ((i + j : Nat) : Int), .int .i64 (i : Int), .int .i64 (j : Int), .int .i64 ((i + j : Nat) : Int), .pointer (some ⟨g4, ((i + j : Nat)), none⟩), .int .u64 ((tr (tp 18 x y i) x y i j) ((i + j : Nat))), .int .i64 (i : Int), .pointer (some ⟨g1, i, none⟩), .int .u64 (x i), .int .i64 (j : Int), .pointer (some ⟨g2, j, none⟩), .int .u64 (y j), .int .u64 (um (x i) (y j)), .int .u64 (ua ((tr (tp 18 x y i) x y i j) ((i + j : Nat))) (um (x i) (y j))), .pointer (some ⟨g4, ((i + j : Nat)), none⟩)] : List Value).getD (k_ - 19) undef, by kernel_rfl, M⟩
    · intro a u0 hI
      obtain ⟨v2, rfl, M⟩ := hI
      refine wp_seq ?_
      refine wp_seq ?_
      refine rg_lit ?_
      refine pl_val (want_no rfl) (some 19) rfl (.int .i64 (18 : Int)) (fun _ => by kernel_rfl) ?_
      refine pl_val (want_no rfl) (some 20) rfl (.bool false) (fun w => Eq.trans (b := .ok (.value (.bool (decide (18 < 18)))) w) (by kernel_rfl) (by rw [decide_eq_false (by omega)])) ?_
      refine pl_nil ?_
      refine au_then ?_
      refine wp_cond_false (by kernel_rfl) ?_
      refine wp_exit ?_
      refine au_then_exit ?_
      refine au_then_exit ?_
      refine au_block_exit ?_
      refine au_block ?_
      refine au_then ?_
      refine rg_lit ?_
      refine pl_val (want_no rfl) (some 17) rfl (.int .i64 (i : Int)) (fun _ => by kernel_rfl) ?_
      refine pl_val (want_no rfl) (some 18) rfl (.int .i64 ((i + 1 : Nat) : Int)) (fun w => Eq.trans (b := .ok (.value (.int .i64 (IntKind.wrap .i64 ((i : Int) + 1)))) w) (by kernel_rfl) (by rw [wrap64 (by omega) (by omega)]; congr 3)) ?_
      refine pl_val (want_no rfl) (some 6) rfl (.int .i64 ((i + 1 : Nat) : Int)) (fun _ => by kernel_rfl) ?_
      refine pl_nil ?_
      refine au_then ?_
      exact ⟨fun k_ => ([.int .i64 (18 : Int), undef, undef, undef, undef, undef, undef, undef, .int .i64 (i : Int), .bool true, .int .i64 (i : Int), .int .i64 ((i + 1 : Nat) : Int), .int .i64 (18 : Int), .bool false, v2 21, v2 22, v2 23, v2 24, v2 25, v2 26, v2 27, v2 28, v2 29, v2 30, v2 31, v2 32, v2 33, v2 34, v2 35, v2 36, v2 37, v2 38, v2 39] : List Value).getD (k_ - 7) undef, by kernel_rfl, M⟩
  · intro a u0 hI
    obtain ⟨v1, rfl, M⟩ := hI
    refine wp_seq ?_
    refine wp_seq ?_
    refine rg_lit ?_
    refine pl_val (want_no rfl) (some 15) rfl (.int .i64 (18 : Int)) (fun _ => by kernel_rfl) ?_
    refine pl_val (want_no rfl) (some 16) rfl (.bool false) (fun w => Eq.trans (b := .ok (.value (.bool (decide (18 < 18)))) w) (by kernel_rfl) (by rw [decide_eq_false (by omega)])) ?_
    refine pl_nil ?_
    refine au_then ?_
    refine wp_cond_false (by kernel_rfl) ?_
    refine wp_exit ?_
    refine au_then_exit ?_
    refine au_then_exit ?_
    refine au_block_exit ?_
    refine au_then ?_
    refine wp_seq ?_
    refine rg_lit ?_
    refine pl_val (want_no rfl) (some 8) rfl (.int .u64 0) (fun _ => by kernel_rfl) ?_
    refine pl_nil ?_
    refine au_then ?_
    refine wp_seq ?_
    refine wp_seq ?_
    refine rg_lit ?_
    refine pl_val (want_no rfl) (some 9) rfl (.int .i64 0) (fun _ => by kernel_rfl) ?_
    refine pl_nil ?_
    refine au_then ?_
    refine wp_block ?_
    refine au_loop (fun j a w' => ∃ v3 : Nat → Value, a = ⟨#[.agg (av 18 (w64 x)), .agg (av 18 (w64 y)), .pointer (some ⟨g1, 0, none⟩), .pointer (some ⟨g2, 0, none⟩), .pointer (some ⟨g3, 0, none⟩), .pointer (some ⟨g4, 0, none⟩), .int .i64 (18 : Int), v1 7, .int .u64 (cy 8 (tp 18 x y 18) j), .int .i64 (j : Int), v3 10, undef, undef, undef, undef, .int .i64 (18 : Int), .bool false, v1 17, v1 18, v1 19, v1 20, v1 21, v1 22, v1 23, v1 24, v1 25, v1 26, v1 27, v1 28, v1 29, v1 30, v1 31, v1 32, v1 33, v1 34, v1 35, v1 36, v1 37, v1 38, v1 39, v3 40, v3 41, v3 42, v3 43, v3 44, v3 45, v3 46, v3 47, v3 48, v3 49, v3 50, v3 51, v3 52, v3 53, v3 54, undef, undef, undef, undef, undef, undef, undef, undef, undef, undef, undef, undef, undef, undef, undef, undef, undef, undef, undef, undef, undef, undef, undef, undef, undef, undef, undef, undef, undef, undef, undef, undef, undef, undef, undef, undef, undef, undef, undef, undef, undef, undef, undef], []⟩ ∧ Mem ⟨w, []⟩ [⟨g1, .cells (av 18 (w64 x)) 84⟩, ⟨g2, .cells (av 18 (w64 y)) 84⟩, ⟨g3, .cells (av 18 (w64 (fun _ => 0))) 84⟩, ⟨g4, .cells (av 36 (w64 (st 255 8 (tp 18 x y 18) j))) 100⟩] w') 36 ⟨fun k_ => ([undef, undef, undef, undef, undef, undef, undef, undef, undef, undef, undef, undef, undef, undef, undef, undef, undef, undef, undef, undef, undef, undef, undef, undef, undef, undef, undef, undef, undef, undef, undef, undef, undef, undef, undef, undef, undef, undef, undef, undef, undef, undef, undef, undef, undef] : List Value).getD (k_ - 10) undef, by kernel_rfl, M⟩ ?_ ?_
    · intro j a u0 hj hI
      obtain ⟨v3, rfl, M⟩ := hI
      refine wp_seq ?_
      refine wp_seq ?_
      refine rg_lit ?_
      refine pl_val (want_no rfl) (some 40) rfl (.int .i64 (j : Int)) (fun _ => by kernel_rfl) ?_
      refine pl_val (want_no rfl) (some 41) rfl (.bool true) (fun w => Eq.trans (b := .ok (.value (.bool (decide ((j : Int) < 36)))) w) (by kernel_rfl) (by rw [decide_eq_true (by omega)])) ?_
      refine pl_nil ?_
      refine au_then ?_
      refine wp_cond_true (by kernel_rfl) ?_
      refine wp_skip ?_
      refine au_then ?_
      refine wp_seq ?_
      refine wp_block ?_
      refine wp_seq ?_
      refine rg_lit ?_
      refine pl_val (want_no rfl) (some 44) rfl (.int .i64 (j : Int)) (fun _ => by kernel_rfl) ?_
      refine pl_val (want_no rfl) (some 45) rfl (.pointer (some ⟨g4, j, none⟩)) (run_ix1 100 36 22 Tryd.underlying100 inz22 _ _ rfl g4 (by kernel_rfl) .i64 (j) (by kernel_rfl) (by omega)) ?_
      refine pl_cell M (want_no rfl) (some 46) rfl 22 _ rfl g4 j (by kernel_rfl) (.int .u64 ((tp 18 x y 18) j)) (fun _ => by kernel_rfl) (fun w M => M.cell 3 rfl (by omega) (st_cell 255 8 (tp 18 x y 18) j)) ?_
      refine pl_val (want_no rfl) (some 47) rfl (.int .u64 (cy 8 (tp 18 x y 18) j)) (fun _ => by kernel_rfl) ?_
      refine pl_val (want_no rfl) (some 48) rfl (.int .u64 (ua ((tp 18 x y 18) j) (cy 8 (tp 18 x y 18) j))) (fun _ => by kernel_rfl) ?_
      refine pl_val (want_no rfl) (some 10) rfl (.int .u64 (ua ((tp 18 x y 18) j) (cy 8 (tp 18 x y 18) j))) (fun _ => by kernel_rfl) ?_
      refine pl_nil ?_
      refine au_then ?_
      refine wp_seq ?_
      refine rg_lit ?_
      refine pl_val (want_no rfl) (some 49) rfl (.int .i64 (j : Int)) (fun _ => by kernel_rfl) ?_
      refine pl_val (want_no rfl) (some 50) rfl (.int .u64 (ua ((tp 18 x y 18) j) (cy 8 (tp 18 x y 18) j))) (fun _ => by kernel_rfl) ?_
      refine pl_val (want_no rfl) (some 51) rfl (.int .u64 (un (ua ((tp 18 x y 18) j) (cy 8 (tp 18 x y 18) j)) 255)) (fun _ => by kernel_rfl) ?_
      refine pl_val (want_no rfl) (some 52) rfl (.pointer (some ⟨g4, j, none⟩)) (run_ix1 100 36 22 Tryd.underlying100 inz22 _ _ rfl g4 (by kernel_rfl) .i64 (j) (by kernel_rfl) (by omega)) ?_
      refine pl_put1 M (want_no rfl) rfl 22 _ _ rfl 3 g4 j (by kernel_rfl) 36 100 (w64 (st 255 8 (tp 18 x y 18) j)) rfl (.int .u64 (un (ua ((tp 18 x y 18) j) (cy 8 (tp 18 x y 18) j)) 255)) (w64 (upd (st 255 8 (tp 18 x y 18) j) j (un (ua ((tp 18 x y 18) j) (cy 8 (tp 18 x y 18) j)) 255))) (by kernel_rfl) inz22 (by omega) rfl rfl (fun j _ => put_w64 _ _ _ j) ?_
      intro u7 M
      replace M : Mem ⟨w, []⟩ [⟨g1, .cells (av 18 (w64 x)) 84⟩, ⟨g2, .cells (av 18 (w64 y)) 84⟩, ⟨g3, .cells (av 18 (w64 (fun _ => 0))) 84⟩, ⟨g4, .cells (av 36 (w64 (upd (st 255 8 (tp 18 x y 18) j) j (un (ua ((tp 18 x y 18) j) (cy 8 (tp 18 x y 18) j)) 255)))) 100⟩] u7 := M
      refine pl_nil ?_
      refine au_then ?_
      refine rg_lit ?_
      refine pl_val (want_no rfl) (some 53) rfl (.int .u64 (ua ((tp 18 x y 18) j) (cy 8 (tp 18 x y 18) j))) (fun _ => by kernel_rfl) ?_
      refine pl_val (want_no rfl) (some 54) rfl (.int .u64 (sr (ua ((tp 18 x y 18) j) (cy 8 (tp 18 x y 18) j)) 8)) (fun _ => by kernel_rfl) ?_
      refine pl_val (want_no rfl) (some 8) rfl (.int .u64 (sr (ua ((tp 18 x y 18) j) (cy 8 (tp 18 x y 18) j)) 8)) (fun _ => by kernel_rfl) ?_
      refine pl_nil ?_
      refine au_block ?_
      refine au_then ?_
      refine rg_lit ?_
      refine pl_val (want_no rfl) (some 42) rfl (.int .i64 (j : Int)) (fun _ => by kernel_rfl) ?_
      refine pl_val (want_no rfl) (some 43) rfl (.int .i64 ((j + 1 : Nat) : Int)) (fun w => Eq.trans (b := .ok (.value (.int .i64 (IntKind.wrap .i64 ((j : Int) + 1)))) w) (by kernel_rfl) (by rw [wrap64 (by omega) (by omega)]; congr 3)) ?_
      refine pl_val (want_no rfl) (some 9) rfl (.int .i64 ((j + 1 : Nat) : Int)) (fun _ => by kernel_rfl) ?_
      refine pl_nil ?_
      refine au_then ?_
      exact ⟨fun k_ => ([.int .u64 (ua ((tp 18 x y 18) j) (cy 8 (tp 18 x y 18) j)), undef, undef, undef, undef, undef, undef, undef, undef, undef, undef, undef, undef, undef, undef, undef, undef, undef, undef, undef, undef, undef, undef, undef, undef, undef, undef, undef, undef, undef, .int .i64 (j : Int), .bool true, .int .i64 (j : Int), .int .i64 ((j + 1 : Nat) : Int), .int .i64 (j : Int), .pointer (some ⟨g4, j, none⟩), .int .u64 ((tp 18 x y 18) j), .int .u64 (cy 8 (tp 18 x y 18) j), .int .u64 (ua ((tp 18 x y 18) j) (cy 8 (tp 18 x y 18) j)), .int .i64 (j : Int), .int .u64 (ua ((tp 18 x y 18) j) (cy 8 (tp 18 x y 18) j)), .int .u64 (un (ua ((tp 18 x y 18) j) (cy 8 (tp 18 x y 18) j)) 255), .pointer (some ⟨g4, j, none⟩), .int .u64 (ua ((tp 18 x y 18) j) (cy 8 (tp 18 x y 18) j)), .int .u64 (sr (ua ((tp 18 x y 18) j) (cy 8 (tp 18 x y 18) j)) 8)] : List Value).getD (k_ - 10) undef, by kernel_rfl, M⟩
    · intro a u0 hI
      obtain ⟨v3, rfl, M⟩ := hI
      refine wp_seq ?_
      refine wp_seq ?_
      refine rg_lit ?_
      refine pl_val (want_no rfl) (some 40) rfl (.int .i64 (36 : Int)) (fun _ => by kernel_rfl) ?_
      refine pl_val (want_no rfl) (some 41) rfl (.bool false) (fun w => Eq.trans (b := .ok (.value (.bool (decide (36 < 36)))) w) (by kernel_rfl) (by rw [decide_eq_false (by omega)])) ?_
      refine pl_nil ?_
      refine au_then ?_
      refine wp_cond_false (by kernel_rfl) ?_
      refine wp_exit ?_
      refine au_then_exit ?_
      refine au_then_exit ?_
      refine au_block_exit ?_
      refine au_then ?_
      refine wp_seq ?_
      replace M : Mem ⟨w, []⟩ [⟨g1, .cells (av 18 (w64 x)) 84⟩, ⟨g2, .cells (av 18 (w64 y)) 84⟩, ⟨g3, .cells (av 18 (w64 (fun _ => 0))) 84⟩, ⟨g4, .cells (av 36 (w64 (dT x y))) 100⟩] u0 := M
      refine rg_lit ?_
      refine pl_new M (want_no rfl) (some 11) rfl (.cells (av 18 (w64 (fun _ => 0))) 84) (fun _ => by kernel_rfl) ?_
      intro g5 u8 M
      replace M : Mem ⟨w, []⟩ [⟨g1, .cells (av 18 (w64 x)) 84⟩, ⟨g2, .cells (av 18 (w64 y)) 84⟩, ⟨g3, .cells (av 18 (w64 (fun _ => 0))) 84⟩, ⟨g4, .cells (av 36 (w64 (dT x y))) 100⟩, ⟨g5, .cells (av 18 (w64 (fun _ => 0))) 84⟩] u8 := M
      refine pl_new M (want_no rfl) (some 12) rfl (.cells (av 18 (w64 (fun _ => 0))) 84) (fun _ => by kernel_rfl) ?_
      intro g6 u9 M
      replace M : Mem ⟨w, []⟩ [⟨g1, .cells (av 18 (w64 x)) 84⟩, ⟨g2, .cells (av 18 (w64 y)) 84⟩, ⟨g3, .cells (av 18 (w64 (fun _ => 0))) 84⟩, ⟨g4, .cells (av 36 (w64 (dT x y))) 100⟩, ⟨g5, .cells (av 18 (w64 (fun _ => 0))) 84⟩, ⟨g6, .cells (av 18 (w64 (fun _ => 0))) 84⟩] u9 := M
      refine pl_nil ?_
      refine au_then ?_
      refine wp_seq ?_
      refine wp_seq ?_
      refine rg_lit ?_
      refine pl_val (want_no rfl) (some 13) rfl (.int .i64 0) (fun _ => by kernel_rfl) ?_
      refine pl_nil ?_
      refine au_then ?_
      refine wp_block ?_
      refine au_loop (fun j a w' => ∃ v4 : Nat → Value, a = ⟨#[.agg (av 18 (w64 x)), .agg (av 18 (w64 y)), .pointer (some ⟨g1, 0, none⟩), .pointer (some ⟨g2, 0, none⟩), .pointer (some ⟨g3, 0, none⟩), .pointer (some ⟨g4, 0, none⟩), .int .i64 (18 : Int), v1 7, .int .u64 (cy 8 (tp 18 x y 18) 36), .int .i64 (36 : Int), v3 10, .pointer (some ⟨g5, 0, none⟩), .pointer (some ⟨g6, 0, none⟩), .int .i64 (j : Int), undef, .int .i64 (18 : Int), .bool false, v1 17, v1 18, v1 19, v1 20, v1 21, v1 22, v1 23, v1 24, v1 25, v1 26, v1 27, v1 28, v1 29, v1 30, v1 31, v1 32, v1 33, v1 34, v1 35, v1 36, v1 37, v1 38, v1 39, .int .i64 (36 : Int), .bool false, v3 42, v3 43, v3 44, v3 45, v3 46, v3 47, v3 48, v3 49, v3 50, v3 51, v3 52, v3 53, v3 54, v4 55, v4 56, v4 57, v4 58, v4 59, v4 60, v4 61, v4 62, v4 63, v4 64, v4 65, v4 66, v4 67, v4 68, v4 69, v4 70, v4 71, v4 72, v4 73, v4 74, v4 75, v4 76, v4 77, undef, undef, undef, undef, undef, undef, undef, undef, undef, undef, undef, undef, undef, undef, undef, undef, undef, undef, undef, undef], []⟩ ∧ Mem ⟨w, []⟩ [⟨g1, .cells (av 18 (w64 x)) 84⟩, ⟨g2, .cells (av 18 (w64 y)) 84⟩, ⟨g3, .cells (av 18 (w64 (fun _ => 0))) 84⟩, ⟨g4, .cells (av 36 (w64 (dT x y))) 100⟩, ⟨g5, .cells (av 18 (w64 (dlo (dT x y) j))) 84⟩, ⟨g6, .cells (av 18 (w64 (dhi (dT x y) j))) 84⟩] w') 17 ⟨fun k_ => ([undef, undef, undef, undef, undef, undef, undef, undef, undef, undef, undef, undef, undef, undef, undef, undef, undef, undef, undef, undef, undef, undef, undef] : List Value).getD (k_ - 55) undef, by kernel_rfl, M⟩ ?_ ?_
      · intro j a u0 hj hI
        obtain ⟨v4, rfl, M⟩ := hI
        refine wp_seq ?_
        refine wp_seq ?_
        refine rg_lit ?_
        refine pl_val (want_no rfl) (some 55) rfl (.int .i64 (j : Int)) (fun _ => by kernel_rfl) ?_
        refine pl_val (want_no rfl) (some 56) rfl (.bool true) (fun w => Eq.trans (b := .ok (.value (.bool (decide ((j : Int) < 17)))) w) (by kernel_rfl) (by rw [decide_eq_true (by omega)])) ?_
        refine pl_nil ?_
        refine au_then ?_
        refine wp_cond_true (by kernel_rfl) ?_
        refine wp_skip ?_
        refine au_then ?_
        refine wp_seq ?_
        refine wp_block ?_
        refine wp_seq ?_
        refine rg_lit ?_
        refine pl_val (want_no rfl) (some 59) rfl (.int .i64 (j : Int)) (fun _ => by kernel_rfl) ?_
        refine pl_val (want_no rfl) (some 60) rfl (.int .i64 (j : Int)) (fun _ => by kernel_rfl) ?_
        refine pl_val (want_no rfl) (some 61) rfl (.pointer (some ⟨g4, j, none⟩)) (run_ix1 100 36 22 Tryd.underlying100 inz22 _ _ rfl g4 (by kernel_rfl) .i64 (j) (by kernel_rfl) (by omega)) ?_
        refine pl_cell M (want_no rfl) (some 62) rfl 22 _ rfl g4 j (by kernel_rfl) (.int .u64 ((dT x y) j)) (fun _ => by kernel_rfl) (fun w M => M.cell 3 rfl (by omega) rfl) ?_
        refine pl_val (want_no rfl) (some 63) rfl (.pointer (some ⟨g5, j, none⟩)) (run_ix1 84 18 22 Tryd.underlying84 inz22 _ _ rfl g5 (by kernel_rfl) .i64 (j) (by kernel_rfl) (by omega)) ?_
        refine pl_put1 M (want_no rfl) rfl 22 _ _ rfl 4 g5 j (by kernel_rfl) 18 84 (w64 (dlo (dT x y) j)) rfl (.int .u64 ((dT x y) j)) (w64 (upd (dlo (dT x y) j) j ((dT x y) j))) (by kernel_rfl) inz22 (by omega) rfl rfl (fun j _ => put_w64 _ _ _ j) ?_
        intro u10 M
        replace M : Mem ⟨w, []⟩ [⟨g1, .cells (av 18 (w64 x)) 84⟩, ⟨g2, .cells (av 18 (w64 y)) 84⟩, ⟨g3, .cells (av 18 (w64 (fun _ => 0))) 84⟩, ⟨g4, .cells (av 36 (w64 (dT x y))) 100⟩, ⟨g5, .cells (av 18 (w64 (upd (dlo (dT x y) j) j ((dT x y) j)))) 84⟩, ⟨g6, .cells (av 18 (w64 (dhi (dT x y) j))) 84⟩] u10 := M
        refine pl_nil ?_
        refine au_then ?_
        refine rg_tail M 14 (by kernel_rfl) (by kernel_rfl) ?_
        simp only [List.take_succ_cons, List.take_zero]
        refine k_val (want_no rfl) (some 64) rfl (.int .i64 (j : Int)) (fun _ => by kernel_rfl) ?_
        refine k_val (want_no rfl) (some 65) rfl (.int .i64 (j : Int)) (fun _ => by kernel_rfl) ?_
        refine k_val (want_no rfl) (some 66) rfl (.int .i64 ((16 + j : Nat) : Int)) (fun w => Eq.trans (b := .ok (.value (.int .i64 (IntKind.wrap .i64 (16 + (j : Int))))) w) (by kernel_rfl) (by rw [wrap64 (by omega) (by omega)]; congr 3)) ?_
        refine k_val (want_no rfl) (some 67) rfl (.pointer (some ⟨g4, ((16 + j : Nat)), none⟩)) (run_ix1 100 36 22 Tryd.underlying100 inz22 _ _ rfl g4 (by kernel_rfl) .i64 ((16 + j : Nat)) (by kernel_rfl) (by omega)) ?_
        refine k_cell M (want_no rfl) (some 68) rfl 22 _ rfl g4 ((16 + j : Nat)) (by kernel_rfl) (.int .u64 ((dT x y) ((16 + j : Nat)))) (fun _ => by kernel_rfl) (fun w M => M.cell 3 rfl (by omega) rfl) ?_
        refine k_val (want_no rfl) (some 69) rfl (.int .u64 (sr ((dT x y) ((16 + j : Nat))) 2)) (fun _ => by kernel_rfl) ?_
        refine k_val (want_no rfl) (some 70) rfl (.int .i64 (j : Int)) (fun _ => by kernel_rfl) ?_
        refine k_val (want_no rfl) (some 71) rfl (.int .i64 ((17 + j : Nat) : Int)) (fun w => Eq.trans (b := .ok (.value (.int .i64 (IntKind.wrap .i64 (17 + (j : Int))))) w) (by kernel_rfl) (by rw [wrap64 (by omega) (by omega)]; congr 3)) ?_
        refine k_val (want_no rfl) (some 72) rfl (.pointer (some ⟨g4, ((17 + j : Nat)), none⟩)) (run_ix1 100 36 22 Tryd.underlying100 inz22 _ _ rfl g4 (by kernel_rfl) .i64 ((17 + j : Nat)) (by kernel_rfl) (by omega)) ?_
        refine k_cell M (want_no rfl) (some 73) rfl 22 _ rfl g4 ((17 + j : Nat)) (by kernel_rfl) (.int .u64 ((dT x y) ((17 + j : Nat)))) (fun _ => by kernel_rfl) (fun w M => M.cell 3 rfl (by omega) rfl) ?_
        refine k_val (want_no rfl) (some 74) rfl (.int .u64 (sl ((dT x y) ((17 + j : Nat))) 6)) (fun _ => by kernel_rfl) ?_
        refine k_val (want_no rfl) (some 75) rfl (.int .u64 (un (sl ((dT x y) ((17 + j : Nat))) 6) 255)) (fun _ => by kernel_rfl) ?_
        refine k_val (want_no rfl) (some 76) rfl (.int .u64 (uo (sr ((dT x y) ((16 + j : Nat))) 2) (un (sl ((dT x y) ((17 + j : Nat))) 6) 255))) (fun _ => by kernel_rfl) ?_
        refine k_val (want_no rfl) (some 77) rfl (.pointer (some ⟨g6, j, none⟩)) (run_ix1 84 18 22 Tryd.underlying84 inz22 _ _ rfl g6 (by kernel_rfl) .i64 (j) (by kernel_rfl) (by omega)) ?_
        refine kl_nil ?_
        intro u11 M
        replace M : Mem ⟨w, []⟩ [⟨g1, .cells (av 18 (w64 x)) 84⟩, ⟨g2, .cells (av 18 (w64 y)) 84⟩, ⟨g3, .cells (av 18 (w64 (fun _ => 0))) 84⟩, ⟨g4, .cells (av 36 (w64 (dT x y))) 100⟩, ⟨g5, .cells (av 18 (w64 (upd (dlo (dT x y) j) j ((dT x y) j)))) 84⟩, ⟨g6, .cells (av 18 (w64 (dhi (dT x y) j))) 84⟩] u11 := M
        refine pl_put1 M (want_no rfl) rfl 22 _ _ rfl 5 g6 j (by kernel_rfl) 18 84 (w64 (dhi (dT x y) j)) rfl (.int .u64 (uo (sr ((dT x y) ((16 + j : Nat))) 2) (un (sl ((dT x y) ((17 + j : Nat))) 6) 255))) (w64 (upd (dhi (dT x y) j) j (uo (sr ((dT x y) ((16 + j : Nat))) 2) (un (sl ((dT x y) ((17 + j : Nat))) 6) 255)))) (by kernel_rfl) inz22 (by omega) rfl rfl (fun j _ => put_w64 _ _ _ j) ?_
        intro u12 M
        replace M : Mem ⟨w, []⟩ [⟨g1, .cells (av 18 (w64 x)) 84⟩, ⟨g2, .cells (av 18 (w64 y)) 84⟩, ⟨g3, .cells (av 18 (w64 (fun _ => 0))) 84⟩, ⟨g4, .cells (av 36 (w64 (dT x y))) 100⟩, ⟨g5, .cells (av 18 (w64 (upd (dlo (dT x y) j) j ((dT x y) j)))) 84⟩, ⟨g6, .cells (av 18 (w64 (upd (dhi (dT x y) j) j (uo (sr ((dT x y) ((16 + j : Nat))) 2) (un (sl ((dT x y) ((17 + j : Nat))) 6) 255))))) 84⟩] u12 := M
        refine pl_nil ?_
        refine au_block ?_
        refine au_then ?_
        refine rg_lit ?_
        refine pl_val (want_no rfl) (some 57) rfl (.int .i64 (j : Int)) (fun _ => by kernel_rfl) ?_
        refine pl_val (want_no rfl) (some 58) rfl (.int .i64 ((j + 1 : Nat) : Int)) (fun w => Eq.trans (b := .ok (.value (.int .i64 (IntKind.wrap .i64 ((j : Int) + 1)))) w) (by kernel_rfl) (by rw [wrap64 (by omega) (by omega)]; congr 3)) ?_
        refine pl_val (want_no rfl) (some 13) rfl (.int .i64 ((j + 1 : Nat) : Int)) (fun _ => by kernel_rfl) ?_
        refine pl_nil ?_
        refine au_then ?_
        exact ⟨fun k_ => ([.int .i64 (j : Int), .bool true, .int .i64 (j : Int), .int .i64 ((j + 1 : Nat) : Int), .int .i64 (j : Int), .int .i64 (j : Int), .pointer (some ⟨g4, j, none⟩), .int .u64 ((dT x y) j), .pointer (some ⟨g5, j, none⟩), .int .i64 (j : Int), .int .i64 (j : Int), .int .i64 ((16 + j : Nat) : Int), .pointer (some ⟨g4, ((16 + j : Nat)), none⟩), .int .u64 ((dT x y) ((16 + j : Nat))), .int .u64 (sr ((dT x y) ((16 + j : Nat))) 2), .int .i64 (j : Int), .int .i64 ((17 + j : Nat) : Int), .pointer (some ⟨g4, ((17 + j : Nat)), none⟩), .int .u64 ((dT x y) ((17 + j : Nat))), .int .u64 (sl ((dT x y) ((17 + j : Nat))) 6), .int .u64 (un (sl ((dT x y) ((17 + j : Nat))) 6) 255), .int .u64 (uo (sr ((dT x y) ((16 + j : Nat))) 2) (un (sl ((dT x y) ((17 + j : Nat))) 6) 255)), .pointer (some ⟨g6, j, none⟩)] : List Value).getD (k_ - 55) undef, by kernel_rfl, M⟩
      · intro a u0 hI
        obtain ⟨v4, rfl, M⟩ := hI
        refine wp_seq ?_
        refine wp_seq ?_
        refine rg_lit ?_
        refine pl_val (want_no rfl) (some 55) rfl (.int .i64 (17 : Int)) (fun _ => by kernel_rfl) ?_
        refine pl_val (want_no rfl) (some 56) rfl (.bool false) (fun w => Eq.trans (b := .ok (.value (.bool (decide (17 < 17)))) w) (by kernel_rfl) (by rw [decide_eq_false (by omega)])) ?_
        refine pl_nil ?_
        refine au_then ?_
        refine wp_cond_false (by kernel_rfl) ?_
        refine wp_exit ?_
        refine au_then_exit ?_
        refine au_then_exit ?_
        refine au_block_exit ?_
        refine au_then ?_
        refine wp_seq ?_
        refine rg_lit ?_
        refine pl_val (want_no rfl) (some 78) rfl (.pointer (some ⟨g5, 16, none⟩)) (fun _ => by kernel_rfl) ?_
        refine pl_cell M (want_no rfl) (some 79) rfl 22 _ rfl g5 16 (by kernel_rfl) (.int .u64 ((dlo (dT x y) 17) 16)) (fun _ => by kernel_rfl) (fun w M => M.cell 4 rfl (by decide) rfl) ?_
        refine pl_val (want_no rfl) (some 80) rfl (.int .u64 (un ((dlo (dT x y) 17) 16) 3)) (fun _ => by kernel_rfl) ?_
        refine pl_val (want_no rfl) (some 81) rfl (.pointer (some ⟨g5, 16, none⟩)) (fun _ => by kernel_rfl) ?_
        refine pl_put1 M (want_no rfl) rfl 22 _ _ rfl 4 g5 16 (by kernel_rfl) 18 84 (w64 (dlo (dT x y) 17)) rfl (.int .u64 (un ((dlo (dT x y) 17) 16) 3)) (w64 (upd (dlo (dT x y) 17) 16 (un ((dlo (dT x y) 17) 16) 3))) (by kernel_rfl) inz22 (by decide) rfl rfl (fun j _ => put_w64 _ _ _ j) ?_
        intro u13 M
        replace M : Mem ⟨w, []⟩ [⟨g1, .cells (av 18 (w64 x)) 84⟩, ⟨g2, .cells (av 18 (w64 y)) 84⟩, ⟨g3, .cells (av 18 (w64 (fun _ => 0))) 84⟩, ⟨g4, .cells (av 36 (w64 (dT x y))) 100⟩, ⟨g5, .cells (av 18 (w64 (upd (dlo (dT x y) 17) 16 (un ((dlo (dT x y) 17) 16) 3)))) 84⟩, ⟨g6, .cells (av 18 (w64 (dhi (dT x y) 17))) 84⟩] u13 := M
        refine pl_nil ?_
        replace M : Mem ⟨w, []⟩ [⟨g1, .cells (av 18 (w64 x)) 84⟩, ⟨g2, .cells (av 18 (w64 y)) 84⟩, ⟨g3, .cells (av 18 (w64 (fun _ => 0))) 84⟩, ⟨g4, .cells (av 36 (w64 (dT x y))) 100⟩, ⟨g5, .cells (av 18 (w64 (dl2 (dT x y)))) 84⟩, ⟨g6, .cells (av 18 (w64 (dhi (dT x y) 17))) 84⟩] u13 := M
        refine au_then ?_
        refine wp_seq ?_
        refine wp_seq ?_
        refine rg_lit ?_
        refine pl_val (want_no rfl) (some 14) rfl (.int .i64 0) (fun _ => by kernel_rfl) ?_
        refine pl_nil ?_
        refine au_then ?_
        refine wp_block ?_
        refine au_loop (fun j a w' => ∃ v5 : Nat → Value, a = ⟨#[.agg (av 18 (w64 x)), .agg (av 18 (w64 y)), .pointer (some ⟨g1, 0, none⟩), .pointer (some ⟨g2, 0, none⟩), .pointer (some ⟨g3, 0, none⟩), .pointer (some ⟨g4, 0, none⟩), .int .i64 (18 : Int), v1 7, .int .u64 (cy 8 (tp 18 x y 18) 36), .int .i64 (36 : Int), v3 10, .pointer (some ⟨g5, 0, none⟩), .pointer (some ⟨g6, 0, none⟩), .int .i64 (17 : Int), .int .i64 (j : Int), .int .i64 (18 : Int), .bool false, v1 17, v1 18, v1 19, v1 20, v1 21, v1 22, v1 23, v1 24, v1 25, v1 26, v1 27, v1 28, v1 29, v1 30, v1 31, v1 32, v1 33, v1 34, v1 35, v1 36, v1 37, v1 38, v1 39, .int .i64 (36 : Int), .bool false, v3 42, v3 43, v3 44, v3 45, v3 46, v3 47, v3 48, v3 49, v3 50, v3 51, v3 52, v3 53, v3 54, .int .i64 (17 : Int), .bool false, v4 57, v4 58, v4 59, v4 60, v4 61, v4 62, v4 63, v4 64, v4 65, v4 66, v4 67, v4 68, v4 69, v4 70, v4 71, v4 72, v4 73, v4 74, v4 75, v4 76, v4 77, .pointer (some ⟨g5, 16, none⟩), .int .u64 ((dlo (dT x y) 17) 16), .int .u64 (un ((dlo (dT x y) 17) 16) 3), .pointer (some ⟨g5, 16, none⟩), v5 82, v5 83, v5 84, v5 85, v5 86, v5 87, v5 88, v5 89, v5 90, v5 91, v5 92, v5 93, v5 94, v5 95, undef, undef], []⟩ ∧ Mem ⟨w, []⟩ [⟨g1, .cells (av 18 (w64 x)) 84⟩, ⟨g2, .cells (av 18 (w64 y)) 84⟩, ⟨g3, .cells (av 18 (w64 (fun _ => 0))) 84⟩, ⟨g4, .cells (av 36 (w64 (dT x y))) 100⟩, ⟨g5, .cells (av 18 (w64 (dl3 (dT x y) j))) 84⟩, ⟨g6, .cells (av 18 (w64 (dhi (dT x y) 17))) 84⟩] w') 18 ⟨fun k_ => ([undef, undef, undef, undef, undef, undef, undef, undef, undef, undef, undef, undef, undef, undef] : List Value).getD (k_ - 82) undef, by kernel_rfl, M⟩ ?_ ?_
        · intro j a u0 hj hI
          obtain ⟨v5, rfl, M⟩ := hI
          refine wp_seq ?_
          refine wp_seq ?_
          refine rg_lit ?_
          refine pl_val (want_no rfl) (some 82) rfl (.int .i64 (j : Int)) (fun _ => by kernel_rfl) ?_
          refine pl_val (want_no rfl) (some 83) rfl (.bool true) (fun w => Eq.trans (b := .ok (.value (.bool (decide ((j : Int) < 18)))) w) (by kernel_rfl) (by rw [decide_eq_true (by omega)])) ?_
          refine pl_nil ?_
          refine au_then ?_
          refine wp_cond_true (by kernel_rfl) ?_
          refine wp_skip ?_
          refine au_then ?_
          refine wp_seq ?_
          refine wp_block ?_
          refine rg_tail M 10 (by kernel_rfl) (by kernel_rfl) ?_
          simp only [List.take_succ_cons, List.take_zero]
          refine k_val (want_no rfl) (some 86) rfl (.int .i64 (j : Int)) (fun _ => by kernel_rfl) ?_
          refine k_val (want_no rfl) (some 87) rfl (.int .i64 (j : Int)) (fun _ => by kernel_rfl) ?_
          refine k_val (want_no rfl) (some 88) rfl (.pointer (some ⟨g5, j, none⟩)) (run_ix1 84 18 22 Tryd.underlying84 inz22 _ _ rfl g5 (by kernel_rfl) .i64 (j) (by kernel_rfl) (by omega)) ?_
          refine k_cell M (want_no rfl) (some 89) rfl 22 _ rfl g5 j (by kernel_rfl) (.int .u64 ((dl3 (dT x y) j) j)) (fun _ => by kernel_rfl) (fun w M => M.cell 4 rfl (by omega) rfl) ?_
          refine k_val (want_no rfl) (some 90) rfl (.int .i64 (j : Int)) (fun _ => by kernel_rfl) ?_
          refine k_val (want_no rfl) (some 91) rfl (.pointer (some ⟨g6, j, none⟩)) (run_ix1 84 18 22 Tryd.underlying84 inz22 _ _ rfl g6 (by kernel_rfl) .i64 (j) (by kernel_rfl) (by omega)) ?_
          refine k_cell M (want_no rfl) (some 92) rfl 22 _ rfl g6 j (by kernel_rfl) (.int .u64 ((dhi (dT x y) 17) j)) (fun _ => by kernel_rfl) (fun w M => M.cell 5 rfl (by omega) rfl) ?_
          refine k_val (want_no rfl) (some 93) rfl (.int .u64 (um 5 ((dhi (dT x y) 17) j))) (fun _ => by kernel_rfl) ?_
          refine k_val (want_no rfl) (some 94) rfl (.int .u64 (ua ((dl3 (dT x y) j) j) (um 5 ((dhi (dT x y) 17) j)))) (fun _ => by kernel_rfl) ?_
          refine k_val (want_no rfl) (some 95) rfl (.pointer (some ⟨g5, j, none⟩)) (run_ix1 84 18 22 Tryd.underlying84 inz22 _ _ rfl g5 (by kernel_rfl) .i64 (j) (by kernel_rfl) (by omega)) ?_
          refine kl_nil ?_
          intro u14 M
          replace M : Mem ⟨w, []⟩ [⟨g1, .cells (av 18 (w64 x)) 84⟩, ⟨g2, .cells (av 18 (w64 y)) 84⟩, ⟨g3, .cells (av 18 (w64 (fun _ => 0))) 84⟩, ⟨g4, .cells (av 36 (w64 (dT x y))) 100⟩, ⟨g5, .cells (av 18 (w64 (dl3 (dT x y) j))) 84⟩, ⟨g6, .cells (av 18 (w64 (dhi (dT x y) 17))) 84⟩] u14 := M
          refine pl_put1 M (want_no rfl) rfl 22 _ _ rfl 4 g5 j (by kernel_rfl) 18 84 (w64 (dl3 (dT x y) j)) rfl (.int .u64 (ua ((dl3 (dT x y) j) j) (um 5 ((dhi (dT x y) 17) j)))) (w64 (upd (dl3 (dT x y) j) j (ua ((dl3 (dT x y) j) j) (um 5 ((dhi (dT x y) 17) j))))) (by kernel_rfl) inz22 (by omega) rfl rfl (fun j _ => put_w64 _ _ _ j) ?_
          intro u15 M
          replace M : Mem ⟨w, []⟩ [⟨g1, .cells (av 18 (w64 x)) 84⟩, ⟨g2, .cells (av 18 (w64 y)) 84⟩, ⟨g3, .cells (av 18 (w64 (fun _ => 0))) 84⟩, ⟨g4, .cells (av 36 (w64 (dT x y))) 100⟩, ⟨g5, .cells (av 18 (w64 (upd (dl3 (dT x y) j) j (ua ((dl3 (dT x y) j) j) (um 5 ((dhi (dT x y) 17) j)))))) 84⟩, ⟨g6, .cells (av 18 (w64 (dhi (dT x y) 17))) 84⟩] u15 := M
          refine pl_nil ?_
          refine au_block ?_
          refine au_then ?_
          refine rg_lit ?_
          refine pl_val (want_no rfl) (some 84) rfl (.int .i64 (j : Int)) (fun _ => by kernel_rfl) ?_
          refine pl_val (want_no rfl) (some 85) rfl (.int .i64 ((j + 1 : Nat) : Int)) (fun w => Eq.trans (b := .ok (.value (.int .i64 (IntKind.wrap .i64 ((j : Int) + 1)))) w) (by kernel_rfl) (by rw [wrap64 (by omega) (by omega)]; congr 3)) ?_
          refine pl_val (want_no rfl) (some 14) rfl (.int .i64 ((j + 1 : Nat) : Int)) (fun _ => by kernel_rfl) ?_
          refine pl_nil ?_
          refine au_then ?_
          exact ⟨fun k_ => ([.int .i64 (j : Int), .bool true, .int .i64 (j : Int), .int .i64 ((j + 1 : Nat) : Int), .int .i64 (j : Int), .int .i64 (j : Int), .pointer (some ⟨g5, j, none⟩), .int .u64 ((dl3 (dT x y) j) j), .int .i64 (j : Int), .pointer (some ⟨g6, j, none⟩), .int .u64 ((dhi (dT x y) 17) j), .int .u64 (um 5 ((dhi (dT x y) 17) j)), .int .u64 (ua ((dl3 (dT x y) j) j) (um 5 ((dhi (dT x y) 17) j))), .pointer (some ⟨g5, j, none⟩)] : List Value).getD (k_ - 82) undef, by kernel_rfl, M⟩
        · intro a u0 hI
          obtain ⟨v5, rfl, M⟩ := hI
          refine wp_seq ?_
          refine wp_seq ?_
          refine rg_lit ?_
          refine pl_val (want_no rfl) (some 82) rfl (.int .i64 (18 : Int)) (fun _ => by kernel_rfl) ?_
          refine pl_val (want_no rfl) (some 83) rfl (.bool false) (fun w => Eq.trans (b := .ok (.value (.bool (decide (18 < 18)))) w) (by kernel_rfl) (by rw [decide_eq_false (by omega)])) ?_
          refine pl_nil ?_
          refine au_then ?_
          refine wp_cond_false (by kernel_rfl) ?_
          refine wp_exit ?_
          refine au_then_exit ?_
          refine au_then_exit ?_
          refine au_block_exit ?_
          refine au_then ?_
          refine wp_seq ?_
          refine rg_lit ?_
          refine pl_load M (want_no rfl) (some 96) rfl 84 _ rfl 4 g5 0 (by kernel_rfl) 18 84 (w64 (dl3 (dT x y) 18)) rfl 18 (w64 (dl3 (dT x y) 18)) (fun j _ => by rw [Nat.zero_add]) (by decide) _ Tryd.underlying84 rfl inz84 ?_
          refine pl_call M (want_no rfl) (some 97) rfl 51 #[.agg (av 18 (w64 (dl3 (dT x y) 18)))] (.agg (av 18 (w64 (dcF (dl3 (dT x y) 18))))) (fun _ => by kernel_rfl) (fun w M => d_carry (dl3 (dT x y) 18) w M.laid) ?_
          intro u16 M
          refine pl_put M (want_no rfl) rfl 84 _ _ rfl 2 g3 0 (by kernel_rfl) 18 84 (w64 (fun _ => 0)) rfl 18 (w64 (dcF (dl3 (dT x y) 18))) (w64 (dcF (dl3 (dT x y) 18))) (by kernel_rfl) inz84 (by decide) (fun _ _ => rfl) (fun j hj => by rw [if_pos (by omega), Nat.sub_zero]) ?_
          intro u17 M
          replace M : Mem ⟨w, []⟩ [⟨g1, .cells (av 18 (w64 x)) 84⟩, ⟨g2, .cells (av 18 (w64 y)) 84⟩, ⟨g3, .cells (av 18 (w64 (dcF (dl3 (dT x y) 18)))) 84⟩, ⟨g4, .cells (av 36 (w64 (dT x y))) 100⟩, ⟨g5, .cells (av 18 (w64 (dl3 (dT x y) 18))) 84⟩, ⟨g6, .cells (av 18 (w64 (dhi (dT x y) 17))) 84⟩] u17 := M
          refine pl_nil ?_
          refine au_then ?_
          refine wp_ret ?_
          exact bodyPost_ret (v := .agg (av 18 (w64 (dcF (dl3 (dT x y) 18))))) (results_cell_row Tryd.results50 _ _ g3 84 (av 18 (w64 (dcF (dl3 (dT x y) 18)))) (0, 0) _ (by kernel_rfl) (M.get 2 rfl) Tryd.underlying84 rfl (by rw [av_size]; exact inz84)) (by kernel_rfl) ⟨rfl, below_grown M.old⟩

def dg (a : Nat → Int) : Nat → Int := upd (dcF a) 0 (ua (dcF a 0) 5)
def dG (a : Nat → Int) : Nat → Int := st 255 8 (dg a) 18
def dwF (a : Nat → Int) : Nat → Int := if 4 ≤ dG a 16 then upd (dG a) 16 (un (dG a 16) 3) else dcF a

set_option maxRecDepth 100000 in
set_option maxHeartbeats 4000000 in
theorem d_wholeA (x : Nat → Int) (h : 4 ≤ dG x 16) (w : World) (hL : Laid w)  :
    Calls Tryd.prog 52 #[.agg (av 18 (w64 x))] w fun r w' => r = .returned (.agg (av 18 (w64 (upd (dG x) 16 (un ((dG x) 16) 3))))) ∧ Below w.heap.size w w' := by
  go_enter Tryd.func52, Tryd.ntmps52
  have M := Mem.start hL
  refine wp_seq ?_
  refine rg_lit ?_
  refine pl_new M (want_no rfl) (some 1) rfl (.cells (av 18 (w64 x)) 84) (fun _ => by kernel_rfl) ?_
  intro g1 u1 M
  replace M : Mem ⟨w, []⟩ [⟨g1, .cells (av 18 (w64 x)) 84⟩] u1 := M
  refine pl_new M (want_no rfl) (some 2) rfl (.cells (av 18 (w64 (fun _ => 0))) 84) (fun _ => by kernel_rfl) ?_
  intro g2 u2 M
  replace M : Mem ⟨w, []⟩ [⟨g1, .cells (av 18 (w64 x)) 84⟩, ⟨g2, .cells (av 18 (w64 (fun _ => 0))) 84⟩] u2 := M
  refine pl_nil ?_
  refine au_then ?_
  refine wp_seq ?_
  refine rg_lit ?_
  refine pl_load M (want_no rfl) (some 7) rfl 84 _ rfl 0 g1 0 (by kernel_rfl) 18 84 (w64 x) rfl 18 (w64 x) (fun j _ => by rw [Nat.zero_add]) (by decide) _ Tryd.underlying84 rfl inz84 ?_
  refine pl_call M (want_no rfl) (some 8) rfl 51 #[.agg (av 18 (w64 x))] (.agg (av 18 (w64 (dcF x)))) (fun _ => by kernel_rfl) (fun w M => d_carry x w M.laid) ?_
  intro u3 M
  refine pl_put M (want_no rfl) rfl 84 _ _ rfl 0 g1 0 (by kernel_rfl) 18 84 (w64 x) rfl 18 (w64 (dcF x)) (w64 (dcF x)) (by kernel_rfl) inz84 (by decide) (fun _ _ => rfl) (fun j hj => by rw [if_pos (by omega), Nat.sub_zero]) ?_
  intro u4 M
  replace M : Mem ⟨w, []⟩ [⟨g1, .cells (av 18 (w64 (dcF x))) 84⟩, ⟨g2, .cells (av 18 (w64 (fun _ => 0))) 84⟩] u4 := M
  refine pl_nil ?_
  refine au_then ?_
  refine wp_seq ?_
  refine rg_lit ?_
  refine pl_load M (want_no rfl) (some 9) rfl 84 _ rfl 0 g1 0 (by kernel_rfl) 18 84 (w64 (dcF x)) rfl 18 (w64 (dcF x)) (fun j _ => by rw [Nat.zero_add]) (by decide) _ Tryd.underlying84 rfl inz84 ?_
  refine pl_new M (want_no rfl) (some 3) rfl (.cells (av 18 (w64 (fun _ => 0))) 84) (fun _ => by kernel_rfl) ?_
  intro g3 u5 M
  replace M : Mem ⟨w, []⟩ [⟨g1, .cells (av 18 (w64 (dcF x))) 84⟩, ⟨g2, .cells (av 18 (w64 (fun _ => 0))) 84⟩, ⟨g3, .cells (av 18 (w64 (fun _ => 0))) 84⟩] u5 := M
  refine pl_put M (want_no rfl) rfl 84 _ _ rfl 2 g3 0 (by kernel_rfl) 18 84 (w64 (fun _ => 0)) rfl 18 (w64 (dcF x)) (w64 (dcF x)) (by kernel_rfl) inz84 (by decide) (fun _ _ => rfl) (fun j hj => by rw [if_pos (by omega), Nat.sub_zero]) ?_
  intro u6 M
  replace M : Mem ⟨w, []⟩ [⟨g1, .cells (av 18 (w64 (dcF x))) 84⟩, ⟨g2, .cells (av 18 (w64 (fun _ => 0))) 84⟩, ⟨g3, .cells (av 18 (w64 (dcF x))) 84⟩] u6 := M
  refine pl_nil ?_
  refine au_then ?_
  refine wp_seq ?_
  refine rg_lit ?_
  refine pl_val (want_no rfl) (some 10) rfl (.pointer (some ⟨g3, 0, none⟩)) (fun _ => by kernel_rfl) ?_
  refine pl_cell M (want_no rfl) (some 11) rfl 22 _ rfl g3 0 (by kernel_rfl) (.int .u64 ((dcF x) 0)) (fun _ => by kernel_rfl) (fun w M => M.cell 2 rfl (by decide) rfl) ?_
  refine pl_val (want_no rfl) (some 12) rfl (.int .u64 (ua ((dcF x) 0) 5)) (fun _ => by kernel_rfl) ?_
  refine pl_val (want_no rfl) (some 13) rfl (.pointer (some ⟨g3, 0, none⟩)) (fun _ => by kernel_rfl) ?_
  refine pl_put1 M (want_no rfl) rfl 22 _ _ rfl 2 g3 0 (by kernel_rfl) 18 84 (w64 (dcF x)) rfl (.int .u64 (ua ((dcF x) 0) 5)) (w64 (upd (dcF x) 0 (ua ((dcF x) 0) 5))) (by kernel_rfl) inz22 (by decide) rfl rfl (fun j _ => put_w64 _ _ _ j) ?_
  intro u7 M
  replace M : Mem ⟨w, []⟩ [⟨g1, .cells (av 18 (w64 (dcF x))) 84⟩, ⟨g2, .cells (av 18 (w64 (fun _ => 0))) 84⟩, ⟨g3, .cells (av 18 (w64 (upd (dcF x) 0 (ua ((dcF x) 0) 5)))) 84⟩] u7 := M
  refine pl_nil ?_
  replace M : Mem ⟨w, []⟩ [⟨g1, .cells (av 18 (w64 (dcF x))) 84⟩, ⟨g2, .cells (av 18 (w64 (fun _ => 0))) 84⟩, ⟨g3, .cells (av 18 (w64 (dg x))) 84⟩] u7 := M
  refine au_then ?_
  refine wp_seq ?_
  refine rg_lit ?_
  refine pl_val (want_no rfl) (some 4) rfl (.int .u64 0) (fun _ => by kernel_rfl) ?_
  refine pl_nil ?_
  refine au_then ?_
  refine wp_seq ?_
  refine wp_seq ?_
  refine rg_lit ?_
  refine pl_val (want_no rfl) (some 5) rfl (.int .i64 0) (fun _ => by kernel_rfl) ?_
  refine pl_nil ?_
  refine au_then ?_
  refine wp_block ?_
  refine au_loop (fun j a w' => ∃ v1 : Nat → Value, a = ⟨#[.agg (av 18 (w64 x)), .pointer (some ⟨g1, 0, none⟩), .pointer (some ⟨g2, 0, none⟩), .pointer (some ⟨g3, 0, none⟩), .int .u64 (cy 8 (dg x) j), .int .i64 (j : Int), v1 6, .agg (av 18 (w64 x)), .agg (av 18 (w64 (dcF x))), .agg (av 18 (w64 (dcF x))), .pointer (some ⟨g3, 0, none⟩), .int .u64 ((dcF x) 0), .int .u64 (ua ((dcF x) 0) 5), .pointer (some ⟨g3, 0, none⟩), v1 14, v1 15, v1 16, v1 17, v1 18, v1 19, v1 20, v1 21, v1 22, v1 23, v1 24, v1 25, v1 26, v1 27, v1 28, undef, undef, undef, undef, undef, undef, undef, undef, undef], []⟩ ∧ Mem ⟨w, []⟩ [⟨g1, .cells (av 18 (w64 (dcF x))) 84⟩, ⟨g2, .cells (av 18 (w64 (fun _ => 0))) 84⟩, ⟨g3, .cells (av 18 (w64 (st 255 8 (dg x) j))) 84⟩] w') 18 ⟨fun k_ => ([undef, undef, undef, undef, undef, undef, undef, undef, undef, undef, undef, undef, undef, undef, undef, undef, undef, undef, undef, undef, undef, undef, undef] : List Value).getD (k_ - 6) undef, by kernel_rfl, M⟩ ?_ ?_
  · intro j a u0 hj hI
    obtain ⟨v1, rfl, M⟩ := hI
    refine wp_seq ?_
    refine wp_seq ?_
    refine rg_lit ?_
    refine pl_val (want_no rfl) (some 14) rfl (.int .i64 (j : Int)) (fun _ => by kernel_rfl) ?_
    refine pl_val (want_no rfl) (some 15) rfl (.bool true) (fun w => Eq.trans (b := .ok (.value (.bool (decide ((j : Int) < 18)))) w) (by kernel_rfl) (by rw [decide_eq_true (by omega)])) ?_
    refine pl_nil ?_
    refine au_then ?_
    refine wp_cond_true (by kernel_rfl) ?_
    refine wp_skip ?_
    refine au_then ?_
    refine wp_seq ?_
    refine wp_block ?_
    refine wp_seq ?_
    refine rg_lit ?_
    refine pl_val (want_no rfl) (some 18) rfl (.int .i64 (j : Int)) (fun _ => by kernel_rfl) ?_
    refine pl_val (want_no rfl) (some 19) rfl (.pointer (some ⟨g3, j, none⟩)) (run_ix1 84 18 22 Tryd.underlying84 inz22 _ _ rfl g3 (by kernel_rfl) .i64 (j) (by kernel_rfl) (by omega)) ?_
    refine pl_cell M (want_no rfl) (some 20) rfl 22 _ rfl g3 j (by kernel_rfl) (.int .u64 ((dg x) j)) (fun _ => by kernel_rfl) (fun w M => M.cell 2 rfl (by omega) (st_cell 255 8 (dg x) j)) ?_
    refine pl_val (want_no rfl) (some 21) rfl (.int .u64 (cy 8 (dg x) j)) (fun _ => by kernel_rfl) ?_
    refine pl_val (want_no rfl) (some 22) rfl (.int .u64 (ua ((dg x) j) (cy 8 (dg x) j))) (fun _ => by kernel_rfl) ?_
    refine pl_val (want_no rfl) (some 6) rfl (.int .u64 (ua ((dg x) j) (cy 8 (dg x) j))) (fun _ => by kernel_rfl) ?_
    refine pl_nil ?_
    refine au_then ?_
    refine wp_seq ?_
    refine rg_lit ?_
    refine pl_val (want_no rfl) (some 23) rfl (.int .i64 (j : Int)) (fun _ => by kernel_rfl) ?_
    refine pl_val (want_no rfl) (some 24) rfl (.int .u64 (ua ((dg x) j) (cy 8 (dg x) j))) (fun _ => by kernel_rfl) ?_
    refine pl_val (want_no rfl) (some 25) rfl (.int .u64 (un (ua ((dg x) j) (cy 8 (dg x) j)) 255)) (fun _ => by kernel_rfl) ?_
    refine pl_val (want_no rfl) (some 26) rfl (.pointer (some ⟨g3, j, none⟩)) (run_ix1 84 18 22 Tryd.underlying84 inz22 _ _ rfl g3 (by kernel_rfl) .i64 (j) (by kernel_rfl) (by omega)) ?_
    refine pl_put1 M (want_no rfl) rfl 22 _ _ rfl 2 g3 j (by kernel_rfl) 18 84 (w64 (st 255 8 (dg x) j)) rfl (.int .u64 (un (ua ((dg x) j) (cy 8 (dg x) j)) 255)) (w64 (upd (st 255 8 (dg x) j) j (un (ua ((dg x) j) (cy 8 (dg x) j)) 255))) (by kernel_rfl) inz22 (by omega) rfl rfl (fun j _ => put_w64 _ _ _ j) ?_
    intro u8 M
    replace M : Mem ⟨w, []⟩ [⟨g1, .cells (av 18 (w64 (dcF x))) 84⟩, ⟨g2, .cells (av 18 (w64 (fun _ => 0))) 84⟩, ⟨g3, .cells (av 18 (w64 (upd (st 255 8 (dg x) j) j (un (ua ((dg x) j) (cy 8 (dg x) j)) 255)))) 84⟩] u8 := M
    refine pl_nil ?_
    refine au_then ?_
    refine rg_lit ?_
    refine pl_val (want_no rfl) (some 27) rfl (.int .u64 (ua ((dg x) j) (cy 8 (dg x) j))) (fun _ => by kernel_rfl) ?_
    refine pl_val (want_no rfl) (some 28) rfl (.int .u64 (sr (ua ((dg x) j) (cy 8 (dg x) j)) 8)) (fun _ => by kernel_rfl) ?_
    refine pl_val (want_no rfl) (some 4) rfl (.int .u64 (sr (ua ((dg x) j) (cy 8 (dg x) j)) 8)) (fun _ => by kernel_rfl) ?_
    refine pl_nil ?_
    refine au_block ?_
    refine au_then ?_
    refine rg_lit ?_
    refine pl_val (want_no rfl) (some 16) rfl (.int .i64 (j : Int)) (fun _ => by kernel_rfl) ?_
    refine pl_val (want_no rfl) (some 17) rfl (.int .i64 ((j + 1 : Nat) : Int)) (fun w => Eq.trans (b := .ok (.value (.int .i64 (IntKind.wrap .i64 ((j : Int) + 1)))) w) (by kernel_rfl) (by rw [wrap64 (by omega) (by omega)]; congr 3)) ?_
    refine pl_val (want_no rfl) (some 5) rfl (.int .i64 ((j + 1 : Nat) : Int)) (fun _ => by kernel_rfl) ?_
    refine pl_nil ?_
    refine au_then ?_
    exact ⟨fun k_ => ([.int .u64 (ua ((dg x) j) (cy 8 (dg x) j)), undef, undef, undef, undef, undef, undef, undef, .int .i64 (j : Int), .bool true, .int .i64 (j : Int), .int .i64 ((j + 1 : Nat) : Int), .int .i64 (j : Int), .pointer (some ⟨g3, j, none⟩), .int .u64 ((dg x) j), .int .u64 (cy 8 (dg x) j), .int .u64 (ua ((dg x) j) (cy 8 (dg x) j)), .int .i64 (j : Int), .int .u64 (ua ((dg x) j) (cy 8 (dg x) j)), .int .u64 (un (ua ((dg x) j) (cy 8 (dg x) j)) 255), .pointer (some ⟨g3, j, none⟩), .int .u64 (ua ((dg x) j) (cy 8 (dg x) j)), .int .u64 (sr (ua ((dg x) j) (cy 8 (dg x) j)) 8)] : List Value).getD (k_ - 6) undef, by kernel_rfl, M⟩
  · intro a u0 hI
    obtain ⟨v1, rfl, M⟩ := hI
    refine wp_seq ?_
    refine wp_seq ?_
    refine rg_lit ?_
    refine pl_val (want_no rfl) (some 14) rfl (.int .i64 (18 : Int)) (fun _ => by kernel_rfl) ?_
    refine pl_val (want_no rfl) (some 15) rfl (.bool false) (fun w => Eq.trans (b := .ok (.value (.bool (decide (18 < 18)))) w) (by kernel_rfl) (by rw [decide_eq_false (by omega)])) ?_
    refine pl_nil ?_
    refine au_then ?_
    refine wp_cond_false (by kernel_rfl) ?_
    refine wp_exit ?_
    refine au_then_exit ?_
    refine au_then_exit ?_
    refine au_block_exit ?_
    refine au_then ?_
    refine wp_seq ?_
    refine wp_seq ?_
    replace M : Mem ⟨w, []⟩ [⟨g1, .cells (av 18 (w64 (dcF x))) 84⟩, ⟨g2, .cells (av 18 (w64 (fun _ => 0))) 84⟩, ⟨g3, .cells (av 18 (w64 (dG x))) 84⟩] u0 := M
    refine rg_lit ?_
    refine pl_val (want_no rfl) (some 29) rfl (.pointer (some ⟨g3, 16, none⟩)) (fun _ => by kernel_rfl) ?_
    refine pl_cell M (want_no rfl) (some 30) rfl 22 _ rfl g3 16 (by kernel_rfl) (.int .u64 ((dG x) 16)) (fun _ => by kernel_rfl) (fun w M => M.cell 2 rfl (by decide) rfl) ?_
    refine pl_val (want_no rfl) (some 31) rfl (.bool true) (fun w => Eq.trans (b := .ok (.value (.bool (decide (4 ≤ dG x 16)))) w) (by kernel_rfl) (by rw [decide_eq_true (h)])) ?_
    refine pl_nil ?_
    refine au_then ?_
    refine wp_cond_true (by kernel_rfl) ?_
    refine wp_seq ?_
    refine rg_lit ?_
    refine pl_val (want_no rfl) (some 32) rfl (.pointer (some ⟨g3, 16, none⟩)) (fun _ => by kernel_rfl) ?_
    refine pl_cell M (want_no rfl) (some 33) rfl 22 _ rfl g3 16 (by kernel_rfl) (.int .u64 ((dG x) 16)) (fun _ => by kernel_rfl) (fun w M => M.cell 2 rfl (by decide) rfl) ?_
    refine pl_val (want_no rfl) (some 34) rfl (.int .u64 (un ((dG x) 16) 3)) (fun _ => by kernel_rfl) ?_
    refine pl_val (want_no rfl) (some 35) rfl (.pointer (some ⟨g3, 16, none⟩)) (fun _ => by kernel_rfl) ?_
    refine pl_put1 M (want_no rfl) rfl 22 _ _ rfl 2 g3 16 (by kernel_rfl) 18 84 (w64 (dG x)) rfl (.int .u64 (un ((dG x) 16) 3)) (w64 (upd (dG x) 16 (un ((dG x) 16) 3))) (by kernel_rfl) inz22 (by decide) rfl rfl (fun j _ => put_w64 _ _ _ j) ?_
    intro u9 M
    replace M : Mem ⟨w, []⟩ [⟨g1, .cells (av 18 (w64 (dcF x))) 84⟩, ⟨g2, .cells (av 18 (w64 (fun _ => 0))) 84⟩, ⟨g3, .cells (av 18 (w64 (upd (dG x) 16 (un ((dG x) 16) 3)))) 84⟩] u9 := M
    refine pl_nil ?_
    refine au_then ?_
    refine wp_seq ?_
    refine rg_lit ?_
    refine pl_load M (want_no rfl) (some 36) rfl 84 _ rfl 2 g3 0 (by kernel_rfl) 18 84 (w64 (upd (dG x) 16 (un ((dG x) 16) 3))) rfl 18 (w64 (upd (dG x) 16 (un ((dG x) 16) 3))) (fun j _ => by rw [Nat.zero_add]) (by decide) _ Tryd.underlying84 rfl inz84 ?_
    refine pl_put M (want_no rfl) rfl 84 _ _ rfl 1 g2 0 (by kernel_rfl) 18 84 (w64 (fun _ => 0)) rfl 18 (w64 (upd (dG x) 16 (un ((dG x) 16) 3))) (w64 (upd (dG x) 16 (un ((dG x) 16) 3))) (by kernel_rfl) inz84 (by decide) (fun _ _ => rfl) (fun j hj => by rw [if_pos (by omega), Nat.sub_zero]) ?_
    intro u10 M
    replace M : Mem ⟨w, []⟩ [⟨g1, .cells (av 18 (w64 (dcF x))) 84⟩, ⟨g2, .cells (av 18 (w64 (upd (dG x) 16 (un ((dG x) 16) 3)))) 84⟩, ⟨g3, .cells (av 18 (w64 (upd (dG x) 16 (un ((dG x) 16) 3)))) 84⟩] u10 := M
    refine pl_nil ?_
    refine au_then ?_
    refine wp_ret ?_
    refine au_then_ret ?_
    exact bodyPost_ret (v := .agg (av 18 (w64 (upd (dG x) 16 (un ((dG x) 16) 3))))) (results_cell_row Tryd.results52 _ _ g2 84 (av 18 (w64 (upd (dG x) 16 (un ((dG x) 16) 3)))) (0, 0) _ (by kernel_rfl) (M.get 1 rfl) Tryd.underlying84 rfl (by rw [av_size]; exact inz84)) (by kernel_rfl) ⟨rfl, below_grown M.old⟩

set_option maxRecDepth 100000 in
set_option maxHeartbeats 4000000 in
theorem d_wholeB (x : Nat → Int) (h : ¬ 4 ≤ dG x 16) (w : World) (hL : Laid w)  :
    Calls Tryd.prog 52 #[.agg (av 18 (w64 x))] w fun r w' => r = .returned (.agg (av 18 (w64 (dcF x)))) ∧ Below w.heap.size w w' := by
  go_enter Tryd.func52, Tryd.ntmps52
  have M := Mem.start hL
  refine wp_seq ?_
  refine rg_lit ?_
  refine pl_new M (want_no rfl) (some 1) rfl (.cells (av 18 (w64 x)) 84) (fun _ => by kernel_rfl) ?_
  intro g1 u1 M
  replace M : Mem ⟨w, []⟩ [⟨g1, .cells (av 18 (w64 x)) 84⟩] u1 := M
  refine pl_new M (want_no rfl) (some 2) rfl (.cells (av 18 (w64 (fun _ => 0))) 84) (fun _ => by kernel_rfl) ?_
  intro g2 u2 M
  replace M : Mem ⟨w, []⟩ [⟨g1, .cells (av 18 (w64 x)) 84⟩, ⟨g2, .cells (av 18 (w64 (fun _ => 0))) 84⟩] u2 := M
  refine pl_nil ?_
  refine au_then ?_
  refine wp_seq ?_
  refine rg_lit ?_
  refine pl_load M (want_no rfl) (some 7) rfl 84 _ rfl 0 g1 0 (by kernel_rfl) 18 84 (w64 x) rfl 18 (w64 x) (fun j _ => by rw [Nat.zero_add]) (by decide) _ Tryd.underlying84 rfl inz84 ?_
  refine pl_call M (want_no rfl) (some 8) rfl 51 #[.agg (av 18 (w64 x))] (.agg (av 18 (w64 (dcF x)))) (fun _ => by kernel_rfl) (fun w M => d_carry x w M.laid) ?_
  intro u3 M
  refine pl_put M (want_no rfl) rfl 84 _ _ rfl 0 g1 0 (by kernel_rfl) 18 84 (w64 x) rfl 18 (w64 (dcF x)) (w64 (dcF x)) (by kernel_rfl) inz84 (by decide) (fun _ _ => rfl) (fun j hj => by rw [if_pos (by omega), Nat.sub_zero]) ?_
  intro u4 M
  replace M : Mem ⟨w, []⟩ [⟨g1, .cells (av 18 (w64 (dcF x))) 84⟩, ⟨g2, .cells (av 18 (w64 (fun _ => 0))) 84⟩] u4 := M
  refine pl_nil ?_
  refine au_then ?_
  refine wp_seq ?_
  refine rg_lit ?_
  refine pl_load M (want_no rfl) (some 9) rfl 84 _ rfl 0 g1 0 (by kernel_rfl) 18 84 (w64 (dcF x)) rfl 18 (w64 (dcF x)) (fun j _ => by rw [Nat.zero_add]) (by decide) _ Tryd.underlying84 rfl inz84 ?_
  refine pl_new M (want_no rfl) (some 3) rfl (.cells (av 18 (w64 (fun _ => 0))) 84) (fun _ => by kernel_rfl) ?_
  intro g3 u5 M
  replace M : Mem ⟨w, []⟩ [⟨g1, .cells (av 18 (w64 (dcF x))) 84⟩, ⟨g2, .cells (av 18 (w64 (fun _ => 0))) 84⟩, ⟨g3, .cells (av 18 (w64 (fun _ => 0))) 84⟩] u5 := M
  refine pl_put M (want_no rfl) rfl 84 _ _ rfl 2 g3 0 (by kernel_rfl) 18 84 (w64 (fun _ => 0)) rfl 18 (w64 (dcF x)) (w64 (dcF x)) (by kernel_rfl) inz84 (by decide) (fun _ _ => rfl) (fun j hj => by rw [if_pos (by omega), Nat.sub_zero]) ?_
  intro u6 M
  replace M : Mem ⟨w, []⟩ [⟨g1, .cells (av 18 (w64 (dcF x))) 84⟩, ⟨g2, .cells (av 18 (w64 (fun _ => 0))) 84⟩, ⟨g3, .cells (av 18 (w64 (dcF x))) 84⟩] u6 := M
  refine pl_nil ?_
  refine au_then ?_
  refine wp_seq ?_
  refine rg_lit ?_
  refine pl_val (want_no rfl) (some 10) rfl (.pointer (some ⟨g3, 0, none⟩)) (fun _ => by kernel_rfl) ?_
  refine pl_cell M (want_no rfl) (some 11) rfl 22 _ rfl g3 0 (by kernel_rfl) (.int .u64 ((dcF x) 0)) (fun _ => by kernel_rfl) (fun w M => M.cell 2 rfl (by decide) rfl) ?_
  refine pl_val (want_no rfl) (some 12) rfl (.int .u64 (ua ((dcF x) 0) 5)) (fun _ => by kernel_rfl) ?_
  refine pl_val (want_no rfl) (some 13) rfl (.pointer (some ⟨g3, 0, none⟩)) (fun _ => by kernel_rfl) ?_
  refine pl_put1 M (want_no rfl) rfl 22 _ _ rfl 2 g3 0 (by kernel_rfl) 18 84 (w64 (dcF x)) rfl (.int .u64 (ua ((dcF x) 0) 5)) (w64 (upd (dcF x) 0 (ua ((dcF x) 0) 5))) (by kernel_rfl) inz22 (by decide) rfl rfl (fun j _ => put_w64 _ _ _ j) ?_
  intro u7 M
  replace M : Mem ⟨w, []⟩ [⟨g1, .cells (av 18 (w64 (dcF x))) 84⟩, ⟨g2, .cells (av 18 (w64 (fun _ => 0))) 84⟩, ⟨g3, .cells (av 18 (w64 (upd (dcF x) 0 (ua ((dcF x) 0) 5)))) 84⟩] u7 := M
  refine pl_nil ?_
  replace M : Mem ⟨w, []⟩ [⟨g1, .cells (av 18 (w64 (dcF x))) 84⟩, ⟨g2, .cells (av 18 (w64 (fun _ => 0))) 84⟩, ⟨g3, .cells (av 18 (w64 (dg x))) 84⟩] u7 := M
  refine au_then ?_
  refine wp_seq ?_
  refine rg_lit ?_
  refine pl_val (want_no rfl) (some 4) rfl (.int .u64 0) (fun _ => by kernel_rfl) ?_
  refine pl_nil ?_
  refine au_then ?_
  refine wp_seq ?_
  refine wp_seq ?_
  refine rg_lit ?_
  refine pl_val (want_no rfl) (some 5) rfl (.int .i64 0) (fun _ => by kernel_rfl) ?_
  refine pl_nil ?_
  refine au_then ?_
  refine wp_block ?_
  refine au_loop (fun j a w' => ∃ v1 : Nat → Value, a = ⟨#[.agg (av 18 (w64 x)), .pointer (some ⟨g1, 0, none⟩), .pointer (some ⟨g2, 0, none⟩), .pointer (some ⟨g3, 0, none⟩), .int .u64 (cy 8 (dg x) j), .int .i64 (j : Int), v1 6, .agg (av 18 (w64 x)), .agg (av 18 (w64 (dcF x))), .agg (av 18 (w64 (dcF x))), .pointer (some ⟨g3, 0, none⟩), .int .u64 ((dcF x) 0), .int .u64 (ua ((dcF x) 0) 5), .pointer (some ⟨g3, 0, none⟩), v1 14, v1 15, v1 16, v1 17, v1 18, v1 19, v1 20, v1 21, v1 22, v1 23, v1 24, v1 25, v1 26, v1 27, v1 28, undef, undef, undef, undef, undef, undef, undef, undef, undef], []⟩ ∧ Mem ⟨w, []⟩ [⟨g1, .cells (av 18 (w64 (dcF x))) 84⟩, ⟨g2, .cells (av 18 (w64 (fun _ => 0))) 84⟩, ⟨g3, .cells (av 18 (w64 (st 255 8 (dg x) j))) 84⟩] w') 18 ⟨fun k_ => ([undef, undef, undef, undef, undef, undef, undef, undef, undef, undef, undef, undef, undef, undef, undef, undef, undef, undef, undef, undef, undef, undef, undef] : List Value).getD (k_ - 6) undef, by kernel_rfl, M⟩ ?_ ?_
  · intro j a u0 hj hI
    obtain ⟨v1, rfl, M⟩ := hI
    refine wp_seq ?_
    refine wp_seq ?_
    refine rg_lit ?_
    refine pl_val (want_no rfl) (some 14) rfl (.int .i64 (j : Int)) (fun _ => by kernel_rfl) ?_
    refine pl_val (want_no rfl) (some 15) rfl (.bool true) (fun w => Eq.trans (b := .ok (.value (.bool (decide ((j : Int) < 18)))) w) (by kernel_rfl) (by rw [decide_eq_true (by omega)])) ?_
    refine pl_nil ?_
    refine au_then ?_
    refine wp_cond_true (by kernel_rfl) ?_
    refine wp_skip ?_
    refine au_then ?_
    refine wp_seq ?_
    refine wp_block ?_
    refine wp_seq ?_
    refine rg_lit ?_
    refine pl_val (want_no rfl) (some 18) rfl (.int .i64 (j : Int)) (fun _ => by kernel_rfl) ?_
    refine pl_val (want_no rfl) (some 19) rfl (.pointer (some ⟨g3, j, none⟩)) (run_ix1 84 18 22 Tryd.underlying84 inz22 _ _ rfl g3 (by kernel_rfl) .i64 (j) (by kernel_rfl) (by omega)) ?_
    refine pl_cell M (want_no rfl) (some 20) rfl 22 _ rfl g3 j (by kernel_rfl) (.int .u64 ((dg x) j)) (fun _ => by kernel_rfl) (fun w M => M.cell 2 rfl (by omega) (st_cell 255 8 (dg x) j)) ?_
    refine pl_val (want_no rfl) (some 21) rfl (.int .u64 (cy 8 (dg x) j)) (fun _ => by kernel_rfl) ?_
    refine pl_val (want_no rfl) (some 22) rfl (.int .u64 (ua ((dg x) j) (cy 8 (dg x) j))) (fun _ => by kernel_rfl) ?_
    refine pl_val (want_no rfl) (some 6) rfl (.int .u64 (ua ((dg x) j) (cy 8 (dg x) j))) (fun _ => by kernel_rfl) ?_
    refine pl_nil ?_
    refine au_then ?_
    refine wp_seq ?_
    refine rg_lit ?_
    refine pl_val (want_no rfl) (some 23) rfl (.int .i64 (j : Int)) (fun _ => by kernel_rfl) ?_
    refine pl_val (want_no rfl) (some 24) rfl (.int .u64 (ua ((dg x) j) (cy 8 (dg x) j))) (fun _ => by kernel_rfl) ?_
    refine pl_val (want_no rfl) (some 25) rfl (.int .u64 (un (ua ((dg x) j) (cy 8 (dg x) j)) 255)) (fun _ => by kernel_rfl) ?_
    refine pl_val (want_no rfl) (some 26) rfl (.pointer (some ⟨g3, j, none⟩)) (run_ix1 84 18 22 Tryd.underlying84 inz22 _ _ rfl g3 (by kernel_rfl) .i64 (j) (by kernel_rfl) (by omega)) ?_
    refine pl_put1 M (want_no rfl) rfl 22 _ _ rfl 2 g3 j (by kernel_rfl) 18 84 (w64 (st 255 8 (dg x) j)) rfl (.int .u64 (un (ua ((dg x) j) (cy 8 (dg x) j)) 255)) (w64 (upd (st 255 8 (dg x) j) j (un (ua ((dg x) j) (cy 8 (dg x) j)) 255))) (by kernel_rfl) inz22 (by omega) rfl rfl (fun j _ => put_w64 _ _ _ j) ?_
    intro u8 M
    replace M : Mem ⟨w, []⟩ [⟨g1, .cells (av 18 (w64 (dcF x))) 84⟩, ⟨g2, .cells (av 18 (w64 (fun _ => 0))) 84⟩, ⟨g3, .cells (av 18 (w64 (upd (st 255 8 (dg x) j) j (un (ua ((dg x) j) (cy 8 (dg x) j)) 255)))) 84⟩] u8 := M
    refine pl_nil ?_
    refine au_then ?_
    refine rg_lit ?_
    refine pl_val (want_no rfl) (some 27) rfl (.int .u64 (ua ((dg x) j) (cy 8 (dg x) j))) (fun _ => by kernel_rfl) ?_
    refine pl_val (want_no rfl) (some 28) rfl (.int .u64 (sr (ua ((dg x) j) (cy 8 (dg x) j)) 8)) (fun _ => by kernel_rfl) ?_
    refine pl_val (want_no rfl) (some 4) rfl (.int .u64 (sr (ua ((dg x) j) (cy 8 (dg x) j)) 8)) (fun _ => by kernel_rfl) ?_
    refine pl_nil ?_
    refine au_block ?_
    refine au_then ?_
    refine rg_lit ?_
    refine pl_val (want_no rfl) (some 16) rfl (.int .i64 (j : Int)) (fun _ => by kernel_rfl) ?_
    refine pl_val (want_no rfl) (some 17) rfl (.int .i64 ((j + 1 : Nat) : Int)) (fun w => Eq.trans (b := .ok (.value (.int .i64 (IntKind.wrap .i64 ((j : Int) + 1)))) w) (by kernel_rfl) (by rw [wrap64 (by omega) (by omega)]; congr 3)) ?_
    refine pl_val (want_no rfl) (some 5) rfl (.int .i64 ((j + 1 : Nat) : Int)) (fun _ => by kernel_rfl) ?_
    refine pl_nil ?_
    refine au_then ?_
    exact ⟨fun k_ => ([.int .u64 (ua ((dg x) j) (cy 8 (dg x) j)), undef, undef, undef, undef, undef, undef, undef, .int .i64 (j : Int), .bool true, .int .i64 (j : Int), .int .i64 ((j + 1 : Nat) : Int), .int .i64 (j : Int), .pointer (some ⟨g3, j, none⟩), .int .u64 ((dg x) j), .int .u64 (cy 8 (dg x) j), .int .u64 (ua ((dg x) j) (cy 8 (dg x) j)), .int .i64 (j : Int), .int .u64 (ua ((dg x) j) (cy 8 (dg x) j)), .int .u64 (un (ua ((dg x) j) (cy 8 (dg x) j)) 255), .pointer (some ⟨g3, j, none⟩), .int .u64 (ua ((dg x) j) (cy 8 (dg x) j)), .int .u64 (sr (ua ((dg x) j) (cy 8 (dg x) j)) 8)] : List Value).getD (k_ - 6) undef, by kernel_rfl, M⟩
  · intro a u0 hI
    obtain ⟨v1, rfl, M⟩ := hI
    refine wp_seq ?_
    refine wp_seq ?_
    refine rg_lit ?_
    refine pl_val (want_no rfl) (some 14) rfl (.int .i64 (18 : Int)) (fun _ => by kernel_rfl) ?_
    refine pl_val (want_no rfl) (some 15) rfl (.bool false) (fun w => Eq.trans (b := .ok (.value (.bool (decide (18 < 18)))) w) (by kernel_rfl) (by rw [decide_eq_false (by omega)])) ?_
    refine pl_nil ?_
    refine au_then ?_
    refine wp_cond_false (by kernel_rfl) ?_
    refine wp_exit ?_
    refine au_then_exit ?_
    refine au_then_exit ?_
    refine au_block_exit ?_
    refine au_then ?_
    refine wp_seq ?_
    refine wp_seq ?_
    replace M : Mem ⟨w, []⟩ [⟨g1, .cells (av 18 (w64 (dcF x))) 84⟩, ⟨g2, .cells (av 18 (w64 (fun _ => 0))) 84⟩, ⟨g3, .cells (av 18 (w64 (dG x))) 84⟩] u0 := M
    refine rg_lit ?_
    refine pl_val (want_no rfl) (some 29) rfl (.pointer (some ⟨g3, 16, none⟩)) (fun _ => by kernel_rfl) ?_
    refine pl_cell M (want_no rfl) (some 30) rfl 22 _ rfl g3 16 (by kernel_rfl) (.int .u64 ((dG x) 16)) (fun _ => by kernel_rfl) (fun w M => M.cell 2 rfl (by decide) rfl) ?_
    refine pl_val (want_no rfl) (some 31) rfl (.bool false) (fun w => Eq.trans (b := .ok (.value (.bool (decide (4 ≤ dG x 16)))) w) (by kernel_rfl) (by rw [decide_eq_false (h)])) ?_
    refine pl_nil ?_
    refine au_then ?_
    refine wp_cond_false (by kernel_rfl) ?_
    refine wp_skip ?_
    refine au_then ?_
    refine wp_seq ?_
    refine rg_lit ?_
    refine pl_load M (want_no rfl) (some 37) rfl 84 _ rfl 0 g1 0 (by kernel_rfl) 18 84 (w64 (dcF x)) rfl 18 (w64 (dcF x)) (fun j _ => by rw [Nat.zero_add]) (by decide) _ Tryd.underlying84 rfl inz84 ?_
    refine pl_put M (want_no rfl) rfl 84 _ _ rfl 1 g2 0 (by kernel_rfl) 18 84 (w64 (fun _ => 0)) rfl 18 (w64 (dcF x)) (w64 (dcF x)) (by kernel_rfl) inz84 (by decide) (fun _ _ => rfl) (fun j hj => by rw [if_pos (by omega), Nat.sub_zero]) ?_
    intro u9 M
    replace M : Mem ⟨w, []⟩ [⟨g1, .cells (av 18 (w64 (dcF x))) 84⟩, ⟨g2, .cells (av 18 (w64 (dcF x))) 84⟩, ⟨g3, .cells (av 18 (w64 (dG x))) 84⟩] u9 := M
    refine pl_nil ?_
    refine au_then ?_
    refine wp_ret ?_
    exact bodyPost_ret (v := .agg (av 18 (w64 (dcF x)))) (results_cell_row Tryd.results52 _ _ g2 84 (av 18 (w64 (dcF x))) (0, 0) _ (by kernel_rfl) (M.get 1 rfl) Tryd.underlying84 rfl (by rw [av_size]; exact inz84)) (by kernel_rfl) ⟨rfl, below_grown M.old⟩

theorem d_whole (x : Nat → Int) (w : World) (hL : Laid w) : Calls Tryd.prog 52 #[.agg (av 18 (w64 x))] w fun r w' => r = .returned (.agg (av 18 (w64 (dwF x)))) ∧ Below w.heap.size w w' := by
  unfold dwF
  by_cases h : 4 ≤ dG x 16
  · rw [if_pos h]
    exact d_wholeA x h w hL
  · rw [if_neg h]
    exact d_wholeB x h w hL

end Go.Proofs.YtkndaajbedlajaaDoor.Pol
