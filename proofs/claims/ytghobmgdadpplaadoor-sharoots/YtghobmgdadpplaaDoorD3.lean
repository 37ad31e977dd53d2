/- A block is mixed into the words: the walks of spreadOut and of mixed. -/
import Derived.Test.YtghobmgdadpplaaDoorD2
namespace Go.Proofs.YtghobmgdadpplaaDoor
open Go.RowKit

theorem wrap64 {x : Int} (h0 : -9223372036854775808 ≤ x) (h1 : x < 9223372036854775808) : IntKind.wrap .i64 x = x := by
  simp [IntKind.wrap, IntKind.signed, IntKind.bits, go_sem]
  omega
theorem quo8 (j : Nat) (hj : j < 1000000) : IntKind.wrap .i64 ((j : Int).tdiv 8) = ((j / 8 : Nat) : Int) := by
  rw [Int.tdiv_eq_ediv_of_nonneg (by omega), wrap64 (by omega) (by omega)]
  omega
def sp1 (rs : Nat → Int) : Nat → (Nat → Int)
  | 0 => fun _ => 0
  | j + 1 => upd (sp1 rs j) (j / 8) (uo (sl (sp1 rs j (j / 8)) 8) (cv .u64 (rs j)))
def sp2 (rs : Nat → Int) : Nat → (Nat → Int)
  | 0 => sp1 rs 128
  | j + 1 => upd (sp2 rs j) (16 + j) (ua (ua (ua (sp2 rs j j) (lS0 (sp2 rs j (j + 1)))) (sp2 rs j (j + 9))) (lS1 (sp2 rs j (j + 14))))
def rd (x rs : Nat → Int) : Nat → (Nat → Int)
  | 0 => x
  | j + 1 => st8 (rd x rs j) (ua (KF j) (sp2 rs 64 j))
def ad (x y : Nat → Int) : Nat → (Nat → Int)
  | 0 => x
  | j + 1 => upd (ad x y j) j (ua (ad x y j j) (y j))
def mixV (x rs : Nat → Int) : Nat → Int := fun i => ua (x i) (rd x rs 80 i)
theorem ad_av (x y : Nat → Int) : av 8 (w64 (ad x y 8)) = av 8 (w64 fun i => ua (x i) (y i)) := by
  refine av_congr fun i hi => ?_
  unfold w64
  congr 1
  revert i
  exact lt8 ⟨by simp [ad, upd], by simp [ad, upd], by simp [ad, upd], by simp [ad, upd], by simp [ad, upd], by simp [ad, upd], by simp [ad, upd], by simp [ad, upd]⟩

set_option maxRecDepth 100000 in
set_option maxHeartbeats 4000000 in
theorem c_spread (rs : Nat → Int) (w : World) (hL : Laid w)  :
    Calls Tryd.prog 27 #[.agg (av 128 (w8 rs))] w fun r w' => r = .returned (.agg (av 80 (w64 (sp2 rs 64)))) ∧ Below w.heap.size w w' := by
  go_enter Tryd.func27, Tryd.ntmps27
  have M := Mem.start hL
  refine wp_seq ?_
  refine rg_lit ?_
  refine pl_new M (want_no rfl) (some 1) rfl (.cells (av 128 (w8 rs)) 45) (fun _ => by kernel_rfl) ?_
  intro g1 u1 M
  replace M : Mem ⟨w, none⟩ [⟨g1, .cells (av 128 (w8 rs)) 45⟩] u1 := M
  refine pl_new M (want_no rfl) (some 2) rfl (.cells (av 80 (w64 (fun _ => 0))) 26) (fun _ => by kernel_rfl) ?_
  intro g2 u2 M
  replace M : Mem ⟨w, none⟩ [⟨g1, .cells (av 128 (w8 rs)) 45⟩, ⟨g2, .cells (av 80 (w64 (fun _ => 0))) 26⟩] u2 := M
  refine pl_nil ?_
  refine au_then ?_
  refine wp_seq ?_
  refine rg_lit ?_
  refine pl_new M (want_no rfl) (some 3) rfl (.cells (av 80 (w64 (fun _ => 0))) 26) (fun _ => by kernel_rfl) ?_
  intro g3 u3 M
  replace M : Mem ⟨w, none⟩ [⟨g1, .cells (av 128 (w8 rs)) 45⟩, ⟨g2, .cells (av 80 (w64 (fun _ => 0))) 26⟩, ⟨g3, .cells (av 80 (w64 (fun _ => 0))) 26⟩] u3 := M
  refine pl_nil ?_
  refine au_then ?_
  refine wp_seq ?_
  refine wp_seq ?_
  refine rg_lit ?_
  refine pl_load M (want_no rfl) (some 7) rfl 45 _ rfl 0 g1 0 (by kernel_rfl) 128 45 (w8 rs) rfl 128 (w8 rs) (fun j _ => by rw [Nat.zero_add]) (by decide) _ Tryd.underlying45 rfl inz45 ?_
  refine pl_val (want_no rfl) (some 8) rfl (.int .i64 0) (fun _ => by kernel_rfl) ?_
  refine pl_nil ?_
  refine au_then ?_
  refine wp_block ?_
  refine au_loop (fun j a w' => ∃ v1 : Nat → Value, a = ⟨#[.agg (av 128 (w8 rs)), .pointer (some ⟨g1, 0, none⟩), .pointer (some ⟨g2, 0, none⟩), .pointer (some ⟨g3, 0, none⟩), v1 4, v1 5, undef, .agg (av 128 (w8 rs)), .int .i64 (j : Int), v1 9, v1 10, v1 11, v1 12, v1 13, v1 14, v1 15, v1 16, v1 17, v1 18, v1 19, v1 20, v1 21, v1 22, v1 23, undef, undef, undef, undef, undef, undef, undef, undef, undef, undef, undef, undef, undef, undef, undef, undef, undef, undef, undef, undef, undef, undef, undef, undef, undef, undef, undef, undef], []⟩ ∧ Mem ⟨w, none⟩ [⟨g1, .cells (av 128 (w8 rs)) 45⟩, ⟨g2, .cells (av 80 (w64 (fun _ => 0))) 26⟩, ⟨g3, .cells (av 80 (w64 (sp1 rs j))) 26⟩] w') 128 ⟨fun k_ => ([undef, undef, undef, undef, undef, undef, undef, undef, undef, undef, undef, undef, undef, undef, undef, undef, undef, undef, undef, undef] : List Value).getD (k_ - 4) undef, by kernel_rfl, M⟩ ?_ ?_
  · intro j a u0 hj hI
    obtain ⟨v1, rfl, M⟩ := hI
    refine wp_seq ?_
    refine rg_lit ?_
    refine pl_val (want_no rfl) (some 9) rfl (.bool true) (fun w => Eq.trans (b := .ok (.value (.bool (decide ((j : Int) < 128)))) w) (by kernel_rfl) (by rw [decide_eq_true (by omega)])) ?_
    refine pl_nil ?_
    refine au_then ?_
    refine wp_seq ?_
    refine wp_cond_true (by kernel_rfl) ?_
    refine wp_skip ?_
    refine au_then ?_
    refine wp_seq ?_
    refine wp_block ?_
    refine wp_seq ?_
    refine rg_lit ?_
    refine pl_val (want_no rfl) (some 10) rfl (.int .i64 (j : Int)) (fun _ => by kernel_rfl) ?_
    refine pl_val (want_no rfl) (some 11) rfl (.int .u8 (rs (j))) (run_ixA 45 128 5 Tryd.underlying45 inz5 (fun _ => by kernel_rfl) _ _ rfl (w8 rs) (by kernel_rfl) .i64 (j) (by kernel_rfl) (by omega) rfl) ?_
    refine pl_val (want_no rfl) (some 4) rfl (.int .i64 (j : Int)) (fun _ => by kernel_rfl) ?_
    refine pl_val (want_no rfl) (some 5) rfl (.int .u8 (rs (j))) (fun _ => by kernel_rfl) ?_
    refine pl_nil ?_
    refine au_then ?_
    refine rg_lit ?_
    refine pl_val (want_no rfl) (some 12) rfl (.int .i64 (j : Int)) (fun _ => by kernel_rfl) ?_
    refine pl_val (want_no rfl) (some 13) rfl (.int .i64 ((j / 8 : Nat) : Int)) (fun w => Eq.trans (b := .ok (.value (.int .i64 (IntKind.wrap .i64 ((j : Int).tdiv 8)))) w) (by kernel_rfl) (by rw [quo8 j (by omega)])) ?_
    refine pl_val (want_no rfl) (some 14) rfl (.int .i64 (j : Int)) (fun _ => by kernel_rfl) ?_
    refine pl_val (want_no rfl) (some 15) rfl (.int .i64 ((j / 8 : Nat) : Int)) (fun w => Eq.trans (b := .ok (.value (.int .i64 (IntKind.wrap .i64 ((j : Int).tdiv 8)))) w) (by kernel_rfl) (by rw [quo8 j (by omega)])) ?_
    refine pl_val (want_no rfl) (some 16) rfl (.pointer (some ⟨g3, ((j / 8 : Nat)), none⟩)) (run_ix1 26 80 25 Tryd.underlying26 inz25 _ _ rfl g3 (by kernel_rfl) .i64 ((j / 8 : Nat)) (by kernel_rfl) (by omega)) ?_
    refine pl_cell M (want_no rfl) (some 17) rfl 25 _ rfl g3 ((j / 8 : Nat)) (by kernel_rfl) (.int .u64 ((sp1 rs j) ((j / 8 : Nat)))) (fun _ => by kernel_rfl) (fun w M => M.cell 2 rfl (by omega) rfl) ?_
    refine pl_val (want_no rfl) (some 18) rfl (.int .u64 (sl ((sp1 rs j) ((j / 8 : Nat))) 8)) (fun _ => by kernel_rfl) ?_
    refine pl_val (want_no rfl) (some 19) rfl (.int .u8 (rs (j))) (fun _ => by kernel_rfl) ?_
    refine pl_val (want_no rfl) (some 20) rfl (.int .u64 (cv .u64 (rs (j)))) (fun _ => by kernel_rfl) ?_
    refine pl_val (want_no rfl) (some 21) rfl (.int .u64 (uo (sl ((sp1 rs j) ((j / 8 : Nat))) 8) (cv .u64 (rs (j))))) (fun _ => by kernel_rfl) ?_
    refine pl_val (want_no rfl) (some 22) rfl (.pointer (some ⟨g3, ((j / 8 : Nat)), none⟩)) (run_ix1 26 80 25 Tryd.underlying26 inz25 _ _ rfl g3 (by kernel_rfl) .i64 ((j / 8 : Nat)) (by kernel_rfl) (by omega)) ?_
    refine pl_put1 M (want_no rfl) rfl 25 _ _ rfl 2 g3 ((j / 8 : Nat)) (by kernel_rfl) 80 26 (w64 (sp1 rs j)) rfl (.int .u64 (uo (sl ((sp1 rs j) ((j / 8 : Nat))) 8) (cv .u64 (rs (j))))) (w64 (upd (sp1 rs j) ((j / 8 : Nat)) (uo (sl ((sp1 rs j) ((j / 8 : Nat))) 8) (cv .u64 (rs (j)))))) (by kernel_rfl) inz25 (by omega) rfl rfl (fun j _ => put_w64 _ _ _ j) ?_
    intro u4 M
    replace M : Mem ⟨w, none⟩ [⟨g1, .cells (av 128 (w8 rs)) 45⟩, ⟨g2, .cells (av 80 (w64 (fun _ => 0))) 26⟩, ⟨g3, .cells (av 80 (w64 (upd (sp1 rs j) ((j / 8 : Nat)) (uo (sl ((sp1 rs j) ((j / 8 : Nat))) 8) (cv .u64 (rs (j))))))) 26⟩] u4 := M
    refine pl_nil ?_
    refine au_block ?_
    refine au_then ?_
    refine rg_lit ?_
    refine pl_val (want_no rfl) (some 23) rfl (.int .i64 ((j + 1 : Nat) : Int)) (fun w => Eq.trans (b := .ok (.value (.int .i64 (IntKind.wrap .i64 ((j : Int) + 1)))) w) (by kernel_rfl) (by rw [wrap64 (by omega) (by omega)]; congr 3)) ?_
    refine pl_val (want_no rfl) (some 8) rfl (.int .i64 ((j + 1 : Nat) : Int)) (fun _ => by kernel_rfl) ?_
    refine pl_nil ?_
    refine au_then ?_
    exact ⟨fun k_ => ([.int .i64 (j : Int), .int .u8 (rs (j)), undef, undef, undef, .bool true, .int .i64 (j : Int), .int .u8 (rs (j)), .int .i64 (j : Int), .int .i64 ((j / 8 : Nat) : Int), .int .i64 (j : Int), .int .i64 ((j / 8 : Nat) : Int), .pointer (some ⟨g3, ((j / 8 : Nat)), none⟩), .int .u64 ((sp1 rs j) ((j / 8 : Nat))), .int .u64 (sl ((sp1 rs j) ((j / 8 : Nat))) 8), .int .u8 (rs (j)), .int .u64 (cv .u64 (rs (j))), .int .u64 (uo (sl ((sp1 rs j) ((j / 8 : Nat))) 8) (cv .u64 (rs (j)))), .pointer (some ⟨g3, ((j / 8 : Nat)), none⟩), .int .i64 ((j + 1 : Nat) : Int)] : List Value).getD (k_ - 4) undef, by kernel_rfl, M⟩
  · intro a u0 hI
    obtain ⟨v1, rfl, M⟩ := hI
    refine wp_seq ?_
    refine rg_lit ?_
    refine pl_val (want_no rfl) (some 9) rfl (.bool false) (fun w => Eq.trans (b := .ok (.value (.bool (decide (128 < 128)))) w) (by kernel_rfl) (by rw [decide_eq_false (by omega)])) ?_
    refine pl_nil ?_
    refine au_then ?_
    refine wp_seq ?_
    refine wp_cond_false (by kernel_rfl) ?_
    refine wp_exit ?_
    refine au_then_exit ?_
    refine au_then_exit ?_
    refine au_block_exit ?_
    refine au_then ?_
    refine wp_seq ?_
    refine wp_seq ?_
    refine rg_lit ?_
    refine pl_val (want_no rfl) (some 6) rfl (.int .i64 16) (fun _ => by kernel_rfl) ?_
    refine pl_nil ?_
    refine au_then ?_
    refine wp_block ?_
    refine au_loop (fun j a w' => ∃ v2 : Nat → Value, a = ⟨#[.agg (av 128 (w8 rs)), .pointer (some ⟨g1, 0, none⟩), .pointer (some ⟨g2, 0, none⟩), .pointer (some ⟨g3, 0, none⟩), v1 4, v1 5, .int .i64 ((16 + j : Nat) : Int), .agg (av 128 (w8 rs)), .int .i64 (128 : Int), .bool false, v1 10, v1 11, v1 12, v1 13, v1 14, v1 15, v1 16, v1 17, v1 18, v1 19, v1 20, v1 21, v1 22, v1 23, v2 24, v2 25, v2 26, v2 27, v2 28, v2 29, v2 30, v2 31, v2 32, v2 33, v2 34, v2 35, v2 36, v2 37, v2 38, v2 39, v2 40, v2 41, v2 42, v2 43, v2 44, v2 45, v2 46, v2 47, v2 48, v2 49, v2 50, undef], []⟩ ∧ Mem ⟨w, none⟩ [⟨g1, .cells (av 128 (w8 rs)) 45⟩, ⟨g2, .cells (av 80 (w64 (fun _ => 0))) 26⟩, ⟨g3, .cells (av 80 (w64 (sp2 rs j))) 26⟩] w') 64 ⟨fun k_ => ([undef, undef, undef, undef, undef, undef, undef, undef, undef, undef, undef, undef, undef, undef, undef, undef, undef, undef, undef, undef, undef, undef, undef, undef, undef, undef, undef] : List Value).getD (k_ - 24) undef, by kernel_rfl, M⟩ ?_ ?_
    · intro j a u0 hj hI
      obtain ⟨v2, rfl, M⟩ := hI
      refine wp_seq ?_
      refine wp_seq ?_
      refine rg_lit ?_
      refine pl_val (want_no rfl) (some 24) rfl (.int .i64 ((16 + j : Nat) : Int)) (fun _ => by kernel_rfl) ?_
      refine pl_val (want_no rfl) (some 25) rfl (.bool true) (fun w => Eq.trans (b := .ok (.value (.bool (decide (((16 + j : Nat) : Int) < 80)))) w) (by kernel_rfl) (by rw [decide_eq_true (by omega)])) ?_
      refine pl_nil ?_
      refine au_then ?_
      refine wp_cond_true (by kernel_rfl) ?_
      refine wp_skip ?_
      refine au_then ?_
      refine wp_seq ?_
      refine wp_block ?_
      refine rg_tail M 23 (by kernel_rfl) (by kernel_rfl) ?_
      simp only [List.take_succ_cons, List.take_zero]
      refine k_val (want_no rfl) (some 28) rfl (.int .i64 ((16 + j : Nat) : Int)) (fun _ => by kernel_rfl) ?_
      refine k_val (want_no rfl) (some 29) rfl (.int .i64 ((16 + j : Nat) : Int)) (fun _ => by kernel_rfl) ?_
      refine k_val (want_no rfl) (some 30) rfl (.int .i64 (j : Int)) (fun w => Eq.trans (b := .ok (.value (.int .i64 (IntKind.wrap .i64 (((16 + j : Nat) : Int) - 16)))) w) (by kernel_rfl) (by rw [wrap64 (by omega) (by omega)]; congr 3 <;> omega)) ?_
      refine k_val (want_no rfl) (some 31) rfl (.pointer (some ⟨g3, j, none⟩)) (run_ix1 26 80 25 Tryd.underlying26 inz25 _ _ rfl g3 (by kernel_rfl) .i64 (j) (by kernel_rfl) (by omega)) ?_
      refine k_cell M (want_no rfl) (some 32) rfl 25 _ rfl g3 j (by kernel_rfl) (.int .u64 ((sp2 rs j) j)) (fun _ => by kernel_rfl) (fun w M => M.cell 2 rfl (by omega) rfl) ?_
      refine k_val (want_no rfl) (some 33) rfl (.int .i64 ((16 + j : Nat) : Int)) (fun _ => by kernel_rfl) ?_
      refine k_val (want_no rfl) (some 34) rfl (.int .i64 ((j + 1 : Nat) : Int)) (fun w => Eq.trans (b := .ok (.value (.int .i64 (IntKind.wrap .i64 (((16 + j : Nat) : Int) - 15)))) w) (by kernel_rfl) (by rw [wrap64 (by omega) (by omega)]; congr 3 <;> omega)) ?_
      refine k_val (want_no rfl) (some 35) rfl (.pointer (some ⟨g3, ((j + 1 : Nat)), none⟩)) (run_ix1 26 80 25 Tryd.underlying26 inz25 _ _ rfl g3 (by kernel_rfl) .i64 ((j + 1 : Nat)) (by kernel_rfl) (by omega)) ?_
      refine k_cell M (want_no rfl) (some 36) rfl 25 _ rfl g3 ((j + 1 : Nat)) (by kernel_rfl) (.int .u64 ((sp2 rs j) ((j + 1 : Nat)))) (fun _ => by kernel_rfl) (fun w M => M.cell 2 rfl (by omega) rfl) ?_
      refine k_call M (want_no rfl) (some 37) rfl 35 #[.int .u64 ((sp2 rs j) ((j + 1 : Nat))), .int .i64 1, .int .i64 8, .int .i64 7] (.int .u64 (lS0 ((sp2 rs j) ((j + 1 : Nat))))) (fun _ => by kernel_rfl) (fun w M => c_mov1 ((sp2 rs j) ((j + 1 : Nat))) w M.laid) ?_
      refine k_val (want_no rfl) (some 38) rfl (.int .u64 (ua ((sp2 rs j) j) (lS0 ((sp2 rs j) ((j + 1 : Nat)))))) (fun _ => by kernel_rfl) ?_
      refine k_val (want_no rfl) (some 39) rfl (.int .i64 ((16 + j : Nat) : Int)) (fun _ => by kernel_rfl) ?_
      refine k_val (want_no rfl) (some 40) rfl (.int .i64 ((j + 9 : Nat) : Int)) (fun w => Eq.trans (b := .ok (.value (.int .i64 (IntKind.wrap .i64 (((16 + j : Nat) : Int) - 7)))) w) (by kernel_rfl) (by rw [wrap64 (by omega) (by omega)]; congr 3 <;> omega)) ?_
      refine k_val (want_no rfl) (some 41) rfl (.pointer (some ⟨g3, ((j + 9 : Nat)), none⟩)) (run_ix1 26 80 25 Tryd.underlying26 inz25 _ _ rfl g3 (by kernel_rfl) .i64 ((j + 9 : Nat)) (by kernel_rfl) (by omega)) ?_
      refine k_cell M (want_no rfl) (some 42) rfl 25 _ rfl g3 ((j + 9 : Nat)) (by kernel_rfl) (.int .u64 ((sp2 rs j) ((j + 9 : Nat)))) (fun _ => by kernel_rfl) (fun w M => M.cell 2 rfl (by omega) rfl) ?_
      refine k_val (want_no rfl) (some 43) rfl (.int .u64 (ua (ua ((sp2 rs j) j) (lS0 ((sp2 rs j) ((j + 1 : Nat))))) ((sp2 rs j) ((j + 9 : Nat))))) (fun _ => by kernel_rfl) ?_
      refine k_val (want_no rfl) (some 44) rfl (.int .i64 ((16 + j : Nat) : Int)) (fun _ => by kernel_rfl) ?_
      refine k_val (want_no rfl) (some 45) rfl (.int .i64 ((j + 14 : Nat) : Int)) (fun w => Eq.trans (b := .ok (.value (.int .i64 (IntKind.wrap .i64 (((16 + j : Nat) : Int) - 2)))) w) (by kernel_rfl) (by rw [wrap64 (by omega) (by omega)]; congr 3 <;> omega)) ?_
      refine k_val (want_no rfl) (some 46) rfl (.pointer (some ⟨g3, ((j + 14 : Nat)), none⟩)) (run_ix1 26 80 25 Tryd.underlying26 inz25 _ _ rfl g3 (by kernel_rfl) .i64 ((j + 14 : Nat)) (by kernel_rfl) (by omega)) ?_
      refine k_cell M (want_no rfl) (some 47) rfl 25 _ rfl g3 ((j + 14 : Nat)) (by kernel_rfl) (.int .u64 ((sp2 rs j) ((j + 14 : Nat)))) (fun _ => by kernel_rfl) (fun w M => M.cell 2 rfl (by omega) rfl) ?_
      refine k_call M (want_no rfl) (some 48) rfl 35 #[.int .u64 ((sp2 rs j) ((j + 14 : Nat))), .int .i64 19, .int .i64 61, .int .i64 6] (.int .u64 (lS1 ((sp2 rs j) ((j + 14 : Nat))))) (fun _ => by kernel_rfl) (fun w M => c_mov19 ((sp2 rs j) ((j + 14 : Nat))) w M.laid) ?_
      refine k_val (want_no rfl) (some 49) rfl (.int .u64 (ua (ua (ua ((sp2 rs j) j) (lS0 ((sp2 rs j) ((j + 1 : Nat))))) ((sp2 rs j) ((j + 9 : Nat)))) (lS1 ((sp2 rs j) ((j + 14 : Nat)))))) (fun _ => by kernel_rfl) ?_
      refine k_val (want_no rfl) (some 50) rfl (.pointer (some ⟨g3, ((16 + j : Nat)), none⟩)) (run_ix1 26 80 25 Tryd.underlying26 inz25 _ _ rfl g3 (by kernel_rfl) .i64 ((16 + j : Nat)) (by kernel_rfl) (by omega)) ?_
      refine kl_nil ?_
      intro u5 M
      replace M : Mem ⟨w, none⟩ [⟨g1, .cells (av 128 (w8 rs)) 45⟩, ⟨g2, .cells (av 80 (w64 (fun _ => 0))) 26⟩, ⟨g3, .cells (av 80 (w64 (sp2 rs j))) 26⟩] u5 := M
      refine pl_put1 M (want_no rfl) rfl 25 _ _ rfl 2 g3 ((16 + j : Nat)) (by kernel_rfl) 80 26 (w64 (sp2 rs j)) rfl (.int .u64 (ua (ua (ua ((sp2 rs j) j) (lS0 ((sp2 rs j) ((j + 1 : Nat))))) ((sp2 rs j) ((j + 9 : Nat)))) (lS1 ((sp2 rs j) ((j + 14 : Nat)))))) (w64 (upd (sp2 rs j) ((16 + j : Nat)) (ua (ua (ua ((sp2 rs j) j) (lS0 ((sp2 rs j) ((j + 1 : Nat))))) ((sp2 rs j) ((j + 9 : Nat)))) (lS1 ((sp2 rs j) ((j + 14 : Nat))))))) (by kernel_rfl) inz25 (by omega) rfl rfl (fun j _ => put_w64 _ _ _ j) ?_
      intro u6 M
      replace M : Mem ⟨w, none⟩ [⟨g1, .cells (av 128 (w8 rs)) 45⟩, ⟨g2, .cells (av 80 (w64 (fun _ => 0))) 26⟩, ⟨g3, .cells (av 80 (w64 (upd (sp2 rs j) ((16 + j : Nat)) (ua (ua (ua ((sp2 rs j) j) (lS0 ((sp2 rs j) ((j + 1 : Nat))))) ((sp2 rs j) ((j + 9 : Nat)))) (lS1 ((sp2 rs j) ((j + 14 : Nat)))))))) 26⟩] u6 := M
      refine pl_nil ?_
      refine au_block ?_
      refine au_then ?_
      refine rg_lit ?_
      refine pl_val (want_no rfl) (some 26) rfl (.int .i64 ((16 + j : Nat) : Int)) (fun _ => by kernel_rfl) ?_
      refine pl_val (want_no rfl) (some 27) rfl (.int .i64 ((16 + (j + 1) : Nat) : Int)) (fun w => Eq.trans (b := .ok (.value (.int .i64 (IntKind.wrap .i64 (((16 + j : Nat) : Int) + 1)))) w) (by kernel_rfl) (by rw [wrap64 (by omega) (by omega)]; congr 3 <;> omega)) ?_
      refine pl_val (want_no rfl) (some 6) rfl (.int .i64 ((16 + (j + 1) : Nat) : Int)) (fun _ => by kernel_rfl) ?_
      refine pl_nil ?_
      refine au_then ?_
      exact ⟨fun k_ => ([.int .i64 ((16 + j : Nat) : Int), .bool true, .int .i64 ((16 + j : Nat) : Int), .int .i64 ((16 + (j + 1) : Nat) : Int), .int .i64 ((16 + j : Nat) : Int), .int .i64 ((16 + j : Nat) : Int), .int .i64 (j : Int), .pointer (some ⟨g3, j, none⟩), .int .u64 ((sp2 rs j) j), .int .i64 ((16 + j : Nat) : Int), .int .i64 ((j + 1 : Nat) : Int), .pointer (some ⟨g3, ((j + 1 : Nat)), none⟩), .int .u64 ((sp2 rs j) ((j + 1 : Nat))), .int .u64 (lS0 ((sp2 rs j) ((j + 1 : Nat)))), .int .u64 (ua ((sp2 rs j) j) (lS0 ((sp2 rs j) ((j + 1 : Nat))))), .int .i64 ((16 + j : Nat) : Int), .int .i64 ((j + 9 : Nat) : Int), .pointer (some ⟨g3, ((j + 9 : Nat)), none⟩), .int .u64 ((sp2 rs j) ((j + 9 : Nat))), .int .u64 (ua (ua ((sp2 rs j) j) (lS0 ((sp2 rs j) ((j + 1 : Nat))))) ((sp2 rs j) ((j + 9 : Nat)))), .int .i64 ((16 + j : Nat) : Int), .int .i64 ((j + 14 : Nat) : Int), .pointer (some ⟨g3, ((j + 14 : Nat)), none⟩), .int .u64 ((sp2 rs j) ((j + 14 : Nat))), .int .u64 (lS1 ((sp2 rs j) ((j + 14 : Nat)))), .int .u64 (ua (ua (ua ((sp2 rs j) j) (lS0 ((sp2 rs j) ((j + 1 : Nat))))) ((sp2 rs j) ((j + 9 : Nat)))) (lS1 ((sp2 rs j) ((j + 14 : Nat))))), .pointer (some ⟨g3, ((16 + j : Nat)), none⟩)] : List Value).getD (k_ - 24) undef, by kernel_rfl, M⟩
    · intro a u0 hI
      obtain ⟨v2, rfl, M⟩ := hI
      refine wp_seq ?_
      refine wp_seq ?_
      refine rg_lit ?_
      refine pl_val (want_no rfl) (some 24) rfl (.int .i64 ((16 + 64 : Nat) : Int)) (fun _ => by kernel_rfl) ?_
      refine pl_val (want_no rfl) (some 25) rfl (.bool false) (fun w => Eq.trans (b := .ok (.value (.bool (decide (((16 + 64 : Nat) : Int) < 80)))) w) (by kernel_rfl) (by rw [decide_eq_false (by omega)])) ?_
      refine pl_nil ?_
      refine au_then ?_
      refine wp_cond_false (by kernel_rfl) ?_
      refine wp_exit ?_
      refine au_then_exit ?_
      refine au_then_exit ?_
      refine au_block_exit ?_
      refine au_then ?_
      refine wp_seq ?_
      refine rg_lit ?_
      refine pl_load M (want_no rfl) (some 51) rfl 26 _ rfl 2 g3 0 (by kernel_rfl) 80 26 (w64 (sp2 rs 64)) rfl 80 (w64 (sp2 rs 64)) (fun j _ => by rw [Nat.zero_add]) (by decide) _ Tryd.underlying26 rfl inz26 ?_
      refine pl_put M (want_no rfl) rfl 26 _ _ rfl 1 g2 0 (by kernel_rfl) 80 26 (w64 (fun _ => 0)) rfl 80 (w64 (sp2 rs 64)) (w64 (sp2 rs 64)) (by kernel_rfl) inz26 (by decide) (fun _ _ => rfl) (fun j hj => by rw [if_pos (by omega), Nat.sub_zero]) ?_
      intro u7 M
      replace M : Mem ⟨w, none⟩ [⟨g1, .cells (av 128 (w8 rs)) 45⟩, ⟨g2, .cells (av 80 (w64 (sp2 rs 64))) 26⟩, ⟨g3, .cells (av 80 (w64 (sp2 rs 64))) 26⟩] u7 := M
      refine pl_nil ?_
      refine au_then ?_
      refine wp_ret ?_
      exact bodyPost_ret (v := .agg (av 80 (w64 (sp2 rs 64)))) (results_cell_row Tryd.results27 _ _ g2 26 (av 80 (w64 (sp2 rs 64))) (0, 0) _ (by kernel_rfl) (M.get 1 rfl) Tryd.underlying26 rfl (by rw [av_size]; exact inz26)) (by kernel_rfl) ⟨rfl, below_grown M.old⟩

set_option maxRecDepth 100000 in
set_option maxHeartbeats 4000000 in
theorem c_mixed (x rs : Nat → Int) (w : World) (hL : Laid w)  :
    Calls Tryd.prog 22 #[.agg (av 8 (w64 x)), .agg (av 128 (w8 rs))] w fun r w' => r = .returned (.agg (av 8 (w64 (mixV x rs)))) ∧ Below w.heap.size w w' := by
  go_enter Tryd.func22, Tryd.ntmps22
  have M := Mem.start hL
  refine wp_seq ?_
  refine rg_lit ?_
  refine pl_new M (want_no rfl) (some 2) rfl (.cells (av 8 (w64 x)) 28) (fun _ => by kernel_rfl) ?_
  intro g1 u1 M
  replace M : Mem ⟨w, none⟩ [⟨g1, .cells (av 8 (w64 x)) 28⟩] u1 := M
  refine pl_new M (want_no rfl) (some 3) rfl (.cells (av 128 (w8 rs)) 45) (fun _ => by kernel_rfl) ?_
  intro g2 u2 M
  replace M : Mem ⟨w, none⟩ [⟨g1, .cells (av 8 (w64 x)) 28⟩, ⟨g2, .cells (av 128 (w8 rs)) 45⟩] u2 := M
  refine pl_new M (want_no rfl) (some 4) rfl (.cells (av 8 (w64 (fun _ => 0))) 28) (fun _ => by kernel_rfl) ?_
  intro g3 u3 M
  replace M : Mem ⟨w, none⟩ [⟨g1, .cells (av 8 (w64 x)) 28⟩, ⟨g2, .cells (av 128 (w8 rs)) 45⟩, ⟨g3, .cells (av 8 (w64 (fun _ => 0))) 28⟩] u3 := M
  refine pl_nil ?_
  refine au_then ?_
  refine wp_seq ?_
  refine rg_lit ?_
  refine pl_load M (want_no rfl) (some 10) rfl 45 _ rfl 1 g2 0 (by kernel_rfl) 128 45 (w8 rs) rfl 128 (w8 rs) (fun j _ => by rw [Nat.zero_add]) (by decide) _ Tryd.underlying45 rfl inz45 ?_
  refine pl_call M (want_no rfl) (some 11) rfl 27 #[.agg (av 128 (w8 rs))] (.agg (av 80 (w64 (sp2 rs 64)))) (fun _ => by kernel_rfl) (fun w M => c_spread rs w M.laid) ?_
  intro u4 M
  refine pl_new M (want_no rfl) (some 5) rfl (.cells (av 80 (w64 (fun _ => 0))) 26) (fun _ => by kernel_rfl) ?_
  intro g4 u5 M
  replace M : Mem ⟨w, none⟩ [⟨g1, .cells (av 8 (w64 x)) 28⟩, ⟨g2, .cells (av 128 (w8 rs)) 45⟩, ⟨g3, .cells (av 8 (w64 (fun _ => 0))) 28⟩, ⟨g4, .cells (av 80 (w64 (fun _ => 0))) 26⟩] u5 := M
  refine pl_put M (want_no rfl) rfl 26 _ _ rfl 3 g4 0 (by kernel_rfl) 80 26 (w64 (fun _ => 0)) rfl 80 (w64 (sp2 rs 64)) (w64 (sp2 rs 64)) (by kernel_rfl) inz26 (by decide) (fun _ _ => rfl) (fun j hj => by rw [if_pos (by omega), Nat.sub_zero]) ?_
  intro u6 M
  replace M : Mem ⟨w, none⟩ [⟨g1, .cells (av 8 (w64 x)) 28⟩, ⟨g2, .cells (av 128 (w8 rs)) 45⟩, ⟨g3, .cells (av 8 (w64 (fun _ => 0))) 28⟩, ⟨g4, .cells (av 80 (w64 (sp2 rs 64))) 26⟩] u6 := M
  refine pl_nil ?_
  refine au_then ?_
  refine wp_seq ?_
  refine rg_lit ?_
  refine pl_load M (want_no rfl) (some 12) rfl 28 _ rfl 0 g1 0 (by kernel_rfl) 8 28 (w64 x) rfl 8 (w64 x) (fun j _ => by rw [Nat.zero_add]) (by decide) _ Tryd.underlying28 rfl inz28 ?_
  refine pl_new M (want_no rfl) (some 6) rfl (.cells (av 8 (w64 (fun _ => 0))) 28) (fun _ => by kernel_rfl) ?_
  intro g5 u7 M
  replace M : Mem ⟨w, none⟩ [⟨g1, .cells (av 8 (w64 x)) 28⟩, ⟨g2, .cells (av 128 (w8 rs)) 45⟩, ⟨g3, .cells (av 8 (w64 (fun _ => 0))) 28⟩, ⟨g4, .cells (av 80 (w64 (sp2 rs 64))) 26⟩, ⟨g5, .cells (av 8 (w64 (fun _ => 0))) 28⟩] u7 := M
  refine pl_put M (want_no rfl) rfl 28 _ _ rfl 4 g5 0 (by kernel_rfl) 8 28 (w64 (fun _ => 0)) rfl 8 (w64 x) (w64 x) (by kernel_rfl) inz28 (by decide) (fun _ _ => rfl) (fun j hj => by rw [if_pos (by omega), Nat.sub_zero]) ?_
  intro u8 M
  replace M : Mem ⟨w, none⟩ [⟨g1, .cells (av 8 (w64 x)) 28⟩, ⟨g2, .cells (av 128 (w8 rs)) 45⟩, ⟨g3, .cells (av 8 (w64 (fun _ => 0))) 28⟩, ⟨g4, .cells (av 80 (w64 (sp2 rs 64))) 26⟩, ⟨g5, .cells (av 8 (w64 x)) 28⟩] u8 := M
  refine pl_nil ?_
  refine au_then ?_
  refine wp_seq ?_
  refine wp_seq ?_
  refine rg_lit ?_
  refine pl_load M (want_no rfl) (some 13) rfl 26 _ rfl 3 g4 0 (by kernel_rfl) 80 26 (w64 (sp2 rs 64)) rfl 80 (w64 (sp2 rs 64)) (fun j _ => by rw [Nat.zero_add]) (by decide) _ Tryd.underlying26 rfl inz26 ?_
  refine pl_val (want_no rfl) (some 14) rfl (.int .i64 0) (fun _ => by kernel_rfl) ?_
  refine pl_nil ?_
  refine au_then ?_
  refine wp_block ?_
  refine au_loop (fun j a w' => ∃ v1 : Nat → Value, a = ⟨#[.agg (av 8 (w64 x)), .agg (av 128 (w8 rs)), .pointer (some ⟨g1, 0, none⟩), .pointer (some ⟨g2, 0, none⟩), .pointer (some ⟨g3, 0, none⟩), .pointer (some ⟨g4, 0, none⟩), .pointer (some ⟨g5, 0, none⟩), v1 7, v1 8, undef, .agg (av 128 (w8 rs)), .agg (av 80 (w64 (sp2 rs 64))), .agg (av 8 (w64 x)), .agg (av 80 (w64 (sp2 rs 64))), .int .i64 (j : Int), v1 15, v1 16, v1 17, v1 18, v1 19, v1 20, v1 21, v1 22, v1 23, v1 24, v1 25, undef, undef, undef, undef, undef, undef, undef, undef, undef, undef, undef, undef, undef], []⟩ ∧ Mem ⟨w, none⟩ [⟨g1, .cells (av 8 (w64 x)) 28⟩, ⟨g2, .cells (av 128 (w8 rs)) 45⟩, ⟨g3, .cells (av 8 (w64 (fun _ => 0))) 28⟩, ⟨g4, .cells (av 80 (w64 (sp2 rs 64))) 26⟩, ⟨g5, .cells (av 8 (w64 (rd x rs j))) 28⟩] w') 80 ⟨fun k_ => ([undef, undef, undef, undef, undef, undef, undef, undef, undef, undef, undef, undef, undef, undef, undef, undef, undef, undef, undef] : List Value).getD (k_ - 7) undef, by kernel_rfl, M⟩ ?_ ?_
  · intro j a u0 hj hI
    obtain ⟨v1, rfl, M⟩ := hI
    refine wp_seq ?_
    refine rg_lit ?_
    refine pl_val (want_no rfl) (some 15) rfl (.bool true) (fun w => Eq.trans (b := .ok (.value (.bool (decide ((j : Int) < 80)))) w) (by kernel_rfl) (by rw [decide_eq_true (by omega)])) ?_
    refine pl_nil ?_
    refine au_then ?_
    refine wp_seq ?_
    refine wp_cond_true (by kernel_rfl) ?_
    refine wp_skip ?_
    refine au_then ?_
    refine wp_seq ?_
    refine wp_block ?_
    refine wp_seq ?_
    refine rg_lit ?_
    refine pl_val (want_no rfl) (some 16) rfl (.int .i64 (j : Int)) (fun _ => by kernel_rfl) ?_
    refine pl_val (want_no rfl) (some 17) rfl (.int .u64 ((sp2 rs 64) (j))) (run_ixA 26 80 25 Tryd.underlying26 inz25 (fun _ => by kernel_rfl) _ _ rfl (w64 (sp2 rs 64)) (by kernel_rfl) .i64 (j) (by kernel_rfl) (by omega) rfl) ?_
    refine pl_val (want_no rfl) (some 7) rfl (.int .i64 (j : Int)) (fun _ => by kernel_rfl) ?_
    refine pl_val (want_no rfl) (some 8) rfl (.int .u64 ((sp2 rs 64) (j))) (fun _ => by kernel_rfl) ?_
    refine pl_nil ?_
    refine au_then ?_
    refine rg_tail M 7 (by kernel_rfl) (by kernel_rfl) ?_
    simp only [List.take_succ_cons, List.take_zero]
    refine k_load M (want_no rfl) (some 18) rfl 28 _ rfl 4 g5 0 (by kernel_rfl) 8 28 (w64 (rd x rs j)) rfl 8 (w64 (rd x rs j)) (fun j _ => by rw [Nat.zero_add]) (by decide) _ Tryd.underlying28 rfl inz28 ?_
    refine k_val (want_no rfl) (some 19) rfl (.int .i64 (j : Int)) (fun _ => by kernel_rfl) ?_
    refine k_val (want_no rfl) (some 20) rfl (.pointer (some ⟨0, j, none⟩)) (run_ix1 26 80 25 Tryd.underlying26 inz25 _ _ rfl 0 (by kernel_rfl) .i64 (j) (by kernel_rfl) (by omega)) ?_
    refine k_cell M (want_no rfl) (some 21) rfl 25 _ rfl 0 j (by kernel_rfl) (.int .u64 (KF j)) (fun _ => by kernel_rfl) (fun w M => M.laid j (by omega)) ?_
    refine k_val (want_no rfl) (some 22) rfl (.int .u64 ((sp2 rs 64) (j))) (fun _ => by kernel_rfl) ?_
    refine k_val (want_no rfl) (some 23) rfl (.int .u64 (ua (KF j) ((sp2 rs 64) (j)))) (fun _ => by kernel_rfl) ?_
    refine k_call M (want_no rfl) (some 24) rfl 28 #[.agg (av 8 (w64 (rd x rs j))), .int .u64 (ua (KF j) ((sp2 rs 64) (j)))] (.agg (av 8 (w64 (st8 (rd x rs j) (ua (KF j) ((sp2 rs 64) (j))))))) (fun _ => by kernel_rfl) (fun w M => c_stepped _ _ w M.laid) ?_
    refine kl_nil ?_
    intro u9 M
    replace M : Mem ⟨w, none⟩ [⟨g1, .cells (av 8 (w64 x)) 28⟩, ⟨g2, .cells (av 128 (w8 rs)) 45⟩, ⟨g3, .cells (av 8 (w64 (fun _ => 0))) 28⟩, ⟨g4, .cells (av 80 (w64 (sp2 rs 64))) 26⟩, ⟨g5, .cells (av 8 (w64 (rd x rs j))) 28⟩] u9 := M
    refine pl_put M (want_no rfl) rfl 28 _ _ rfl 4 g5 0 (by kernel_rfl) 8 28 (w64 (rd x rs j)) rfl 8 (w64 (st8 (rd x rs j) (ua (KF j) ((sp2 rs 64) (j))))) (w64 (st8 (rd x rs j) (ua (KF j) ((sp2 rs 64) (j))))) (by kernel_rfl) inz28 (by decide) (fun _ _ => rfl) (fun j hj => by rw [if_pos (by omega), Nat.sub_zero]) ?_
    intro u10 M
    replace M : Mem ⟨w, none⟩ [⟨g1, .cells (av 8 (w64 x)) 28⟩, ⟨g2, .cells (av 128 (w8 rs)) 45⟩, ⟨g3, .cells (av 8 (w64 (fun _ => 0))) 28⟩, ⟨g4, .cells (av 80 (w64 (sp2 rs 64))) 26⟩, ⟨g5, .cells (av 8 (w64 (st8 (rd x rs j) (ua (KF j) ((sp2 rs 64) (j)))))) 28⟩] u10 := M
    refine pl_nil ?_
    refine au_block ?_
    refine au_then ?_
    refine rg_lit ?_
    refine pl_val (want_no rfl) (some 25) rfl (.int .i64 ((j + 1 : Nat) : Int)) (fun w => Eq.trans (b := .ok (.value (.int .i64 (IntKind.wrap .i64 ((j : Int) + 1)))) w) (by kernel_rfl) (by rw [wrap64 (by omega) (by omega)]; congr 3)) ?_
    refine pl_val (want_no rfl) (some 14) rfl (.int .i64 ((j + 1 : Nat) : Int)) (fun _ => by kernel_rfl) ?_
    refine pl_nil ?_
    refine au_then ?_
    exact ⟨fun k_ => ([.int .i64 (j : Int), .int .u64 ((sp2 rs 64) (j)), undef, undef, undef, undef, undef, undef, .bool true, .int .i64 (j : Int), .int .u64 ((sp2 rs 64) (j)), .agg (av 8 (w64 (rd x rs j))), .int .i64 (j : Int), .pointer (some ⟨0, j, none⟩), .int .u64 (KF j), .int .u64 ((sp2 rs 64) (j)), .int .u64 (ua (KF j) ((sp2 rs 64) (j))), .agg (av 8 (w64 (st8 (rd x rs j) (ua (KF j) ((sp2 rs 64) (j)))))), .int .i64 ((j + 1 : Nat) : Int)] : List Value).getD (k_ - 7) undef, by kernel_rfl, M⟩
  · intro a u0 hI
    obtain ⟨v1, rfl, M⟩ := hI
    refine wp_seq ?_
    refine rg_lit ?_
    refine pl_val (want_no rfl) (some 15) rfl (.bool false) (fun w => Eq.trans (b := .ok (.value (.bool (decide (80 < 80)))) w) (by kernel_rfl) (by rw [decide_eq_false (by omega)])) ?_
    refine pl_nil ?_
    refine au_then ?_
    refine wp_seq ?_
    refine wp_cond_false (by kernel_rfl) ?_
    refine wp_exit ?_
    refine au_then_exit ?_
    refine au_then_exit ?_
    refine au_block_exit ?_
    refine au_then ?_
    refine wp_seq ?_
    refine wp_seq ?_
    refine rg_lit ?_
    refine pl_val (want_no rfl) (some 26) rfl (.int .i64 0) (fun _ => by kernel_rfl) ?_
    refine pl_nil ?_
    refine au_then ?_
    refine wp_block ?_
    refine au_loop (fun j a w' => ∃ v2 : Nat → Value, a = ⟨#[.agg (av 8 (w64 x)), .agg (av 128 (w8 rs)), .pointer (some ⟨g1, 0, none⟩), .pointer (some ⟨g2, 0, none⟩), .pointer (some ⟨g3, 0, none⟩), .pointer (some ⟨g4, 0, none⟩), .pointer (some ⟨g5, 0, none⟩), v1 7, v1 8, v2 9, .agg (av 128 (w8 rs)), .agg (av 80 (w64 (sp2 rs 64))), .agg (av 8 (w64 x)), .agg (av 80 (w64 (sp2 rs 64))), .int .i64 (80 : Int), .bool false, v1 16, v1 17, v1 18, v1 19, v1 20, v1 21, v1 22, v1 23, v1 24, v1 25, .int .i64 (j : Int), v2 27, v2 28, v2 29, v2 30, v2 31, v2 32, v2 33, v2 34, v2 35, v2 36, v2 37, undef], []⟩ ∧ Mem ⟨w, none⟩ [⟨g1, .cells (av 8 (w64 (ad x (rd x rs 80) j))) 28⟩, ⟨g2, .cells (av 128 (w8 rs)) 45⟩, ⟨g3, .cells (av 8 (w64 (fun _ => 0))) 28⟩, ⟨g4, .cells (av 80 (w64 (sp2 rs 64))) 26⟩, ⟨g5, .cells (av 8 (w64 (rd x rs 80))) 28⟩] w') 8 ⟨fun k_ => ([undef, undef, undef, undef, undef, undef, undef, undef, undef, undef, undef, undef, undef, undef, undef, undef, undef, undef, undef, undef, undef, undef, undef, undef, undef, undef, undef, undef, undef] : List Value).getD (k_ - 9) undef, by kernel_rfl, M⟩ ?_ ?_
    · intro j a u0 hj hI
      obtain ⟨v2, rfl, M⟩ := hI
      refine wp_seq ?_
      refine rg_lit ?_
      refine pl_val (want_no rfl) (some 27) rfl (.bool true) (fun w => Eq.trans (b := .ok (.value (.bool (decide ((j : Int) < 8)))) w) (by kernel_rfl) (by rw [decide_eq_true (by omega)])) ?_
      refine pl_nil ?_
      refine au_then ?_
      refine wp_seq ?_
      refine wp_cond_true (by kernel_rfl) ?_
      refine wp_skip ?_
      refine au_then ?_
      refine wp_seq ?_
      refine wp_block ?_
      refine wp_seq ?_
      refine rg_lit ?_
      refine pl_val (want_no rfl) (some 28) rfl (.int .i64 (j : Int)) (fun _ => by kernel_rfl) ?_
      refine pl_val (want_no rfl) (some 9) rfl (.int .i64 (j : Int)) (fun _ => by kernel_rfl) ?_
      refine pl_nil ?_
      refine au_then ?_
      refine rg_tail M 8 (by kernel_rfl) (by kernel_rfl) ?_
      simp only [List.take_succ_cons, List.take_zero]
      refine k_val (want_no rfl) (some 29) rfl (.int .i64 (j : Int)) (fun _ => by kernel_rfl) ?_
      refine k_val (want_no rfl) (some 30) rfl (.pointer (some ⟨g1, j, none⟩)) (run_ix1 28 8 25 Tryd.underlying28 inz25 _ _ rfl g1 (by kernel_rfl) .i64 (j) (by kernel_rfl) (by omega)) ?_
      refine k_cell M (want_no rfl) (some 31) rfl 25 _ rfl g1 j (by kernel_rfl) (.int .u64 ((ad x (rd x rs 80) j) j)) (fun _ => by kernel_rfl) (fun w M => M.cell 0 rfl (by omega) rfl) ?_
      refine k_val (want_no rfl) (some 32) rfl (.int .i64 (j : Int)) (fun _ => by kernel_rfl) ?_
      refine k_val (want_no rfl) (some 33) rfl (.pointer (some ⟨g5, j, none⟩)) (run_ix1 28 8 25 Tryd.underlying28 inz25 _ _ rfl g5 (by kernel_rfl) .i64 (j) (by kernel_rfl) (by omega)) ?_
      refine k_cell M (want_no rfl) (some 34) rfl 25 _ rfl g5 j (by kernel_rfl) (.int .u64 ((rd x rs 80) j)) (fun _ => by kernel_rfl) (fun w M => M.cell 4 rfl (by omega) rfl) ?_
      refine k_val (want_no rfl) (some 35) rfl (.int .u64 (ua ((ad x (rd x rs 80) j) j) ((rd x rs 80) j))) (fun _ => by kernel_rfl) ?_
      refine k_val (want_no rfl) (some 36) rfl (.pointer (some ⟨g1, j, none⟩)) (run_ix1 28 8 25 Tryd.underlying28 inz25 _ _ rfl g1 (by kernel_rfl) .i64 (j) (by kernel_rfl) (by omega)) ?_
      refine kl_nil ?_
      intro u11 M
      replace M : Mem ⟨w, none⟩ [⟨g1, .cells (av 8 (w64 (ad x (rd x rs 80) j))) 28⟩, ⟨g2, .cells (av 128 (w8 rs)) 45⟩, ⟨g3, .cells (av 8 (w64 (fun _ => 0))) 28⟩, ⟨g4, .cells (av 80 (w64 (sp2 rs 64))) 26⟩, ⟨g5, .cells (av 8 (w64 (rd x rs 80))) 28⟩] u11 := M
      refine pl_put1 M (want_no rfl) rfl 25 _ _ rfl 0 g1 j (by kernel_rfl) 8 28 (w64 (ad x (rd x rs 80) j)) rfl (.int .u64 (ua ((ad x (rd x rs 80) j) j) ((rd x rs 80) j))) (w64 (upd (ad x (rd x rs 80) j) j (ua ((ad x (rd x rs 80) j) j) ((rd x rs 80) j)))) (by kernel_rfl) inz25 (by omega) rfl rfl (fun j _ => put_w64 _ _ _ j) ?_
      intro u12 M
      replace M : Mem ⟨w, none⟩ [⟨g1, .cells (av 8 (w64 (upd (ad x (rd x rs 80) j) j (ua ((ad x (rd x rs 80) j) j) ((rd x rs 80) j))))) 28⟩, ⟨g2, .cells (av 128 (w8 rs)) 45⟩, ⟨g3, .cells (av 8 (w64 (fun _ => 0))) 28⟩, ⟨g4, .cells (av 80 (w64 (sp2 rs 64))) 26⟩, ⟨g5, .cells (av 8 (w64 (rd x rs 80))) 28⟩] u12 := M
      refine pl_nil ?_
      refine au_block ?_
      refine au_then ?_
      refine rg_lit ?_
      refine pl_val (want_no rfl) (some 37) rfl (.int .i64 ((j + 1 : Nat) : Int)) (fun w => Eq.trans (b := .ok (.value (.int .i64 (IntKind.wrap .i64 ((j : Int) + 1)))) w) (by kernel_rfl) (by rw [wrap64 (by omega) (by omega)]; congr 3)) ?_
      refine pl_val (want_no rfl) (some 26) rfl (.int .i64 ((j + 1 : Nat) : Int)) (fun _ => by kernel_rfl) ?_
      refine pl_nil ?_
      refine au_then ?_
      exact ⟨fun k_ => ([.int .i64 (j : Int), undef, undef, undef, undef, undef, undef, undef, undef, undef, undef, undef, undef, undef, undef, undef, undef, undef, .bool true, .int .i64 (j : Int), .int .i64 (j : Int), .pointer (some ⟨g1, j, none⟩), .int .u64 ((ad x (rd x rs 80) j) j), .int .i64 (j : Int), .pointer (some ⟨g5, j, none⟩), .int .u64 ((rd x rs 80) j), .int .u64 (ua ((ad x (rd x rs 80) j) j) ((rd x rs 80) j)), .pointer (some ⟨g1, j, none⟩), .int .i64 ((j + 1 : Nat) : Int)] : List Value).getD (k_ - 9) undef, by kernel_rfl, M⟩
    · intro a u0 hI
      obtain ⟨v2, rfl, M⟩ := hI
      refine wp_seq ?_
      refine rg_lit ?_
      refine pl_val (want_no rfl) (some 27) rfl (.bool false) (fun w => Eq.trans (b := .ok (.value (.bool (decide (8 < 8)))) w) (by kernel_rfl) (by rw [decide_eq_false (by omega)])) ?_
      refine pl_nil ?_
      refine au_then ?_
      refine wp_seq ?_
      refine wp_cond_false (by kernel_rfl) ?_
      refine wp_exit ?_
      refine au_then_exit ?_
      refine au_then_exit ?_
      refine au_block_exit ?_
      refine au_then ?_
      refine wp_seq ?_
      refine rg_lit ?_
      refine pl_load M (want_no rfl) (some 38) rfl 28 _ rfl 0 g1 0 (by kernel_rfl) 8 28 (w64 (ad x (rd x rs 80) 8)) rfl 8 (w64 (ad x (rd x rs 80) 8)) (fun j _ => by rw [Nat.zero_add]) (by decide) _ Tryd.underlying28 rfl inz28 ?_
      refine pl_put M (want_no rfl) rfl 28 _ _ rfl 2 g3 0 (by kernel_rfl) 8 28 (w64 (fun _ => 0)) rfl 8 (w64 (ad x (rd x rs 80) 8)) (w64 (ad x (rd x rs 80) 8)) (by kernel_rfl) inz28 (by decide) (fun _ _ => rfl) (fun j hj => by rw [if_pos (by omega), Nat.sub_zero]) ?_
      intro u13 M
      replace M : Mem ⟨w, none⟩ [⟨g1, .cells (av 8 (w64 (ad x (rd x rs 80) 8))) 28⟩, ⟨g2, .cells (av 128 (w8 rs)) 45⟩, ⟨g3, .cells (av 8 (w64 (ad x (rd x rs 80) 8))) 28⟩, ⟨g4, .cells (av 80 (w64 (sp2 rs 64))) 26⟩, ⟨g5, .cells (av 8 (w64 (rd x rs 80))) 28⟩] u13 := M
      refine pl_nil ?_
      refine au_then ?_
      refine wp_ret ?_
      refine bodyPost_ret (v := .agg (av 8 (w64 (mixV x rs)))) (Eq.trans (b := .ok (.agg (av 8 (w64 (ad x (rd x rs 80) 8)))) _) (results_cell_row Tryd.results22 _ _ g3 28 (av 8 (w64 (ad x (rd x rs 80) 8))) (0, 0) _ (by kernel_rfl) (M.get 2 rfl) Tryd.underlying28 rfl (by rw [av_size]; exact inz28)) (by rw [ad_av]; rfl)) (by kernel_rfl) ⟨rfl, below_grown M.old⟩


end Go.Proofs.YtghobmgdadpplaaDoor
