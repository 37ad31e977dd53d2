/- Which texts are small; alive; the walk of KdfTags. -/
import Derived.Test.YtpfneekmbednoaaDoorK4
namespace Go.Proofs.YtpfneekmbednoaaDoor
open Go.RowKit

def p2 (a b : ByteArray) : Nat → ByteArray
  | 0 => a
  | _ => b
def sm (a b : ByteArray) : Nat → Nat
  | 0 => 0
  | 1 => a.size
  | _ => a.size + b.size
theorem sm_next (a b : ByteArray) (ha : a.size ≤ 140737488351232) (hb : b.size ≤ 140737488351232) (j : Nat) (hj : j < 2) : IntKind.wrap .i64 (((sm a b j : Nat) : Int) + ((p2 a b j).size : Int)) = ((sm a b (j + 1) : Nat) : Int) := by
  rcases j with _ | _ | j
  · show IntKind.wrap .i64 (((0 : Nat) : Int) + (a.size : Int)) = (a.size : Int)
    rw [wrap64 (by omega) (by omega)]
    omega
  · show IntKind.wrap .i64 ((a.size : Int) + (b.size : Int)) = ((a.size + b.size : Nat) : Int)
    rw [wrap64 (by omega) (by omega)]
    omega
  · omega
def strK : ByteArray := ⟨#[107]⟩
def strS : ByteArray := ⟨#[115]⟩
def strI : ByteArray := ⟨#[105]⟩
theorem txt_size (key s : ByteArray) (i : Nat) : (txt key s i).size = 32 := tg_size _ _ _

set_option maxRecDepth 100000 in
set_option maxHeartbeats 4000000 in
theorem c_smallA (ka kb : ByteArray) (ha : ka.size ≤ 140737488351232) (hb : kb.size ≤ 140737488351232) (g : Nat) (h : ¬ ka.size ≤ 2048) (w : World) (hL : Laid w) (hc : ∀ i, i < 2 → w.cell? ⟨g, i, none⟩ = some (.string (p2 ka kb i))) :
    Calls Tryd.prog 6 #[.slice (some ⟨g, 0, none⟩) 2 2] w fun r w' => r = .returned (.bool false) ∧ Below w.heap.size w w' := by
  go_enter Tryd.func6, Tryd.ntmps6
  have M := Mem.start hL
  have hle : ∀ j, j < 1 → sm ka kb j ≤ 2048 := fun j hj => by rcases j with _ | j; exact Nat.zero_le _; omega
  refine wp_seq ?_
  refine rg_lit ?_
  refine pl_val (want_no rfl) (some 2) rfl (.bool false) (fun _ => by kernel_rfl) ?_
  refine pl_nil ?_
  refine au_then ?_
  refine wp_seq ?_
  refine rg_lit ?_
  refine pl_val (want_no rfl) (some 3) rfl (.int .i64 0) (fun _ => by kernel_rfl) ?_
  refine pl_nil ?_
  refine au_then ?_
  refine wp_seq ?_
  refine wp_seq ?_
  refine rg_lit ?_
  refine pl_val (want_no rfl) (some 4) rfl (.int .i64 0) (fun _ => by kernel_rfl) ?_
  refine pl_nil ?_
  refine au_then ?_
  refine wp_block ?_
  refine au_loop (fun j a w' => ∃ v1 : Nat → Value, a = ⟨#[.slice (some ⟨g, 0, none⟩) 2 2, undef, .bool false, .int .i64 ((sm ka kb j : Nat) : Int), .int .i64 ((j : Nat) : Int), v1 5, v1 6, v1 7, v1 8, v1 9, v1 10, v1 11, v1 12, v1 13, v1 14, v1 15, v1 16, v1 17, v1 18, v1 19, v1 20, v1 21, undef, undef], []⟩ ∧ Mem ⟨w, []⟩ [] w') 1 ⟨fun k_ => ([undef, undef, undef, undef, undef, undef, undef, undef, undef, undef, undef, undef, undef, undef, undef, undef, undef] : List Value).getD (k_ - 5) undef, by kernel_rfl, M⟩ ?_ ?_
  · intro j a u0 hj hI
    obtain ⟨v1, rfl, M⟩ := hI
    refine wp_seq ?_
    refine wp_seq ?_
    refine rg_lit ?_
    refine pl_val (want_no rfl) (some 5) rfl (.int .i64 ((j : Nat) : Int)) (fun _ => by kernel_rfl) ?_
    refine pl_val (want_no rfl) (some 6) rfl (.slice (some ⟨g, 0, none⟩) 2 2) (fun _ => by kernel_rfl) ?_
    refine pl_val (want_no rfl) (some 7) rfl (.int .i64 (2 : Int)) (fun _ => by kernel_rfl) ?_
    refine pl_val (want_no rfl) (some 8) rfl (.bool true) (fun w => Eq.trans (b := .ok (.value (.bool (decide ((j : Int) < 2)))) w) (by kernel_rfl) (by rw [decide_eq_true (by omega)])) ?_
    refine pl_val (want_no rfl) (some 9) rfl (.bool true) (fun _ => by kernel_rfl) ?_
    refine pl_val (want_on 4 true rfl 9 rfl (by kernel_rfl)) (some 10) rfl (.int .i64 ((sm ka kb j : Nat) : Int)) (fun _ => by kernel_rfl) ?_
    refine pl_val (want_on 4 true rfl 9 rfl (by kernel_rfl)) (some 11) rfl (.bool true) (fun w => Eq.trans (b := .ok (.value (.bool (decide (((sm ka kb j : Nat) : Int) ≤ 2048)))) w) (by kernel_rfl) (by rw [decide_eq_true (by have := hle j hj; omega)])) ?_
    refine pl_val (want_no rfl) (some 12) rfl (.bool true) (fun _ => by kernel_rfl) ?_
    refine pl_nil ?_
    refine au_then ?_
    refine wp_cond_true (by kernel_rfl) ?_
    refine wp_skip ?_
    refine au_then ?_
    refine wp_seq ?_
    refine wp_block ?_
    refine rg_lit ?_
    refine pl_val (want_no rfl) (some 15) rfl (.int .i64 ((sm ka kb j : Nat) : Int)) (fun _ => by kernel_rfl) ?_
    refine pl_val (want_no rfl) (some 16) rfl (.slice (some ⟨g, 0, none⟩) 2 2) (fun _ => by kernel_rfl) ?_
    refine pl_val (want_no rfl) (some 17) rfl (.int .i64 ((j : Nat) : Int)) (fun _ => by kernel_rfl) ?_
    refine pl_val (want_no rfl) (some 18) rfl (.pointer (some ⟨g, j, none⟩)) (run_ix0 31 9 Tryd.underlying31 inz9 _ _ rfl g 2 2 (by kernel_rfl) .i64 j (by kernel_rfl) (by omega)) ?_
    refine pl_cell M (want_no rfl) (some 19) rfl 9 _ rfl g j (by kernel_rfl) (.string (p2 ka kb j)) (fun _ => by kernel_rfl) (fun w M => M.oldc (hc j (by omega)) (by simp)) ?_
    refine pl_val (want_no rfl) (some 20) rfl (.int .i64 ((p2 ka kb j).size : Int)) (fun _ => by kernel_rfl) ?_
    refine pl_val (want_no rfl) (some 21) rfl (.int .i64 ((sm ka kb (j + 1) : Nat) : Int)) (fun w => Eq.trans (b := .ok (.value (.int .i64 (IntKind.wrap .i64 (((sm ka kb j : Nat) : Int) + ((p2 ka kb j).size : Int))))) w) (by kernel_rfl) (by rw [sm_next ka kb ha hb j (by omega)])) ?_
    refine pl_val (want_no rfl) (some 3) rfl (.int .i64 ((sm ka kb (j + 1) : Nat) : Int)) (fun _ => by kernel_rfl) ?_
    refine pl_nil ?_
    refine au_block ?_
    refine au_then ?_
    refine rg_lit ?_
    refine pl_val (want_no rfl) (some 13) rfl (.int .i64 ((j : Nat) : Int)) (fun _ => by kernel_rfl) ?_
    refine pl_val (want_no rfl) (some 14) rfl (.int .i64 ((j + 1 : Nat) : Int)) (fun w => Eq.trans (b := .ok (.value (.int .i64 (IntKind.wrap .i64 ((j : Int) + 1)))) w) (by kernel_rfl) (by rw [wrap64 (by omega) (by omega)]; congr 3)) ?_
    refine pl_val (want_no rfl) (some 4) rfl (.int .i64 ((j + 1 : Nat) : Int)) (fun _ => by kernel_rfl) ?_
    refine pl_nil ?_
    refine au_then ?_
    exact ⟨fun k_ => ([.int .i64 ((j : Nat) : Int), .slice (some ⟨g, 0, none⟩) 2 2, .int .i64 (2 : Int), .bool true, .bool true, .int .i64 ((sm ka kb j : Nat) : Int), .bool true, .bool true, .int .i64 ((j : Nat) : Int), .int .i64 ((j + 1 : Nat) : Int), .int .i64 ((sm ka kb j : Nat) : Int), .slice (some ⟨g, 0, none⟩) 2 2, .int .i64 ((j : Nat) : Int), .pointer (some ⟨g, j, none⟩), .string (p2 ka kb j), .int .i64 ((p2 ka kb j).size : Int), .int .i64 ((sm ka kb (j + 1) : Nat) : Int)] : List Value).getD (k_ - 5) undef, by kernel_rfl, M⟩
  · intro a u0 hI
    obtain ⟨v1, rfl, M⟩ := hI
    refine wp_seq ?_
    refine wp_seq ?_
    refine rg_lit ?_
    refine pl_val (want_no rfl) (some 5) rfl (.int .i64 ((1 : Nat) : Int)) (fun _ => by kernel_rfl) ?_
    refine pl_val (want_no rfl) (some 6) rfl (.slice (some ⟨g, 0, none⟩) 2 2) (fun _ => by kernel_rfl) ?_
    refine pl_val (want_no rfl) (some 7) rfl (.int .i64 (2 : Int)) (fun _ => by kernel_rfl) ?_
    refine pl_val (want_no rfl) (some 8) rfl (.bool true) (fun w => Eq.trans (b := .ok (.value (.bool (decide (((1 : Nat) : Int) < 2)))) w) (by kernel_rfl) (by rw [decide_eq_true (by omega)])) ?_
    refine pl_val (want_no rfl) (some 9) rfl (.bool true) (fun _ => by kernel_rfl) ?_
    refine pl_val (want_on 4 true rfl 9 rfl (by kernel_rfl)) (some 10) rfl (.int .i64 ((sm ka kb 1 : Nat) : Int)) (fun _ => by kernel_rfl) ?_
    refine pl_val (want_on 4 true rfl 9 rfl (by kernel_rfl)) (some 11) rfl (.bool false) (fun w => Eq.trans (b := .ok (.value (.bool (decide (((sm ka kb 1 : Nat) : Int) ≤ 2048)))) w) (by kernel_rfl) (by rw [decide_eq_false (by show ¬ ((ka.size : Nat) : Int) ≤ 2048; omega)])) ?_
    refine pl_val (want_no rfl) (some 12) rfl (.bool false) (fun _ => by kernel_rfl) ?_
    refine pl_nil ?_
    refine au_then ?_
    refine wp_cond_false (by kernel_rfl) ?_
    refine wp_exit ?_
    refine au_then_exit ?_
    refine au_then_exit ?_
    refine au_block_exit ?_
    refine au_then ?_
    refine wp_seq ?_
    refine rg_lit ?_
    refine pl_val (want_no rfl) (some 22) rfl (.int .i64 ((sm ka kb 1 : Nat) : Int)) (fun _ => by kernel_rfl) ?_
    refine pl_val (want_no rfl) (some 23) rfl (.bool false) (fun w => Eq.trans (b := .ok (.value (.bool (decide (((sm ka kb 1 : Nat) : Int) ≤ 2048)))) w) (by kernel_rfl) (by rw [decide_eq_false (by show ¬ ((ka.size : Nat) : Int) ≤ 2048; omega)])) ?_
    refine pl_val (want_no rfl) (some 2) rfl (.bool false) (fun _ => by kernel_rfl) ?_
    refine pl_nil ?_
    refine au_then ?_
    refine wp_ret ?_
    exact bodyPost_ret (v := .bool false) (results_tmp1 Tryd.results6 _ _ _ (by kernel_rfl)) (by kernel_rfl) ⟨rfl, below_grown M.old⟩

set_option maxRecDepth 100000 in
set_option maxHeartbeats 4000000 in
theorem c_smallB (ka kb : ByteArray) (ha : ka.size ≤ 140737488351232) (hb : kb.size ≤ 140737488351232) (g : Nat) (h1 : ka.size ≤ 2048) (h : ¬ ka.size + kb.size ≤ 2048) (w : World) (hL : Laid w) (hc : ∀ i, i < 2 → w.cell? ⟨g, i, none⟩ = some (.string (p2 ka kb i))) :
    Calls Tryd.prog 6 #[.slice (some ⟨g, 0, none⟩) 2 2] w fun r w' => r = .returned (.bool false) ∧ Below w.heap.size w w' := by
  go_enter Tryd.func6, Tryd.ntmps6
  have M := Mem.start hL
  have hle : ∀ j, j < 2 → sm ka kb j ≤ 2048 := fun j hj => by rcases j with _ | _ | j; exact Nat.zero_le _; show ka.size ≤ 2048; omega; omega
  refine wp_seq ?_
  refine rg_lit ?_
  refine pl_val (want_no rfl) (some 2) rfl (.bool false) (fun _ => by kernel_rfl) ?_
  refine pl_nil ?_
  refine au_then ?_
  refine wp_seq ?_
  refine rg_lit ?_
  refine pl_val (want_no rfl) (some 3) rfl (.int .i64 0) (fun _ => by kernel_rfl) ?_
  refine pl_nil ?_
  refine au_then ?_
  refine wp_seq ?_
  refine wp_seq ?_
  refine rg_lit ?_
  refine pl_val (want_no rfl) (some 4) rfl (.int .i64 0) (fun _ => by kernel_rfl) ?_
  refine pl_nil ?_
  refine au_then ?_
  refine wp_block ?_
  refine au_loop (fun j a w' => ∃ v1 : Nat → Value, a = ⟨#[.slice (some ⟨g, 0, none⟩) 2 2, undef, .bool false, .int .i64 ((sm ka kb j : Nat) : Int), .int .i64 ((j : Nat) : Int), v1 5, v1 6, v1 7, v1 8, v1 9, v1 10, v1 11, v1 12, v1 13, v1 14, v1 15, v1 16, v1 17, v1 18, v1 19, v1 20, v1 21, undef, undef], []⟩ ∧ Mem ⟨w, []⟩ [] w') 2 ⟨fun k_ => ([undef, undef, undef, undef, undef, undef, undef, undef, undef, undef, undef, undef, undef, undef, undef, undef, undef] : List Value).getD (k_ - 5) undef, by kernel_rfl, M⟩ ?_ ?_
  · intro j a u0 hj hI
    obtain ⟨v1, rfl, M⟩ := hI
    refine wp_seq ?_
    refine wp_seq ?_
    refine rg_lit ?_
    refine pl_val (want_no rfl) (some 5) rfl (.int .i64 ((j : Nat) : Int)) (fun _ => by kernel_rfl) ?_
    refine pl_val (want_no rfl) (some 6) rfl (.slice (some ⟨g, 0, none⟩) 2 2) (fun _ => by kernel_rfl) ?_
    refine pl_val (want_no rfl) (some 7) rfl (.int .i64 (2 : Int)) (fun _ => by kernel_rfl) ?_
    refine pl_val (want_no rfl) (some 8) rfl (.bool true) (fun w => Eq.trans (b := .ok (.value (.bool (decide ((j : Int) < 2)))) w) (by kernel_rfl) (by rw [decide_eq_true (by omega)])) ?_
    refine pl_val (want_no rfl) (some 9) rfl (.bool true) (fun _ => by kernel_rfl) ?_
    refine pl_val (want_on 4 true rfl 9 rfl (by kernel_rfl)) (some 10) rfl (.int .i64 ((sm ka kb j : Nat) : Int)) (fun _ => by kernel_rfl) ?_
    refine pl_val (want_on 4 true rfl 9 rfl (by kernel_rfl)) (some 11) rfl (.bool true) (fun w => Eq.trans (b := .ok (.value (.bool (decide (((sm ka kb j : Nat) : Int) ≤ 2048)))) w) (by kernel_rfl) (by rw [decide_eq_true (by have := hle j hj; omega)])) ?_
    refine pl_val (want_no rfl) (some 12) rfl (.bool true) (fun _ => by kernel_rfl) ?_
    refine pl_nil ?_
    refine au_then ?_
    refine wp_cond_true (by kernel_rfl) ?_
    refine wp_skip ?_
    refine au_then ?_
    refine wp_seq ?_
    refine wp_block ?_
    refine rg_lit ?_
    refine pl_val (want_no rfl) (some 15) rfl (.int .i64 ((sm ka kb j : Nat) : Int)) (fun _ => by kernel_rfl) ?_
    refine pl_val (want_no rfl) (some 16) rfl (.slice (some ⟨g, 0, none⟩) 2 2) (fun _ => by kernel_rfl) ?_
    refine pl_val (want_no rfl) (some 17) rfl (.int .i64 ((j : Nat) : Int)) (fun _ => by kernel_rfl) ?_
    refine pl_val (want_no rfl) (some 18) rfl (.pointer (some ⟨g, j, none⟩)) (run_ix0 31 9 Tryd.underlying31 inz9 _ _ rfl g 2 2 (by kernel_rfl) .i64 j (by kernel_rfl) (by omega)) ?_
    refine pl_cell M (want_no rfl) (some 19) rfl 9 _ rfl g j (by kernel_rfl) (.string (p2 ka kb j)) (fun _ => by kernel_rfl) (fun w M => M.oldc (hc j (by omega)) (by simp)) ?_
    refine pl_val (want_no rfl) (some 20) rfl (.int .i64 ((p2 ka kb j).size : Int)) (fun _ => by kernel_rfl) ?_
    refine pl_val (want_no rfl) (some 21) rfl (.int .i64 ((sm ka kb (j + 1) : Nat) : Int)) (fun w => Eq.trans (b := .ok (.value (.int .i64 (IntKind.wrap .i64 (((sm ka kb j : Nat) : Int) + ((p2 ka kb j).size : Int))))) w) (by kernel_rfl) (by rw [sm_next ka kb ha hb j (by omega)])) ?_
    refine pl_val (want_no rfl) (some 3) rfl (.int .i64 ((sm ka kb (j + 1) : Nat) : Int)) (fun _ => by kernel_rfl) ?_
    refine pl_nil ?_
    refine au_block ?_
    refine au_then ?_
    refine rg_lit ?_
    refine pl_val (want_no rfl) (some 13) rfl (.int .i64 ((j : Nat) : Int)) (fun _ => by kernel_rfl) ?_
    refine pl_val (want_no rfl) (some 14) rfl (.int .i64 ((j + 1 : Nat) : Int)) (fun w => Eq.trans (b := .ok (.value (.int .i64 (IntKind.wrap .i64 ((j : Int) + 1)))) w) (by kernel_rfl) (by rw [wrap64 (by omega) (by omega)]; congr 3)) ?_
    refine pl_val (want_no rfl) (some 4) rfl (.int .i64 ((j + 1 : Nat) : Int)) (fun _ => by kernel_rfl) ?_
    refine pl_nil ?_
    refine au_then ?_
    exact ⟨fun k_ => ([.int .i64 ((j : Nat) : Int), .slice (some ⟨g, 0, none⟩) 2 2, .int .i64 (2 : Int), .bool true, .bool true, .int .i64 ((sm ka kb j : Nat) : Int), .bool true, .bool true, .int .i64 ((j : Nat) : Int), .int .i64 ((j + 1 : Nat) : Int), .int .i64 ((sm ka kb j : Nat) : Int), .slice (some ⟨g, 0, none⟩) 2 2, .int .i64 ((j : Nat) : Int), .pointer (some ⟨g, j, none⟩), .string (p2 ka kb j), .int .i64 ((p2 ka kb j).size : Int), .int .i64 ((sm ka kb (j + 1) : Nat) : Int)] : List Value).getD (k_ - 5) undef, by kernel_rfl, M⟩
  · intro a u0 hI
    obtain ⟨v1, rfl, M⟩ := hI
    refine wp_seq ?_
    refine wp_seq ?_
    refine rg_lit ?_
    refine pl_val (want_no rfl) (some 5) rfl (.int .i64 ((2 : Nat) : Int)) (fun _ => by kernel_rfl) ?_
    refine pl_val (want_no rfl) (some 6) rfl (.slice (some ⟨g, 0, none⟩) 2 2) (fun _ => by kernel_rfl) ?_
    refine pl_val (want_no rfl) (some 7) rfl (.int .i64 (2 : Int)) (fun _ => by kernel_rfl) ?_
    refine pl_val (want_no rfl) (some 8) rfl (.bool false) (fun w => Eq.trans (b := .ok (.value (.bool (decide (((2 : Nat) : Int) < 2)))) w) (by kernel_rfl) (by rw [decide_eq_false (by omega)])) ?_
    refine pl_val (want_no rfl) (some 9) rfl (.bool false) (fun _ => by kernel_rfl) ?_
    refine pl_skip (want_off 4 true rfl 9 rfl (by kernel_rfl)) (some 10) rfl ?_
    refine pl_skip (want_off 4 true rfl 9 rfl (by kernel_rfl)) (some 11) rfl ?_
    refine pl_val (want_no rfl) (some 12) rfl (.bool false) (fun _ => by kernel_rfl) ?_
    refine pl_nil ?_
    refine au_then ?_
    refine wp_cond_false (by kernel_rfl) ?_
    refine wp_exit ?_
    refine au_then_exit ?_
    refine au_then_exit ?_
    refine au_block_exit ?_
    refine au_then ?_
    refine wp_seq ?_
    refine rg_lit ?_
    refine pl_val (want_no rfl) (some 22) rfl (.int .i64 ((sm ka kb 2 : Nat) : Int)) (fun _ => by kernel_rfl) ?_
    refine pl_val (want_no rfl) (some 23) rfl (.bool false) (fun w => Eq.trans (b := .ok (.value (.bool (decide (((sm ka kb 2 : Nat) : Int) ≤ 2048)))) w) (by kernel_rfl) (by rw [decide_eq_false (by show ¬ (((ka.size + kb.size : Nat)) : Int) ≤ 2048; omega)])) ?_
    refine pl_val (want_no rfl) (some 2) rfl (.bool false) (fun _ => by kernel_rfl) ?_
    refine pl_nil ?_
    refine au_then ?_
    refine wp_ret ?_
    exact bodyPost_ret (v := .bool false) (results_tmp1 Tryd.results6 _ _ _ (by kernel_rfl)) (by kernel_rfl) ⟨rfl, below_grown M.old⟩

set_option maxRecDepth 100000 in
set_option maxHeartbeats 4000000 in
theorem c_small1 (ka kb : ByteArray) (ha : ka.size ≤ 140737488351232) (hb : kb.size ≤ 140737488351232) (g : Nat) (h : ka.size + kb.size ≤ 2048) (w : World) (hL : Laid w) (hc : ∀ i, i < 2 → w.cell? ⟨g, i, none⟩ = some (.string (p2 ka kb i))) :
    Calls Tryd.prog 6 #[.slice (some ⟨g, 0, none⟩) 2 2] w fun r w' => r = .returned (.bool true) ∧ Below w.heap.size w w' := by
  go_enter Tryd.func6, Tryd.ntmps6
  have M := Mem.start hL
  have hle : ∀ j, j < 2 → sm ka kb j ≤ 2048 := fun j hj => by rcases j with _ | _ | j; exact Nat.zero_le _; show ka.size ≤ 2048; omega; omega
  refine wp_seq ?_
  refine rg_lit ?_
  refine pl_val (want_no rfl) (some 2) rfl (.bool false) (fun _ => by kernel_rfl) ?_
  refine pl_nil ?_
  refine au_then ?_
  refine wp_seq ?_
  refine rg_lit ?_
  refine pl_val (want_no rfl) (some 3) rfl (.int .i64 0) (fun _ => by kernel_rfl) ?_
  refine pl_nil ?_
  refine au_then ?_
  refine wp_seq ?_
  refine wp_seq ?_
  refine rg_lit ?_
  refine pl_val (want_no rfl) (some 4) rfl (.int .i64 0) (fun _ => by kernel_rfl) ?_
  refine pl_nil ?_
  refine au_then ?_
  refine wp_block ?_
  refine au_loop (fun j a w' => ∃ v1 : Nat → Value, a = ⟨#[.slice (some ⟨g, 0, none⟩) 2 2, undef, .bool false, .int .i64 ((sm ka kb j : Nat) : Int), .int .i64 ((j : Nat) : Int), v1 5, v1 6, v1 7, v1 8, v1 9, v1 10, v1 11, v1 12, v1 13, v1 14, v1 15, v1 16, v1 17, v1 18, v1 19, v1 20, v1 21, undef, undef], []⟩ ∧ Mem ⟨w, []⟩ [] w') 2 ⟨fun k_ => ([undef, undef, undef, undef, undef, undef, undef, undef, undef, undef, undef, undef, undef, undef, undef, undef, undef] : List Value).getD (k_ - 5) undef, by kernel_rfl, M⟩ ?_ ?_
  · intro j a u0 hj hI
    obtain ⟨v1, rfl, M⟩ := hI
    refine wp_seq ?_
    refine wp_seq ?_
    refine rg_lit ?_
    refine pl_val (want_no rfl) (some 5) rfl (.int .i64 ((j : Nat) : Int)) (fun _ => by kernel_rfl) ?_
    refine pl_val (want_no rfl) (some 6) rfl (.slice (some ⟨g, 0, none⟩) 2 2) (fun _ => by kernel_rfl) ?_
    refine pl_val (want_no rfl) (some 7) rfl (.int .i64 (2 : Int)) (fun _ => by kernel_rfl) ?_
    refine pl_val (want_no rfl) (some 8) rfl (.bool true) (fun w => Eq.trans (b := .ok (.value (.bool (decide ((j : Int) < 2)))) w) (by kernel_rfl) (by rw [decide_eq_true (by omega)])) ?_
    refine pl_val (want_no rfl) (some 9) rfl (.bool true) (fun _ => by kernel_rfl) ?_
    refine pl_val (want_on 4 true rfl 9 rfl (by kernel_rfl)) (some 10) rfl (.int .i64 ((sm ka kb j : Nat) : Int)) (fun _ => by kernel_rfl) ?_
    refine pl_val (want_on 4 true rfl 9 rfl (by kernel_rfl)) (some 11) rfl (.bool true) (fun w => Eq.trans (b := .ok (.value (.bool (decide (((sm ka kb j : Nat) : Int) ≤ 2048)))) w) (by kernel_rfl) (by rw [decide_eq_true (by have := hle j hj; omega)])) ?_
    refine pl_val (want_no rfl) (some 12) rfl (.bool true) (fun _ => by kernel_rfl) ?_
    refine pl_nil ?_
    refine au_then ?_
    refine wp_cond_true (by kernel_rfl) ?_
    refine wp_skip ?_
    refine au_then ?_
    refine wp_seq ?_
    refine wp_block ?_
    refine rg_lit ?_
    refine pl_val (want_no rfl) (some 15) rfl (.int .i64 ((sm ka kb j : Nat) : Int)) (fun _ => by kernel_rfl) ?_
    refine pl_val (want_no rfl) (some 16) rfl (.slice (some ⟨g, 0, none⟩) 2 2) (fun _ => by kernel_rfl) ?_
    refine pl_val (want_no rfl) (some 17) rfl (.int .i64 ((j : Nat) : Int)) (fun _ => by kernel_rfl) ?_
    refine pl_val (want_no rfl) (some 18) rfl (.pointer (some ⟨g, j, none⟩)) (run_ix0 31 9 Tryd.underlying31 inz9 _ _ rfl g 2 2 (by kernel_rfl) .i64 j (by kernel_rfl) (by omega)) ?_
    refine pl_cell M (want_no rfl) (some 19) rfl 9 _ rfl g j (by kernel_rfl) (.string (p2 ka kb j)) (fun _ => by kernel_rfl) (fun w M => M.oldc (hc j (by omega)) (by simp)) ?_
    refine pl_val (want_no rfl) (some 20) rfl (.int .i64 ((p2 ka kb j).size : Int)) (fun _ => by kernel_rfl) ?_
    refine pl_val (want_no rfl) (some 21) rfl (.int .i64 ((sm ka kb (j + 1) : Nat) : Int)) (fun w => Eq.trans (b := .ok (.value (.int .i64 (IntKind.wrap .i64 (((sm ka kb j : Nat) : Int) + ((p2 ka kb j).size : Int))))) w) (by kernel_rfl) (by rw [sm_next ka kb ha hb j (by omega)])) ?_
    refine pl_val (want_no rfl) (some 3) rfl (.int .i64 ((sm ka kb (j + 1) : Nat) : Int)) (fun _ => by kernel_rfl) ?_
    refine pl_nil ?_
    refine au_block ?_
    refine au_then ?_
    refine rg_lit ?_
    refine pl_val (want_no rfl) (some 13) rfl (.int .i64 ((j : Nat) : Int)) (fun _ => by kernel_rfl) ?_
    refine pl_val (want_no rfl) (some 14) rfl (.int .i64 ((j + 1 : Nat) : Int)) (fun w => Eq.trans (b := .ok (.value (.int .i64 (IntKind.wrap .i64 ((j : Int) + 1)))) w) (by kernel_rfl) (by rw [wrap64 (by omega) (by omega)]; congr 3)) ?_
    refine pl_val (want_no rfl) (some 4) rfl (.int .i64 ((j + 1 : Nat) : Int)) (fun _ => by kernel_rfl) ?_
    refine pl_nil ?_
    refine au_then ?_
    exact ⟨fun k_ => ([.int .i64 ((j : Nat) : Int), .slice (some ⟨g, 0, none⟩) 2 2, .int .i64 (2 : Int), .bool true, .bool true, .int .i64 ((sm ka kb j : Nat) : Int), .bool true, .bool true, .int .i64 ((j : Nat) : Int), .int .i64 ((j + 1 : Nat) : Int), .int .i64 ((sm ka kb j : Nat) : Int), .slice (some ⟨g, 0, none⟩) 2 2, .int .i64 ((j : Nat) : Int), .pointer (some ⟨g, j, none⟩), .string (p2 ka kb j), .int .i64 ((p2 ka kb j).size : Int), .int .i64 ((sm ka kb (j + 1) : Nat) : Int)] : List Value).getD (k_ - 5) undef, by kernel_rfl, M⟩
  · intro a u0 hI
    obtain ⟨v1, rfl, M⟩ := hI
    refine wp_seq ?_
    refine wp_seq ?_
    refine rg_lit ?_
    refine pl_val (want_no rfl) (some 5) rfl (.int .i64 ((2 : Nat) : Int)) (fun _ => by kernel_rfl) ?_
    refine pl_val (want_no rfl) (some 6) rfl (.slice (some ⟨g, 0, none⟩) 2 2) (fun _ => by kernel_rfl) ?_
    refine pl_val (want_no rfl) (some 7) rfl (.int .i64 (2 : Int)) (fun _ => by kernel_rfl) ?_
    refine pl_val (want_no rfl) (some 8) rfl (.bool false) (fun w => Eq.trans (b := .ok (.value (.bool (decide (((2 : Nat) : Int) < 2)))) w) (by kernel_rfl) (by rw [decide_eq_false (by omega)])) ?_
    refine pl_val (want_no rfl) (some 9) rfl (.bool false) (fun _ => by kernel_rfl) ?_
    refine pl_skip (want_off 4 true rfl 9 rfl (by kernel_rfl)) (some 10) rfl ?_
    refine pl_skip (want_off 4 true rfl 9 rfl (by kernel_rfl)) (some 11) rfl ?_
    refine pl_val (want_no rfl) (some 12) rfl (.bool false) (fun _ => by kernel_rfl) ?_
    refine pl_nil ?_
    refine au_then ?_
    refine wp_cond_false (by kernel_rfl) ?_
    refine wp_exit ?_
    refine au_then_exit ?_
    refine au_then_exit ?_
    refine au_block_exit ?_
    refine au_then ?_
    refine wp_seq ?_
    refine rg_lit ?_
    refine pl_val (want_no rfl) (some 22) rfl (.int .i64 ((sm ka kb 2 : Nat) : Int)) (fun _ => by kernel_rfl) ?_
    refine pl_val (want_no rfl) (some 23) rfl (.bool true) (fun w => Eq.trans (b := .ok (.value (.bool (decide (((sm ka kb 2 : Nat) : Int) ≤ 2048)))) w) (by kernel_rfl) (by rw [decide_eq_true (by show (((ka.size + kb.size : Nat)) : Int) ≤ 2048; omega)])) ?_
    refine pl_val (want_no rfl) (some 2) rfl (.bool true) (fun _ => by kernel_rfl) ?_
    refine pl_nil ?_
    refine au_then ?_
    refine wp_ret ?_
    exact bodyPost_ret (v := .bool true) (results_tmp1 Tryd.results6 _ _ _ (by kernel_rfl)) (by kernel_rfl) ⟨rfl, below_grown M.old⟩

theorem c_small0 (a b : ByteArray) (ha : a.size ≤ 140737488351232) (hb : b.size ≤ 140737488351232) (g : Nat) (h : ¬ a.size + b.size ≤ 2048) (w : World) (hL : Laid w) (hc : ∀ i, i < 2 → w.cell? ⟨g, i, none⟩ = some (.string (p2 a b i))) : Calls Tryd.prog 6 #[.slice (some ⟨g, 0, none⟩) 2 2] w fun r w' => r = .returned (.bool false) ∧ Below w.heap.size w w' := by
  by_cases h1 : a.size ≤ 2048
  · exact c_smallB a b ha hb g h1 h w hL hc
  · exact c_smallA a b ha hb g h1 w hL hc

set_option maxRecDepth 100000 in
set_option maxHeartbeats 4000000 in
theorem c_alive  (w : World) (hL : Laid w)  :
    Calls Tryd.prog 7 #[] w fun r w' => r = .returned (.bool true) ∧ Below w.heap.size w w' := by
  go_enter Tryd.func7, Tryd.ntmps7
  have M := Mem.start hL
  refine wp_seq ?_
  refine rg_lit ?_
  refine pl_val (want_no rfl) (some 0) rfl (.bool false) (fun _ => by kernel_rfl) ?_
  refine pl_nil ?_
  refine au_then ?_
  refine wp_seq ?_
  refine rg_lit ?_
  refine pl_calln M (want_no rfl) (some 8) rfl 13 #[.string ⟨#[107]⟩, .string ⟨#[115]⟩, .int .i64 2] (fun g1 => .tuple #[.slice (some ⟨g1, 0, none⟩) 2 2, .int .i64 0]) (.cells (av 2 (ws (txt strK strS))) 9) (fun _ => by kernel_rfl) (fun w M => c_ch strK strS (by decide) 2 (by decide) (by decide) w M.laid) ?_
  intro g1 u1 M
  replace M : Mem ⟨w, []⟩ [⟨g1, .cells (av 2 (ws (txt strK strS))) 9⟩] u1 := M
  refine pl_val (want_no rfl) (some 7) rfl (.tuple #[.slice (some ⟨g1, 0, none⟩) 2 2, .int .i64 0]) (fun _ => by kernel_rfl) ?_
  refine pl_val (want_no rfl) (some 9) rfl (.slice (some ⟨g1, 0, none⟩) 2 2) (fun _ => by kernel_rfl) ?_
  refine pl_val (want_no rfl) (some 10) rfl (.int .i64 0) (fun _ => by kernel_rfl) ?_
  refine pl_val (want_no rfl) (some 1) rfl (.slice (some ⟨g1, 0, none⟩) 2 2) (fun _ => by kernel_rfl) ?_
  refine pl_val (want_no rfl) (some 2) rfl (.int .i64 0) (fun _ => by kernel_rfl) ?_
  refine pl_nil ?_
  refine au_then ?_
  refine wp_seq ?_
  refine rg_lit ?_
  refine pl_call M (want_no rfl) (some 12) rfl 13 #[.string ⟨#[107]⟩, .string ⟨#[115]⟩, .int .i64 4] (.tuple #[.slice none 0 0, .int .i64 2]) (fun _ => by kernel_rfl) (fun w M => c_che strK strS 4 (by decide) w M.laid) ?_
  intro u2 M
  refine pl_val (want_no rfl) (some 11) rfl (.tuple #[.slice none 0 0, .int .i64 2]) (fun _ => by kernel_rfl) ?_
  refine pl_val (want_no rfl) (some 13) rfl (.slice none 0 0) (fun _ => by kernel_rfl) ?_
  refine pl_val (want_no rfl) (some 14) rfl (.int .i64 2) (fun _ => by kernel_rfl) ?_
  refine pl_val (want_no rfl) (some 3) rfl (.slice none 0 0) (fun _ => by kernel_rfl) ?_
  refine pl_val (want_no rfl) (some 4) rfl (.int .i64 2) (fun _ => by kernel_rfl) ?_
  refine pl_nil ?_
  refine au_then ?_
  refine wp_seq ?_
  refine rg_lit ?_
  refine pl_call M (want_no rfl) (some 16) rfl 11 #[.string ⟨#[107]⟩, .string ⟨#[105]⟩, .int .i64 8161] (.tuple #[.string ⟨#[]⟩, .int .i64 2]) (fun _ => by kernel_rfl) (fun w M => c_expe strK strI 8161 (by decide) w M.laid) ?_
  intro u3 M
  refine pl_val (want_no rfl) (some 15) rfl (.tuple #[.string ⟨#[]⟩, .int .i64 2]) (fun _ => by kernel_rfl) ?_
  refine pl_val (want_no rfl) (some 17) rfl (.string ⟨#[]⟩) (fun _ => by kernel_rfl) ?_
  refine pl_val (want_no rfl) (some 18) rfl (.int .i64 2) (fun _ => by kernel_rfl) ?_
  refine pl_val (want_no rfl) (some 5) rfl (.string ⟨#[]⟩) (fun _ => by kernel_rfl) ?_
  refine pl_val (want_no rfl) (some 6) rfl (.int .i64 2) (fun _ => by kernel_rfl) ?_
  refine pl_nil ?_
  refine au_then ?_
  refine wp_seq ?_
  refine rg_lit ?_
  refine pl_call M (want_no rfl) (some 19) rfl 8 #[.string ⟨#[107]⟩, .string ⟨#[115]⟩] (.string (hmV strK strS)) (fun _ => by kernel_rfl) (fun w M => c_hmac strK strS (by decide) w M.laid) ?_
  intro u4 M
  refine pl_val (want_no rfl) (some 20) rfl (.int .i64 ((hmV strK strS).size : Int)) (fun _ => by kernel_rfl) ?_
  refine pl_val (want_no rfl) (some 21) rfl (.bool true) (fun w => Eq.trans (b := .ok (.value (.bool (decide (((hmV strK strS).size : Int) = 32)))) w) (by kernel_rfl) (by rw [decide_eq_true (by rw [hmV_size]; rfl)])) ?_
  refine pl_val (want_no rfl) (some 22) rfl (.bool true) (fun _ => by kernel_rfl) ?_
  refine pl_val (want_on 3 true rfl 22 rfl (by kernel_rfl)) (some 23) rfl (.slice (some ⟨g1, 0, none⟩) 2 2) (fun _ => by kernel_rfl) ?_
  refine pl_val (want_on 3 true rfl 22 rfl (by kernel_rfl)) (some 24) rfl (.int .i64 2) (fun _ => by kernel_rfl) ?_
  refine pl_val (want_on 3 true rfl 22 rfl (by kernel_rfl)) (some 25) rfl (.bool true) (fun _ => by kernel_rfl) ?_
  refine pl_val (want_no rfl) (some 26) rfl (.bool true) (fun _ => by kernel_rfl) ?_
  refine pl_val (want_no rfl) (some 27) rfl (.bool true) (fun _ => by kernel_rfl) ?_
  refine pl_val (want_on 8 true rfl 27 rfl (by kernel_rfl)) (some 28) rfl (.slice (some ⟨g1, 0, none⟩) 2 2) (fun _ => by kernel_rfl) ?_
  refine pl_val (want_on 8 true rfl 27 rfl (by kernel_rfl)) (some 29) rfl (.pointer (some ⟨g1, 0, none⟩)) (run_ix0 31 9 Tryd.underlying31 inz9 _ _ rfl g1 2 2 (by kernel_rfl) .i64 0 (by kernel_rfl) (by decide)) ?_
  refine pl_cell M (want_on 8 true rfl 27 rfl (by kernel_rfl)) (some 30) rfl 9 _ rfl g1 0 (by kernel_rfl) (.string ((txt strK strS) 0)) (fun _ => by kernel_rfl) (fun w M => M.cell 0 rfl (by decide) rfl) ?_
  refine pl_val (want_on 8 true rfl 27 rfl (by kernel_rfl)) (some 31) rfl (.int .i64 (((txt strK strS) 0).size : Int)) (fun _ => by kernel_rfl) ?_
  refine pl_val (want_on 8 true rfl 27 rfl (by kernel_rfl)) (some 32) rfl (.bool true) (fun w => Eq.trans (b := .ok (.value (.bool (decide ((((txt strK strS) 0).size : Int) = 32)))) w) (by kernel_rfl) (by rw [decide_eq_true (by rw [txt_size]; rfl)])) ?_
  refine pl_val (want_no rfl) (some 33) rfl (.bool true) (fun _ => by kernel_rfl) ?_
  refine pl_val (want_no rfl) (some 34) rfl (.bool true) (fun _ => by kernel_rfl) ?_
  refine pl_val (want_on 15 true rfl 34 rfl (by kernel_rfl)) (some 35) rfl (.int .i64 0) (fun _ => by kernel_rfl) ?_
  refine pl_val (want_on 15 true rfl 34 rfl (by kernel_rfl)) (some 36) rfl (.bool true) (fun _ => by kernel_rfl) ?_
  refine pl_val (want_no rfl) (some 37) rfl (.bool true) (fun _ => by kernel_rfl) ?_
  refine pl_val (want_no rfl) (some 38) rfl (.bool true) (fun _ => by kernel_rfl) ?_
  refine pl_val (want_on 19 true rfl 38 rfl (by kernel_rfl)) (some 39) rfl (.int .i64 2) (fun _ => by kernel_rfl) ?_
  refine pl_val (want_on 19 true rfl 38 rfl (by kernel_rfl)) (some 40) rfl (.bool true) (fun _ => by kernel_rfl) ?_
  refine pl_val (want_no rfl) (some 41) rfl (.bool true) (fun _ => by kernel_rfl) ?_
  refine pl_val (want_no rfl) (some 42) rfl (.bool true) (fun _ => by kernel_rfl) ?_
  refine pl_val (want_on 23 true rfl 42 rfl (by kernel_rfl)) (some 43) rfl (.int .i64 2) (fun _ => by kernel_rfl) ?_
  refine pl_val (want_on 23 true rfl 42 rfl (by kernel_rfl)) (some 44) rfl (.bool true) (fun _ => by kernel_rfl) ?_
  refine pl_val (want_no rfl) (some 45) rfl (.bool true) (fun _ => by kernel_rfl) ?_
  refine pl_val (want_no rfl) (some 46) rfl (.bool true) (fun _ => by kernel_rfl) ?_
  refine pl_call M (want_on 27 true rfl 46 rfl (by kernel_rfl)) (some 47) rfl 8 #[.string ⟨#[107]⟩, .string ⟨#[115]⟩] (.string (hmV strK strS)) (fun _ => by kernel_rfl) (fun w M => c_hmac strK strS (by decide) w M.laid) ?_
  intro u5 M
  refine pl_call M (want_on 27 true rfl 46 rfl (by kernel_rfl)) (some 48) rfl 10 #[.string ⟨#[107]⟩, .string ⟨#[115]⟩] (.string (hmV strK strS)) (fun _ => by kernel_rfl) (fun w M => c_extract strK strS (by decide) w M.laid) ?_
  intro u6 M
  refine pl_val (want_on 27 true rfl 46 rfl (by kernel_rfl)) (some 49) rfl (.bool true) (fun w => Eq.trans (b := .ok (.value (.bool ((hmV strK strS).toList == (hmV strK strS).toList))) w) (by kernel_rfl) (by rw [beq_self_eq_true])) ?_
  refine pl_val (want_no rfl) (some 50) rfl (.bool true) (fun _ => by kernel_rfl) ?_
  refine pl_val (want_no rfl) (some 51) rfl (.bool true) (fun _ => by kernel_rfl) ?_
  refine pl_call M (want_on 32 true rfl 51 rfl (by kernel_rfl)) (some 52) rfl 8 #[.string ⟨#[107]⟩, .string ⟨#[115]⟩] (.string (hmV strK strS)) (fun _ => by kernel_rfl) (fun w M => c_hmac strK strS (by decide) w M.laid) ?_
  intro u7 M
  refine pl_call M (want_on 32 true rfl 51 rfl (by kernel_rfl)) (some 53) rfl 9 #[.string ⟨#[107]⟩, .string ⟨#[115]⟩] (.string (hmV strK strS)) (fun _ => by kernel_rfl) (fun w M => d_hmac strK strS (by decide) (by decide) w M.laid) ?_
  intro u8 M
  refine pl_val (want_on 32 true rfl 51 rfl (by kernel_rfl)) (some 54) rfl (.bool true) (fun w => Eq.trans (b := .ok (.value (.bool ((hmV strK strS).toList == (hmV strK strS).toList))) w) (by kernel_rfl) (by rw [beq_self_eq_true])) ?_
  refine pl_val (want_no rfl) (some 55) rfl (.bool true) (fun _ => by kernel_rfl) ?_
  refine pl_val (want_no rfl) (some 0) rfl (.bool true) (fun _ => by kernel_rfl) ?_
  refine pl_nil ?_
  refine au_then ?_
  refine wp_ret ?_
  exact bodyPost_ret (v := .bool true) (results_tmp1 Tryd.results7 _ _ _ (by kernel_rfl)) (by kernel_rfl) ⟨rfl, below_grown M.old⟩

set_option maxRecDepth 100000 in
set_option maxHeartbeats 4000000 in
theorem tgA (key s : ByteArray) (hk : key.size ≤ 140737488351232) (hs : s.size ≤ 140737488351232) (h : ¬ key.size + s.size ≤ 2048) (w : World) (hL : Laid w)  :
    Calls Tryd.prog 3 #[.string key, .string s] w fun r w' => r = .returned (.bool true) ∧ Below w.heap.size w w' := by
  go_enter Tryd.func3, Tryd.ntmps3
  have M := Mem.start hL
  refine wp_seq ?_
  refine rg_lit ?_
  refine pl_val (want_no rfl) (some 4) rfl (.bool false) (fun _ => by kernel_rfl) ?_
  refine pl_nil ?_
  refine au_then ?_
  refine wp_seq ?_
  refine wp_seq ?_
  refine rg_lit ?_
  refine pl_val (want_no rfl) (some 5) rfl (.string key) (fun _ => by kernel_rfl) ?_
  refine pl_val (want_no rfl) (some 6) rfl (.string s) (fun _ => by kernel_rfl) ?_
  refine pl_mk M (want_no rfl) (some 7) rfl (fun g1 => .slice (some ⟨g1, 0, none⟩) 2 2) (.cells (av 2 (ws (p2 key s))) 9) (fun _ => by kernel_rfl) ?_
  intro g1 u1 M
  replace M : Mem ⟨w, []⟩ [⟨g1, .cells (av 2 (ws (p2 key s))) 9⟩] u1 := M
  refine pl_call M (want_no rfl) (some 8) rfl 6 #[.slice (some ⟨g1, 0, none⟩) 2 2] (.bool false) (fun _ => by kernel_rfl) (fun w M => c_small0 key s hk hs g1 h w M.laid (fun i hi => M.cell 0 rfl hi rfl)) ?_
  intro u2 M
  refine pl_val (want_no rfl) (some 9) rfl (.bool true) (fun _ => by kernel_rfl) ?_
  refine pl_nil ?_
  refine au_then ?_
  refine wp_cond_true (by kernel_rfl) ?_
  refine wp_seq ?_
  refine rg_lit ?_
  refine pl_call M (want_no rfl) (some 10) rfl 7 #[] (.bool true) (fun _ => by kernel_rfl) (fun w M => c_alive w M.laid) ?_
  intro u3 M
  refine pl_val (want_no rfl) (some 4) rfl (.bool true) (fun _ => by kernel_rfl) ?_
  refine pl_nil ?_
  refine au_then ?_
  refine wp_ret ?_
  refine au_then_ret ?_
  exact bodyPost_ret (v := .bool true) (results_tmp1 Tryd.results3 _ _ _ (by kernel_rfl)) (by kernel_rfl) ⟨rfl, below_grown M.old⟩

set_option maxRecDepth 100000 in
set_option maxHeartbeats 4000000 in
theorem tgB (key s : ByteArray) (hk : key.size ≤ 140737488351232) (hs : s.size ≤ 140737488351232) (h : key.size + s.size ≤ 2048) (w : World) (hL : Laid w)  :
    Calls Tryd.prog 3 #[.string key, .string s] w fun r w' => r = .returned (.bool true) ∧ Below w.heap.size w w' := by
  go_enter Tryd.func3, Tryd.ntmps3
  have M := Mem.start hL
  refine wp_seq ?_
  refine rg_lit ?_
  refine pl_val (want_no rfl) (some 4) rfl (.bool false) (fun _ => by kernel_rfl) ?_
  refine pl_nil ?_
  refine au_then ?_
  refine wp_seq ?_
  refine wp_seq ?_
  refine rg_lit ?_
  refine pl_val (want_no rfl) (some 5) rfl (.string key) (fun _ => by kernel_rfl) ?_
  refine pl_val (want_no rfl) (some 6) rfl (.string s) (fun _ => by kernel_rfl) ?_
  refine pl_mk M (want_no rfl) (some 7) rfl (fun g1 => .slice (some ⟨g1, 0, none⟩) 2 2) (.cells (av 2 (ws (p2 key s))) 9) (fun _ => by kernel_rfl) ?_
  intro g1 u1 M
  replace M : Mem ⟨w, []⟩ [⟨g1, .cells (av 2 (ws (p2 key s))) 9⟩] u1 := M
  refine pl_call M (want_no rfl) (some 8) rfl 6 #[.slice (some ⟨g1, 0, none⟩) 2 2] (.bool true) (fun _ => by kernel_rfl) (fun w M => c_small1 key s hk hs g1 h w M.laid (fun i hi => M.cell 0 rfl hi rfl)) ?_
  intro u2 M
  refine pl_val (want_no rfl) (some 9) rfl (.bool false) (fun _ => by kernel_rfl) ?_
  refine pl_nil ?_
  refine au_then ?_
  refine wp_cond_false (by kernel_rfl) ?_
  refine wp_skip ?_
  refine au_then ?_
  refine wp_seq ?_
  refine rg_lit ?_
  refine pl_val (want_no rfl) (some 11) rfl (.string key) (fun _ => by kernel_rfl) ?_
  refine pl_val (want_no rfl) (some 12) rfl (.string s) (fun _ => by kernel_rfl) ?_
  refine pl_call M (want_no rfl) (some 13) rfl 8 #[.string key, .string s] (.string (hmV key s)) (fun _ => by kernel_rfl) (fun w M => c_hmac key s (by omega) w M.laid) ?_
  intro u3 M
  refine pl_val (want_no rfl) (some 14) rfl (.string key) (fun _ => by kernel_rfl) ?_
  refine pl_val (want_no rfl) (some 15) rfl (.string s) (fun _ => by kernel_rfl) ?_
  refine pl_call M (want_no rfl) (some 16) rfl 9 #[.string key, .string s] (.string (hmV key s)) (fun _ => by kernel_rfl) (fun w M => d_hmac key s (by omega) (by omega) w M.laid) ?_
  intro u4 M
  refine pl_val (want_no rfl) (some 17) rfl (.bool true) (fun w => Eq.trans (b := .ok (.value (.bool ((hmV key s).toList == (hmV key s).toList))) w) (by kernel_rfl) (by rw [beq_self_eq_true])) ?_
  refine pl_val (want_no rfl) (some 18) rfl (.bool true) (fun _ => by kernel_rfl) ?_
  refine pl_val (want_on 7 true rfl 18 rfl (by kernel_rfl)) (some 19) rfl (.string key) (fun _ => by kernel_rfl) ?_
  refine pl_val (want_on 7 true rfl 18 rfl (by kernel_rfl)) (some 20) rfl (.string s) (fun _ => by kernel_rfl) ?_
  refine pl_call M (want_on 7 true rfl 18 rfl (by kernel_rfl)) (some 21) rfl 10 #[.string key, .string s] (.string (hmV key s)) (fun _ => by kernel_rfl) (fun w M => c_extract key s (by omega) w M.laid) ?_
  intro u5 M
  refine pl_val (want_on 7 true rfl 18 rfl (by kernel_rfl)) (some 22) rfl (.string key) (fun _ => by kernel_rfl) ?_
  refine pl_val (want_on 7 true rfl 18 rfl (by kernel_rfl)) (some 23) rfl (.string s) (fun _ => by kernel_rfl) ?_
  refine pl_call M (want_on 7 true rfl 18 rfl (by kernel_rfl)) (some 24) rfl 9 #[.string key, .string s] (.string (hmV key s)) (fun _ => by kernel_rfl) (fun w M => d_hmac key s (by omega) (by omega) w M.laid) ?_
  intro u6 M
  refine pl_val (want_on 7 true rfl 18 rfl (by kernel_rfl)) (some 25) rfl (.bool true) (fun w => Eq.trans (b := .ok (.value (.bool ((hmV key s).toList == (hmV key s).toList))) w) (by kernel_rfl) (by rw [beq_self_eq_true])) ?_
  refine pl_val (want_no rfl) (some 26) rfl (.bool true) (fun _ => by kernel_rfl) ?_
  refine pl_val (want_no rfl) (some 27) rfl (.bool true) (fun _ => by kernel_rfl) ?_
  refine pl_call M (want_on 16 true rfl 27 rfl (by kernel_rfl)) (some 28) rfl 7 #[] (.bool true) (fun _ => by kernel_rfl) (fun w M => c_alive w M.laid) ?_
  intro u7 M
  refine pl_val (want_no rfl) (some 29) rfl (.bool true) (fun _ => by kernel_rfl) ?_
  refine pl_val (want_no rfl) (some 4) rfl (.bool true) (fun _ => by kernel_rfl) ?_
  refine pl_nil ?_
  refine au_then ?_
  refine wp_ret ?_
  exact bodyPost_ret (v := .bool true) (results_tmp1 Tryd.results3 _ _ _ (by kernel_rfl)) (by kernel_rfl) ⟨rfl, below_grown M.old⟩

theorem c_kdftags (key s : ByteArray) (hk : key.size ≤ 140737488351232) (hs : s.size ≤ 140737488351232) (w : World) (hL : Laid w) : Calls Tryd.prog 3 #[.string key, .string s] w fun r w' => r = .returned (.bool true) ∧ Below w.heap.size w w' := by
  by_cases h : key.size + s.size ≤ 2048
  · exact tgB key s hk hs h w hL
  · exact tgA key s hk hs h w hL

end Go.Proofs.YtpfneekmbednoaaDoor
