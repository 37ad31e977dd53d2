/- Numbers and texts that are read: the walks of both sides. -/
import Derived.Test.YtoiodkhmkkhjcaaQ2
namespace Go.Proofs.Ytoiodkhmkkhjcaa
open Go.RowKit

theorem tkV_le (s : ByteArray) (f : Int) (k : Nat) : (tkV s f (k : Int)).size ≤ k := by
  unfold tkV
  split
  · rw [ByteArray.size_extract]
    omega
  · exact Nat.zero_le _
theorem tkV_lt (s : ByteArray) (f n : Int) : (tkV s f n).size ≤ s.size := by
  unfold tkV
  split
  · rw [ByteArray.size_extract]
    omega
  · exact Nat.zero_le _
set_option maxRecDepth 100000 in
set_option maxHeartbeats 4000000 in
set_option linter.unusedSimpArgs false in
theorem c_next1 (g : Nat) (s : ByteArray) (f : Int) (w : World) (hL : Laid w)  (hg : w.heap[g]? = some (.cells (av 3 (ls [.bool true, .string s, .int .i64 f])) 59)) :
    Calls Try.prog 31 #[.pointer (some ⟨g, 0, none⟩)] w fun r w' => r = .returned (.int .u8 (cv .u8 (bnv (tkV s f 1)))) ∧ Grw w w' [g] ∧ w'.heap[g]? = some (.cells (av 3 (ls [.bool true, .string (tkS s f 1), .int .i64 (tkF s f 1)])) 59) := by
  go_enter Try.func31, Try.ntmps31
  have M := Mem.startp hL hg
  have hz : (tkV s f 1).size ≤ 1 := tkV_le s f 1
  refine wp_seq ?_
  refine rg_lit ?_
  refine pl_val (want_no rfl) (some 2) rfl (.int .u8 0) (fun _ => by kernel_rfl) ?_
  refine pl_nil ?_
  refine au_then ?_
  refine wp_seq ?_
  refine rg_lit ?_
  refine pl_val (want_no rfl) (some 3) rfl (.int .u64 0) (fun _ => by kernel_rfl) ?_
  refine pl_nil ?_
  refine au_then ?_
  refine wp_seq ?_
  refine wp_seq ?_
  refine rg_lit ?_
  refine pl_val (want_no rfl) (some 6) rfl (.pointer (some ⟨g, 0, none⟩)) (fun _ => by kernel_rfl) ?_
  refine pl_call M (want_no rfl) (some 7) rfl 39 #[] (.int .i64 1) (fun _ => by kernel_rfl) (fun w M => c_size1 w M.laid) ?_
  intro u1 M
  refine pl_callp M (want_no rfl) (some 8) rfl 20 #[.pointer (some ⟨g, 0, none⟩), .int .i64 1] (.string (tkV s f 1)) 0 g (.cells (av 3 (ls [.bool true, .string s, .int .i64 f])) 59) (.cells (av 3 (ls [.bool true, .string (tkS s f 1), .int .i64 (tkF s f 1)])) 59) rfl (fun _ => by kernel_rfl) (fun w M => c_Take g s f 1 w M.laid (M.get 0 rfl)) ?_
  intro u2 M
  replace M : Mem ⟨w, [g]⟩ [⟨g, .cells (av 3 (ls [.bool true, .string (tkS s f 1), .int .i64 (tkF s f 1)])) 59⟩] u2 := M
  refine pl_conv M (want_no rfl) (some 9) rfl _ rfl (tkV s f 1) (by kernel_rfl) ?_
  intro g1 cap1 Z1 u3 hZ1 M
  replace M : Mem ⟨w, [g]⟩ [⟨g, .cells (av 3 (ls [.bool true, .string (tkS s f 1), .int .i64 (tkF s f 1)])) 59⟩, ⟨g1, Z1⟩] u3 := M
  refine pl_val (want_no rfl) (some 10) rfl (.int .i64 (((tkV s f 1).size : Nat) : Int)) (fun _ => by kernel_rfl) ?_
  refine pl_val (want_no rfl) (some 11) rfl (.int .i64 0) (fun _ => by kernel_rfl) ?_
  refine pl_nil ?_
  refine au_then ?_
  refine wp_block ?_
  refine au_loop (fun j a w' => ∃ v1 : Nat → Value, a = ⟨#[.pointer (some ⟨g, 0, none⟩), undef, .int .u8 0, .int .u64 (bn (tkV s f 1) j), undef, v1 5, .pointer (some ⟨g, 0, none⟩), .int .i64 1, .string (tkV s f 1), .slice (some ⟨g1, 0, none⟩) (tkV s f 1).size cap1, .int .i64 (((tkV s f 1).size : Nat) : Int), .int .i64 (j : Int), v1 12, v1 13, v1 14, v1 15, v1 16, v1 17, v1 18, v1 19, v1 20, undef, undef], []⟩ ∧ Mem ⟨w, [g]⟩ [⟨g, .cells (av 3 (ls [.bool true, .string (tkS s f 1), .int .i64 (tkF s f 1)])) 59⟩, ⟨g1, Z1⟩] w') (tkV s f 1).size ⟨fun k_ => ([undef, undef, undef, undef, undef, undef, undef, undef, undef, undef, undef, undef, undef, undef, undef, undef] : List Value).getD (k_ - 5) undef, by kernel_rfl, M⟩ ?_ ?_
  · intro j a u0 hj hI
    obtain ⟨v1, rfl, M⟩ := hI
    refine wp_seq ?_
    refine rg_lit ?_
    refine pl_val (want_no rfl) (some 12) rfl (.bool true) (fun w => Eq.trans (b := .ok (.value (.bool (decide ((j : Int) < (((tkV s f 1).size : Nat) : Int))))) w) (by kernel_rfl) (by rw [decide_eq_true (by omega)])) ?_
    refine pl_nil ?_
    refine au_then ?_
    refine wp_seq ?_
    refine wp_cond_true (by kernel_rfl) ?_
    refine wp_skip ?_
    refine au_then ?_
    refine wp_seq ?_
    refine wp_block ?_
    refine wp_seq ?_
    refine rg_lit ?_
    refine pl_val (want_no rfl) (some 13) rfl (.pointer (some ⟨g1, j, none⟩)) (run_ix0 56 5 Try.underlying56 inz5 _ _ rfl g1 ((tkV s f 1).size) cap1 (by kernel_rfl) .i64 j (by kernel_rfl) (by omega)) ?_
    refine pl_cell M (want_no rfl) (some 14) rfl 5 _ rfl g1 j (by kernel_rfl) (.int .u8 (bt (tkV s f 1) j)) (fun _ => by kernel_rfl) (fun w M => hZ1.cell (M.get 1 rfl) (vs8_sb _ _ (by omega))) ?_
    refine pl_val (want_no rfl) (some 5) rfl (.int .u8 (bt (tkV s f 1) j)) (fun _ => by kernel_rfl) ?_
    refine pl_nil ?_
    refine au_then ?_
    refine rg_lit ?_
    refine pl_val (want_no rfl) (some 15) rfl (.int .u64 (bn (tkV s f 1) j)) (fun _ => by kernel_rfl) ?_
    refine pl_val (want_no rfl) (some 16) rfl (.int .u64 (sl (bn (tkV s f 1) j) 8)) (fun _ => by kernel_rfl) ?_
    refine pl_val (want_no rfl) (some 17) rfl (.int .u8 (bt (tkV s f 1) j)) (fun _ => by kernel_rfl) ?_
    refine pl_val (want_no rfl) (some 18) rfl (.int .u64 (cv .u64 (bt (tkV s f 1) j))) (fun _ => by kernel_rfl) ?_
    refine pl_val (want_no rfl) (some 19) rfl (.int .u64 (uo (sl (bn (tkV s f 1) j) 8) (cv .u64 (bt (tkV s f 1) j)))) (fun _ => by kernel_rfl) ?_
    refine pl_val (want_no rfl) (some 3) rfl (.int .u64 (uo (sl (bn (tkV s f 1) j) 8) (cv .u64 (bt (tkV s f 1) j)))) (fun _ => by kernel_rfl) ?_
    refine pl_nil ?_
    refine au_block ?_
    refine au_then ?_
    refine rg_lit ?_
    refine pl_val (want_no rfl) (some 20) rfl (.int .i64 ((j + 1 : Nat) : Int)) (fun w => Eq.trans (b := .ok (.value (.int .i64 (IntKind.wrap .i64 ((j : Int) + 1)))) w) (by kernel_rfl) (by rw [wrap64 (by omega) (by omega)]; congr 3)) ?_
    refine pl_val (want_no rfl) (some 11) rfl (.int .i64 ((j + 1 : Nat) : Int)) (fun _ => by kernel_rfl) ?_
    refine pl_nil ?_
    refine au_then ?_
    exact ⟨fun k_ => ([.int .u8 (bt (tkV s f 1) j), undef, undef, undef, undef, undef, undef, .bool true, .pointer (some ⟨g1, j, none⟩), .int .u8 (bt (tkV s f 1) j), .int .u64 (bn (tkV s f 1) j), .int .u64 (sl (bn (tkV s f 1) j) 8), .int .u8 (bt (tkV s f 1) j), .int .u64 (cv .u64 (bt (tkV s f 1) j)), .int .u64 (uo (sl (bn (tkV s f 1) j) 8) (cv .u64 (bt (tkV s f 1) j))), .int .i64 ((j + 1 : Nat) : Int)] : List Value).getD (k_ - 5) undef, by kernel_rfl, M⟩
  · intro a u0 hI
    obtain ⟨v1, rfl, M⟩ := hI
    refine wp_seq ?_
    refine rg_lit ?_
    refine pl_val (want_no rfl) (some 12) rfl (.bool false) (fun w => Eq.trans (b := .ok (.value (.bool (decide ((((tkV s f 1).size : Nat) : Int) < (((tkV s f 1).size : Nat) : Int))))) w) (by kernel_rfl) (by rw [decide_eq_false (by omega)])) ?_
    refine pl_nil ?_
    refine au_then ?_
    refine wp_seq ?_
    refine wp_cond_false (by kernel_rfl) ?_
    refine wp_exit ?_
    refine au_then_exit ?_
    refine au_then_exit ?_
    refine au_block_exit ?_
    refine au_then ?_
    refine wp_seq ?_
    refine rg_lit ?_
    refine pl_val (want_no rfl) (some 21) rfl (.int .u64 (bn (tkV s f 1) ((tkV s f 1).size))) (fun _ => by kernel_rfl) ?_
    refine pl_val (want_no rfl) (some 22) rfl (.int .u8 (cv .u8 (bn (tkV s f 1) ((tkV s f 1).size)))) (fun _ => by kernel_rfl) ?_
    refine pl_val (want_no rfl) (some 2) rfl (.int .u8 (cv .u8 (bn (tkV s f 1) ((tkV s f 1).size)))) (fun _ => by kernel_rfl) ?_
    refine pl_nil ?_
    refine au_then ?_
    refine wp_ret ?_
    have e0 : (cv .u8 (bnv (tkV s f 1))) = (cv .u8 (bn (tkV s f 1) ((tkV s f 1).size))) := rfl
    exact bodyPost_ret (v := .int .u8 (cv .u8 (bn (tkV s f 1) ((tkV s f 1).size)))) (results_tmp1 Try.results31 _ _ _ (by kernel_rfl)) (by kernel_rfl) ⟨by simp only [e0], M.old, by simpa only [e0] using M.get 0 rfl⟩

set_option maxRecDepth 100000 in
set_option maxHeartbeats 4000000 in
set_option linter.unusedSimpArgs false in
theorem n_next1  (w : World) (hL : Laid w)  :
    Calls Try.prog 31 #[.pointer none] w fun r w' => r = .returned (.int .u8 0) ∧ Below w.heap.size w w' := by
  go_enter Try.func31, Try.ntmps31
  have M := Mem.start hL
  refine wp_seq ?_
  refine rg_lit ?_
  refine pl_val (want_no rfl) (some 2) rfl (.int .u8 0) (fun _ => by kernel_rfl) ?_
  refine pl_nil ?_
  refine au_then ?_
  refine wp_seq ?_
  refine rg_lit ?_
  refine pl_val (want_no rfl) (some 3) rfl (.int .u64 0) (fun _ => by kernel_rfl) ?_
  refine pl_nil ?_
  refine au_then ?_
  refine wp_seq ?_
  refine wp_seq ?_
  refine rg_lit ?_
  refine pl_val (want_no rfl) (some 6) rfl (.pointer none) (fun _ => by kernel_rfl) ?_
  refine pl_call M (want_no rfl) (some 7) rfl 39 #[] (.int .i64 1) (fun _ => by kernel_rfl) (fun w M => c_size1 w M.laid) ?_
  intro u1 M
  refine pl_call M (want_no rfl) (some 8) rfl 20 #[.pointer none, .int .i64 1] (.string ⟨#[]⟩) (fun _ => by kernel_rfl) (fun w M => n_Take 1 w M.laid) ?_
  intro u2 M
  refine pl_conv M (want_no rfl) (some 9) rfl _ rfl (⟨#[]⟩ : ByteArray) (by kernel_rfl) ?_
  intro g1 cap1 Z1 u3 hZ1 M
  replace M : Mem ⟨w, []⟩ [⟨g1, Z1⟩] u3 := M
  refine pl_val (want_no rfl) (some 10) rfl (.int .i64 (((⟨#[]⟩ : ByteArray).size : Nat) : Int)) (fun _ => by kernel_rfl) ?_
  refine pl_val (want_no rfl) (some 11) rfl (.int .i64 0) (fun _ => by kernel_rfl) ?_
  refine pl_nil ?_
  refine au_then ?_
  refine wp_block ?_
  refine wp_loop_rounds 1 ?_
  refine rounds_go ?_
  refine wp_seq ?_
  refine rg_lit ?_
  refine pl_val (want_no rfl) (some 12) rfl (.bool false) (fun _ => by kernel_rfl) ?_
  refine pl_nil ?_
  refine au_then ?_
  refine wp_seq ?_
  refine wp_cond_false (by kernel_rfl) ?_
  refine wp_exit ?_
  refine au_then_exit ?_
  refine au_then_exit ?_
  refine au_block_exit ?_
  refine au_then ?_
  refine wp_seq ?_
  refine rg_lit ?_
  refine pl_val (want_no rfl) (some 21) rfl (.int .u64 0) (fun _ => by kernel_rfl) ?_
  refine pl_val (want_no rfl) (some 22) rfl (.int .u8 0) (fun _ => by kernel_rfl) ?_
  refine pl_val (want_no rfl) (some 2) rfl (.int .u8 0) (fun _ => by kernel_rfl) ?_
  refine pl_nil ?_
  refine au_then ?_
  refine wp_ret ?_
  exact bodyPost_ret (v := .int .u8 0) (results_tmp1 Try.results31 _ _ _ (by kernel_rfl)) (by kernel_rfl) ⟨rfl, below_grown M.old⟩

set_option maxRecDepth 100000 in
set_option maxHeartbeats 4000000 in
set_option linter.unusedSimpArgs false in
theorem r_U8 (g : Nat) (s : ByteArray) (f : Int) (w : World) (hL : Laid w)  (hg : w.heap[g]? = some (.cells (av 3 (ls [.bool true, .string s, .int .i64 f])) 59)) :
    Calls Try.prog 15 #[.pointer (some ⟨g, 0, none⟩)] w fun r w' => r = .returned (.int .u8 (cv .u8 (bnv (tkV s f 1)))) ∧ Grw w w' [g] ∧ w'.heap[g]? = some (.cells (av 3 (ls [.bool true, .string (tkS s f 1), .int .i64 (tkF s f 1)])) 59) := by
  go_enter Try.func15, Try.ntmps15
  have M := Mem.startp hL hg
  refine wp_seq ?_
  refine rg_lit ?_
  refine pl_val (want_no rfl) (some 2) rfl (.int .u8 0) (fun _ => by kernel_rfl) ?_
  refine pl_nil ?_
  refine au_then ?_
  refine wp_seq ?_
  refine rg_lit ?_
  refine pl_val (want_no rfl) (some 3) rfl (.pointer (some ⟨g, 0, none⟩)) (fun _ => by kernel_rfl) ?_
  refine pl_callp M (want_no rfl) (some 4) rfl 31 #[.pointer (some ⟨g, 0, none⟩)] (.int .u8 (cv .u8 (bnv (tkV s f 1)))) 0 g (.cells (av 3 (ls [.bool true, .string s, .int .i64 f])) 59) (.cells (av 3 (ls [.bool true, .string (tkS s f 1), .int .i64 (tkF s f 1)])) 59) rfl (fun _ => by kernel_rfl) (fun w M => c_next1 g s f w M.laid (M.get 0 rfl)) ?_
  intro u1 M
  replace M : Mem ⟨w, [g]⟩ [⟨g, .cells (av 3 (ls [.bool true, .string (tkS s f 1), .int .i64 (tkF s f 1)])) 59⟩] u1 := M
  refine pl_val (want_no rfl) (some 2) rfl (.int .u8 (cv .u8 (bnv (tkV s f 1)))) (fun _ => by kernel_rfl) ?_
  refine pl_nil ?_
  refine au_then ?_
  refine wp_ret ?_
  exact bodyPost_ret (v := .int .u8 (cv .u8 (bnv (tkV s f 1)))) (results_tmp1 Try.results15 _ _ _ (by kernel_rfl)) (by kernel_rfl) ⟨rfl, M.old, M.get 0 rfl⟩

set_option maxRecDepth 100000 in
set_option maxHeartbeats 4000000 in
set_option linter.unusedSimpArgs false in
theorem n_U8  (w : World) (hL : Laid w)  :
    Calls Try.prog 15 #[.pointer none] w fun r w' => r = .returned (.int .u8 0) ∧ Below w.heap.size w w' := by
  go_enter Try.func15, Try.ntmps15
  have M := Mem.start hL
  refine wp_seq ?_
  refine rg_lit ?_
  refine pl_val (want_no rfl) (some 2) rfl (.int .u8 0) (fun _ => by kernel_rfl) ?_
  refine pl_nil ?_
  refine au_then ?_
  refine wp_seq ?_
  refine rg_lit ?_
  refine pl_val (want_no rfl) (some 3) rfl (.pointer none) (fun _ => by kernel_rfl) ?_
  refine pl_call M (want_no rfl) (some 4) rfl 31 #[.pointer none] (.int .u8 0) (fun _ => by kernel_rfl) (fun w M => n_next1 w M.laid) ?_
  intro u1 M
  refine pl_val (want_no rfl) (some 2) rfl (.int .u8 0) (fun _ => by kernel_rfl) ?_
  refine pl_nil ?_
  refine au_then ?_
  refine wp_ret ?_
  exact bodyPost_ret (v := .int .u8 0) (results_tmp1 Try.results15 _ _ _ (by kernel_rfl)) (by kernel_rfl) ⟨rfl, below_grown M.old⟩

set_option maxRecDepth 100000 in
set_option maxHeartbeats 4000000 in
set_option linter.unusedSimpArgs false in
theorem c_next2 (g : Nat) (s : ByteArray) (f : Int) (w : World) (hL : Laid w)  (hg : w.heap[g]? = some (.cells (av 3 (ls [.bool true, .string s, .int .i64 f])) 59)) :
    Calls Try.prog 32 #[.pointer (some ⟨g, 0, none⟩)] w fun r w' => r = .returned (.int .u16 (cv .u16 (bnv (tkV s f 2)))) ∧ Grw w w' [g] ∧ w'.heap[g]? = some (.cells (av 3 (ls [.bool true, .string (tkS s f 2), .int .i64 (tkF s f 2)])) 59) := by
  go_enter Try.func32, Try.ntmps32
  have M := Mem.startp hL hg
  have hz : (tkV s f 2).size ≤ 2 := tkV_le s f 2
  refine wp_seq ?_
  refine rg_lit ?_
  refine pl_val (want_no rfl) (some 2) rfl (.int .u16 0) (fun _ => by kernel_rfl) ?_
  refine pl_nil ?_
  refine au_then ?_
  refine wp_seq ?_
  refine rg_lit ?_
  refine pl_val (want_no rfl) (some 3) rfl (.int .u64 0) (fun _ => by kernel_rfl) ?_
  refine pl_nil ?_
  refine au_then ?_
  refine wp_seq ?_
  refine wp_seq ?_
  refine rg_lit ?_
  refine pl_val (want_no rfl) (some 6) rfl (.pointer (some ⟨g, 0, none⟩)) (fun _ => by kernel_rfl) ?_
  refine pl_call M (want_no rfl) (some 7) rfl 36 #[] (.int .i64 2) (fun _ => by kernel_rfl) (fun w M => c_size2 w M.laid) ?_
  intro u1 M
  refine pl_callp M (want_no rfl) (some 8) rfl 20 #[.pointer (some ⟨g, 0, none⟩), .int .i64 2] (.string (tkV s f 2)) 0 g (.cells (av 3 (ls [.bool true, .string s, .int .i64 f])) 59) (.cells (av 3 (ls [.bool true, .string (tkS s f 2), .int .i64 (tkF s f 2)])) 59) rfl (fun _ => by kernel_rfl) (fun w M => c_Take g s f 2 w M.laid (M.get 0 rfl)) ?_
  intro u2 M
  replace M : Mem ⟨w, [g]⟩ [⟨g, .cells (av 3 (ls [.bool true, .string (tkS s f 2), .int .i64 (tkF s f 2)])) 59⟩] u2 := M
  refine pl_conv M (want_no rfl) (some 9) rfl _ rfl (tkV s f 2) (by kernel_rfl) ?_
  intro g1 cap1 Z1 u3 hZ1 M
  replace M : Mem ⟨w, [g]⟩ [⟨g, .cells (av 3 (ls [.bool true, .string (tkS s f 2), .int .i64 (tkF s f 2)])) 59⟩, ⟨g1, Z1⟩] u3 := M
  refine pl_val (want_no rfl) (some 10) rfl (.int .i64 (((tkV s f 2).size : Nat) : Int)) (fun _ => by kernel_rfl) ?_
  refine pl_val (want_no rfl) (some 11) rfl (.int .i64 0) (fun _ => by kernel_rfl) ?_
  refine pl_nil ?_
  refine au_then ?_
  refine wp_block ?_
  refine au_loop (fun j a w' => ∃ v1 : Nat → Value, a = ⟨#[.pointer (some ⟨g, 0, none⟩), undef, .int .u16 0, .int .u64 (bn (tkV s f 2) j), undef, v1 5, .pointer (some ⟨g, 0, none⟩), .int .i64 2, .string (tkV s f 2), .slice (some ⟨g1, 0, none⟩) (tkV s f 2).size cap1, .int .i64 (((tkV s f 2).size : Nat) : Int), .int .i64 (j : Int), v1 12, v1 13, v1 14, v1 15, v1 16, v1 17, v1 18, v1 19, v1 20, undef, undef], []⟩ ∧ Mem ⟨w, [g]⟩ [⟨g, .cells (av 3 (ls [.bool true, .string (tkS s f 2), .int .i64 (tkF s f 2)])) 59⟩, ⟨g1, Z1⟩] w') (tkV s f 2).size ⟨fun k_ => ([undef, undef, undef, undef, undef, undef, undef, undef, undef, undef, undef, undef, undef, undef, undef, undef] : List Value).getD (k_ - 5) undef, by kernel_rfl, M⟩ ?_ ?_
  · intro j a u0 hj hI
    obtain ⟨v1, rfl, M⟩ := hI
    refine wp_seq ?_
    refine rg_lit ?_
    refine pl_val (want_no rfl) (some 12) rfl (.bool true) (fun w => Eq.trans (b := .ok (.value (.bool (decide ((j : Int) < (((tkV s f 2).size : Nat) : Int))))) w) (by kernel_rfl) (by rw [decide_eq_true (by omega)])) ?_
    refine pl_nil ?_
    refine au_then ?_
    refine wp_seq ?_
    refine wp_cond_true (by kernel_rfl) ?_
    refine wp_skip ?_
    refine au_then ?_
    refine wp_seq ?_
    refine wp_block ?_
    refine wp_seq ?_
    refine rg_lit ?_
    refine pl_val (want_no rfl) (some 13) rfl (.pointer (some ⟨g1, j, none⟩)) (run_ix0 56 5 Try.underlying56 inz5 _ _ rfl g1 ((tkV s f 2).size) cap1 (by kernel_rfl) .i64 j (by kernel_rfl) (by omega)) ?_
    refine pl_cell M (want_no rfl) (some 14) rfl 5 _ rfl g1 j (by kernel_rfl) (.int .u8 (bt (tkV s f 2) j)) (fun _ => by kernel_rfl) (fun w M => hZ1.cell (M.get 1 rfl) (vs8_sb _ _ (by omega))) ?_
    refine pl_val (want_no rfl) (some 5) rfl (.int .u8 (bt (tkV s f 2) j)) (fun _ => by kernel_rfl) ?_
    refine pl_nil ?_
    refine au_then ?_
    refine rg_lit ?_
    refine pl_val (want_no rfl) (some 15) rfl (.int .u64 (bn (tkV s f 2) j)) (fun _ => by kernel_rfl) ?_
    refine pl_val (want_no rfl) (some 16) rfl (.int .u64 (sl (bn (tkV s f 2) j) 8)) (fun _ => by kernel_rfl) ?_
    refine pl_val (want_no rfl) (some 17) rfl (.int .u8 (bt (tkV s f 2) j)) (fun _ => by kernel_rfl) ?_
    refine pl_val (want_no rfl) (some 18) rfl (.int .u64 (cv .u64 (bt (tkV s f 2) j))) (fun _ => by kernel_rfl) ?_
    refine pl_val (want_no rfl) (some 19) rfl (.int .u64 (uo (sl (bn (tkV s f 2) j) 8) (cv .u64 (bt (tkV s f 2) j)))) (fun _ => by kernel_rfl) ?_
    refine pl_val (want_no rfl) (some 3) rfl (.int .u64 (uo (sl (bn (tkV s f 2) j) 8) (cv .u64 (bt (tkV s f 2) j)))) (fun _ => by kernel_rfl) ?_
    refine pl_nil ?_
    refine au_block ?_
    refine au_then ?_
    refine rg_lit ?_
    refine pl_val (want_no rfl) (some 20) rfl (.int .i64 ((j + 1 : Nat) : Int)) (fun w => Eq.trans (b := .ok (.value (.int .i64 (IntKind.wrap .i64 ((j : Int) + 1)))) w) (by kernel_rfl) (by rw [wrap64 (by omega) (by omega)]; congr 3)) ?_
    refine pl_val (want_no rfl) (some 11) rfl (.int .i64 ((j + 1 : Nat) : Int)) (fun _ => by kernel_rfl) ?_
    refine pl_nil ?_
    refine au_then ?_
    exact ⟨fun k_ => ([.int .u8 (bt (tkV s f 2) j), undef, undef, undef, undef, undef, undef, .bool true, .pointer (some ⟨g1, j, none⟩), .int .u8 (bt (tkV s f 2) j), .int .u64 (bn (tkV s f 2) j), .int .u64 (sl (bn (tkV s f 2) j) 8), .int .u8 (bt (tkV s f 2) j), .int .u64 (cv .u64 (bt (tkV s f 2) j)), .int .u64 (uo (sl (bn (tkV s f 2) j) 8) (cv .u64 (bt (tkV s f 2) j))), .int .i64 ((j + 1 : Nat) : Int)] : List Value).getD (k_ - 5) undef, by kernel_rfl, M⟩
  · intro a u0 hI
    obtain ⟨v1, rfl, M⟩ := hI
    refine wp_seq ?_
    refine rg_lit ?_
    refine pl_val (want_no rfl) (some 12) rfl (.bool false) (fun w => Eq.trans (b := .ok (.value (.bool (decide ((((tkV s f 2).size : Nat) : Int) < (((tkV s f 2).size : Nat) : Int))))) w) (by kernel_rfl) (by rw [decide_eq_false (by omega)])) ?_
    refine pl_nil ?_
    refine au_then ?_
    refine wp_seq ?_
    refine wp_cond_false (by kernel_rfl) ?_
    refine wp_exit ?_
    refine au_then_exit ?_
    refine au_then_exit ?_
    refine au_block_exit ?_
    refine au_then ?_
    refine wp_seq ?_
    refine rg_lit ?_
    refine pl_val (want_no rfl) (some 21) rfl (.int .u64 (bn (tkV s f 2) ((tkV s f 2).size))) (fun _ => by kernel_rfl) ?_
    refine pl_val (want_no rfl) (some 22) rfl (.int .u16 (cv .u16 (bn (tkV s f 2) ((tkV s f 2).size)))) (fun _ => by kernel_rfl) ?_
    refine pl_val (want_no rfl) (some 2) rfl (.int .u16 (cv .u16 (bn (tkV s f 2) ((tkV s f 2).size)))) (fun _ => by kernel_rfl) ?_
    refine pl_nil ?_
    refine au_then ?_
    refine wp_ret ?_
    have e0 : (cv .u16 (bnv (tkV s f 2))) = (cv .u16 (bn (tkV s f 2) ((tkV s f 2).size))) := rfl
    exact bodyPost_ret (v := .int .u16 (cv .u16 (bn (tkV s f 2) ((tkV s f 2).size)))) (results_tmp1 Try.results32 _ _ _ (by kernel_rfl)) (by kernel_rfl) ⟨by simp only [e0], M.old, by simpa only [e0] using M.get 0 rfl⟩

set_option maxRecDepth 100000 in
set_option maxHeartbeats 4000000 in
set_option linter.unusedSimpArgs false in
theorem n_next2  (w : World) (hL : Laid w)  :
    Calls Try.prog 32 #[.pointer none] w fun r w' => r = .returned (.int .u16 0) ∧ Below w.heap.size w w' := by
  go_enter Try.func32, Try.ntmps32
  have M := Mem.start hL
  refine wp_seq ?_
  refine rg_lit ?_
  refine pl_val (want_no rfl) (some 2) rfl (.int .u16 0) (fun _ => by kernel_rfl) ?_
  refine pl_nil ?_
  refine au_then ?_
  refine wp_seq ?_
  refine rg_lit ?_
  refine pl_val (want_no rfl) (some 3) rfl (.int .u64 0) (fun _ => by kernel_rfl) ?_
  refine pl_nil ?_
  refine au_then ?_
  refine wp_seq ?_
  refine wp_seq ?_
  refine rg_lit ?_
  refine pl_val (want_no rfl) (some 6) rfl (.pointer none) (fun _ => by kernel_rfl) ?_
  refine pl_call M (want_no rfl) (some 7) rfl 36 #[] (.int .i64 2) (fun _ => by kernel_rfl) (fun w M => c_size2 w M.laid) ?_
  intro u1 M
  refine pl_call M (want_no rfl) (some 8) rfl 20 #[.pointer none, .int .i64 2] (.string ⟨#[]⟩) (fun _ => by kernel_rfl) (fun w M => n_Take 2 w M.laid) ?_
  intro u2 M
  refine pl_conv M (want_no rfl) (some 9) rfl _ rfl (⟨#[]⟩ : ByteArray) (by kernel_rfl) ?_
  intro g1 cap1 Z1 u3 hZ1 M
  replace M : Mem ⟨w, []⟩ [⟨g1, Z1⟩] u3 := M
  refine pl_val (want_no rfl) (some 10) rfl (.int .i64 (((⟨#[]⟩ : ByteArray).size : Nat) : Int)) (fun _ => by kernel_rfl) ?_
  refine pl_val (want_no rfl) (some 11) rfl (.int .i64 0) (fun _ => by kernel_rfl) ?_
  refine pl_nil ?_
  refine au_then ?_
  refine wp_block ?_
  refine wp_loop_rounds 1 ?_
  refine rounds_go ?_
  refine wp_seq ?_
  refine rg_lit ?_
  refine pl_val (want_no rfl) (some 12) rfl (.bool false) (fun _ => by kernel_rfl) ?_
  refine pl_nil ?_
  refine au_then ?_
  refine wp_seq ?_
  refine wp_cond_false (by kernel_rfl) ?_
  refine wp_exit ?_
  refine au_then_exit ?_
  refine au_then_exit ?_
  refine au_block_exit ?_
  refine au_then ?_
  refine wp_seq ?_
  refine rg_lit ?_
  refine pl_val (want_no rfl) (some 21) rfl (.int .u64 0) (fun _ => by kernel_rfl) ?_
  refine pl_val (want_no rfl) (some 22) rfl (.int .u16 0) (fun _ => by kernel_rfl) ?_
  refine pl_val (want_no rfl) (some 2) rfl (.int .u16 0) (fun _ => by kernel_rfl) ?_
  refine pl_nil ?_
  refine au_then ?_
  refine wp_ret ?_
  exact bodyPost_ret (v := .int .u16 0) (results_tmp1 Try.results32 _ _ _ (by kernel_rfl)) (by kernel_rfl) ⟨rfl, below_grown M.old⟩

set_option maxRecDepth 100000 in
set_option maxHeartbeats 4000000 in
set_option linter.unusedSimpArgs false in
theorem r_U16 (g : Nat) (s : ByteArray) (f : Int) (w : World) (hL : Laid w)  (hg : w.heap[g]? = some (.cells (av 3 (ls [.bool true, .string s, .int .i64 f])) 59)) :
    Calls Try.prog 17 #[.pointer (some ⟨g, 0, none⟩)] w fun r w' => r = .returned (.int .u16 (cv .u16 (bnv (tkV s f 2)))) ∧ Grw w w' [g] ∧ w'.heap[g]? = some (.cells (av 3 (ls [.bool true, .string (tkS s f 2), .int .i64 (tkF s f 2)])) 59) := by
  go_enter Try.func17, Try.ntmps17
  have M := Mem.startp hL hg
  refine wp_seq ?_
  refine rg_lit ?_
  refine pl_val (want_no rfl) (some 2) rfl (.int .u16 0) (fun _ => by kernel_rfl) ?_
  refine pl_nil ?_
  refine au_then ?_
  refine wp_seq ?_
  refine rg_lit ?_
  refine pl_val (want_no rfl) (some 3) rfl (.pointer (some ⟨g, 0, none⟩)) (fun _ => by kernel_rfl) ?_
  refine pl_callp M (want_no rfl) (some 4) rfl 32 #[.pointer (some ⟨g, 0, none⟩)] (.int .u16 (cv .u16 (bnv (tkV s f 2)))) 0 g (.cells (av 3 (ls [.bool true, .string s, .int .i64 f])) 59) (.cells (av 3 (ls [.bool true, .string (tkS s f 2), .int .i64 (tkF s f 2)])) 59) rfl (fun _ => by kernel_rfl) (fun w M => c_next2 g s f w M.laid (M.get 0 rfl)) ?_
  intro u1 M
  replace M : Mem ⟨w, [g]⟩ [⟨g, .cells (av 3 (ls [.bool true, .string (tkS s f 2), .int .i64 (tkF s f 2)])) 59⟩] u1 := M
  refine pl_val (want_no rfl) (some 2) rfl (.int .u16 (cv .u16 (bnv (tkV s f 2)))) (fun _ => by kernel_rfl) ?_
  refine pl_nil ?_
  refine au_then ?_
  refine wp_ret ?_
  exact bodyPost_ret (v := .int .u16 (cv .u16 (bnv (tkV s f 2)))) (results_tmp1 Try.results17 _ _ _ (by kernel_rfl)) (by kernel_rfl) ⟨rfl, M.old, M.get 0 rfl⟩

set_option maxRecDepth 100000 in
set_option maxHeartbeats 4000000 in
set_option linter.unusedSimpArgs false in
theorem n_U16  (w : World) (hL : Laid w)  :
    Calls Try.prog 17 #[.pointer none] w fun r w' => r = .returned (.int .u16 0) ∧ Below w.heap.size w w' := by
  go_enter Try.func17, Try.ntmps17
  have M := Mem.start hL
  refine wp_seq ?_
  refine rg_lit ?_
  refine pl_val (want_no rfl) (some 2) rfl (.int .u16 0) (fun _ => by kernel_rfl) ?_
  refine pl_nil ?_
  refine au_then ?_
  refine wp_seq ?_
  refine rg_lit ?_
  refine pl_val (want_no rfl) (some 3) rfl (.pointer none) (fun _ => by kernel_rfl) ?_
  refine pl_call M (want_no rfl) (some 4) rfl 32 #[.pointer none] (.int .u16 0) (fun _ => by kernel_rfl) (fun w M => n_next2 w M.laid) ?_
  intro u1 M
  refine pl_val (want_no rfl) (some 2) rfl (.int .u16 0) (fun _ => by kernel_rfl) ?_
  refine pl_nil ?_
  refine au_then ?_
  refine wp_ret ?_
  exact bodyPost_ret (v := .int .u16 0) (results_tmp1 Try.results17 _ _ _ (by kernel_rfl)) (by kernel_rfl) ⟨rfl, below_grown M.old⟩

set_option maxRecDepth 100000 in
set_option maxHeartbeats 4000000 in
set_option linter.unusedSimpArgs false in
theorem c_next4 (g : Nat) (s : ByteArray) (f : Int) (w : World) (hL : Laid w)  (hg : w.heap[g]? = some (.cells (av 3 (ls [.bool true, .string s, .int .i64 f])) 59)) :
    Calls Try.prog 33 #[.pointer (some ⟨g, 0, none⟩)] w fun r w' => r = .returned (.int .u32 (cv .u32 (bnv (tkV s f 4)))) ∧ Grw w w' [g] ∧ w'.heap[g]? = some (.cells (av 3 (ls [.bool true, .string (tkS s f 4), .int .i64 (tkF s f 4)])) 59) := by
  go_enter Try.func33, Try.ntmps33
  have M := Mem.startp hL hg
  have hz : (tkV s f 4).size ≤ 4 := tkV_le s f 4
  refine wp_seq ?_
  refine rg_lit ?_
  refine pl_val (want_no rfl) (some 2) rfl (.int .u32 0) (fun _ => by kernel_rfl) ?_
  refine pl_nil ?_
  refine au_then ?_
  refine wp_seq ?_
  refine rg_lit ?_
  refine pl_val (want_no rfl) (some 3) rfl (.int .u64 0) (fun _ => by kernel_rfl) ?_
  refine pl_nil ?_
  refine au_then ?_
  refine wp_seq ?_
  refine wp_seq ?_
  refine rg_lit ?_
  refine pl_val (want_no rfl) (some 6) rfl (.pointer (some ⟨g, 0, none⟩)) (fun _ => by kernel_rfl) ?_
  refine pl_call M (want_no rfl) (some 7) rfl 37 #[] (.int .i64 4) (fun _ => by kernel_rfl) (fun w M => c_size4 w M.laid) ?_
  intro u1 M
  refine pl_callp M (want_no rfl) (some 8) rfl 20 #[.pointer (some ⟨g, 0, none⟩), .int .i64 4] (.string (tkV s f 4)) 0 g (.cells (av 3 (ls [.bool true, .string s, .int .i64 f])) 59) (.cells (av 3 (ls [.bool true, .string (tkS s f 4), .int .i64 (tkF s f 4)])) 59) rfl (fun _ => by kernel_rfl) (fun w M => c_Take g s f 4 w M.laid (M.get 0 rfl)) ?_
  intro u2 M
  replace M : Mem ⟨w, [g]⟩ [⟨g, .cells (av 3 (ls [.bool true, .string (tkS s f 4), .int .i64 (tkF s f 4)])) 59⟩] u2 := M
  refine pl_conv M (want_no rfl) (some 9) rfl _ rfl (tkV s f 4) (by kernel_rfl) ?_
  intro g1 cap1 Z1 u3 hZ1 M
  replace M : Mem ⟨w, [g]⟩ [⟨g, .cells (av 3 (ls [.bool true, .string (tkS s f 4), .int .i64 (tkF s f 4)])) 59⟩, ⟨g1, Z1⟩] u3 := M
  refine pl_val (want_no rfl) (some 10) rfl (.int .i64 (((tkV s f 4).size : Nat) : Int)) (fun _ => by kernel_rfl) ?_
  refine pl_val (want_no rfl) (some 11) rfl (.int .i64 0) (fun _ => by kernel_rfl) ?_
  refine pl_nil ?_
  refine au_then ?_
  refine wp_block ?_
  refine au_loop (fun j a w' => ∃ v1 : Nat → Value, a = ⟨#[.pointer (some ⟨g, 0, none⟩), undef, .int .u32 0, .int .u64 (bn (tkV s f 4) j), undef, v1 5, .pointer (some ⟨g, 0, none⟩), .int .i64 4, .string (tkV s f 4), .slice (some ⟨g1, 0, none⟩) (tkV s f 4).size cap1, .int .i64 (((tkV s f 4).size : Nat) : Int), .int .i64 (j : Int), v1 12, v1 13, v1 14, v1 15, v1 16, v1 17, v1 18, v1 19, v1 20, undef, undef], []⟩ ∧ Mem ⟨w, [g]⟩ [⟨g, .cells (av 3 (ls [.bool true, .string (tkS s f 4), .int .i64 (tkF s f 4)])) 59⟩, ⟨g1, Z1⟩] w') (tkV s f 4).size ⟨fun k_ => ([undef, undef, undef, undef, undef, undef, undef, undef, undef, undef, undef, undef, undef, undef, undef, undef] : List Value).getD (k_ - 5) undef, by kernel_rfl, M⟩ ?_ ?_
  · intro j a u0 hj hI
    obtain ⟨v1, rfl, M⟩ := hI
    refine wp_seq ?_
    refine rg_lit ?_
    refine pl_val (want_no rfl) (some 12) rfl (.bool true) (fun w => Eq.trans (b := .ok (.value (.bool (decide ((j : Int) < (((tkV s f 4).size : Nat) : Int))))) w) (by kernel_rfl) (by rw [decide_eq_true (by omega)])) ?_
    refine pl_nil ?_
    refine au_then ?_
    refine wp_seq ?_
    refine wp_cond_true (by kernel_rfl) ?_
    refine wp_skip ?_
    refine au_then ?_
    refine wp_seq ?_
    refine wp_block ?_
    refine wp_seq ?_
    refine rg_lit ?_
    refine pl_val (want_no rfl) (some 13) rfl (.pointer (some ⟨g1, j, none⟩)) (run_ix0 56 5 Try.underlying56 inz5 _ _ rfl g1 ((tkV s f 4).size) cap1 (by kernel_rfl) .i64 j (by kernel_rfl) (by omega)) ?_
    refine pl_cell M (want_no rfl) (some 14) rfl 5 _ rfl g1 j (by kernel_rfl) (.int .u8 (bt (tkV s f 4) j)) (fun _ => by kernel_rfl) (fun w M => hZ1.cell (M.get 1 rfl) (vs8_sb _ _ (by omega))) ?_
    refine pl_val (want_no rfl) (some 5) rfl (.int .u8 (bt (tkV s f 4) j)) (fun _ => by kernel_rfl) ?_
    refine pl_nil ?_
    refine au_then ?_
    refine rg_lit ?_
    refine pl_val (want_no rfl) (some 15) rfl (.int .u64 (bn (tkV s f 4) j)) (fun _ => by kernel_rfl) ?_
    refine pl_val (want_no rfl) (some 16) rfl (.int .u64 (sl (bn (tkV s f 4) j) 8)) (fun _ => by kernel_rfl) ?_
    refine pl_val (want_no rfl) (some 17) rfl (.int .u8 (bt (tkV s f 4) j)) (fun _ => by kernel_rfl) ?_
    refine pl_val (want_no rfl) (some 18) rfl (.int .u64 (cv .u64 (bt (tkV s f 4) j))) (fun _ => by kernel_rfl) ?_
    refine pl_val (want_no rfl) (some 19) rfl (.int .u64 (uo (sl (bn (tkV s f 4) j) 8) (cv .u64 (bt (tkV s f 4) j)))) (fun _ => by kernel_rfl) ?_
    refine pl_val (want_no rfl) (some 3) rfl (.int .u64 (uo (sl (bn (tkV s f 4) j) 8) (cv .u64 (bt (tkV s f 4) j)))) (fun _ => by kernel_rfl) ?_
    refine pl_nil ?_
    refine au_block ?_
    refine au_then ?_
    refine rg_lit ?_
    refine pl_val (want_no rfl) (some 20) rfl (.int .i64 ((j + 1 : Nat) : Int)) (fun w => Eq.trans (b := .ok (.value (.int .i64 (IntKind.wrap .i64 ((j : Int) + 1)))) w) (by kernel_rfl) (by rw [wrap64 (by omega) (by omega)]; congr 3)) ?_
    refine pl_val (want_no rfl) (some 11) rfl (.int .i64 ((j + 1 : Nat) : Int)) (fun _ => by kernel_rfl) ?_
    refine pl_nil ?_
    refine au_then ?_
    exact ⟨fun k_ => ([.int .u8 (bt (tkV s f 4) j), undef, undef, undef, undef, undef, undef, .bool true, .pointer (some ⟨g1, j, none⟩), .int .u8 (bt (tkV s f 4) j), .int .u64 (bn (tkV s f 4) j), .int .u64 (sl (bn (tkV s f 4) j) 8), .int .u8 (bt (tkV s f 4) j), .int .u64 (cv .u64 (bt (tkV s f 4) j)), .int .u64 (uo (sl (bn (tkV s f 4) j) 8) (cv .u64 (bt (tkV s f 4) j))), .int .i64 ((j + 1 : Nat) : Int)] : List Value).getD (k_ - 5) undef, by kernel_rfl, M⟩
  · intro a u0 hI
    obtain ⟨v1, rfl, M⟩ := hI
    refine wp_seq ?_
    refine rg_lit ?_
    refine pl_val (want_no rfl) (some 12) rfl (.bool false) (fun w => Eq.trans (b := .ok (.value (.bool (decide ((((tkV s f 4).size : Nat) : Int) < (((tkV s f 4).size : Nat) : Int))))) w) (by kernel_rfl) (by rw [decide_eq_false (by omega)])) ?_
    refine pl_nil ?_
    refine au_then ?_
    refine wp_seq ?_
    refine wp_cond_false (by kernel_rfl) ?_
    refine wp_exit ?_
    refine au_then_exit ?_
    refine au_then_exit ?_
    refine au_block_exit ?_
    refine au_then ?_
    refine wp_seq ?_
    refine rg_lit ?_
    refine pl_val (want_no rfl) (some 21) rfl (.int .u64 (bn (tkV s f 4) ((tkV s f 4).size))) (fun _ => by kernel_rfl) ?_
    refine pl_val (want_no rfl) (some 22) rfl (.int .u32 (cv .u32 (bn (tkV s f 4) ((tkV s f 4).size)))) (fun _ => by kernel_rfl) ?_
    refine pl_val (want_no rfl) (some 2) rfl (.int .u32 (cv .u32 (bn (tkV s f 4) ((tkV s f 4).size)))) (fun _ => by kernel_rfl) ?_
    refine pl_nil ?_
    refine au_then ?_
    refine wp_ret ?_
    have e0 : (cv .u32 (bnv (tkV s f 4))) = (cv .u32 (bn (tkV s f 4) ((tkV s f 4).size))) := rfl
    exact bodyPost_ret (v := .int .u32 (cv .u32 (bn (tkV s f 4) ((tkV s f 4).size)))) (results_tmp1 Try.results33 _ _ _ (by kernel_rfl)) (by kernel_rfl) ⟨by simp only [e0], M.old, by simpa only [e0] using M.get 0 rfl⟩

set_option maxRecDepth 100000 in
set_option maxHeartbeats 4000000 in
set_option linter.unusedSimpArgs false in
theorem n_next4  (w : World) (hL : Laid w)  :
    Calls Try.prog 33 #[.pointer none] w fun r w' => r = .returned (.int .u32 0) ∧ Below w.heap.size w w' := by
  go_enter Try.func33, Try.ntmps33
  have M := Mem.start hL
  refine wp_seq ?_
  refine rg_lit ?_
  refine pl_val (want_no rfl) (some 2) rfl (.int .u32 0) (fun _ => by kernel_rfl) ?_
  refine pl_nil ?_
  refine au_then ?_
  refine wp_seq ?_
  refine rg_lit ?_
  refine pl_val (want_no rfl) (some 3) rfl (.int .u64 0) (fun _ => by kernel_rfl) ?_
  refine pl_nil ?_
  refine au_then ?_
  refine wp_seq ?_
  refine wp_seq ?_
  refine rg_lit ?_
  refine pl_val (want_no rfl) (some 6) rfl (.pointer none) (fun _ => by kernel_rfl) ?_
  refine pl_call M (want_no rfl) (some 7) rfl 37 #[] (.int .i64 4) (fun _ => by kernel_rfl) (fun w M => c_size4 w M.laid) ?_
  intro u1 M
  refine pl_call M (want_no rfl) (some 8) rfl 20 #[.pointer none, .int .i64 4] (.string ⟨#[]⟩) (fun _ => by kernel_rfl) (fun w M => n_Take 4 w M.laid) ?_
  intro u2 M
  refine pl_conv M (want_no rfl) (some 9) rfl _ rfl (⟨#[]⟩ : ByteArray) (by kernel_rfl) ?_
  intro g1 cap1 Z1 u3 hZ1 M
  replace M : Mem ⟨w, []⟩ [⟨g1, Z1⟩] u3 := M
  refine pl_val (want_no rfl) (some 10) rfl (.int .i64 (((⟨#[]⟩ : ByteArray).size : Nat) : Int)) (fun _ => by kernel_rfl) ?_
  refine pl_val (want_no rfl) (some 11) rfl (.int .i64 0) (fun _ => by kernel_rfl) ?_
  refine pl_nil ?_
  refine au_then ?_
  refine wp_block ?_
  refine wp_loop_rounds 1 ?_
  refine rounds_go ?_
  refine wp_seq ?_
  refine rg_lit ?_
  refine pl_val (want_no rfl) (some 12) rfl (.bool false) (fun _ => by kernel_rfl) ?_
  refine pl_nil ?_
  refine au_then ?_
  refine wp_seq ?_
  refine wp_cond_false (by kernel_rfl) ?_
  refine wp_exit ?_
  refine au_then_exit ?_
  refine au_then_exit ?_
  refine au_block_exit ?_
  refine au_then ?_
  refine wp_seq ?_
  refine rg_lit ?_
  refine pl_val (want_no rfl) (some 21) rfl (.int .u64 0) (fun _ => by kernel_rfl) ?_
  refine pl_val (want_no rfl) (some 22) rfl (.int .u32 0) (fun _ => by kernel_rfl) ?_
  refine pl_val (want_no rfl) (some 2) rfl (.int .u32 0) (fun _ => by kernel_rfl) ?_
  refine pl_nil ?_
  refine au_then ?_
  refine wp_ret ?_
  exact bodyPost_ret (v := .int .u32 0) (results_tmp1 Try.results33 _ _ _ (by kernel_rfl)) (by kernel_rfl) ⟨rfl, below_grown M.old⟩

set_option maxRecDepth 100000 in
set_option maxHeartbeats 4000000 in
set_option linter.unusedSimpArgs false in
theorem r_U32 (g : Nat) (s : ByteArray) (f : Int) (w : World) (hL : Laid w)  (hg : w.heap[g]? = some (.cells (av 3 (ls [.bool true, .string s, .int .i64 f])) 59)) :
    Calls Try.prog 18 #[.pointer (some ⟨g, 0, none⟩)] w fun r w' => r = .returned (.int .u32 (cv .u32 (bnv (tkV s f 4)))) ∧ Grw w w' [g] ∧ w'.heap[g]? = some (.cells (av 3 (ls [.bool true, .string (tkS s f 4), .int .i64 (tkF s f 4)])) 59) := by
  go_enter Try.func18, Try.ntmps18
  have M := Mem.startp hL hg
  refine wp_seq ?_
  refine rg_lit ?_
  refine pl_val (want_no rfl) (some 2) rfl (.int .u32 0) (fun _ => by kernel_rfl) ?_
  refine pl_nil ?_
  refine au_then ?_
  refine wp_seq ?_
  refine rg_lit ?_
  refine pl_val (want_no rfl) (some 3) rfl (.pointer (some ⟨g, 0, none⟩)) (fun _ => by kernel_rfl) ?_
  refine pl_callp M (want_no rfl) (some 4) rfl 33 #[.pointer (some ⟨g, 0, none⟩)] (.int .u32 (cv .u32 (bnv (tkV s f 4)))) 0 g (.cells (av 3 (ls [.bool true, .string s, .int .i64 f])) 59) (.cells (av 3 (ls [.bool true, .string (tkS s f 4), .int .i64 (tkF s f 4)])) 59) rfl (fun _ => by kernel_rfl) (fun w M => c_next4 g s f w M.laid (M.get 0 rfl)) ?_
  intro u1 M
  replace M : Mem ⟨w, [g]⟩ [⟨g, .cells (av 3 (ls [.bool true, .string (tkS s f 4), .int .i64 (tkF s f 4)])) 59⟩] u1 := M
  refine pl_val (want_no rfl) (some 2) rfl (.int .u32 (cv .u32 (bnv (tkV s f 4)))) (fun _ => by kernel_rfl) ?_
  refine pl_nil ?_
  refine au_then ?_
  refine wp_ret ?_
  exact bodyPost_ret (v := .int .u32 (cv .u32 (bnv (tkV s f 4)))) (results_tmp1 Try.results18 _ _ _ (by kernel_rfl)) (by kernel_rfl) ⟨rfl, M.old, M.get 0 rfl⟩

set_option maxRecDepth 100000 in
set_option maxHeartbeats 4000000 in
set_option linter.unusedSimpArgs false in
theorem n_U32  (w : World) (hL : Laid w)  :
    Calls Try.prog 18 #[.pointer none] w fun r w' => r = .returned (.int .u32 0) ∧ Below w.heap.size w w' := by
  go_enter Try.func18, Try.ntmps18
  have M := Mem.start hL
  refine wp_seq ?_
  refine rg_lit ?_
  refine pl_val (want_no rfl) (some 2) rfl (.int .u32 0) (fun _ => by kernel_rfl) ?_
  refine pl_nil ?_
  refine au_then ?_
  refine wp_seq ?_
  refine rg_lit ?_
  refine pl_val (want_no rfl) (some 3) rfl (.pointer none) (fun _ => by kernel_rfl) ?_
  refine pl_call M (want_no rfl) (some 4) rfl 33 #[.pointer none] (.int .u32 0) (fun _ => by kernel_rfl) (fun w M => n_next4 w M.laid) ?_
  intro u1 M
  refine pl_val (want_no rfl) (some 2) rfl (.int .u32 0) (fun _ => by kernel_rfl) ?_
  refine pl_nil ?_
  refine au_then ?_
  refine wp_ret ?_
  exact bodyPost_ret (v := .int .u32 0) (results_tmp1 Try.results18 _ _ _ (by kernel_rfl)) (by kernel_rfl) ⟨rfl, below_grown M.old⟩

set_option maxRecDepth 100000 in
set_option maxHeartbeats 4000000 in
set_option linter.unusedSimpArgs false in
theorem c_next8 (g : Nat) (s : ByteArray) (f : Int) (w : World) (hL : Laid w)  (hg : w.heap[g]? = some (.cells (av 3 (ls [.bool true, .string s, .int .i64 f])) 59)) :
    Calls Try.prog 34 #[.pointer (some ⟨g, 0, none⟩)] w fun r w' => r = .returned (.int .u64 (bnv (tkV s f 8))) ∧ Grw w w' [g] ∧ w'.heap[g]? = some (.cells (av 3 (ls [.bool true, .string (tkS s f 8), .int .i64 (tkF s f 8)])) 59) := by
  go_enter Try.func34, Try.ntmps34
  have M := Mem.startp hL hg
  have hz : (tkV s f 8).size ≤ 8 := tkV_le s f 8
  refine wp_seq ?_
  refine rg_lit ?_
  refine pl_val (want_no rfl) (some 2) rfl (.int .u64 0) (fun _ => by kernel_rfl) ?_
  refine pl_nil ?_
  refine au_then ?_
  refine wp_seq ?_
  refine rg_lit ?_
  refine pl_val (want_no rfl) (some 3) rfl (.int .u64 0) (fun _ => by kernel_rfl) ?_
  refine pl_nil ?_
  refine au_then ?_
  refine wp_seq ?_
  refine wp_seq ?_
  refine rg_lit ?_
  refine pl_val (want_no rfl) (some 6) rfl (.pointer (some ⟨g, 0, none⟩)) (fun _ => by kernel_rfl) ?_
  refine pl_call M (want_no rfl) (some 7) rfl 38 #[] (.int .i64 8) (fun _ => by kernel_rfl) (fun w M => c_size8 w M.laid) ?_
  intro u1 M
  refine pl_callp M (want_no rfl) (some 8) rfl 20 #[.pointer (some ⟨g, 0, none⟩), .int .i64 8] (.string (tkV s f 8)) 0 g (.cells (av 3 (ls [.bool true, .string s, .int .i64 f])) 59) (.cells (av 3 (ls [.bool true, .string (tkS s f 8), .int .i64 (tkF s f 8)])) 59) rfl (fun _ => by kernel_rfl) (fun w M => c_Take g s f 8 w M.laid (M.get 0 rfl)) ?_
  intro u2 M
  replace M : Mem ⟨w, [g]⟩ [⟨g, .cells (av 3 (ls [.bool true, .string (tkS s f 8), .int .i64 (tkF s f 8)])) 59⟩] u2 := M
  refine pl_conv M (want_no rfl) (some 9) rfl _ rfl (tkV s f 8) (by kernel_rfl) ?_
  intro g1 cap1 Z1 u3 hZ1 M
  replace M : Mem ⟨w, [g]⟩ [⟨g, .cells (av 3 (ls [.bool true, .string (tkS s f 8), .int .i64 (tkF s f 8)])) 59⟩, ⟨g1, Z1⟩] u3 := M
  refine pl_val (want_no rfl) (some 10) rfl (.int .i64 (((tkV s f 8).size : Nat) : Int)) (fun _ => by kernel_rfl) ?_
  refine pl_val (want_no rfl) (some 11) rfl (.int .i64 0) (fun _ => by kernel_rfl) ?_
  refine pl_nil ?_
  refine au_then ?_
  refine wp_block ?_
  refine au_loop (fun j a w' => ∃ v1 : Nat → Value, a = ⟨#[.pointer (some ⟨g, 0, none⟩), undef, .int .u64 0, .int .u64 (bn (tkV s f 8) j), undef, v1 5, .pointer (some ⟨g, 0, none⟩), .int .i64 8, .string (tkV s f 8), .slice (some ⟨g1, 0, none⟩) (tkV s f 8).size cap1, .int .i64 (((tkV s f 8).size : Nat) : Int), .int .i64 (j : Int), v1 12, v1 13, v1 14, v1 15, v1 16, v1 17, v1 18, v1 19, v1 20, undef], []⟩ ∧ Mem ⟨w, [g]⟩ [⟨g, .cells (av 3 (ls [.bool true, .string (tkS s f 8), .int .i64 (tkF s f 8)])) 59⟩, ⟨g1, Z1⟩] w') (tkV s f 8).size ⟨fun k_ => ([undef, undef, undef, undef, undef, undef, undef, undef, undef, undef, undef, undef, undef, undef, undef, undef] : List Value).getD (k_ - 5) undef, by kernel_rfl, M⟩ ?_ ?_
  · intro j a u0 hj hI
    obtain ⟨v1, rfl, M⟩ := hI
    refine wp_seq ?_
    refine rg_lit ?_
    refine pl_val (want_no rfl) (some 12) rfl (.bool true) (fun w => Eq.trans (b := .ok (.value (.bool (decide ((j : Int) < (((tkV s f 8).size : Nat) : Int))))) w) (by kernel_rfl) (by rw [decide_eq_true (by omega)])) ?_
    refine pl_nil ?_
    refine au_then ?_
    refine wp_seq ?_
    refine wp_cond_true (by kernel_rfl) ?_
    refine wp_skip ?_
    refine au_then ?_
    refine wp_seq ?_
    refine wp_block ?_
    refine wp_seq ?_
    refine rg_lit ?_
    refine pl_val (want_no rfl) (some 13) rfl (.pointer (some ⟨g1, j, none⟩)) (run_ix0 56 5 Try.underlying56 inz5 _ _ rfl g1 ((tkV s f 8).size) cap1 (by kernel_rfl) .i64 j (by kernel_rfl) (by omega)) ?_
    refine pl_cell M (want_no rfl) (some 14) rfl 5 _ rfl g1 j (by kernel_rfl) (.int .u8 (bt (tkV s f 8) j)) (fun _ => by kernel_rfl) (fun w M => hZ1.cell (M.get 1 rfl) (vs8_sb _ _ (by omega))) ?_
    refine pl_val (want_no rfl) (some 5) rfl (.int .u8 (bt (tkV s f 8) j)) (fun _ => by kernel_rfl) ?_
    refine pl_nil ?_
    refine au_then ?_
    refine rg_lit ?_
    refine pl_val (want_no rfl) (some 15) rfl (.int .u64 (bn (tkV s f 8) j)) (fun _ => by kernel_rfl) ?_
    refine pl_val (want_no rfl) (some 16) rfl (.int .u64 (sl (bn (tkV s f 8) j) 8)) (fun _ => by kernel_rfl) ?_
    refine pl_val (want_no rfl) (some 17) rfl (.int .u8 (bt (tkV s f 8) j)) (fun _ => by kernel_rfl) ?_
    refine pl_val (want_no rfl) (some 18) rfl (.int .u64 (cv .u64 (bt (tkV s f 8) j))) (fun _ => by kernel_rfl) ?_
    refine pl_val (want_no rfl) (some 19) rfl (.int .u64 (uo (sl (bn (tkV s f 8) j) 8) (cv .u64 (bt (tkV s f 8) j)))) (fun _ => by kernel_rfl) ?_
    refine pl_val (want_no rfl) (some 3) rfl (.int .u64 (uo (sl (bn (tkV s f 8) j) 8) (cv .u64 (bt (tkV s f 8) j)))) (fun _ => by kernel_rfl) ?_
    refine pl_nil ?_
    refine au_block ?_
    refine au_then ?_
    refine rg_lit ?_
    refine pl_val (want_no rfl) (some 20) rfl (.int .i64 ((j + 1 : Nat) : Int)) (fun w => Eq.trans (b := .ok (.value (.int .i64 (IntKind.wrap .i64 ((j : Int) + 1)))) w) (by kernel_rfl) (by rw [wrap64 (by omega) (by omega)]; congr 3)) ?_
    refine pl_val (want_no rfl) (some 11) rfl (.int .i64 ((j + 1 : Nat) : Int)) (fun _ => by kernel_rfl) ?_
    refine pl_nil ?_
    refine au_then ?_
    exact ⟨fun k_ => ([.int .u8 (bt (tkV s f 8) j), undef, undef, undef, undef, undef, undef, .bool true, .pointer (some ⟨g1, j, none⟩), .int .u8 (bt (tkV s f 8) j), .int .u64 (bn (tkV s f 8) j), .int .u64 (sl (bn (tkV s f 8) j) 8), .int .u8 (bt (tkV s f 8) j), .int .u64 (cv .u64 (bt (tkV s f 8) j)), .int .u64 (uo (sl (bn (tkV s f 8) j) 8) (cv .u64 (bt (tkV s f 8) j))), .int .i64 ((j + 1 : Nat) : Int)] : List Value).getD (k_ - 5) undef, by kernel_rfl, M⟩
  · intro a u0 hI
    obtain ⟨v1, rfl, M⟩ := hI
    refine wp_seq ?_
    refine rg_lit ?_
    refine pl_val (want_no rfl) (some 12) rfl (.bool false) (fun w => Eq.trans (b := .ok (.value (.bool (decide ((((tkV s f 8).size : Nat) : Int) < (((tkV s f 8).size : Nat) : Int))))) w) (by kernel_rfl) (by rw [decide_eq_false (by omega)])) ?_
    refine pl_nil ?_
    refine au_then ?_
    refine wp_seq ?_
    refine wp_cond_false (by kernel_rfl) ?_
    refine wp_exit ?_
    refine au_then_exit ?_
    refine au_then_exit ?_
    refine au_block_exit ?_
    refine au_then ?_
    refine wp_seq ?_
    refine rg_lit ?_
    refine pl_val (want_no rfl) (some 21) rfl (.int .u64 (bn (tkV s f 8) ((tkV s f 8).size))) (fun _ => by kernel_rfl) ?_
    refine pl_val (want_no rfl) (some 2) rfl (.int .u64 (bn (tkV s f 8) ((tkV s f 8).size))) (fun _ => by kernel_rfl) ?_
    refine pl_nil ?_
    refine au_then ?_
    refine wp_ret ?_
    have e0 : (bnv (tkV s f 8)) = (bn (tkV s f 8) ((tkV s f 8).size)) := rfl
    exact bodyPost_ret (v := .int .u64 (bn (tkV s f 8) ((tkV s f 8).size))) (results_tmp1 Try.results34 _ _ _ (by kernel_rfl)) (by kernel_rfl) ⟨by simp only [e0], M.old, by simpa only [e0] using M.get 0 rfl⟩

set_option maxRecDepth 100000 in
set_option maxHeartbeats 4000000 in
set_option linter.unusedSimpArgs false in
theorem n_next8  (w : World) (hL : Laid w)  :
    Calls Try.prog 34 #[.pointer none] w fun r w' => r = .returned (.int .u64 0) ∧ Below w.heap.size w w' := by
  go_enter Try.func34, Try.ntmps34
  have M := Mem.start hL
  refine wp_seq ?_
  refine rg_lit ?_
  refine pl_val (want_no rfl) (some 2) rfl (.int .u64 0) (fun _ => by kernel_rfl) ?_
  refine pl_nil ?_
  refine au_then ?_
  refine wp_seq ?_
  refine rg_lit ?_
  refine pl_val (want_no rfl) (some 3) rfl (.int .u64 0) (fun _ => by kernel_rfl) ?_
  refine pl_nil ?_
  refine au_then ?_
  refine wp_seq ?_
  refine wp_seq ?_
  refine rg_lit ?_
  refine pl_val (want_no rfl) (some 6) rfl (.pointer none) (fun _ => by kernel_rfl) ?_
  refine pl_call M (want_no rfl) (some 7) rfl 38 #[] (.int .i64 8) (fun _ => by kernel_rfl) (fun w M => c_size8 w M.laid) ?_
  intro u1 M
  refine pl_call M (want_no rfl) (some 8) rfl 20 #[.pointer none, .int .i64 8] (.string ⟨#[]⟩) (fun _ => by kernel_rfl) (fun w M => n_Take 8 w M.laid) ?_
  intro u2 M
  refine pl_conv M (want_no rfl) (some 9) rfl _ rfl (⟨#[]⟩ : ByteArray) (by kernel_rfl) ?_
  intro g1 cap1 Z1 u3 hZ1 M
  replace M : Mem ⟨w, []⟩ [⟨g1, Z1⟩] u3 := M
  refine pl_val (want_no rfl) (some 10) rfl (.int .i64 (((⟨#[]⟩ : ByteArray).size : Nat) : Int)) (fun _ => by kernel_rfl) ?_
  refine pl_val (want_no rfl) (some 11) rfl (.int .i64 0) (fun _ => by kernel_rfl) ?_
  refine pl_nil ?_
  refine au_then ?_
  refine wp_block ?_
  refine wp_loop_rounds 1 ?_
  refine rounds_go ?_
  refine wp_seq ?_
  refine rg_lit ?_
  refine pl_val (want_no rfl) (some 12) rfl (.bool false) (fun _ => by kernel_rfl) ?_
  refine pl_nil ?_
  refine au_then ?_
  refine wp_seq ?_
  refine wp_cond_false (by kernel_rfl) ?_
  refine wp_exit ?_
  refine au_then_exit ?_
  refine au_then_exit ?_
  refine au_block_exit ?_
  refine au_then ?_
  refine wp_seq ?_
  refine rg_lit ?_
  refine pl_val (want_no rfl) (some 21) rfl (.int .u64 0) (fun _ => by kernel_rfl) ?_
  refine pl_val (want_no rfl) (some 2) rfl (.int .u64 0) (fun _ => by kernel_rfl) ?_
  refine pl_nil ?_
  refine au_then ?_
  refine wp_ret ?_
  exact bodyPost_ret (v := .int .u64 0) (results_tmp1 Try.results34 _ _ _ (by kernel_rfl)) (by kernel_rfl) ⟨rfl, below_grown M.old⟩

set_option maxRecDepth 100000 in
set_option maxHeartbeats 4000000 in
set_option linter.unusedSimpArgs false in
theorem r_U64 (g : Nat) (s : ByteArray) (f : Int) (w : World) (hL : Laid w)  (hg : w.heap[g]? = some (.cells (av 3 (ls [.bool true, .string s, .int .i64 f])) 59)) :
    Calls Try.prog 19 #[.pointer (some ⟨g, 0, none⟩)] w fun r w' => r = .returned (.int .u64 (bnv (tkV s f 8))) ∧ Grw w w' [g] ∧ w'.heap[g]? = some (.cells (av 3 (ls [.bool true, .string (tkS s f 8), .int .i64 (tkF s f 8)])) 59) := by
  go_enter Try.func19, Try.ntmps19
  have M := Mem.startp hL hg
  refine wp_seq ?_
  refine rg_lit ?_
  refine pl_val (want_no rfl) (some 2) rfl (.int .u64 0) (fun _ => by kernel_rfl) ?_
  refine pl_nil ?_
  refine au_then ?_
  refine wp_seq ?_
  refine rg_lit ?_
  refine pl_val (want_no rfl) (some 3) rfl (.pointer (some ⟨g, 0, none⟩)) (fun _ => by kernel_rfl) ?_
  refine pl_callp M (want_no rfl) (some 4) rfl 34 #[.pointer (some ⟨g, 0, none⟩)] (.int .u64 (bnv (tkV s f 8))) 0 g (.cells (av 3 (ls [.bool true, .string s, .int .i64 f])) 59) (.cells (av 3 (ls [.bool true, .string (tkS s f 8), .int .i64 (tkF s f 8)])) 59) rfl (fun _ => by kernel_rfl) (fun w M => c_next8 g s f w M.laid (M.get 0 rfl)) ?_
  intro u1 M
  replace M : Mem ⟨w, [g]⟩ [⟨g, .cells (av 3 (ls [.bool true, .string (tkS s f 8), .int .i64 (tkF s f 8)])) 59⟩] u1 := M
  refine pl_val (want_no rfl) (some 2) rfl (.int .u64 (bnv (tkV s f 8))) (fun _ => by kernel_rfl) ?_
  refine pl_nil ?_
  refine au_then ?_
  refine wp_ret ?_
  exact bodyPost_ret (v := .int .u64 (bnv (tkV s f 8))) (results_tmp1 Try.results19 _ _ _ (by kernel_rfl)) (by kernel_rfl) ⟨rfl, M.old, M.get 0 rfl⟩

set_option maxRecDepth 100000 in
set_option maxHeartbeats 4000000 in
set_option linter.unusedSimpArgs false in
theorem n_U64  (w : World) (hL : Laid w)  :
    Calls Try.prog 19 #[.pointer none] w fun r w' => r = .returned (.int .u64 0) ∧ Below w.heap.size w w' := by
  go_enter Try.func19, Try.ntmps19
  have M := Mem.start hL
  refine wp_seq ?_
  refine rg_lit ?_
  refine pl_val (want_no rfl) (some 2) rfl (.int .u64 0) (fun _ => by kernel_rfl) ?_
  refine pl_nil ?_
  refine au_then ?_
  refine wp_seq ?_
  refine rg_lit ?_
  refine pl_val (want_no rfl) (some 3) rfl (.pointer none) (fun _ => by kernel_rfl) ?_
  refine pl_call M (want_no rfl) (some 4) rfl 34 #[.pointer none] (.int .u64 0) (fun _ => by kernel_rfl) (fun w M => n_next8 w M.laid) ?_
  intro u1 M
  refine pl_val (want_no rfl) (some 2) rfl (.int .u64 0) (fun _ => by kernel_rfl) ?_
  refine pl_nil ?_
  refine au_then ?_
  refine wp_ret ?_
  exact bodyPost_ret (v := .int .u64 0) (results_tmp1 Try.results19 _ _ _ (by kernel_rfl)) (by kernel_rfl) ⟨rfl, below_grown M.old⟩

set_option maxRecDepth 100000 in
set_option maxHeartbeats 4000000 in
set_option linter.unusedSimpArgs false in
theorem d_Num (q : Nat) (s : ByteArray) (f : Int) (k : Nat) (hk : k ≤ 8) (w : World) (hL : Laid w)  (hg : w.heap[q]? = some (.cells (av 2 (ls [.string s, .int .i64 f])) 39)) :
    Calls Try.prog 16 #[.pointer (some ⟨q, 0, none⟩), .int .i64 (k : Int)] w fun r w' => r = .returned (.int .u64 (bdv (tkV s f (k : Int)))) ∧ Grw w w' [q] ∧ w'.heap[q]? = some (.cells (av 2 (ls [.string (tkS s f (k : Int)), .int .i64 (tkF s f (k : Int))])) 39) := by
  go_enter Try.func16, Try.ntmps16
  have M := Mem.startp hL hg
  have hz : (tkV s f (k : Int)).size ≤ k := tkV_le s f k
  refine wp_seq ?_
  refine rg_lit ?_
  refine pl_val (want_no rfl) (some 4) rfl (.int .u64 0) (fun _ => by kernel_rfl) ?_
  refine pl_nil ?_
  refine au_then ?_
  refine wp_seq ?_
  refine rg_lit ?_
  refine pl_val (want_no rfl) (some 8) rfl (.pointer (some ⟨q, 0, none⟩)) (fun _ => by kernel_rfl) ?_
  refine pl_val (want_no rfl) (some 9) rfl (.int .i64 (k : Int)) (fun _ => by kernel_rfl) ?_
  refine pl_callp M (want_no rfl) (some 10) rfl 21 #[.pointer (some ⟨q, 0, none⟩), .int .i64 (k : Int)] (.string (tkV s f (k : Int))) 0 q (.cells (av 2 (ls [.string s, .int .i64 f])) 39) (.cells (av 2 (ls [.string (tkS s f (k : Int)), .int .i64 (tkF s f (k : Int))])) 39) rfl (fun _ => by kernel_rfl) (fun w M => d_Take q s f (k : Int) w M.laid (M.get 0 rfl)) ?_
  intro u1 M
  replace M : Mem ⟨w, [q]⟩ [⟨q, .cells (av 2 (ls [.string (tkS s f (k : Int)), .int .i64 (tkF s f (k : Int))])) 39⟩] u1 := M
  refine pl_val (want_no rfl) (some 5) rfl (.string (tkV s f (k : Int))) (fun _ => by kernel_rfl) ?_
  refine pl_nil ?_
  refine au_then ?_
  refine wp_seq ?_
  refine rg_lit ?_
  refine pl_val (want_no rfl) (some 6) rfl (.int .u64 0) (fun _ => by kernel_rfl) ?_
  refine pl_nil ?_
  refine au_then ?_
  refine wp_seq ?_
  refine wp_seq ?_
  refine rg_lit ?_
  refine pl_val (want_no rfl) (some 7) rfl (.int .i64 0) (fun _ => by kernel_rfl) ?_
  refine pl_nil ?_
  refine au_then ?_
  refine wp_block ?_
  refine au_loop (fun j a w' => ∃ v1 : Nat → Value, a = ⟨#[.pointer (some ⟨q, 0, none⟩), .int .i64 (k : Int), undef, undef, .int .u64 0, .string (tkV s f (k : Int)), .int .u64 (bd (tkV s f (k : Int)) j), .int .i64 (j : Int), .pointer (some ⟨q, 0, none⟩), .int .i64 (k : Int), .string (tkV s f (k : Int)), v1 11, v1 12, v1 13, v1 14, v1 15, v1 16, v1 17, v1 18, v1 19, v1 20, v1 21, v1 22, v1 23, undef], []⟩ ∧ Mem ⟨w, [q]⟩ [⟨q, .cells (av 2 (ls [.string (tkS s f (k : Int)), .int .i64 (tkF s f (k : Int))])) 39⟩] w') (tkV s f (k : Int)).size ⟨fun k_ => ([undef, undef, undef, undef, undef, undef, undef, undef, undef, undef, undef, undef, undef] : List Value).getD (k_ - 11) undef, by kernel_rfl, M⟩ ?_ ?_
  · intro j a u0 hj hI
    obtain ⟨v1, rfl, M⟩ := hI
    refine wp_seq ?_
    refine wp_seq ?_
    refine rg_lit ?_
    refine pl_val (want_no rfl) (some 11) rfl (.int .i64 (j : Int)) (fun _ => by kernel_rfl) ?_
    refine pl_val (want_no rfl) (some 12) rfl (.string (tkV s f (k : Int))) (fun _ => by kernel_rfl) ?_
    refine pl_val (want_no rfl) (some 13) rfl (.int .i64 ((tkV s f (k : Int)).size : Int)) (fun _ => by kernel_rfl) ?_
    refine pl_val (want_no rfl) (some 14) rfl (.bool true) (fun w => Eq.trans (b := .ok (.value (.bool (decide ((j : Int) < ((tkV s f (k : Int)).size : Int))))) w) (by kernel_rfl) (by rw [decide_eq_true (by omega)])) ?_
    refine pl_nil ?_
    refine au_then ?_
    refine wp_cond_true (by kernel_rfl) ?_
    refine wp_skip ?_
    refine au_then ?_
    refine wp_seq ?_
    refine wp_block ?_
    refine rg_lit ?_
    refine pl_val (want_no rfl) (some 17) rfl (.int .u64 (bd (tkV s f (k : Int)) j)) (fun _ => by kernel_rfl) ?_
    refine pl_val (want_no rfl) (some 18) rfl (.int .u64 (sl (bd (tkV s f (k : Int)) j) 8)) (fun _ => by kernel_rfl) ?_
    refine pl_val (want_no rfl) (some 19) rfl (.string (tkV s f (k : Int))) (fun _ => by kernel_rfl) ?_
    refine pl_val (want_no rfl) (some 20) rfl (.int .i64 (j : Int)) (fun _ => by kernel_rfl) ?_
    refine pl_val (want_no rfl) (some 21) rfl (.int .u8 (bt (tkV s f (k : Int)) j)) (run_ixS 9 Try.underlying9 _ _ rfl (tkV s f (k : Int)) (by kernel_rfl) .i64 j (by kernel_rfl) (by omega)) ?_
    refine pl_val (want_no rfl) (some 22) rfl (.int .u64 (cv .u64 (bt (tkV s f (k : Int)) j))) (fun _ => by kernel_rfl) ?_
    refine pl_val (want_no rfl) (some 23) rfl (.int .u64 (ua (sl (bd (tkV s f (k : Int)) j) 8) (cv .u64 (bt (tkV s f (k : Int)) j)))) (fun _ => by kernel_rfl) ?_
    refine pl_val (want_no rfl) (some 6) rfl (.int .u64 (ua (sl (bd (tkV s f (k : Int)) j) 8) (cv .u64 (bt (tkV s f (k : Int)) j)))) (fun _ => by kernel_rfl) ?_
    refine pl_nil ?_
    refine au_block ?_
    refine au_then ?_
    refine rg_lit ?_
    refine pl_val (want_no rfl) (some 15) rfl (.int .i64 (j : Int)) (fun _ => by kernel_rfl) ?_
    refine pl_val (want_no rfl) (some 16) rfl (.int .i64 ((j + 1 : Nat) : Int)) (fun w => Eq.trans (b := .ok (.value (.int .i64 (IntKind.wrap .i64 ((j : Int) + 1)))) w) (by kernel_rfl) (by rw [wrap64 (by omega) (by omega)]; congr 3)) ?_
    refine pl_val (want_no rfl) (some 7) rfl (.int .i64 ((j + 1 : Nat) : Int)) (fun _ => by kernel_rfl) ?_
    refine pl_nil ?_
    refine au_then ?_
    exact ⟨fun k_ => ([.int .i64 (j : Int), .string (tkV s f (k : Int)), .int .i64 ((tkV s f (k : Int)).size : Int), .bool true, .int .i64 (j : Int), .int .i64 ((j + 1 : Nat) : Int), .int .u64 (bd (tkV s f (k : Int)) j), .int .u64 (sl (bd (tkV s f (k : Int)) j) 8), .string (tkV s f (k : Int)), .int .i64 (j : Int), .int .u8 (bt (tkV s f (k : Int)) j), .int .u64 (cv .u64 (bt (tkV s f (k : Int)) j)), .int .u64 (ua (sl (bd (tkV s f (k : Int)) j) 8) (cv .u64 (bt (tkV s f (k : Int)) j)))] : List Value).getD (k_ - 11) undef, by kernel_rfl, M⟩
  · intro a u0 hI
    obtain ⟨v1, rfl, M⟩ := hI
    refine wp_seq ?_
    refine wp_seq ?_
    refine rg_lit ?_
    refine pl_val (want_no rfl) (some 11) rfl (.int .i64 (((tkV s f (k : Int)).size : Nat) : Int)) (fun _ => by kernel_rfl) ?_
    refine pl_val (want_no rfl) (some 12) rfl (.string (tkV s f (k : Int))) (fun _ => by kernel_rfl) ?_
    refine pl_val (want_no rfl) (some 13) rfl (.int .i64 ((tkV s f (k : Int)).size : Int)) (fun _ => by kernel_rfl) ?_
    refine pl_val (want_no rfl) (some 14) rfl (.bool false) (fun w => Eq.trans (b := .ok (.value (.bool (decide ((((tkV s f (k : Int)).size : Nat) : Int) < ((tkV s f (k : Int)).size : Int))))) w) (by kernel_rfl) (by rw [decide_eq_false (by omega)])) ?_
    refine pl_nil ?_
    refine au_then ?_
    refine wp_cond_false (by kernel_rfl) ?_
    refine wp_exit ?_
    refine au_then_exit ?_
    refine au_then_exit ?_
    refine au_block_exit ?_
    refine au_then ?_
    refine wp_seq ?_
    refine rg_lit ?_
    refine pl_val (want_no rfl) (some 24) rfl (.int .u64 (bd (tkV s f (k : Int)) ((tkV s f (k : Int)).size))) (fun _ => by kernel_rfl) ?_
    refine pl_val (want_no rfl) (some 4) rfl (.int .u64 (bd (tkV s f (k : Int)) ((tkV s f (k : Int)).size))) (fun _ => by kernel_rfl) ?_
    refine pl_nil ?_
    refine au_then ?_
    refine wp_ret ?_
    have e0 : (bdv (tkV s f (k : Int))) = (bd (tkV s f (k : Int)) ((tkV s f (k : Int)).size)) := rfl
    exact bodyPost_ret (v := .int .u64 (bd (tkV s f (k : Int)) ((tkV s f (k : Int)).size))) (results_tmp1 Try.results16 _ _ _ (by kernel_rfl)) (by kernel_rfl) ⟨by simp only [e0], M.old, by simpa only [e0] using M.get 0 rfl⟩

/-- The document's Text: the number, the fault ahead of the bytes, what is handed out, left, wrong. -/
def dxN (s : ByteArray) (f : Int) : Int := cv .i64 (bdv (tkV s f 2))
def dxG (s : ByteArray) (f : Int) : Int := if tkF s f 2 = 0 then (if 32768 < dxN s f then 4 else tkF s f 2) else tkF s f 2
def dxV (s : ByteArray) (f : Int) : ByteArray := tkV (tkS s f 2) (dxG s f) (dxN s f)
def dxF (s : ByteArray) (f : Int) : Int := tkF (tkS s f 2) (dxG s f) (dxN s f)
def dxT (s : ByteArray) (f : Int) : ByteArray := tkS (tkS s f 2) (dxG s f) (dxN s f)
def dxS (s : ByteArray) (f : Int) : ByteArray := if dxF s f = 0 then dxT s f else if ((dxT s f).size : Int) < (s.size : Int) then s else dxT s f
/-- The program's. -/
def pxN (s : ByteArray) : Int := cv .i64 (cv .u16 (bnv (tkV s 0 2)))
def pxF (s : ByteArray) : Int := if 32768 < pxN s then ff (tkF s 0 2) 4 else if tkF s 0 2 = 0 then tkF (tkS s 0 2) (tkF s 0 2) (pxN s) else tkF s 0 2
def pxV (s : ByteArray) : ByteArray := if 32768 < pxN s then ⟨#[]⟩ else if tkF s 0 2 = 0 then tkV (tkS s 0 2) (tkF s 0 2) (pxN s) else ⟨#[]⟩
def pxS (s : ByteArray) : ByteArray := if pxF s = 0 then (if 32768 < pxN s then tkS s 0 2 else if tkF s 0 2 = 0 then tkS (tkS s 0 2) (tkF s 0 2) (pxN s) else tkS s 0 2) else s
set_option maxRecDepth 100000 in
set_option maxHeartbeats 4000000 in
set_option linter.unusedSimpArgs false in
theorem d_Text (q : Nat) (s : ByteArray) (f : Int) (w : World) (hL : Laid w)  (hg : w.heap[q]? = some (.cells (av 2 (ls [.string s, .int .i64 f])) 39)) :
    Calls Try.prog 23 #[.pointer (some ⟨q, 0, none⟩)] w fun r w' => r = .returned (.string (dxV s f)) ∧ Grw w w' [q] ∧ w'.heap[q]? = some (.cells (av 2 (ls [.string (dxS s f), .int .i64 (dxF s f)])) 39) := by
  go_enter Try.func23, Try.ntmps23
  have M := Mem.startp hL hg
  refine wp_seq ?_
  refine rg_lit ?_
  refine pl_val (want_no rfl) (some 2) rfl (.string ⟨#[]⟩) (fun _ => by kernel_rfl) ?_
  refine pl_nil ?_
  refine au_then ?_
  refine wp_seq ?_
  refine rg_lit ?_
  refine pl_val (want_no rfl) (some 6) rfl (.pointer (some ⟨q, 0, none⟩)) (fun _ => by kernel_rfl) ?_
  refine pl_val (want_no rfl) (some 7) rfl (.pointer (some ⟨q, 0, none⟩)) (fun _ => by kernel_rfl) ?_
  refine pl_val (want_no rfl) (some 8) rfl (.pointer (some ⟨q, 0, none⟩)) (fun _ => by kernel_rfl) ?_
  refine pl_cell M (want_no rfl) (some 9) rfl 9 _ rfl q 0 (by kernel_rfl) (.string s) (fun _ => by kernel_rfl) (fun w M => M.cell 0 rfl (by decide) rfl) ?_
  refine pl_val (want_no rfl) (some 3) rfl (.string s) (fun _ => by kernel_rfl) ?_
  refine pl_nil ?_
  refine au_then ?_
  refine wp_seq ?_
  refine rg_lit ?_
  refine pl_val (want_no rfl) (some 10) rfl (.pointer (some ⟨q, 0, none⟩)) (fun _ => by kernel_rfl) ?_
  refine pl_callp M (want_no rfl) (some 11) rfl 16 #[.pointer (some ⟨q, 0, none⟩), .int .i64 2] (.int .u64 (bdv (tkV s f 2))) 0 q (.cells (av 2 (ls [.string s, .int .i64 f])) 39) (.cells (av 2 (ls [.string (tkS s f 2), .int .i64 (tkF s f 2)])) 39) rfl (fun _ => by kernel_rfl) (fun w M => d_Num q s f 2 (by decide) w M.laid (M.get 0 rfl)) ?_
  intro u1 M
  replace M : Mem ⟨w, [q]⟩ [⟨q, .cells (av 2 (ls [.string (tkS s f 2), .int .i64 (tkF s f 2)])) 39⟩] u1 := M
  refine pl_val (want_no rfl) (some 12) rfl (.int .i64 (dxN s f)) (fun _ => by kernel_rfl) ?_
  refine pl_val (want_no rfl) (some 4) rfl (.int .i64 (dxN s f)) (fun _ => by kernel_rfl) ?_
  refine pl_nil ?_
  refine au_then ?_
  refine wp_seq ?_
  refine wp_seq ?_
  refine rg_lit ?_
  refine pl_val (want_no rfl) (some 13) rfl (.pointer (some ⟨q, 0, none⟩)) (fun _ => by kernel_rfl) ?_
  refine pl_val (want_no rfl) (some 14) rfl (.pointer (some ⟨q, 0, none⟩)) (fun _ => by kernel_rfl) ?_
  refine pl_val (want_no rfl) (some 15) rfl (.pointer (some ⟨q, 1, none⟩)) (fun _ => by kernel_rfl) ?_
  refine pl_cell M (want_no rfl) (some 16) rfl 24 _ rfl q 1 (by kernel_rfl) (.int .i64 (tkF s f 2)) (fun _ => by kernel_rfl) (fun w M => M.cell 0 rfl (by decide) rfl) ?_
  by_cases c0 : (tkF s f 2) = 0
  · skip
    refine pl_val (want_no rfl) (some 17) rfl (.bool true) (fun w => Eq.trans (b := .ok (.value (.bool (decide ((tkF s f 2) = 0)))) w) (by kernel_rfl) (by rw [decide_eq_true (c0)])) ?_
    refine pl_val (want_no rfl) (some 18) rfl (.bool true) (fun _ => by kernel_rfl) ?_
    refine pl_val (want_on 5 true rfl 18 rfl (by kernel_rfl)) (some 19) rfl (.int .i64 (dxN s f)) (fun _ => by kernel_rfl) ?_
    by_cases c1 : 32768 < (dxN s f)
    · skip
      refine pl_val (want_on 5 true rfl 18 rfl (by kernel_rfl)) (some 20) rfl (.bool true) (fun w => Eq.trans (b := .ok (.value (.bool (decide (32768 < (dxN s f))))) w) (by kernel_rfl) (by rw [decide_eq_true (c1)])) ?_
      refine pl_val (want_no rfl) (some 21) rfl (.bool true) (fun _ => by kernel_rfl) ?_
      refine pl_nil ?_
      refine au_then ?_
      refine wp_cond_true (by kernel_rfl) ?_
      refine rg_lit ?_
      refine pl_val (want_no rfl) (some 22) rfl (.pointer (some ⟨q, 0, none⟩)) (fun _ => by kernel_rfl) ?_
      refine pl_val (want_no rfl) (some 23) rfl (.pointer (some ⟨q, 0, none⟩)) (fun _ => by kernel_rfl) ?_
      refine pl_val (want_no rfl) (some 24) rfl (.pointer (some ⟨q, 1, none⟩)) (fun _ => by kernel_rfl) ?_
      refine pl_put1 M (want_no rfl) rfl 24 _ _ rfl 0 q 1 (by kernel_rfl) 2 39 (ls [.string (tkS s f 2), .int .i64 (tkF s f 2)]) rfl (.int .i64 4) (ls [.string (tkS s f 2), .int .i64 4]) (by kernel_rfl) inz24 (by decide) rfl rfl (put_ls _ 1 _ _ rfl) ?_
      intro u2 M
      replace M : Mem ⟨w, [q]⟩ [⟨q, .cells (av 2 (ls [.string (tkS s f 2), .int .i64 4])) 39⟩] u2 := M
      refine pl_nil ?_
      refine au_then ?_
      refine wp_seq ?_
      refine rg_lit ?_
      refine pl_val (want_no rfl) (some 25) rfl (.pointer (some ⟨q, 0, none⟩)) (fun _ => by kernel_rfl) ?_
      refine pl_val (want_no rfl) (some 26) rfl (.int .i64 (dxN s f)) (fun _ => by kernel_rfl) ?_
      refine pl_callp M (want_no rfl) (some 27) rfl 21 #[.pointer (some ⟨q, 0, none⟩), .int .i64 (dxN s f)] (.string (tkV (tkS s f 2) 4 (dxN s f))) 0 q (.cells (av 2 (ls [.string (tkS s f 2), .int .i64 4])) 39) (.cells (av 2 (ls [.string (tkS (tkS s f 2) 4 (dxN s f)), .int .i64 (tkF (tkS s f 2) 4 (dxN s f))])) 39) rfl (fun _ => by kernel_rfl) (fun w M => d_Take q (tkS s f 2) 4 (dxN s f) w M.laid (M.get 0 rfl)) ?_
      intro u3 M
      replace M : Mem ⟨w, [q]⟩ [⟨q, .cells (av 2 (ls [.string (tkS (tkS s f 2) 4 (dxN s f)), .int .i64 (tkF (tkS s f 2) 4 (dxN s f))])) 39⟩] u3 := M
      refine pl_val (want_no rfl) (some 5) rfl (.string (tkV (tkS s f 2) 4 (dxN s f))) (fun _ => by kernel_rfl) ?_
      refine pl_nil ?_
      refine au_then ?_
      refine wp_seq ?_
      refine wp_seq ?_
      refine rg_lit ?_
      refine pl_val (want_no rfl) (some 28) rfl (.pointer (some ⟨q, 0, none⟩)) (fun _ => by kernel_rfl) ?_
      refine pl_val (want_no rfl) (some 29) rfl (.pointer (some ⟨q, 0, none⟩)) (fun _ => by kernel_rfl) ?_
      refine pl_val (want_no rfl) (some 30) rfl (.pointer (some ⟨q, 1, none⟩)) (fun _ => by kernel_rfl) ?_
      refine pl_cell M (want_no rfl) (some 31) rfl 24 _ rfl q 1 (by kernel_rfl) (.int .i64 (tkF (tkS s f 2) 4 (dxN s f))) (fun _ => by kernel_rfl) (fun w M => M.cell 0 rfl (by decide) rfl) ?_
      by_cases c2 : (tkF (tkS s f 2) 4 (dxN s f)) = 0
      · skip
        refine pl_val (want_no rfl) (some 32) rfl (.bool false) (fun w => Eq.trans (b := .ok (.value (.bool (!(decide ((tkF (tkS s f 2) 4 (dxN s f)) = 0))))) w) (by kernel_rfl) (by rw [decide_eq_true (c2)]; rfl)) ?_
        refine pl_val (want_no rfl) (some 33) rfl (.bool false) (fun _ => by kernel_rfl) ?_
        refine pl_skip (want_off 5 true rfl 33 rfl (by kernel_rfl)) (some 34) rfl ?_
        refine pl_skip (want_off 5 true rfl 33 rfl (by kernel_rfl)) (some 35) rfl ?_
        refine pl_skip (want_off 5 true rfl 33 rfl (by kernel_rfl)) (some 36) rfl ?_
        refine pl_skip (want_off 5 true rfl 33 rfl (by kernel_rfl)) (some 37) rfl ?_
        refine pl_skip (want_off 5 true rfl 33 rfl (by kernel_rfl)) (some 38) rfl ?_
        refine pl_skip (want_off 5 true rfl 33 rfl (by kernel_rfl)) (some 39) rfl ?_
        refine pl_skip (want_off 5 true rfl 33 rfl (by kernel_rfl)) (some 40) rfl ?_
        refine pl_skip (want_off 5 true rfl 33 rfl (by kernel_rfl)) (some 41) rfl ?_
        refine pl_val (want_no rfl) (some 42) rfl (.bool false) (fun _ => by kernel_rfl) ?_
        refine pl_nil ?_
        refine au_then ?_
        refine wp_cond_false (by kernel_rfl) ?_
        refine wp_skip ?_
        refine au_then ?_
        refine wp_seq ?_
        refine rg_lit ?_
        refine pl_val (want_no rfl) (some 47) rfl (.string (tkV (tkS s f 2) 4 (dxN s f))) (fun _ => by kernel_rfl) ?_
        refine pl_val (want_no rfl) (some 2) rfl (.string (tkV (tkS s f 2) 4 (dxN s f))) (fun _ => by kernel_rfl) ?_
        refine pl_nil ?_
        refine au_then ?_
        refine wp_ret ?_
        have e0 : (dxV s f) = (tkV (tkS s f 2) 4 (dxN s f)) := by first | (simp only [dxV, dxS, dxF, dxT, dxG, if_pos c0, if_pos c1, if_pos c2]; done) | simp [dxV, dxS, dxF, dxT, dxG, c0, c1, c2]
        have e1 : (dxS s f) = (tkS (tkS s f 2) 4 (dxN s f)) := by first | (simp only [dxV, dxS, dxF, dxT, dxG, if_pos c0, if_pos c1, if_pos c2]; done) | simp [dxV, dxS, dxF, dxT, dxG, c0, c1, c2]
        have e2 : (dxF s f) = (tkF (tkS s f 2) 4 (dxN s f)) := by first | (simp only [dxV, dxS, dxF, dxT, dxG, if_pos c0, if_pos c1, if_pos c2]; done) | simp [dxV, dxS, dxF, dxT, dxG, c0, c1, c2]
        exact bodyPost_ret (v := .string (tkV (tkS s f 2) 4 (dxN s f))) (results_tmp1 Try.results23 _ _ _ (by kernel_rfl)) (by kernel_rfl) ⟨by simp only [e0, e1, e2], M.old, by simpa only [e0, e1, e2] using M.get 0 rfl⟩
      · skip
        refine pl_val (want_no rfl) (some 32) rfl (.bool true) (fun w => Eq.trans (b := .ok (.value (.bool (!(decide ((tkF (tkS s f 2) 4 (dxN s f)) = 0))))) w) (by kernel_rfl) (by rw [decide_eq_false (c2)]; rfl)) ?_
        refine pl_val (want_no rfl) (some 33) rfl (.bool true) (fun _ => by kernel_rfl) ?_
        refine pl_val (want_on 5 true rfl 33 rfl (by kernel_rfl)) (some 34) rfl (.string s) (fun _ => by kernel_rfl) ?_
        refine pl_val (want_on 5 true rfl 33 rfl (by kernel_rfl)) (some 35) rfl (.int .i64 (s.size : Int)) (fun _ => by kernel_rfl) ?_
        refine pl_val (want_on 5 true rfl 33 rfl (by kernel_rfl)) (some 36) rfl (.pointer (some ⟨q, 0, none⟩)) (fun _ => by kernel_rfl) ?_
        refine pl_val (want_on 5 true rfl 33 rfl (by kernel_rfl)) (some 37) rfl (.pointer (some ⟨q, 0, none⟩)) (fun _ => by kernel_rfl) ?_
        refine pl_val (want_on 5 true rfl 33 rfl (by kernel_rfl)) (some 38) rfl (.pointer (some ⟨q, 0, none⟩)) (fun _ => by kernel_rfl) ?_
        refine pl_cell M (want_on 5 true rfl 33 rfl (by kernel_rfl)) (some 39) rfl 9 _ rfl q 0 (by kernel_rfl) (.string (tkS (tkS s f 2) 4 (dxN s f))) (fun _ => by kernel_rfl) (fun w M => M.cell 0 rfl (by decide) rfl) ?_
        refine pl_val (want_on 5 true rfl 33 rfl (by kernel_rfl)) (some 40) rfl (.int .i64 ((tkS (tkS s f 2) 4 (dxN s f)).size : Int)) (fun _ => by kernel_rfl) ?_
        by_cases c3 : ((tkS (tkS s f 2) 4 (dxN s f)).size : Int) < (s.size : Int)
        · skip
          refine pl_val (want_on 5 true rfl 33 rfl (by kernel_rfl)) (some 41) rfl (.bool true) (fun w => Eq.trans (b := .ok (.value (.bool (decide (((tkS (tkS s f 2) 4 (dxN s f)).size : Int) < (s.size : Int))))) w) (by kernel_rfl) (by rw [decide_eq_true (c3)])) ?_
          refine pl_val (want_no rfl) (some 42) rfl (.bool true) (fun _ => by kernel_rfl) ?_
          refine pl_nil ?_
          refine au_then ?_
          refine wp_cond_true (by kernel_rfl) ?_
          refine rg_lit ?_
          refine pl_val (want_no rfl) (some 43) rfl (.pointer (some ⟨q, 0, none⟩)) (fun _ => by kernel_rfl) ?_
          refine pl_val (want_no rfl) (some 44) rfl (.string s) (fun _ => by kernel_rfl) ?_
          refine pl_val (want_no rfl) (some 45) rfl (.pointer (some ⟨q, 0, none⟩)) (fun _ => by kernel_rfl) ?_
          refine pl_val (want_no rfl) (some 46) rfl (.pointer (some ⟨q, 0, none⟩)) (fun _ => by kernel_rfl) ?_
          refine pl_put1 M (want_no rfl) rfl 9 _ _ rfl 0 q 0 (by kernel_rfl) 2 39 (ls [.string (tkS (tkS s f 2) 4 (dxN s f)), .int .i64 (tkF (tkS s f 2) 4 (dxN s f))]) rfl (.string s) (ls [.string s, .int .i64 (tkF (tkS s f 2) 4 (dxN s f))]) (by kernel_rfl) inz9 (by decide) rfl rfl (put_ls _ 0 _ _ rfl) ?_
          intro u4 M
          replace M : Mem ⟨w, [q]⟩ [⟨q, .cells (av 2 (ls [.string s, .int .i64 (tkF (tkS s f 2) 4 (dxN s f))])) 39⟩] u4 := M
          refine pl_nil ?_
          refine au_then ?_
          refine wp_seq ?_
          refine rg_lit ?_
          refine pl_val (want_no rfl) (some 47) rfl (.string (tkV (tkS s f 2) 4 (dxN s f))) (fun _ => by kernel_rfl) ?_
          refine pl_val (want_no rfl) (some 2) rfl (.string (tkV (tkS s f 2) 4 (dxN s f))) (fun _ => by kernel_rfl) ?_
          refine pl_nil ?_
          refine au_then ?_
          refine wp_ret ?_
          have e0 : (dxV s f) = (tkV (tkS s f 2) 4 (dxN s f)) := by first | (simp only [dxV, dxS, dxF, dxT, dxG, if_pos c0, if_pos c1, if_neg c2, if_pos c3]; done) | simp [dxV, dxS, dxF, dxT, dxG, c0, c1, c2, c3]
          have e1 : (dxS s f) = s := by first | (simp only [dxV, dxS, dxF, dxT, dxG, if_pos c0, if_pos c1, if_neg c2, if_pos c3]; done) | simp [dxV, dxS, dxF, dxT, dxG, c0, c1, c2, c3]
          have e2 : (dxF s f) = (tkF (tkS s f 2) 4 (dxN s f)) := by first | (simp only [dxV, dxS, dxF, dxT, dxG, if_pos c0, if_pos c1, if_neg c2, if_pos c3]; done) | simp [dxV, dxS, dxF, dxT, dxG, c0, c1, c2, c3]
          exact bodyPost_ret (v := .string (tkV (tkS s f 2) 4 (dxN s f))) (results_tmp1 Try.results23 _ _ _ (by kernel_rfl)) (by kernel_rfl) ⟨by simp only [e0, e1, e2], M.old, by simpa only [e0, e1, e2] using M.get 0 rfl⟩
        · skip
          refine pl_val (want_on 5 true rfl 33 rfl (by kernel_rfl)) (some 41) rfl (.bool false) (fun w => Eq.trans (b := .ok (.value (.bool (decide (((tkS (tkS s f 2) 4 (dxN s f)).size : Int) < (s.size : Int))))) w) (by kernel_rfl) (by rw [decide_eq_false (c3)])) ?_
          refine pl_val (want_no rfl) (some 42) rfl (.bool false) (fun _ => by kernel_rfl) ?_
          refine pl_nil ?_
          refine au_then ?_
          refine wp_cond_false (by kernel_rfl) ?_
          refine wp_skip ?_
          refine au_then ?_
          refine wp_seq ?_
          refine rg_lit ?_
          refine pl_val (want_no rfl) (some 47) rfl (.string (tkV (tkS s f 2) 4 (dxN s f))) (fun _ => by kernel_rfl) ?_
          refine pl_val (want_no rfl) (some 2) rfl (.string (tkV (tkS s f 2) 4 (dxN s f))) (fun _ => by kernel_rfl) ?_
          refine pl_nil ?_
          refine au_then ?_
          refine wp_ret ?_
          have e0 : (dxV s f) = (tkV (tkS s f 2) 4 (dxN s f)) := by first | (simp only [dxV, dxS, dxF, dxT, dxG, if_pos c0, if_pos c1, if_neg c2, if_neg c3]; done) | simp [dxV, dxS, dxF, dxT, dxG, c0, c1, c2, c3]
          have e1 : (dxS s f) = (tkS (tkS s f 2) 4 (dxN s f)) := by first | (simp only [dxV, dxS, dxF, dxT, dxG, if_pos c0, if_pos c1, if_neg c2, if_neg c3]; done) | simp [dxV, dxS, dxF, dxT, dxG, c0, c1, c2, c3]
          have e2 : (dxF s f) = (tkF (tkS s f 2) 4 (dxN s f)) := by first | (simp only [dxV, dxS, dxF, dxT, dxG, if_pos c0, if_pos c1, if_neg c2, if_neg c3]; done) | simp [dxV, dxS, dxF, dxT, dxG, c0, c1, c2, c3]
          exact bodyPost_ret (v := .string (tkV (tkS s f 2) 4 (dxN s f))) (results_tmp1 Try.results23 _ _ _ (by kernel_rfl)) (by kernel_rfl) ⟨by simp only [e0, e1, e2], M.old, by simpa only [e0, e1, e2] using M.get 0 rfl⟩
    · skip
      refine pl_val (want_on 5 true rfl 18 rfl (by kernel_rfl)) (some 20) rfl (.bool false) (fun w => Eq.trans (b := .ok (.value (.bool (decide (32768 < (dxN s f))))) w) (by kernel_rfl) (by rw [decide_eq_false (c1)])) ?_
      refine pl_val (want_no rfl) (some 21) rfl (.bool false) (fun _ => by kernel_rfl) ?_
      refine pl_nil ?_
      refine au_then ?_
      refine wp_cond_false (by kernel_rfl) ?_
      refine wp_skip ?_
      refine au_then ?_
      refine wp_seq ?_
      refine rg_lit ?_
      refine pl_val (want_no rfl) (some 25) rfl (.pointer (some ⟨q, 0, none⟩)) (fun _ => by kernel_rfl) ?_
      refine pl_val (want_no rfl) (some 26) rfl (.int .i64 (dxN s f)) (fun _ => by kernel_rfl) ?_
      refine pl_callp M (want_no rfl) (some 27) rfl 21 #[.pointer (some ⟨q, 0, none⟩), .int .i64 (dxN s f)] (.string (tkV (tkS s f 2) (tkF s f 2) (dxN s f))) 0 q (.cells (av 2 (ls [.string (tkS s f 2), .int .i64 (tkF s f 2)])) 39) (.cells (av 2 (ls [.string (tkS (tkS s f 2) (tkF s f 2) (dxN s f)), .int .i64 (tkF (tkS s f 2) (tkF s f 2) (dxN s f))])) 39) rfl (fun _ => by kernel_rfl) (fun w M => d_Take q (tkS s f 2) (tkF s f 2) (dxN s f) w M.laid (M.get 0 rfl)) ?_
      intro u2 M
      replace M : Mem ⟨w, [q]⟩ [⟨q, .cells (av 2 (ls [.string (tkS (tkS s f 2) (tkF s f 2) (dxN s f)), .int .i64 (tkF (tkS s f 2) (tkF s f 2) (dxN s f))])) 39⟩] u2 := M
      refine pl_val (want_no rfl) (some 5) rfl (.string (tkV (tkS s f 2) (tkF s f 2) (dxN s f))) (fun _ => by kernel_rfl) ?_
      refine pl_nil ?_
      refine au_then ?_
      refine wp_seq ?_
      refine wp_seq ?_
      refine rg_lit ?_
      refine pl_val (want_no rfl) (some 28) rfl (.pointer (some ⟨q, 0, none⟩)) (fun _ => by kernel_rfl) ?_
      refine pl_val (want_no rfl) (some 29) rfl (.pointer (some ⟨q, 0, none⟩)) (fun _ => by kernel_rfl) ?_
      refine pl_val (want_no rfl) (some 30) rfl (.pointer (some ⟨q, 1, none⟩)) (fun _ => by kernel_rfl) ?_
      refine pl_cell M (want_no rfl) (some 31) rfl 24 _ rfl q 1 (by kernel_rfl) (.int .i64 (tkF (tkS s f 2) (tkF s f 2) (dxN s f))) (fun _ => by kernel_rfl) (fun w M => M.cell 0 rfl (by decide) rfl) ?_
      by_cases c2 : (tkF (tkS s f 2) (tkF s f 2) (dxN s f)) = 0
      · skip
        refine pl_val (want_no rfl) (some 32) rfl (.bool false) (fun w => Eq.trans (b := .ok (.value (.bool (!(decide ((tkF (tkS s f 2) (tkF s f 2) (dxN s f)) = 0))))) w) (by kernel_rfl) (by rw [decide_eq_true (c2)]; rfl)) ?_
        refine pl_val (want_no rfl) (some 33) rfl (.bool false) (fun _ => by kernel_rfl) ?_
        refine pl_skip (want_off 5 true rfl 33 rfl (by kernel_rfl)) (some 34) rfl ?_
        refine pl_skip (want_off 5 true rfl 33 rfl (by kernel_rfl)) (some 35) rfl ?_
        refine pl_skip (want_off 5 true rfl 33 rfl (by kernel_rfl)) (some 36) rfl ?_
        refine pl_skip (want_off 5 true rfl 33 rfl (by kernel_rfl)) (some 37) rfl ?_
        refine pl_skip (want_off 5 true rfl 33 rfl (by kernel_rfl)) (some 38) rfl ?_
        refine pl_skip (want_off 5 true rfl 33 rfl (by kernel_rfl)) (some 39) rfl ?_
        refine pl_skip (want_off 5 true rfl 33 rfl (by kernel_rfl)) (some 40) rfl ?_
        refine pl_skip (want_off 5 true rfl 33 rfl (by kernel_rfl)) (some 41) rfl ?_
        refine pl_val (want_no rfl) (some 42) rfl (.bool false) (fun _ => by kernel_rfl) ?_
        refine pl_nil ?_
        refine au_then ?_
        refine wp_cond_false (by kernel_rfl) ?_
        refine wp_skip ?_
        refine au_then ?_
        refine wp_seq ?_
        refine rg_lit ?_
        refine pl_val (want_no rfl) (some 47) rfl (.string (tkV (tkS s f 2) (tkF s f 2) (dxN s f))) (fun _ => by kernel_rfl) ?_
        refine pl_val (want_no rfl) (some 2) rfl (.string (tkV (tkS s f 2) (tkF s f 2) (dxN s f))) (fun _ => by kernel_rfl) ?_
        refine pl_nil ?_
        refine au_then ?_
        refine wp_ret ?_
        have e0 : (dxV s f) = (tkV (tkS s f 2) (tkF s f 2) (dxN s f)) := by first | (simp only [dxV, dxS, dxF, dxT, dxG, if_pos c0, if_neg c1, if_pos c2]; done) | simp [dxV, dxS, dxF, dxT, dxG, c0, c1, c2]
        have e1 : (dxS s f) = (tkS (tkS s f 2) (tkF s f 2) (dxN s f)) := by first | (simp only [dxV, dxS, dxF, dxT, dxG, if_pos c0, if_neg c1, if_pos c2]; done) | simp [dxV, dxS, dxF, dxT, dxG, c0, c1, c2]
        have e2 : (dxF s f) = (tkF (tkS s f 2) (tkF s f 2) (dxN s f)) := by first | (simp only [dxV, dxS, dxF, dxT, dxG, if_pos c0, if_neg c1, if_pos c2]; done) | simp [dxV, dxS, dxF, dxT, dxG, c0, c1, c2]
        exact bodyPost_ret (v := .string (tkV (tkS s f 2) (tkF s f 2) (dxN s f))) (results_tmp1 Try.results23 _ _ _ (by kernel_rfl)) (by kernel_rfl) ⟨by simp only [e0, e1, e2], M.old, by simpa only [e0, e1, e2] using M.get 0 rfl⟩
      · skip
        refine pl_val (want_no rfl) (some 32) rfl (.bool true) (fun w => Eq.trans (b := .ok (.value (.bool (!(decide ((tkF (tkS s f 2) (tkF s f 2) (dxN s f)) = 0))))) w) (by kernel_rfl) (by rw [decide_eq_false (c2)]; rfl)) ?_
        refine pl_val (want_no rfl) (some 33) rfl (.bool true) (fun _ => by kernel_rfl) ?_
        refine pl_val (want_on 5 true rfl 33 rfl (by kernel_rfl)) (some 34) rfl (.string s) (fun _ => by kernel_rfl) ?_
        refine pl_val (want_on 5 true rfl 33 rfl (by kernel_rfl)) (some 35) rfl (.int .i64 (s.size : Int)) (fun _ => by kernel_rfl) ?_
        refine pl_val (want_on 5 true rfl 33 rfl (by kernel_rfl)) (some 36) rfl (.pointer (some ⟨q, 0, none⟩)) (fun _ => by kernel_rfl) ?_
        refine pl_val (want_on 5 true rfl 33 rfl (by kernel_rfl)) (some 37) rfl (.pointer (some ⟨q, 0, none⟩)) (fun _ => by kernel_rfl) ?_
        refine pl_val (want_on 5 true rfl 33 rfl (by kernel_rfl)) (some 38) rfl (.pointer (some ⟨q, 0, none⟩)) (fun _ => by kernel_rfl) ?_
        refine pl_cell M (want_on 5 true rfl 33 rfl (by kernel_rfl)) (some 39) rfl 9 _ rfl q 0 (by kernel_rfl) (.string (tkS (tkS s f 2) (tkF s f 2) (dxN s f))) (fun _ => by kernel_rfl) (fun w M => M.cell 0 rfl (by decide) rfl) ?_
        refine pl_val (want_on 5 true rfl 33 rfl (by kernel_rfl)) (some 40) rfl (.int .i64 ((tkS (tkS s f 2) (tkF s f 2) (dxN s f)).size : Int)) (fun _ => by kernel_rfl) ?_
        by_cases c3 : ((tkS (tkS s f 2) (tkF s f 2) (dxN s f)).size : Int) < (s.size : Int)
        · skip
          refine pl_val (want_on 5 true rfl 33 rfl (by kernel_rfl)) (some 41) rfl (.bool true) (fun w => Eq.trans (b := .ok (.value (.bool (decide (((tkS (tkS s f 2) (tkF s f 2) (dxN s f)).size : Int) < (s.size : Int))))) w) (by kernel_rfl) (by rw [decide_eq_true (c3)])) ?_
          refine pl_val (want_no rfl) (some 42) rfl (.bool true) (fun _ => by kernel_rfl) ?_
          refine pl_nil ?_
          refine au_then ?_
          refine wp_cond_true (by kernel_rfl) ?_
          refine rg_lit ?_
          refine pl_val (want_no rfl) (some 43) rfl (.pointer (some ⟨q, 0, none⟩)) (fun _ => by kernel_rfl) ?_
          refine pl_val (want_no rfl) (some 44) rfl (.string s) (fun _ => by kernel_rfl) ?_
          refine pl_val (want_no rfl) (some 45) rfl (.pointer (some ⟨q, 0, none⟩)) (fun _ => by kernel_rfl) ?_
          refine pl_val (want_no rfl) (some 46) rfl (.pointer (some ⟨q, 0, none⟩)) (fun _ => by kernel_rfl) ?_
          refine pl_put1 M (want_no rfl) rfl 9 _ _ rfl 0 q 0 (by kernel_rfl) 2 39 (ls [.string (tkS (tkS s f 2) (tkF s f 2) (dxN s f)), .int .i64 (tkF (tkS s f 2) (tkF s f 2) (dxN s f))]) rfl (.string s) (ls [.string s, .int .i64 (tkF (tkS s f 2) (tkF s f 2) (dxN s f))]) (by kernel_rfl) inz9 (by decide) rfl rfl (put_ls _ 0 _ _ rfl) ?_
          intro u3 M
          replace M : Mem ⟨w, [q]⟩ [⟨q, .cells (av 2 (ls [.string s, .int .i64 (tkF (tkS s f 2) (tkF s f 2) (dxN s f))])) 39⟩] u3 := M
          refine pl_nil ?_
          refine au_then ?_
          refine wp_seq ?_
          refine rg_lit ?_
          refine pl_val (want_no rfl) (some 47) rfl (.string (tkV (tkS s f 2) (tkF s f 2) (dxN s f))) (fun _ => by kernel_rfl) ?_
          refine pl_val (want_no rfl) (some 2) rfl (.string (tkV (tkS s f 2) (tkF s f 2) (dxN s f))) (fun _ => by kernel_rfl) ?_
          refine pl_nil ?_
          refine au_then ?_
          refine wp_ret ?_
          have e0 : (dxV s f) = (tkV (tkS s f 2) (tkF s f 2) (dxN s f)) := by first | (simp only [dxV, dxS, dxF, dxT, dxG, if_pos c0, if_neg c1, if_neg c2, if_pos c3]; done) | simp [dxV, dxS, dxF, dxT, dxG, c0, c1, c2, c3]
          have e1 : (dxS s f) = s := by first | (simp only [dxV, dxS, dxF, dxT, dxG, if_pos c0, if_neg c1, if_neg c2, if_pos c3]; done) | simp [dxV, dxS, dxF, dxT, dxG, c0, c1, c2, c3]
          have e2 : (dxF s f) = (tkF (tkS s f 2) (tkF s f 2) (dxN s f)) := by first | (simp only [dxV, dxS, dxF, dxT, dxG, if_pos c0, if_neg c1, if_neg c2, if_pos c3]; done) | simp [dxV, dxS, dxF, dxT, dxG, c0, c1, c2, c3]
          exact bodyPost_ret (v := .string (tkV (tkS s f 2) (tkF s f 2) (dxN s f))) (results_tmp1 Try.results23 _ _ _ (by kernel_rfl)) (by kernel_rfl) ⟨by simp only [e0, e1, e2], M.old, by simpa only [e0, e1, e2] using M.get 0 rfl⟩
        · skip
          refine pl_val (want_on 5 true rfl 33 rfl (by kernel_rfl)) (some 41) rfl (.bool false) (fun w => Eq.trans (b := .ok (.value (.bool (decide (((tkS (tkS s f 2) (tkF s f 2) (dxN s f)).size : Int) < (s.size : Int))))) w) (by kernel_rfl) (by rw [decide_eq_false (c3)])) ?_
          refine pl_val (want_no rfl) (some 42) rfl (.bool false) (fun _ => by kernel_rfl) ?_
          refine pl_nil ?_
          refine au_then ?_
          refine wp_cond_false (by kernel_rfl) ?_
          refine wp_skip ?_
          refine au_then ?_
          refine wp_seq ?_
          refine rg_lit ?_
          refine pl_val (want_no rfl) (some 47) rfl (.string (tkV (tkS s f 2) (tkF s f 2) (dxN s f))) (fun _ => by kernel_rfl) ?_
          refine pl_val (want_no rfl) (some 2) rfl (.string (tkV (tkS s f 2) (tkF s f 2) (dxN s f))) (fun _ => by kernel_rfl) ?_
          refine pl_nil ?_
          refine au_then ?_
          refine wp_ret ?_
          have e0 : (dxV s f) = (tkV (tkS s f 2) (tkF s f 2) (dxN s f)) := by first | (simp only [dxV, dxS, dxF, dxT, dxG, if_pos c0, if_neg c1, if_neg c2, if_neg c3]; done) | simp [dxV, dxS, dxF, dxT, dxG, c0, c1, c2, c3]
          have e1 : (dxS s f) = (tkS (tkS s f 2) (tkF s f 2) (dxN s f)) := by first | (simp only [dxV, dxS, dxF, dxT, dxG, if_pos c0, if_neg c1, if_neg c2, if_neg c3]; done) | simp [dxV, dxS, dxF, dxT, dxG, c0, c1, c2, c3]
          have e2 : (dxF s f) = (tkF (tkS s f 2) (tkF s f 2) (dxN s f)) := by first | (simp only [dxV, dxS, dxF, dxT, dxG, if_pos c0, if_neg c1, if_neg c2, if_neg c3]; done) | simp [dxV, dxS, dxF, dxT, dxG, c0, c1, c2, c3]
          exact bodyPost_ret (v := .string (tkV (tkS s f 2) (tkF s f 2) (dxN s f))) (results_tmp1 Try.results23 _ _ _ (by kernel_rfl)) (by kernel_rfl) ⟨by simp only [e0, e1, e2], M.old, by simpa only [e0, e1, e2] using M.get 0 rfl⟩
  · skip
    refine pl_val (want_no rfl) (some 17) rfl (.bool false) (fun w => Eq.trans (b := .ok (.value (.bool (decide ((tkF s f 2) = 0)))) w) (by kernel_rfl) (by rw [decide_eq_false (c0)])) ?_
    refine pl_val (want_no rfl) (some 18) rfl (.bool false) (fun _ => by kernel_rfl) ?_
    refine pl_skip (want_off 5 true rfl 18 rfl (by kernel_rfl)) (some 19) rfl ?_
    refine pl_skip (want_off 5 true rfl 18 rfl (by kernel_rfl)) (some 20) rfl ?_
    refine pl_val (want_no rfl) (some 21) rfl (.bool false) (fun _ => by kernel_rfl) ?_
    refine pl_nil ?_
    refine au_then ?_
    refine wp_cond_false (by kernel_rfl) ?_
    refine wp_skip ?_
    refine au_then ?_
    refine wp_seq ?_
    refine rg_lit ?_
    refine pl_val (want_no rfl) (some 25) rfl (.pointer (some ⟨q, 0, none⟩)) (fun _ => by kernel_rfl) ?_
    refine pl_val (want_no rfl) (some 26) rfl (.int .i64 (dxN s f)) (fun _ => by kernel_rfl) ?_
    refine pl_callp M (want_no rfl) (some 27) rfl 21 #[.pointer (some ⟨q, 0, none⟩), .int .i64 (dxN s f)] (.string (tkV (tkS s f 2) (tkF s f 2) (dxN s f))) 0 q (.cells (av 2 (ls [.string (tkS s f 2), .int .i64 (tkF s f 2)])) 39) (.cells (av 2 (ls [.string (tkS (tkS s f 2) (tkF s f 2) (dxN s f)), .int .i64 (tkF (tkS s f 2) (tkF s f 2) (dxN s f))])) 39) rfl (fun _ => by kernel_rfl) (fun w M => d_Take q (tkS s f 2) (tkF s f 2) (dxN s f) w M.laid (M.get 0 rfl)) ?_
    intro u2 M
    replace M : Mem ⟨w, [q]⟩ [⟨q, .cells (av 2 (ls [.string (tkS (tkS s f 2) (tkF s f 2) (dxN s f)), .int .i64 (tkF (tkS s f 2) (tkF s f 2) (dxN s f))])) 39⟩] u2 := M
    refine pl_val (want_no rfl) (some 5) rfl (.string (tkV (tkS s f 2) (tkF s f 2) (dxN s f))) (fun _ => by kernel_rfl) ?_
    refine pl_nil ?_
    refine au_then ?_
    refine wp_seq ?_
    refine wp_seq ?_
    refine rg_lit ?_
    refine pl_val (want_no rfl) (some 28) rfl (.pointer (some ⟨q, 0, none⟩)) (fun _ => by kernel_rfl) ?_
    refine pl_val (want_no rfl) (some 29) rfl (.pointer (some ⟨q, 0, none⟩)) (fun _ => by kernel_rfl) ?_
    refine pl_val (want_no rfl) (some 30) rfl (.pointer (some ⟨q, 1, none⟩)) (fun _ => by kernel_rfl) ?_
    refine pl_cell M (want_no rfl) (some 31) rfl 24 _ rfl q 1 (by kernel_rfl) (.int .i64 (tkF (tkS s f 2) (tkF s f 2) (dxN s f))) (fun _ => by kernel_rfl) (fun w M => M.cell 0 rfl (by decide) rfl) ?_
    by_cases c1 : (tkF (tkS s f 2) (tkF s f 2) (dxN s f)) = 0
    · skip
      refine pl_val (want_no rfl) (some 32) rfl (.bool false) (fun w => Eq.trans (b := .ok (.value (.bool (!(decide ((tkF (tkS s f 2) (tkF s f 2) (dxN s f)) = 0))))) w) (by kernel_rfl) (by rw [decide_eq_true (c1)]; rfl)) ?_
      refine pl_val (want_no rfl) (some 33) rfl (.bool false) (fun _ => by kernel_rfl) ?_
      refine pl_skip (want_off 5 true rfl 33 rfl (by kernel_rfl)) (some 34) rfl ?_
      refine pl_skip (want_off 5 true rfl 33 rfl (by kernel_rfl)) (some 35) rfl ?_
      refine pl_skip (want_off 5 true rfl 33 rfl (by kernel_rfl)) (some 36) rfl ?_
      refine pl_skip (want_off 5 true rfl 33 rfl (by kernel_rfl)) (some 37) rfl ?_
      refine pl_skip (want_off 5 true rfl 33 rfl (by kernel_rfl)) (some 38) rfl ?_
      refine pl_skip (want_off 5 true rfl 33 rfl (by kernel_rfl)) (some 39) rfl ?_
      refine pl_skip (want_off 5 true rfl 33 rfl (by kernel_rfl)) (some 40) rfl ?_
      refine pl_skip (want_off 5 true rfl 33 rfl (by kernel_rfl)) (some 41) rfl ?_
      refine pl_val (want_no rfl) (some 42) rfl (.bool false) (fun _ => by kernel_rfl) ?_
      refine pl_nil ?_
      refine au_then ?_
      refine wp_cond_false (by kernel_rfl) ?_
      refine wp_skip ?_
      refine au_then ?_
      refine wp_seq ?_
      refine rg_lit ?_
      refine pl_val (want_no rfl) (some 47) rfl (.string (tkV (tkS s f 2) (tkF s f 2) (dxN s f))) (fun _ => by kernel_rfl) ?_
      refine pl_val (want_no rfl) (some 2) rfl (.string (tkV (tkS s f 2) (tkF s f 2) (dxN s f))) (fun _ => by kernel_rfl) ?_
      refine pl_nil ?_
      refine au_then ?_
      refine wp_ret ?_
      have e0 : (dxV s f) = (tkV (tkS s f 2) (tkF s f 2) (dxN s f)) := by first | (simp only [dxV, dxS, dxF, dxT, dxG, if_neg c0, if_pos c1]; done) | simp [dxV, dxS, dxF, dxT, dxG, c0, c1]
      have e1 : (dxS s f) = (tkS (tkS s f 2) (tkF s f 2) (dxN s f)) := by first | (simp only [dxV, dxS, dxF, dxT, dxG, if_neg c0, if_pos c1]; done) | simp [dxV, dxS, dxF, dxT, dxG, c0, c1]
      have e2 : (dxF s f) = (tkF (tkS s f 2) (tkF s f 2) (dxN s f)) := by first | (simp only [dxV, dxS, dxF, dxT, dxG, if_neg c0, if_pos c1]; done) | simp [dxV, dxS, dxF, dxT, dxG, c0, c1]
      exact bodyPost_ret (v := .string (tkV (tkS s f 2) (tkF s f 2) (dxN s f))) (results_tmp1 Try.results23 _ _ _ (by kernel_rfl)) (by kernel_rfl) ⟨by simp only [e0, e1, e2], M.old, by simpa only [e0, e1, e2] using M.get 0 rfl⟩
    · skip
      refine pl_val (want_no rfl) (some 32) rfl (.bool true) (fun w => Eq.trans (b := .ok (.value (.bool (!(decide ((tkF (tkS s f 2) (tkF s f 2) (dxN s f)) = 0))))) w) (by kernel_rfl) (by rw [decide_eq_false (c1)]; rfl)) ?_
      refine pl_val (want_no rfl) (some 33) rfl (.bool true) (fun _ => by kernel_rfl) ?_
      refine pl_val (want_on 5 true rfl 33 rfl (by kernel_rfl)) (some 34) rfl (.string s) (fun _ => by kernel_rfl) ?_
      refine pl_val (want_on 5 true rfl 33 rfl (by kernel_rfl)) (some 35) rfl (.int .i64 (s.size : Int)) (fun _ => by kernel_rfl) ?_
      refine pl_val (want_on 5 true rfl 33 rfl (by kernel_rfl)) (some 36) rfl (.pointer (some ⟨q, 0, none⟩)) (fun _ => by kernel_rfl) ?_
      refine pl_val (want_on 5 true rfl 33 rfl (by kernel_rfl)) (some 37) rfl (.pointer (some ⟨q, 0, none⟩)) (fun _ => by kernel_rfl) ?_
      refine pl_val (want_on 5 true rfl 33 rfl (by kernel_rfl)) (some 38) rfl (.pointer (some ⟨q, 0, none⟩)) (fun _ => by kernel_rfl) ?_
      refine pl_cell M (want_on 5 true rfl 33 rfl (by kernel_rfl)) (some 39) rfl 9 _ rfl q 0 (by kernel_rfl) (.string (tkS (tkS s f 2) (tkF s f 2) (dxN s f))) (fun _ => by kernel_rfl) (fun w M => M.cell 0 rfl (by decide) rfl) ?_
      refine pl_val (want_on 5 true rfl 33 rfl (by kernel_rfl)) (some 40) rfl (.int .i64 ((tkS (tkS s f 2) (tkF s f 2) (dxN s f)).size : Int)) (fun _ => by kernel_rfl) ?_
      by_cases c2 : ((tkS (tkS s f 2) (tkF s f 2) (dxN s f)).size : Int) < (s.size : Int)
      · skip
        refine pl_val (want_on 5 true rfl 33 rfl (by kernel_rfl)) (some 41) rfl (.bool true) (fun w => Eq.trans (b := .ok (.value (.bool (decide (((tkS (tkS s f 2) (tkF s f 2) (dxN s f)).size : Int) < (s.size : Int))))) w) (by kernel_rfl) (by rw [decide_eq_true (c2)])) ?_
        refine pl_val (want_no rfl) (some 42) rfl (.bool true) (fun _ => by kernel_rfl) ?_
        refine pl_nil ?_
        refine au_then ?_
        refine wp_cond_true (by kernel_rfl) ?_
        refine rg_lit ?_
        refine pl_val (want_no rfl) (some 43) rfl (.pointer (some ⟨q, 0, none⟩)) (fun _ => by kernel_rfl) ?_
        refine pl_val (want_no rfl) (some 44) rfl (.string s) (fun _ => by kernel_rfl) ?_
        refine pl_val (want_no rfl) (some 45) rfl (.pointer (some ⟨q, 0, none⟩)) (fun _ => by kernel_rfl) ?_
        refine pl_val (want_no rfl) (some 46) rfl (.pointer (some ⟨q, 0, none⟩)) (fun _ => by kernel_rfl) ?_
        refine pl_put1 M (want_no rfl) rfl 9 _ _ rfl 0 q 0 (by kernel_rfl) 2 39 (ls [.string (tkS (tkS s f 2) (tkF s f 2) (dxN s f)), .int .i64 (tkF (tkS s f 2) (tkF s f 2) (dxN s f))]) rfl (.string s) (ls [.string s, .int .i64 (tkF (tkS s f 2) (tkF s f 2) (dxN s f))]) (by kernel_rfl) inz9 (by decide) rfl rfl (put_ls _ 0 _ _ rfl) ?_
        intro u3 M
        replace M : Mem ⟨w, [q]⟩ [⟨q, .cells (av 2 (ls [.string s, .int .i64 (tkF (tkS s f 2) (tkF s f 2) (dxN s f))])) 39⟩] u3 := M
        refine pl_nil ?_
        refine au_then ?_
        refine wp_seq ?_
        refine rg_lit ?_
        refine pl_val (want_no rfl) (some 47) rfl (.string (tkV (tkS s f 2) (tkF s f 2) (dxN s f))) (fun _ => by kernel_rfl) ?_
        refine pl_val (want_no rfl) (some 2) rfl (.string (tkV (tkS s f 2) (tkF s f 2) (dxN s f))) (fun _ => by kernel_rfl) ?_
        refine pl_nil ?_
        refine au_then ?_
        refine wp_ret ?_
        have e0 : (dxV s f) = (tkV (tkS s f 2) (tkF s f 2) (dxN s f)) := by first | (simp only [dxV, dxS, dxF, dxT, dxG, if_neg c0, if_neg c1, if_pos c2]; done) | simp [dxV, dxS, dxF, dxT, dxG, c0, c1, c2]
        have e1 : (dxS s f) = s := by first | (simp only [dxV, dxS, dxF, dxT, dxG, if_neg c0, if_neg c1, if_pos c2]; done) | simp [dxV, dxS, dxF, dxT, dxG, c0, c1, c2]
        have e2 : (dxF s f) = (tkF (tkS s f 2) (tkF s f 2) (dxN s f)) := by first | (simp only [dxV, dxS, dxF, dxT, dxG, if_neg c0, if_neg c1, if_pos c2]; done) | simp [dxV, dxS, dxF, dxT, dxG, c0, c1, c2]
        exact bodyPost_ret (v := .string (tkV (tkS s f 2) (tkF s f 2) (dxN s f))) (results_tmp1 Try.results23 _ _ _ (by kernel_rfl)) (by kernel_rfl) ⟨by simp only [e0, e1, e2], M.old, by simpa only [e0, e1, e2] using M.get 0 rfl⟩
      · skip
        refine pl_val (want_on 5 true rfl 33 rfl (by kernel_rfl)) (some 41) rfl (.bool false) (fun w => Eq.trans (b := .ok (.value (.bool (decide (((tkS (tkS s f 2) (tkF s f 2) (dxN s f)).size : Int) < (s.size : Int))))) w) (by kernel_rfl) (by rw [decide_eq_false (c2)])) ?_
        refine pl_val (want_no rfl) (some 42) rfl (.bool false) (fun _ => by kernel_rfl) ?_
        refine pl_nil ?_
        refine au_then ?_
        refine wp_cond_false (by kernel_rfl) ?_
        refine wp_skip ?_
        refine au_then ?_
        refine wp_seq ?_
        refine rg_lit ?_
        refine pl_val (want_no rfl) (some 47) rfl (.string (tkV (tkS s f 2) (tkF s f 2) (dxN s f))) (fun _ => by kernel_rfl) ?_
        refine pl_val (want_no rfl) (some 2) rfl (.string (tkV (tkS s f 2) (tkF s f 2) (dxN s f))) (fun _ => by kernel_rfl) ?_
        refine pl_nil ?_
        refine au_then ?_
        refine wp_ret ?_
        have e0 : (dxV s f) = (tkV (tkS s f 2) (tkF s f 2) (dxN s f)) := by first | (simp only [dxV, dxS, dxF, dxT, dxG, if_neg c0, if_neg c1, if_neg c2]; done) | simp [dxV, dxS, dxF, dxT, dxG, c0, c1, c2]
        have e1 : (dxS s f) = (tkS (tkS s f 2) (tkF s f 2) (dxN s f)) := by first | (simp only [dxV, dxS, dxF, dxT, dxG, if_neg c0, if_neg c1, if_neg c2]; done) | simp [dxV, dxS, dxF, dxT, dxG, c0, c1, c2]
        have e2 : (dxF s f) = (tkF (tkS s f 2) (tkF s f 2) (dxN s f)) := by first | (simp only [dxV, dxS, dxF, dxT, dxG, if_neg c0, if_neg c1, if_neg c2]; done) | simp [dxV, dxS, dxF, dxT, dxG, c0, c1, c2]
        exact bodyPost_ret (v := .string (tkV (tkS s f 2) (tkF s f 2) (dxN s f))) (results_tmp1 Try.results23 _ _ _ (by kernel_rfl)) (by kernel_rfl) ⟨by simp only [e0, e1, e2], M.old, by simpa only [e0, e1, e2] using M.get 0 rfl⟩

set_option maxRecDepth 100000 in
set_option maxHeartbeats 4000000 in
set_option linter.unusedSimpArgs false in
theorem c_Text (g : Nat) (s : ByteArray) (w : World) (hL : Laid w)  (hg : w.heap[g]? = some (.cells (av 3 (ls [.bool true, .string s, .int .i64 0])) 59)) :
    Calls Try.prog 22 #[.pointer (some ⟨g, 0, none⟩)] w fun r w' => r = .returned (.string (pxV s)) ∧ Grw w w' [g] ∧ w'.heap[g]? = some (.cells (av 3 (ls [.bool true, .string (pxS s), .int .i64 (pxF s)])) 59) := by
  go_enter Try.func22, Try.ntmps22
  have M := Mem.startp hL hg
  refine wp_seq ?_
  refine rg_lit ?_
  refine pl_val (want_no rfl) (some 2) rfl (.string ⟨#[]⟩) (fun _ => by kernel_rfl) ?_
  refine pl_nil ?_
  refine au_then ?_
  refine wp_seq ?_
  refine wp_seq ?_
  refine rg_lit ?_
  refine pl_val (want_no rfl) (some 6) rfl (.pointer (some ⟨g, 0, none⟩)) (fun _ => by kernel_rfl) ?_
  refine pl_call M (want_no rfl) (some 7) rfl 25 #[.pointer (some ⟨g, 0, none⟩)] (.int .i64 0) (fun _ => by kernel_rfl) (fun w M => c_Fault g s 0 w M.laid (M.get 0 rfl)) ?_
  intro u1 M
  refine pl_val (want_no rfl) (some 8) rfl (.bool false) (fun _ => by kernel_rfl) ?_
  refine pl_nil ?_
  refine au_then ?_
  refine wp_cond_false (by kernel_rfl) ?_
  refine wp_skip ?_
  refine au_then ?_
  refine wp_seq ?_
  refine rg_lit ?_
  refine pl_val (want_no rfl) (some 9) rfl (.pointer (some ⟨g, 0, none⟩)) (fun _ => by kernel_rfl) ?_
  refine pl_val (want_no rfl) (some 10) rfl (.pointer (some ⟨g, 0, none⟩)) (fun _ => by kernel_rfl) ?_
  refine pl_val (want_no rfl) (some 11) rfl (.pointer (some ⟨g, 1, none⟩)) (fun _ => by kernel_rfl) ?_
  refine pl_cell M (want_no rfl) (some 12) rfl 9 _ rfl g 1 (by kernel_rfl) (.string s) (fun _ => by kernel_rfl) (fun w M => M.cell 0 rfl (by decide) rfl) ?_
  refine pl_val (want_no rfl) (some 3) rfl (.string s) (fun _ => by kernel_rfl) ?_
  refine pl_nil ?_
  refine au_then ?_
  refine wp_seq ?_
  refine rg_lit ?_
  refine pl_val (want_no rfl) (some 13) rfl (.pointer (some ⟨g, 0, none⟩)) (fun _ => by kernel_rfl) ?_
  refine pl_callp M (want_no rfl) (some 14) rfl 17 #[.pointer (some ⟨g, 0, none⟩)] (.int .u16 (cv .u16 (bnv (tkV s 0 2)))) 0 g (.cells (av 3 (ls [.bool true, .string s, .int .i64 0])) 59) (.cells (av 3 (ls [.bool true, .string (tkS s 0 2), .int .i64 (tkF s 0 2)])) 59) rfl (fun _ => by kernel_rfl) (fun w M => r_U16 g s 0 w M.laid (M.get 0 rfl)) ?_
  intro u2 M
  replace M : Mem ⟨w, [g]⟩ [⟨g, .cells (av 3 (ls [.bool true, .string (tkS s 0 2), .int .i64 (tkF s 0 2)])) 59⟩] u2 := M
  refine pl_val (want_no rfl) (some 15) rfl (.int .i64 (pxN s)) (fun _ => by kernel_rfl) ?_
  refine pl_val (want_no rfl) (some 4) rfl (.int .i64 (pxN s)) (fun _ => by kernel_rfl) ?_
  refine pl_nil ?_
  refine au_then ?_
  refine wp_seq ?_
  refine rg_lit ?_
  refine pl_val (want_no rfl) (some 5) rfl (.string ⟨#[]⟩) (fun _ => by kernel_rfl) ?_
  refine pl_nil ?_
  refine au_then ?_
  refine wp_seq ?_
  refine wp_seq ?_
  refine rg_lit ?_
  refine pl_val (want_no rfl) (some 16) rfl (.pointer (some ⟨g, 0, none⟩)) (fun _ => by kernel_rfl) ?_
  refine pl_val (want_no rfl) (some 17) rfl (.int .i64 (pxN s)) (fun _ => by kernel_rfl) ?_
  by_cases c0 : 32768 < (pxN s)
  · skip
    refine pl_val (want_no rfl) (some 18) rfl (.bool true) (fun w => Eq.trans (b := .ok (.value (.bool (decide (32768 < (pxN s))))) w) (by kernel_rfl) (by rw [decide_eq_true (c0)])) ?_
    refine pl_callp M (want_no rfl) (some 19) rfl 35 #[.pointer (some ⟨g, 0, none⟩), .bool true, .int .i64 4] (.bool true) 0 g (.cells (av 3 (ls [.bool true, .string (tkS s 0 2), .int .i64 (tkF s 0 2)])) 59) (.cells (av 3 (ls [.bool true, .string (tkS s 0 2), .int .i64 (ff (tkF s 0 2) 4)])) 59) rfl (fun _ => by kernel_rfl) (fun w M => c_faultyT g (tkS s 0 2) (tkF s 0 2) 4 (by decide) w M.laid (M.get 0 rfl)) ?_
    intro u3 M
    replace M : Mem ⟨w, [g]⟩ [⟨g, .cells (av 3 (ls [.bool true, .string (tkS s 0 2), .int .i64 (ff (tkF s 0 2) 4)])) 59⟩] u3 := M
    refine pl_val (want_no rfl) (some 20) rfl (.bool false) (fun _ => by kernel_rfl) ?_
    refine pl_nil ?_
    refine au_then ?_
    refine wp_cond_false (by kernel_rfl) ?_
    refine wp_skip ?_
    refine au_then ?_
    refine wp_seq ?_
    refine wp_seq ?_
    refine rg_lit ?_
    refine pl_val (want_no rfl) (some 24) rfl (.pointer (some ⟨g, 0, none⟩)) (fun _ => by kernel_rfl) ?_
    refine pl_val (want_no rfl) (some 25) rfl (.pointer (some ⟨g, 0, none⟩)) (fun _ => by kernel_rfl) ?_
    refine pl_val (want_no rfl) (some 26) rfl (.pointer (some ⟨g, 2, none⟩)) (fun _ => by kernel_rfl) ?_
    refine pl_cell M (want_no rfl) (some 27) rfl 24 _ rfl g 2 (by kernel_rfl) (.int .i64 (ff (tkF s 0 2) 4)) (fun _ => by kernel_rfl) (fun w M => M.cell 0 rfl (by decide) rfl) ?_
    by_cases c1 : (ff (tkF s 0 2) 4) = 0
    · skip
      refine pl_val (want_no rfl) (some 28) rfl (.bool false) (fun w => Eq.trans (b := .ok (.value (.bool (!(decide ((ff (tkF s 0 2) 4) = 0))))) w) (by kernel_rfl) (by rw [decide_eq_true (c1)]; rfl)) ?_
      refine pl_nil ?_
      refine au_then ?_
      refine wp_cond_false (by kernel_rfl) ?_
      refine wp_skip ?_
      refine au_then ?_
      refine wp_seq ?_
      refine rg_lit ?_
      refine pl_val (want_no rfl) (some 33) rfl (.string ⟨#[]⟩) (fun _ => by kernel_rfl) ?_
      refine pl_val (want_no rfl) (some 2) rfl (.string ⟨#[]⟩) (fun _ => by kernel_rfl) ?_
      refine pl_nil ?_
      refine au_then ?_
      refine wp_ret ?_
      have e0 : (pxV s) = ⟨#[]⟩ := by first | (simp only [pxV, pxS, pxF, if_pos c0, if_pos c1]; done) | simp [pxV, pxS, pxF, c0, c1]
      have e1 : (pxS s) = (tkS s 0 2) := by first | (simp only [pxV, pxS, pxF, if_pos c0, if_pos c1]; done) | simp [pxV, pxS, pxF, c0, c1]
      have e2 : (pxF s) = (ff (tkF s 0 2) 4) := by first | (simp only [pxV, pxS, pxF, if_pos c0, if_pos c1]; done) | simp [pxV, pxS, pxF, c0, c1]
      exact bodyPost_ret (v := .string ⟨#[]⟩) (results_tmp1 Try.results22 _ _ _ (by kernel_rfl)) (by kernel_rfl) ⟨by simp only [e0, e1, e2], M.old, by simpa only [e0, e1, e2] using M.get 0 rfl⟩
    · skip
      refine pl_val (want_no rfl) (some 28) rfl (.bool true) (fun w => Eq.trans (b := .ok (.value (.bool (!(decide ((ff (tkF s 0 2) 4) = 0))))) w) (by kernel_rfl) (by rw [decide_eq_false (c1)]; rfl)) ?_
      refine pl_nil ?_
      refine au_then ?_
      refine wp_cond_true (by kernel_rfl) ?_
      refine rg_lit ?_
      refine pl_val (want_no rfl) (some 29) rfl (.pointer (some ⟨g, 0, none⟩)) (fun _ => by kernel_rfl) ?_
      refine pl_val (want_no rfl) (some 30) rfl (.string s) (fun _ => by kernel_rfl) ?_
      refine pl_val (want_no rfl) (some 31) rfl (.pointer (some ⟨g, 0, none⟩)) (fun _ => by kernel_rfl) ?_
      refine pl_val (want_no rfl) (some 32) rfl (.pointer (some ⟨g, 1, none⟩)) (fun _ => by kernel_rfl) ?_
      refine pl_put1 M (want_no rfl) rfl 9 _ _ rfl 0 g 1 (by kernel_rfl) 3 59 (ls [.bool true, .string (tkS s 0 2), .int .i64 (ff (tkF s 0 2) 4)]) rfl (.string s) (ls [.bool true, .string s, .int .i64 (ff (tkF s 0 2) 4)]) (by kernel_rfl) inz9 (by decide) rfl rfl (put_ls _ 1 _ _ rfl) ?_
      intro u4 M
      replace M : Mem ⟨w, [g]⟩ [⟨g, .cells (av 3 (ls [.bool true, .string s, .int .i64 (ff (tkF s 0 2) 4)])) 59⟩] u4 := M
      refine pl_nil ?_
      refine au_then ?_
      refine wp_seq ?_
      refine rg_lit ?_
      refine pl_val (want_no rfl) (some 33) rfl (.string ⟨#[]⟩) (fun _ => by kernel_rfl) ?_
      refine pl_val (want_no rfl) (some 2) rfl (.string ⟨#[]⟩) (fun _ => by kernel_rfl) ?_
      refine pl_nil ?_
      refine au_then ?_
      refine wp_ret ?_
      have e0 : (pxV s) = ⟨#[]⟩ := by first | (simp only [pxV, pxS, pxF, if_pos c0, if_neg c1]; done) | simp [pxV, pxS, pxF, c0, c1]
      have e1 : (pxS s) = s := by first | (simp only [pxV, pxS, pxF, if_pos c0, if_neg c1]; done) | simp [pxV, pxS, pxF, c0, c1]
      have e2 : (pxF s) = (ff (tkF s 0 2) 4) := by first | (simp only [pxV, pxS, pxF, if_pos c0, if_neg c1]; done) | simp [pxV, pxS, pxF, c0, c1]
      exact bodyPost_ret (v := .string ⟨#[]⟩) (results_tmp1 Try.results22 _ _ _ (by kernel_rfl)) (by kernel_rfl) ⟨by simp only [e0, e1, e2], M.old, by simpa only [e0, e1, e2] using M.get 0 rfl⟩
  · skip
    refine pl_val (want_no rfl) (some 18) rfl (.bool false) (fun w => Eq.trans (b := .ok (.value (.bool (decide (32768 < (pxN s))))) w) (by kernel_rfl) (by rw [decide_eq_false (c0)])) ?_
    by_cases c1 : (tkF s 0 2) = 0
    · skip
      refine pl_callp M (want_no rfl) (some 19) rfl 35 #[.pointer (some ⟨g, 0, none⟩), .bool false, .int .i64 4] (.bool false) 0 g (.cells (av 3 (ls [.bool true, .string (tkS s 0 2), .int .i64 (tkF s 0 2)])) 59) (.cells (av 3 (ls [.bool true, .string (tkS s 0 2), .int .i64 (tkF s 0 2)])) 59) rfl (fun _ => by kernel_rfl) (fun w M => call_val (c_faultyF g (tkS s 0 2) (tkF s 0 2) 4 w M.laid (M.get 0 rfl)) (congrArg Value.bool (decide_eq_false (not_not_intro c1)))) ?_
      intro u3 M
      replace M : Mem ⟨w, [g]⟩ [⟨g, .cells (av 3 (ls [.bool true, .string (tkS s 0 2), .int .i64 (tkF s 0 2)])) 59⟩] u3 := M
      refine pl_val (want_no rfl) (some 20) rfl (.bool true) (fun _ => by kernel_rfl) ?_
      refine pl_nil ?_
      refine au_then ?_
      refine wp_cond_true (by kernel_rfl) ?_
      refine rg_lit ?_
      refine pl_val (want_no rfl) (some 21) rfl (.pointer (some ⟨g, 0, none⟩)) (fun _ => by kernel_rfl) ?_
      refine pl_val (want_no rfl) (some 22) rfl (.int .i64 (pxN s)) (fun _ => by kernel_rfl) ?_
      refine pl_callp M (want_no rfl) (some 23) rfl 20 #[.pointer (some ⟨g, 0, none⟩), .int .i64 (pxN s)] (.string (tkV (tkS s 0 2) (tkF s 0 2) (pxN s))) 0 g (.cells (av 3 (ls [.bool true, .string (tkS s 0 2), .int .i64 (tkF s 0 2)])) 59) (.cells (av 3 (ls [.bool true, .string (tkS (tkS s 0 2) (tkF s 0 2) (pxN s)), .int .i64 (tkF (tkS s 0 2) (tkF s 0 2) (pxN s))])) 59) rfl (fun _ => by kernel_rfl) (fun w M => c_Take g (tkS s 0 2) (tkF s 0 2) (pxN s) w M.laid (M.get 0 rfl)) ?_
      intro u4 M
      replace M : Mem ⟨w, [g]⟩ [⟨g, .cells (av 3 (ls [.bool true, .string (tkS (tkS s 0 2) (tkF s 0 2) (pxN s)), .int .i64 (tkF (tkS s 0 2) (tkF s 0 2) (pxN s))])) 59⟩] u4 := M
      refine pl_val (want_no rfl) (some 5) rfl (.string (tkV (tkS s 0 2) (tkF s 0 2) (pxN s))) (fun _ => by kernel_rfl) ?_
      refine pl_nil ?_
      refine au_then ?_
      refine wp_seq ?_
      refine wp_seq ?_
      refine rg_lit ?_
      refine pl_val (want_no rfl) (some 24) rfl (.pointer (some ⟨g, 0, none⟩)) (fun _ => by kernel_rfl) ?_
      refine pl_val (want_no rfl) (some 25) rfl (.pointer (some ⟨g, 0, none⟩)) (fun _ => by kernel_rfl) ?_
      refine pl_val (want_no rfl) (some 26) rfl (.pointer (some ⟨g, 2, none⟩)) (fun _ => by kernel_rfl) ?_
      refine pl_cell M (want_no rfl) (some 27) rfl 24 _ rfl g 2 (by kernel_rfl) (.int .i64 (tkF (tkS s 0 2) (tkF s 0 2) (pxN s))) (fun _ => by kernel_rfl) (fun w M => M.cell 0 rfl (by decide) rfl) ?_
      by_cases c2 : (tkF (tkS s 0 2) (tkF s 0 2) (pxN s)) = 0
      · skip
        refine pl_val (want_no rfl) (some 28) rfl (.bool false) (fun w => Eq.trans (b := .ok (.value (.bool (!(decide ((tkF (tkS s 0 2) (tkF s 0 2) (pxN s)) = 0))))) w) (by kernel_rfl) (by rw [decide_eq_true (c2)]; rfl)) ?_
        refine pl_nil ?_
        refine au_then ?_
        refine wp_cond_false (by kernel_rfl) ?_
        refine wp_skip ?_
        refine au_then ?_
        refine wp_seq ?_
        refine rg_lit ?_
        refine pl_val (want_no rfl) (some 33) rfl (.string (tkV (tkS s 0 2) (tkF s 0 2) (pxN s))) (fun _ => by kernel_rfl) ?_
        refine pl_val (want_no rfl) (some 2) rfl (.string (tkV (tkS s 0 2) (tkF s 0 2) (pxN s))) (fun _ => by kernel_rfl) ?_
        refine pl_nil ?_
        refine au_then ?_
        refine wp_ret ?_
        have e0 : (pxV s) = (tkV (tkS s 0 2) (tkF s 0 2) (pxN s)) := by first | (simp only [pxV, pxS, pxF, if_neg c0, if_pos c1, if_pos c2]; done) | simp [pxV, pxS, pxF, c0, c1, c2]
        have e1 : (pxS s) = (tkS (tkS s 0 2) (tkF s 0 2) (pxN s)) := by first | (simp only [pxV, pxS, pxF, if_neg c0, if_pos c1, if_pos c2]; done) | simp [pxV, pxS, pxF, c0, c1, c2]
        have e2 : (pxF s) = (tkF (tkS s 0 2) (tkF s 0 2) (pxN s)) := by first | (simp only [pxV, pxS, pxF, if_neg c0, if_pos c1, if_pos c2]; done) | simp [pxV, pxS, pxF, c0, c1, c2]
        exact bodyPost_ret (v := .string (tkV (tkS s 0 2) (tkF s 0 2) (pxN s))) (results_tmp1 Try.results22 _ _ _ (by kernel_rfl)) (by kernel_rfl) ⟨by simp only [e0, e1, e2], M.old, by simpa only [e0, e1, e2] using M.get 0 rfl⟩
      · skip
        refine pl_val (want_no rfl) (some 28) rfl (.bool true) (fun w => Eq.trans (b := .ok (.value (.bool (!(decide ((tkF (tkS s 0 2) (tkF s 0 2) (pxN s)) = 0))))) w) (by kernel_rfl) (by rw [decide_eq_false (c2)]; rfl)) ?_
        refine pl_nil ?_
        refine au_then ?_
        refine wp_cond_true (by kernel_rfl) ?_
        refine rg_lit ?_
        refine pl_val (want_no rfl) (some 29) rfl (.pointer (some ⟨g, 0, none⟩)) (fun _ => by kernel_rfl) ?_
        refine pl_val (want_no rfl) (some 30) rfl (.string s) (fun _ => by kernel_rfl) ?_
        refine pl_val (want_no rfl) (some 31) rfl (.pointer (some ⟨g, 0, none⟩)) (fun _ => by kernel_rfl) ?_
        refine pl_val (want_no rfl) (some 32) rfl (.pointer (some ⟨g, 1, none⟩)) (fun _ => by kernel_rfl) ?_
        refine pl_put1 M (want_no rfl) rfl 9 _ _ rfl 0 g 1 (by kernel_rfl) 3 59 (ls [.bool true, .string (tkS (tkS s 0 2) (tkF s 0 2) (pxN s)), .int .i64 (tkF (tkS s 0 2) (tkF s 0 2) (pxN s))]) rfl (.string s) (ls [.bool true, .string s, .int .i64 (tkF (tkS s 0 2) (tkF s 0 2) (pxN s))]) (by kernel_rfl) inz9 (by decide) rfl rfl (put_ls _ 1 _ _ rfl) ?_
        intro u5 M
        replace M : Mem ⟨w, [g]⟩ [⟨g, .cells (av 3 (ls [.bool true, .string s, .int .i64 (tkF (tkS s 0 2) (tkF s 0 2) (pxN s))])) 59⟩] u5 := M
        refine pl_nil ?_
        refine au_then ?_
        refine wp_seq ?_
        refine rg_lit ?_
        refine pl_val (want_no rfl) (some 33) rfl (.string (tkV (tkS s 0 2) (tkF s 0 2) (pxN s))) (fun _ => by kernel_rfl) ?_
        refine pl_val (want_no rfl) (some 2) rfl (.string (tkV (tkS s 0 2) (tkF s 0 2) (pxN s))) (fun _ => by kernel_rfl) ?_
        refine pl_nil ?_
        refine au_then ?_
        refine wp_ret ?_
        have e0 : (pxV s) = (tkV (tkS s 0 2) (tkF s 0 2) (pxN s)) := by first | (simp only [pxV, pxS, pxF, if_neg c0, if_pos c1, if_neg c2]; done) | simp [pxV, pxS, pxF, c0, c1, c2]
        have e1 : (pxS s) = s := by first | (simp only [pxV, pxS, pxF, if_neg c0, if_pos c1, if_neg c2]; done) | simp [pxV, pxS, pxF, c0, c1, c2]
        have e2 : (pxF s) = (tkF (tkS s 0 2) (tkF s 0 2) (pxN s)) := by first | (simp only [pxV, pxS, pxF, if_neg c0, if_pos c1, if_neg c2]; done) | simp [pxV, pxS, pxF, c0, c1, c2]
        exact bodyPost_ret (v := .string (tkV (tkS s 0 2) (tkF s 0 2) (pxN s))) (results_tmp1 Try.results22 _ _ _ (by kernel_rfl)) (by kernel_rfl) ⟨by simp only [e0, e1, e2], M.old, by simpa only [e0, e1, e2] using M.get 0 rfl⟩
    · skip
      refine pl_callp M (want_no rfl) (some 19) rfl 35 #[.pointer (some ⟨g, 0, none⟩), .bool false, .int .i64 4] (.bool true) 0 g (.cells (av 3 (ls [.bool true, .string (tkS s 0 2), .int .i64 (tkF s 0 2)])) 59) (.cells (av 3 (ls [.bool true, .string (tkS s 0 2), .int .i64 (tkF s 0 2)])) 59) rfl (fun _ => by kernel_rfl) (fun w M => call_val (c_faultyF g (tkS s 0 2) (tkF s 0 2) 4 w M.laid (M.get 0 rfl)) (congrArg Value.bool (decide_eq_true (c1)))) ?_
      intro u3 M
      replace M : Mem ⟨w, [g]⟩ [⟨g, .cells (av 3 (ls [.bool true, .string (tkS s 0 2), .int .i64 (tkF s 0 2)])) 59⟩] u3 := M
      refine pl_val (want_no rfl) (some 20) rfl (.bool false) (fun _ => by kernel_rfl) ?_
      refine pl_nil ?_
      refine au_then ?_
      refine wp_cond_false (by kernel_rfl) ?_
      refine wp_skip ?_
      refine au_then ?_
      refine wp_seq ?_
      refine wp_seq ?_
      refine rg_lit ?_
      refine pl_val (want_no rfl) (some 24) rfl (.pointer (some ⟨g, 0, none⟩)) (fun _ => by kernel_rfl) ?_
      refine pl_val (want_no rfl) (some 25) rfl (.pointer (some ⟨g, 0, none⟩)) (fun _ => by kernel_rfl) ?_
      refine pl_val (want_no rfl) (some 26) rfl (.pointer (some ⟨g, 2, none⟩)) (fun _ => by kernel_rfl) ?_
      refine pl_cell M (want_no rfl) (some 27) rfl 24 _ rfl g 2 (by kernel_rfl) (.int .i64 (tkF s 0 2)) (fun _ => by kernel_rfl) (fun w M => M.cell 0 rfl (by decide) rfl) ?_
      refine pl_val (want_no rfl) (some 28) rfl (.bool true) (fun w => Eq.trans (b := .ok (.value (.bool (!(decide ((tkF s 0 2) = 0))))) w) (by kernel_rfl) (by rw [decide_eq_false (c1)]; rfl)) ?_
      refine pl_nil ?_
      refine au_then ?_
      refine wp_cond_true (by kernel_rfl) ?_
      refine rg_lit ?_
      refine pl_val (want_no rfl) (some 29) rfl (.pointer (some ⟨g, 0, none⟩)) (fun _ => by kernel_rfl) ?_
      refine pl_val (want_no rfl) (some 30) rfl (.string s) (fun _ => by kernel_rfl) ?_
      refine pl_val (want_no rfl) (some 31) rfl (.pointer (some ⟨g, 0, none⟩)) (fun _ => by kernel_rfl) ?_
      refine pl_val (want_no rfl) (some 32) rfl (.pointer (some ⟨g, 1, none⟩)) (fun _ => by kernel_rfl) ?_
      refine pl_put1 M (want_no rfl) rfl 9 _ _ rfl 0 g 1 (by kernel_rfl) 3 59 (ls [.bool true, .string (tkS s 0 2), .int .i64 (tkF s 0 2)]) rfl (.string s) (ls [.bool true, .string s, .int .i64 (tkF s 0 2)]) (by kernel_rfl) inz9 (by decide) rfl rfl (put_ls _ 1 _ _ rfl) ?_
      intro u4 M
      replace M : Mem ⟨w, [g]⟩ [⟨g, .cells (av 3 (ls [.bool true, .string s, .int .i64 (tkF s 0 2)])) 59⟩] u4 := M
      refine pl_nil ?_
      refine au_then ?_
      refine wp_seq ?_
      refine rg_lit ?_
      refine pl_val (want_no rfl) (some 33) rfl (.string ⟨#[]⟩) (fun _ => by kernel_rfl) ?_
      refine pl_val (want_no rfl) (some 2) rfl (.string ⟨#[]⟩) (fun _ => by kernel_rfl) ?_
      refine pl_nil ?_
      refine au_then ?_
      refine wp_ret ?_
      have e0 : (pxV s) = ⟨#[]⟩ := by first | (simp only [pxV, pxS, pxF, if_neg c0, if_neg c1]; done) | simp [pxV, pxS, pxF, c0, c1]
      have e1 : (pxS s) = s := by first | (simp only [pxV, pxS, pxF, if_neg c0, if_neg c1]; done) | simp [pxV, pxS, pxF, c0, c1]
      have e2 : (pxF s) = (tkF s 0 2) := by first | (simp only [pxV, pxS, pxF, if_neg c0, if_neg c1]; done) | simp [pxV, pxS, pxF, c0, c1]
      exact bodyPost_ret (v := .string ⟨#[]⟩) (results_tmp1 Try.results22 _ _ _ (by kernel_rfl)) (by kernel_rfl) ⟨by simp only [e0, e1, e2], M.old, by simpa only [e0, e1, e2] using M.get 0 rfl⟩

set_option maxRecDepth 100000 in
set_option maxHeartbeats 4000000 in
set_option linter.unusedSimpArgs false in
theorem c_TextF (g : Nat) (s : ByteArray) (f : Int) (hf : f ≠ 0) (w : World) (hL : Laid w)  (hg : w.heap[g]? = some (.cells (av 3 (ls [.bool true, .string s, .int .i64 f])) 59)) :
    Calls Try.prog 22 #[.pointer (some ⟨g, 0, none⟩)] w fun r w' => r = .returned (.string ⟨#[]⟩) ∧ Below w.heap.size w w' := by
  go_enter Try.func22, Try.ntmps22
  have M := Mem.startp hL hg
  refine wp_seq ?_
  refine rg_lit ?_
  refine pl_val (want_no rfl) (some 2) rfl (.string ⟨#[]⟩) (fun _ => by kernel_rfl) ?_
  refine pl_nil ?_
  refine au_then ?_
  refine wp_seq ?_
  refine wp_seq ?_
  refine rg_lit ?_
  refine pl_val (want_no rfl) (some 6) rfl (.pointer (some ⟨g, 0, none⟩)) (fun _ => by kernel_rfl) ?_
  refine pl_call M (want_no rfl) (some 7) rfl 25 #[.pointer (some ⟨g, 0, none⟩)] (.int .i64 f) (fun _ => by kernel_rfl) (fun w M => c_Fault g s f w M.laid (M.get 0 rfl)) ?_
  intro u1 M
  by_cases c0 : f = 0
  · exact absurd c0 hf
  · skip
    refine pl_val (want_no rfl) (some 8) rfl (.bool true) (fun w => Eq.trans (b := .ok (.value (.bool (!(decide (f = 0))))) w) (by kernel_rfl) (by rw [decide_eq_false (c0)]; rfl)) ?_
    refine pl_nil ?_
    refine au_then ?_
    refine wp_cond_true (by kernel_rfl) ?_
    refine wp_seq ?_
    refine rg_lit ?_
    refine pl_val (want_no rfl) (some 2) rfl (.string ⟨#[]⟩) (fun _ => by kernel_rfl) ?_
    refine pl_nil ?_
    refine au_then ?_
    refine wp_ret ?_
    refine au_then_ret ?_
    exact bodyPost_ret (v := .string ⟨#[]⟩) (results_tmp1 Try.results22 _ _ _ (by kernel_rfl)) (by kernel_rfl) ⟨rfl, ro_below1 M.old hg (M.get 0 rfl)⟩

set_option maxRecDepth 100000 in
set_option maxHeartbeats 4000000 in
set_option linter.unusedSimpArgs false in
theorem n_Text  (w : World) (hL : Laid w)  :
    Calls Try.prog 22 #[.pointer none] w fun r w' => r = .returned (.string ⟨#[]⟩) ∧ Below w.heap.size w w' := by
  go_enter Try.func22, Try.ntmps22
  have M := Mem.start hL
  refine wp_seq ?_
  refine rg_lit ?_
  refine pl_val (want_no rfl) (some 2) rfl (.string ⟨#[]⟩) (fun _ => by kernel_rfl) ?_
  refine pl_nil ?_
  refine au_then ?_
  refine wp_seq ?_
  refine wp_seq ?_
  refine rg_lit ?_
  refine pl_val (want_no rfl) (some 6) rfl (.pointer none) (fun _ => by kernel_rfl) ?_
  refine pl_call M (want_no rfl) (some 7) rfl 25 #[.pointer none] (.int .i64 1) (fun _ => by kernel_rfl) (fun w M => n_Fault w M.laid) ?_
  intro u1 M
  refine pl_val (want_no rfl) (some 8) rfl (.bool true) (fun _ => by kernel_rfl) ?_
  refine pl_nil ?_
  refine au_then ?_
  refine wp_cond_true (by kernel_rfl) ?_
  refine wp_seq ?_
  refine rg_lit ?_
  refine pl_val (want_no rfl) (some 2) rfl (.string ⟨#[]⟩) (fun _ => by kernel_rfl) ?_
  refine pl_nil ?_
  refine au_then ?_
  refine wp_ret ?_
  refine au_then_ret ?_
  exact bodyPost_ret (v := .string ⟨#[]⟩) (results_tmp1 Try.results22 _ _ _ (by kernel_rfl)) (by kernel_rfl) ⟨rfl, below_grown M.old⟩


end Go.Proofs.Ytoiodkhmkkhjcaa
