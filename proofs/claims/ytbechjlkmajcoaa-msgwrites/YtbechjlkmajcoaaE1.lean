/- Packets as bytes: the walks of both sides. -/
import Derived.Test.YtbechjlkmajcoaaC1
namespace Go.Proofs.Ytbechjlkmajcoaa
open Go.RowKit

def hdr (v : Bool) : Int := if v = true then 40 else 20
/-- May a packet be? -/
def my (v0 : Bool) (h0 l0 : Int) (v1 : Bool) (h1 l1 n : Int) : Int := if (mA v0 h0 l0 && mA v1 h1 l1 && decide (v0 = v1)) = true then (if 1500 < hdr v0 + n then 4 else 0) else 2
def aB (v : Bool) (h l : Int) : ByteArray := if v = true then be8 h ++ be8 l else be4 (cv .u64 (cv .u32 l))
def dB (v : Bool) (h l : Int) : ByteArray := if v = true then be8 h ++ be8 l else be4 l
theorem be4_u32 (x : Int) : be4 (cv .u64 (cv .u32 x)) = be4 x := by
  unfold be4
  simp only [cv_u8, cv_u32, cv_u64, sr_8]
  congr 2
  · omega
  · congr 1
    · omega
    · congr 1
      · omega
      · congr 1
        omega
theorem be2_u16 (x : Int) : be2 (cv .u64 (cv .u16 x)) = be2 x := by
  unfold be2
  simp only [cv_u8, cv_u16, cv_u64, sr_8]
  congr 2
  · omega
  · congr 1
    omega
theorem be2_u64 (x : Int) : be2 (cv .u64 x) = be2 x := by
  unfold be2
  simp only [cv_u8, cv_u64, sr_8]
  congr 2
  · omega
  · congr 1
    omega
theorem aB_dB (v : Bool) (h l : Int) : aB v h l = dB v h l := by
  unfold aB dB
  rw [be4_u32]
theorem aB_t (h l : Int) : (aB true h l).size = 16 := by
  show (be8 h ++ be8 l).size = 16
  rw [ByteArray.size_append, be8_size, be8_size]
theorem aB_f (h l : Int) : (aB false h l).size = 4 := be4_size _
theorem dB_le (v : Bool) (h l : Int) : (dB v h l).size ≤ 16 := by
  rw [← aB_dB]
  cases v
  · rw [aB_f]; decide
  · rw [aB_t]; decide
set_option maxRecDepth 100000 in
set_option maxHeartbeats 4000000 in
set_option linter.unusedSimpArgs false in
theorem c_layT  (w : World) (hL : Laid w)  :
    Calls Try.prog 79 #[.bool true] w fun r w' => r = .returned (.agg (av 7 (ls [.int .u8 96, .int .i64 40, .int .i64 4, .int .i64 7, .int .i64 6, .int .i64 8, .int .i64 40]))) ∧ Below w.heap.size w w' := by
  go_enter Try.func79, Try.ntmps79
  have M := Mem.start hL
  refine wp_seq ?_
  refine rg_lit ?_
  refine pl_new M (want_no rfl) (some 2) rfl (.cells (av 7 (ls [.int .u8 0, .int .i64 0, .int .i64 0, .int .i64 0, .int .i64 0, .int .i64 0, .int .i64 0])) 122) (fun _ => by kernel_rfl) ?_
  intro g1 u1 M
  replace M : Mem ⟨w, []⟩ [⟨g1, .cells (av 7 (ls [.int .u8 0, .int .i64 0, .int .i64 0, .int .i64 0, .int .i64 0, .int .i64 0, .int .i64 0])) 122⟩] u1 := M
  refine pl_nil ?_
  refine au_then ?_
  refine wp_seq ?_
  refine wp_seq ?_
  refine rg_lit ?_
  refine pl_val (want_no rfl) (some 3) rfl (.bool true) (fun _ => by kernel_rfl) ?_
  refine pl_nil ?_
  refine au_then ?_
  refine wp_cond_true (by kernel_rfl) ?_
  refine wp_seq ?_
  refine rg_lit ?_
  refine pl_val (want_no rfl) (some 4) rfl (.agg (av 7 (ls [.int .u8 96, .int .i64 40, .int .i64 4, .int .i64 7, .int .i64 6, .int .i64 8, .int .i64 40]))) (fun _ => by kernel_rfl) ?_
  refine pl_put M (want_no rfl) rfl 122 _ _ rfl 0 g1 0 (by kernel_rfl) 7 122 (ls [.int .u8 0, .int .i64 0, .int .i64 0, .int .i64 0, .int .i64 0, .int .i64 0, .int .i64 0]) rfl 7 (ls [.int .u8 96, .int .i64 40, .int .i64 4, .int .i64 7, .int .i64 6, .int .i64 8, .int .i64 40]) (ls [.int .u8 96, .int .i64 40, .int .i64 4, .int .i64 7, .int .i64 6, .int .i64 8, .int .i64 40]) (by kernel_rfl) inz122 (by decide) (one_ls _ rfl) (fun j hj => by rw [if_pos (by omega), Nat.sub_zero]) ?_
  intro u2 M
  replace M : Mem ⟨w, []⟩ [⟨g1, .cells (av 7 (ls [.int .u8 96, .int .i64 40, .int .i64 4, .int .i64 7, .int .i64 6, .int .i64 8, .int .i64 40])) 122⟩] u2 := M
  refine pl_nil ?_
  refine au_then ?_
  refine wp_ret ?_
  refine au_then_ret ?_
  exact bodyPost_ret (v := .agg (av 7 (ls [.int .u8 96, .int .i64 40, .int .i64 4, .int .i64 7, .int .i64 6, .int .i64 8, .int .i64 40]))) (results_cell_row Try.results79 _ _ g1 122 (av 7 (ls [.int .u8 96, .int .i64 40, .int .i64 4, .int .i64 7, .int .i64 6, .int .i64 8, .int .i64 40])) (0, 0) _ (by kernel_rfl) (M.get 0 rfl) Try.underlying122 rfl (by rw [av_size]; exact inz122)) (by kernel_rfl) ⟨rfl, below_grown M.old⟩

set_option maxRecDepth 100000 in
set_option maxHeartbeats 4000000 in
set_option linter.unusedSimpArgs false in
theorem c_layF  (w : World) (hL : Laid w)  :
    Calls Try.prog 79 #[.bool false] w fun r w' => r = .returned (.agg (av 7 (ls [.int .u8 69, .int .i64 20, .int .i64 2, .int .i64 8, .int .i64 9, .int .i64 12, .int .i64 0]))) ∧ Below w.heap.size w w' := by
  go_enter Try.func79, Try.ntmps79
  have M := Mem.start hL
  refine wp_seq ?_
  refine rg_lit ?_
  refine pl_new M (want_no rfl) (some 2) rfl (.cells (av 7 (ls [.int .u8 0, .int .i64 0, .int .i64 0, .int .i64 0, .int .i64 0, .int .i64 0, .int .i64 0])) 122) (fun _ => by kernel_rfl) ?_
  intro g1 u1 M
  replace M : Mem ⟨w, []⟩ [⟨g1, .cells (av 7 (ls [.int .u8 0, .int .i64 0, .int .i64 0, .int .i64 0, .int .i64 0, .int .i64 0, .int .i64 0])) 122⟩] u1 := M
  refine pl_nil ?_
  refine au_then ?_
  refine wp_seq ?_
  refine wp_seq ?_
  refine rg_lit ?_
  refine pl_val (want_no rfl) (some 3) rfl (.bool false) (fun _ => by kernel_rfl) ?_
  refine pl_nil ?_
  refine au_then ?_
  refine wp_cond_false (by kernel_rfl) ?_
  refine wp_skip ?_
  refine au_then ?_
  refine wp_seq ?_
  refine rg_lit ?_
  refine pl_val (want_no rfl) (some 5) rfl (.agg (av 7 (ls [.int .u8 69, .int .i64 20, .int .i64 2, .int .i64 8, .int .i64 9, .int .i64 12, .int .i64 0]))) (fun _ => by kernel_rfl) ?_
  refine pl_put M (want_no rfl) rfl 122 _ _ rfl 0 g1 0 (by kernel_rfl) 7 122 (ls [.int .u8 0, .int .i64 0, .int .i64 0, .int .i64 0, .int .i64 0, .int .i64 0, .int .i64 0]) rfl 7 (ls [.int .u8 69, .int .i64 20, .int .i64 2, .int .i64 8, .int .i64 9, .int .i64 12, .int .i64 0]) (ls [.int .u8 69, .int .i64 20, .int .i64 2, .int .i64 8, .int .i64 9, .int .i64 12, .int .i64 0]) (by kernel_rfl) inz122 (by decide) (one_ls _ rfl) (fun j hj => by rw [if_pos (by omega), Nat.sub_zero]) ?_
  intro u2 M
  replace M : Mem ⟨w, []⟩ [⟨g1, .cells (av 7 (ls [.int .u8 69, .int .i64 20, .int .i64 2, .int .i64 8, .int .i64 9, .int .i64 12, .int .i64 0])) 122⟩] u2 := M
  refine pl_nil ?_
  refine au_then ?_
  refine wp_ret ?_
  exact bodyPost_ret (v := .agg (av 7 (ls [.int .u8 69, .int .i64 20, .int .i64 2, .int .i64 8, .int .i64 9, .int .i64 12, .int .i64 0]))) (results_cell_row Try.results79 _ _ g1 122 (av 7 (ls [.int .u8 69, .int .i64 20, .int .i64 2, .int .i64 8, .int .i64 9, .int .i64 12, .int .i64 0])) (0, 0) _ (by kernel_rfl) (M.get 0 rfl) Try.underlying122 rfl (by rw [av_size]; exact inz122)) (by kernel_rfl) ⟨rfl, below_grown M.old⟩

set_option maxRecDepth 100000 in
set_option maxHeartbeats 4000000 in
set_option linter.unusedSimpArgs false in
theorem c_May (v0 : Bool) (h0 l0 : Int) (v1 : Bool) (h1 l1 p t : Int) (s : ByteArray) (hs : s.size ≤ 200000) (w : World) (hL : Laid w)  :
    Calls Try.prog 66 #[.agg (av 9 (ls [.bool (v0), .int .u64 h0, .int .u64 l0, .bool (v1), .int .u64 h1, .int .u64 l1, .int .u8 p, .int .u8 t, .string s]))] w fun r w' => r = .returned (.int .i64 (my v0 h0 l0 v1 h1 l1 (s.size : Int))) ∧ Below w.heap.size w w' := by
  go_enter Try.func66, Try.ntmps66
  have M := Mem.start hL
  refine wp_seq ?_
  refine rg_lit ?_
  refine pl_new M (want_no rfl) (some 1) rfl (.cells (av 9 (ls [.bool (v0), .int .u64 h0, .int .u64 l0, .bool (v1), .int .u64 h1, .int .u64 l1, .int .u8 p, .int .u8 t, .string s])) 110) (fun _ => by kernel_rfl) ?_
  intro g1 u1 M
  replace M : Mem ⟨w, []⟩ [⟨g1, .cells (av 9 (ls [.bool (v0), .int .u64 h0, .int .u64 l0, .bool (v1), .int .u64 h1, .int .u64 l1, .int .u8 p, .int .u8 t, .string s])) 110⟩] u1 := M
  refine pl_val (want_no rfl) (some 2) rfl (.int .i64 0) (fun _ => by kernel_rfl) ?_
  refine pl_nil ?_
  refine au_then ?_
  refine wp_seq ?_
  refine wp_block ?_
  refine wp_seq ?_
  refine wp_seq ?_
  refine rg_lit ?_
  refine pl_val (want_no rfl) (some 4) rfl (.pointer (some ⟨g1, 0, none⟩)) (fun _ => by kernel_rfl) ?_
  refine pl_load M (want_no rfl) (some 5) rfl 25 _ rfl 0 g1 0 (by kernel_rfl) 9 110 (ls [.bool (v0), .int .u64 h0, .int .u64 l0, .bool (v1), .int .u64 h1, .int .u64 l1, .int .u8 p, .int .u8 t, .string s]) rfl 3 (ls [.bool (v0), .int .u64 h0, .int .u64 l0]) (part_ls _ 0 3 _ rfl) (by decide) _ Try.underlying25 rfl inz25 ?_
  rcases Bool.eq_false_or_eq_true (mA v0 h0 l0) with c0 | c0
  · skip
    refine pl_call M (want_no rfl) (some 6) rfl 78 #[.agg (av 3 (ls [.bool (v0), .int .u64 h0, .int .u64 l0]))] (.bool true) (fun _ => by kernel_rfl) (fun w M => call_val (c_mayAddr v0 h0 l0 w M.laid) (congrArg Value.bool c0)) ?_
    intro u2 M
    refine pl_val (want_no rfl) (some 7) rfl (.bool false) (fun _ => by kernel_rfl) ?_
    refine pl_val (want_no rfl) (some 3) rfl (.bool false) (fun _ => by kernel_rfl) ?_
    refine pl_nil ?_
    refine au_then ?_
    refine wp_cond_false (by kernel_rfl) ?_
    refine wp_seq ?_
    refine rg_lit ?_
    refine pl_val (want_no rfl) (some 8) rfl (.pointer (some ⟨g1, 3, none⟩)) (fun _ => by kernel_rfl) ?_
    refine pl_load M (want_no rfl) (some 9) rfl 25 _ rfl 0 g1 3 (by kernel_rfl) 9 110 (ls [.bool (v0), .int .u64 h0, .int .u64 l0, .bool (v1), .int .u64 h1, .int .u64 l1, .int .u8 p, .int .u8 t, .string s]) rfl 3 (ls [.bool (v1), .int .u64 h1, .int .u64 l1]) (part_ls _ 3 3 _ rfl) (by decide) _ Try.underlying25 rfl inz25 ?_
    rcases Bool.eq_false_or_eq_true (mA v1 h1 l1) with c1 | c1
    · skip
      refine pl_call M (want_no rfl) (some 10) rfl 78 #[.agg (av 3 (ls [.bool (v1), .int .u64 h1, .int .u64 l1]))] (.bool true) (fun _ => by kernel_rfl) (fun w M => call_val (c_mayAddr v1 h1 l1 w M.laid) (congrArg Value.bool c1)) ?_
      intro u3 M
      refine pl_val (want_no rfl) (some 11) rfl (.bool false) (fun _ => by kernel_rfl) ?_
      refine pl_val (want_no rfl) (some 3) rfl (.bool false) (fun _ => by kernel_rfl) ?_
      refine pl_nil ?_
      refine au_then ?_
      refine wp_cond_false (by kernel_rfl) ?_
      refine rg_lit ?_
      refine pl_val (want_no rfl) (some 12) rfl (.pointer (some ⟨g1, 0, none⟩)) (fun _ => by kernel_rfl) ?_
      refine pl_val (want_no rfl) (some 13) rfl (.pointer (some ⟨g1, 0, none⟩)) (fun _ => by kernel_rfl) ?_
      rcases Bool.eq_false_or_eq_true (v0) with c2 | c2
      · skip
        refine pl_cell M (want_no rfl) (some 14) rfl 4 _ rfl g1 0 (by kernel_rfl) (.bool true) (fun _ => by kernel_rfl) (fun w M => M.cell 0 rfl (by decide) (congrArg Value.bool c2)) ?_
        refine pl_val (want_no rfl) (some 15) rfl (.pointer (some ⟨g1, 3, none⟩)) (fun _ => by kernel_rfl) ?_
        refine pl_val (want_no rfl) (some 16) rfl (.pointer (some ⟨g1, 3, none⟩)) (fun _ => by kernel_rfl) ?_
        rcases Bool.eq_false_or_eq_true (v1) with c3 | c3
        · skip
          refine pl_cell M (want_no rfl) (some 17) rfl 4 _ rfl g1 3 (by kernel_rfl) (.bool true) (fun _ => by kernel_rfl) (fun w M => M.cell 0 rfl (by decide) (congrArg Value.bool c3)) ?_
          refine pl_val (want_no rfl) (some 18) rfl (.bool false) (fun _ => by kernel_rfl) ?_
          refine pl_val (want_no rfl) (some 3) rfl (.bool false) (fun _ => by kernel_rfl) ?_
          refine pl_nil ?_
          refine au_then ?_
          refine wp_cond_false (by kernel_rfl) ?_
          refine wp_seq ?_
          refine rg_tail M 10 (by kernel_rfl) (by kernel_rfl) ?_
          simp only [List.take_succ_cons, List.take_zero]
          refine k_val (want_no rfl) (some 20) rfl (.pointer (some ⟨g1, 8, none⟩)) (fun _ => by kernel_rfl) ?_
          refine k_cell M (want_no rfl) (some 21) rfl 9 _ rfl g1 8 (by kernel_rfl) (.string s) (fun _ => by kernel_rfl) (fun w M => M.cell 0 rfl (by decide) rfl) ?_
          refine k_val (want_no rfl) (some 22) rfl (.int .i64 (s.size : Int)) (fun _ => by kernel_rfl) ?_
          refine k_val (want_no rfl) (some 23) rfl (.pointer (some ⟨g1, 0, none⟩)) (fun _ => by kernel_rfl) ?_
          refine k_val (want_no rfl) (some 24) rfl (.pointer (some ⟨g1, 0, none⟩)) (fun _ => by kernel_rfl) ?_
          refine k_cell M (want_no rfl) (some 25) rfl 4 _ rfl g1 0 (by kernel_rfl) (.bool true) (fun _ => by kernel_rfl) (fun w M => M.cell 0 rfl (by decide) (congrArg Value.bool c2)) ?_
          refine k_call M (want_no rfl) (some 26) rfl 79 #[.bool true] (.agg (av 7 (ls [.int .u8 96, .int .i64 40, .int .i64 4, .int .i64 7, .int .i64 6, .int .i64 8, .int .i64 40]))) (fun _ => by kernel_rfl) (fun w M => c_layT w M.laid) ?_
          refine k_val (want_no rfl) (some 27) rfl (.int .i64 40) (fun _ => by kernel_rfl) ?_
          refine k_val (want_no rfl) (some 28) rfl (.int .i64 1460) (fun _ => by kernel_rfl) ?_
          by_cases c4 : 1460 < (s.size : Int)
          · skip
            refine k_val (want_no rfl) (some 29) rfl (.bool true) (fun w => Eq.trans (b := .ok (.value (.bool (decide (1460 < (s.size : Int))))) w) (by kernel_rfl) (by rw [decide_eq_true (c4)])) ?_
            refine kl_nil ?_
            intro u4 M
            replace M : Mem ⟨w, []⟩ [⟨g1, .cells (av 9 (ls [.bool (v0), .int .u64 h0, .int .u64 l0, .bool (v1), .int .u64 h1, .int .u64 l1, .int .u8 p, .int .u8 t, .string s])) 110⟩] u4 := M
            refine pl_val (want_no rfl) (some 19) rfl (.bool true) (fun _ => by kernel_rfl) ?_
            refine pl_nil ?_
            refine au_then ?_
            refine wp_cond_true (by kernel_rfl) ?_
            refine wp_seq ?_
            refine rg_lit ?_
            refine pl_val (want_no rfl) (some 2) rfl (.int .i64 4) (fun _ => by kernel_rfl) ?_
            refine pl_nil ?_
            refine au_then ?_
            refine wp_ret ?_
            refine au_block_ret ?_
            refine au_then_ret ?_
            have e0 : (my v0 h0 l0 v1 h1 l1 (s.size : Int)) = 4 := by unfold my; rw [c0, c1, c2, c3]; show (if 1500 < (40 : Int) + (s.size : Int) then (4 : Int) else 0) = _; exact if_pos (by omega)
            exact bodyPost_ret (v := .int .i64 4) (results_tmp1 Try.results66 _ _ _ (by kernel_rfl)) (by kernel_rfl) ⟨by rw [e0], below_grown M.old⟩
          · skip
            refine k_val (want_no rfl) (some 29) rfl (.bool false) (fun w => Eq.trans (b := .ok (.value (.bool (decide (1460 < (s.size : Int))))) w) (by kernel_rfl) (by rw [decide_eq_false (c4)])) ?_
            refine kl_nil ?_
            intro u4 M
            replace M : Mem ⟨w, []⟩ [⟨g1, .cells (av 9 (ls [.bool (v0), .int .u64 h0, .int .u64 l0, .bool (v1), .int .u64 h1, .int .u64 l1, .int .u8 p, .int .u8 t, .string s])) 110⟩] u4 := M
            refine pl_val (want_no rfl) (some 19) rfl (.bool false) (fun _ => by kernel_rfl) ?_
            refine pl_nil ?_
            refine au_then ?_
            refine wp_cond_false (by kernel_rfl) ?_
            refine wp_skip ?_
            refine au_block ?_
            refine au_then ?_
            refine wp_seq ?_
            refine rg_lit ?_
            refine pl_val (want_no rfl) (some 2) rfl (.int .i64 0) (fun _ => by kernel_rfl) ?_
            refine pl_nil ?_
            refine au_then ?_
            refine wp_ret ?_
            have e0 : (my v0 h0 l0 v1 h1 l1 (s.size : Int)) = 0 := by unfold my; rw [c0, c1, c2, c3]; show (if 1500 < (40 : Int) + (s.size : Int) then (4 : Int) else 0) = _; exact if_neg (by omega)
            exact bodyPost_ret (v := .int .i64 0) (results_tmp1 Try.results66 _ _ _ (by kernel_rfl)) (by kernel_rfl) ⟨by rw [e0], below_grown M.old⟩
        · skip
          refine pl_cell M (want_no rfl) (some 17) rfl 4 _ rfl g1 3 (by kernel_rfl) (.bool false) (fun _ => by kernel_rfl) (fun w M => M.cell 0 rfl (by decide) (congrArg Value.bool c3)) ?_
          refine pl_val (want_no rfl) (some 18) rfl (.bool true) (fun _ => by kernel_rfl) ?_
          refine pl_val (want_no rfl) (some 3) rfl (.bool true) (fun _ => by kernel_rfl) ?_
          refine pl_nil ?_
          refine au_then ?_
          refine wp_cond_true (by kernel_rfl) ?_
          refine wp_seq ?_
          refine rg_lit ?_
          refine pl_val (want_no rfl) (some 2) rfl (.int .i64 2) (fun _ => by kernel_rfl) ?_
          refine pl_nil ?_
          refine au_then ?_
          refine wp_ret ?_
          refine au_block_ret ?_
          refine au_then_ret ?_
          have e0 : (my v0 h0 l0 v1 h1 l1 (s.size : Int)) = 2 := by unfold my; rw [c0, c1, c2, c3] <;> rfl
          exact bodyPost_ret (v := .int .i64 2) (results_tmp1 Try.results66 _ _ _ (by kernel_rfl)) (by kernel_rfl) ⟨by rw [e0], below_grown M.old⟩
      · skip
        refine pl_cell M (want_no rfl) (some 14) rfl 4 _ rfl g1 0 (by kernel_rfl) (.bool false) (fun _ => by kernel_rfl) (fun w M => M.cell 0 rfl (by decide) (congrArg Value.bool c2)) ?_
        refine pl_val (want_no rfl) (some 15) rfl (.pointer (some ⟨g1, 3, none⟩)) (fun _ => by kernel_rfl) ?_
        refine pl_val (want_no rfl) (some 16) rfl (.pointer (some ⟨g1, 3, none⟩)) (fun _ => by kernel_rfl) ?_
        rcases Bool.eq_false_or_eq_true (v1) with c3 | c3
        · skip
          refine pl_cell M (want_no rfl) (some 17) rfl 4 _ rfl g1 3 (by kernel_rfl) (.bool true) (fun _ => by kernel_rfl) (fun w M => M.cell 0 rfl (by decide) (congrArg Value.bool c3)) ?_
          refine pl_val (want_no rfl) (some 18) rfl (.bool true) (fun _ => by kernel_rfl) ?_
          refine pl_val (want_no rfl) (some 3) rfl (.bool true) (fun _ => by kernel_rfl) ?_
          refine pl_nil ?_
          refine au_then ?_
          refine wp_cond_true (by kernel_rfl) ?_
          refine wp_seq ?_
          refine rg_lit ?_
          refine pl_val (want_no rfl) (some 2) rfl (.int .i64 2) (fun _ => by kernel_rfl) ?_
          refine pl_nil ?_
          refine au_then ?_
          refine wp_ret ?_
          refine au_block_ret ?_
          refine au_then_ret ?_
          have e0 : (my v0 h0 l0 v1 h1 l1 (s.size : Int)) = 2 := by unfold my; rw [c0, c1, c2, c3] <;> rfl
          exact bodyPost_ret (v := .int .i64 2) (results_tmp1 Try.results66 _ _ _ (by kernel_rfl)) (by kernel_rfl) ⟨by rw [e0], below_grown M.old⟩
        · skip
          refine pl_cell M (want_no rfl) (some 17) rfl 4 _ rfl g1 3 (by kernel_rfl) (.bool false) (fun _ => by kernel_rfl) (fun w M => M.cell 0 rfl (by decide) (congrArg Value.bool c3)) ?_
          refine pl_val (want_no rfl) (some 18) rfl (.bool false) (fun _ => by kernel_rfl) ?_
          refine pl_val (want_no rfl) (some 3) rfl (.bool false) (fun _ => by kernel_rfl) ?_
          refine pl_nil ?_
          refine au_then ?_
          refine wp_cond_false (by kernel_rfl) ?_
          refine wp_seq ?_
          refine rg_tail M 10 (by kernel_rfl) (by kernel_rfl) ?_
          simp only [List.take_succ_cons, List.take_zero]
          refine k_val (want_no rfl) (some 20) rfl (.pointer (some ⟨g1, 8, none⟩)) (fun _ => by kernel_rfl) ?_
          refine k_cell M (want_no rfl) (some 21) rfl 9 _ rfl g1 8 (by kernel_rfl) (.string s) (fun _ => by kernel_rfl) (fun w M => M.cell 0 rfl (by decide) rfl) ?_
          refine k_val (want_no rfl) (some 22) rfl (.int .i64 (s.size : Int)) (fun _ => by kernel_rfl) ?_
          refine k_val (want_no rfl) (some 23) rfl (.pointer (some ⟨g1, 0, none⟩)) (fun _ => by kernel_rfl) ?_
          refine k_val (want_no rfl) (some 24) rfl (.pointer (some ⟨g1, 0, none⟩)) (fun _ => by kernel_rfl) ?_
          refine k_cell M (want_no rfl) (some 25) rfl 4 _ rfl g1 0 (by kernel_rfl) (.bool false) (fun _ => by kernel_rfl) (fun w M => M.cell 0 rfl (by decide) (congrArg Value.bool c2)) ?_
          refine k_call M (want_no rfl) (some 26) rfl 79 #[.bool false] (.agg (av 7 (ls [.int .u8 69, .int .i64 20, .int .i64 2, .int .i64 8, .int .i64 9, .int .i64 12, .int .i64 0]))) (fun _ => by kernel_rfl) (fun w M => c_layF w M.laid) ?_
          refine k_val (want_no rfl) (some 27) rfl (.int .i64 20) (fun _ => by kernel_rfl) ?_
          refine k_val (want_no rfl) (some 28) rfl (.int .i64 1480) (fun _ => by kernel_rfl) ?_
          by_cases c4 : 1480 < (s.size : Int)
          · skip
            refine k_val (want_no rfl) (some 29) rfl (.bool true) (fun w => Eq.trans (b := .ok (.value (.bool (decide (1480 < (s.size : Int))))) w) (by kernel_rfl) (by rw [decide_eq_true (c4)])) ?_
            refine kl_nil ?_
            intro u4 M
            replace M : Mem ⟨w, []⟩ [⟨g1, .cells (av 9 (ls [.bool (v0), .int .u64 h0, .int .u64 l0, .bool (v1), .int .u64 h1, .int .u64 l1, .int .u8 p, .int .u8 t, .string s])) 110⟩] u4 := M
            refine pl_val (want_no rfl) (some 19) rfl (.bool true) (fun _ => by kernel_rfl) ?_
            refine pl_nil ?_
            refine au_then ?_
            refine wp_cond_true (by kernel_rfl) ?_
            refine wp_seq ?_
            refine rg_lit ?_
            refine pl_val (want_no rfl) (some 2) rfl (.int .i64 4) (fun _ => by kernel_rfl) ?_
            refine pl_nil ?_
            refine au_then ?_
            refine wp_ret ?_
            refine au_block_ret ?_
            refine au_then_ret ?_
            have e0 : (my v0 h0 l0 v1 h1 l1 (s.size : Int)) = 4 := by unfold my; rw [c0, c1, c2, c3]; show (if 1500 < (20 : Int) + (s.size : Int) then (4 : Int) else 0) = _; exact if_pos (by omega)
            exact bodyPost_ret (v := .int .i64 4) (results_tmp1 Try.results66 _ _ _ (by kernel_rfl)) (by kernel_rfl) ⟨by rw [e0], below_grown M.old⟩
          · skip
            refine k_val (want_no rfl) (some 29) rfl (.bool false) (fun w => Eq.trans (b := .ok (.value (.bool (decide (1480 < (s.size : Int))))) w) (by kernel_rfl) (by rw [decide_eq_false (c4)])) ?_
            refine kl_nil ?_
            intro u4 M
            replace M : Mem ⟨w, []⟩ [⟨g1, .cells (av 9 (ls [.bool (v0), .int .u64 h0, .int .u64 l0, .bool (v1), .int .u64 h1, .int .u64 l1, .int .u8 p, .int .u8 t, .string s])) 110⟩] u4 := M
            refine pl_val (want_no rfl) (some 19) rfl (.bool false) (fun _ => by kernel_rfl) ?_
            refine pl_nil ?_
            refine au_then ?_
            refine wp_cond_false (by kernel_rfl) ?_
            refine wp_skip ?_
            refine au_block ?_
            refine au_then ?_
            refine wp_seq ?_
            refine rg_lit ?_
            refine pl_val (want_no rfl) (some 2) rfl (.int .i64 0) (fun _ => by kernel_rfl) ?_
            refine pl_nil ?_
            refine au_then ?_
            refine wp_ret ?_
            have e0 : (my v0 h0 l0 v1 h1 l1 (s.size : Int)) = 0 := by unfold my; rw [c0, c1, c2, c3]; show (if 1500 < (20 : Int) + (s.size : Int) then (4 : Int) else 0) = _; exact if_neg (by omega)
            exact bodyPost_ret (v := .int .i64 0) (results_tmp1 Try.results66 _ _ _ (by kernel_rfl)) (by kernel_rfl) ⟨by rw [e0], below_grown M.old⟩
    · skip
      refine pl_call M (want_no rfl) (some 10) rfl 78 #[.agg (av 3 (ls [.bool (v1), .int .u64 h1, .int .u64 l1]))] (.bool false) (fun _ => by kernel_rfl) (fun w M => call_val (c_mayAddr v1 h1 l1 w M.laid) (congrArg Value.bool c1)) ?_
      intro u3 M
      refine pl_val (want_no rfl) (some 11) rfl (.bool true) (fun _ => by kernel_rfl) ?_
      refine pl_val (want_no rfl) (some 3) rfl (.bool true) (fun _ => by kernel_rfl) ?_
      refine pl_nil ?_
      refine au_then ?_
      refine wp_cond_true (by kernel_rfl) ?_
      refine wp_skip ?_
      refine au_then ?_
      refine wp_cond_true (by kernel_rfl) ?_
      refine wp_seq ?_
      refine rg_lit ?_
      refine pl_val (want_no rfl) (some 2) rfl (.int .i64 2) (fun _ => by kernel_rfl) ?_
      refine pl_nil ?_
      refine au_then ?_
      refine wp_ret ?_
      refine au_block_ret ?_
      refine au_then_ret ?_
      have e0 : (my v0 h0 l0 v1 h1 l1 (s.size : Int)) = 2 := by unfold my; rw [c0, c1] <;> rfl
      exact bodyPost_ret (v := .int .i64 2) (results_tmp1 Try.results66 _ _ _ (by kernel_rfl)) (by kernel_rfl) ⟨by rw [e0], below_grown M.old⟩
  · skip
    refine pl_call M (want_no rfl) (some 6) rfl 78 #[.agg (av 3 (ls [.bool (v0), .int .u64 h0, .int .u64 l0]))] (.bool false) (fun _ => by kernel_rfl) (fun w M => call_val (c_mayAddr v0 h0 l0 w M.laid) (congrArg Value.bool c0)) ?_
    intro u2 M
    refine pl_val (want_no rfl) (some 7) rfl (.bool true) (fun _ => by kernel_rfl) ?_
    refine pl_val (want_no rfl) (some 3) rfl (.bool true) (fun _ => by kernel_rfl) ?_
    refine pl_nil ?_
    refine au_then ?_
    refine wp_cond_true (by kernel_rfl) ?_
    refine wp_skip ?_
    refine au_then ?_
    refine wp_cond_true (by kernel_rfl) ?_
    refine wp_seq ?_
    refine rg_lit ?_
    refine pl_val (want_no rfl) (some 2) rfl (.int .i64 2) (fun _ => by kernel_rfl) ?_
    refine pl_nil ?_
    refine au_then ?_
    refine wp_ret ?_
    refine au_block_ret ?_
    refine au_then_ret ?_
    have e0 : (my v0 h0 l0 v1 h1 l1 (s.size : Int)) = 2 := by unfold my; rw [c0] <;> rfl
    exact bodyPost_ret (v := .int .i64 2) (results_tmp1 Try.results66 _ _ _ (by kernel_rfl)) (by kernel_rfl) ⟨by rw [e0], below_grown M.old⟩

set_option maxRecDepth 100000 in
set_option maxHeartbeats 4000000 in
set_option linter.unusedSimpArgs false in
theorem d_Bytes (v : Bool) (h l : Int) (w : World) (hL : Laid w)  :
    Calls Try.prog 43 #[.agg (av 3 (ls [.bool (v), .int .u64 h, .int .u64 l]))] w fun r w' => r = .returned (.string (dB v h l)) ∧ Below w.heap.size w w' := by
  go_enter Try.func43, Try.ntmps43
  have M := Mem.start hL
  refine wp_seq ?_
  refine rg_lit ?_
  refine pl_new M (want_no rfl) (some 1) rfl (.cells (av 3 (ls [.bool (v), .int .u64 h, .int .u64 l])) 25) (fun _ => by kernel_rfl) ?_
  intro g1 u1 M
  replace M : Mem ⟨w, []⟩ [⟨g1, .cells (av 3 (ls [.bool (v), .int .u64 h, .int .u64 l])) 25⟩] u1 := M
  refine pl_val (want_no rfl) (some 2) rfl (.string ⟨#[]⟩) (fun _ => by kernel_rfl) ?_
  refine pl_nil ?_
  refine au_then ?_
  refine wp_seq ?_
  refine wp_seq ?_
  refine rg_lit ?_
  refine pl_val (want_no rfl) (some 3) rfl (.pointer (some ⟨g1, 0, none⟩)) (fun _ => by kernel_rfl) ?_
  rcases Bool.eq_false_or_eq_true (v) with c0 | c0
  · skip
    refine pl_cell M (want_no rfl) (some 4) rfl 4 _ rfl g1 0 (by kernel_rfl) (.bool true) (fun _ => by kernel_rfl) (fun w M => M.cell 0 rfl (by decide) (congrArg Value.bool c0)) ?_
    refine pl_nil ?_
    refine au_then ?_
    refine wp_cond_true (by kernel_rfl) ?_
    refine wp_seq ?_
    refine rg_tail M 7 (by kernel_rfl) (by kernel_rfl) ?_
    simp only [List.take_succ_cons, List.take_zero]
    refine k_val (want_no rfl) (some 5) rfl (.pointer (some ⟨g1, 1, none⟩)) (fun _ => by kernel_rfl) ?_
    refine k_cell M (want_no rfl) (some 6) rfl 23 _ rfl g1 1 (by kernel_rfl) (.int .u64 h) (fun _ => by kernel_rfl) (fun w M => M.cell 0 rfl (by decide) rfl) ?_
    refine k_call M (want_no rfl) (some 7) rfl 42 #[.int .u64 h, .int .i64 8] (.string (be8 h)) (fun _ => by kernel_rfl) (fun w M => c_num8 h w M.laid) ?_
    refine k_val (want_no rfl) (some 8) rfl (.pointer (some ⟨g1, 2, none⟩)) (fun _ => by kernel_rfl) ?_
    refine k_cell M (want_no rfl) (some 9) rfl 23 _ rfl g1 2 (by kernel_rfl) (.int .u64 l) (fun _ => by kernel_rfl) (fun w M => M.cell 0 rfl (by decide) rfl) ?_
    refine k_call M (want_no rfl) (some 10) rfl 42 #[.int .u64 l, .int .i64 8] (.string (be8 l)) (fun _ => by kernel_rfl) (fun w M => c_num8 l w M.laid) ?_
    refine k_val (want_no rfl) (some 11) rfl (.string ((be8 h) ++ (be8 l))) (run_cat 9 9 _ _ rfl (be8 h) (be8 l) (by kernel_rfl) (by kernel_rfl) (by rw [be8_size, be8_size]; decide)) ?_
    refine kl_nil ?_
    intro u2 M
    replace M : Mem ⟨w, []⟩ [⟨g1, .cells (av 3 (ls [.bool (v), .int .u64 h, .int .u64 l])) 25⟩] u2 := M
    refine pl_val (want_no rfl) (some 2) rfl (.string ((be8 h) ++ (be8 l))) (fun _ => by kernel_rfl) ?_
    refine pl_nil ?_
    refine au_then ?_
    refine wp_ret ?_
    refine au_then_ret ?_
    have e0 : (dB v h l) = ((be8 h) ++ (be8 l)) := by simp [dB, c0]
    exact bodyPost_ret (v := .string ((be8 h) ++ (be8 l))) (results_tmp1 Try.results43 _ _ _ (by kernel_rfl)) (by kernel_rfl) ⟨by rw [e0], below_grown M.old⟩
  · skip
    refine pl_cell M (want_no rfl) (some 4) rfl 4 _ rfl g1 0 (by kernel_rfl) (.bool false) (fun _ => by kernel_rfl) (fun w M => M.cell 0 rfl (by decide) (congrArg Value.bool c0)) ?_
    refine pl_nil ?_
    refine au_then ?_
    refine wp_cond_false (by kernel_rfl) ?_
    refine wp_skip ?_
    refine au_then ?_
    refine wp_seq ?_
    refine rg_lit ?_
    refine pl_val (want_no rfl) (some 12) rfl (.pointer (some ⟨g1, 2, none⟩)) (fun _ => by kernel_rfl) ?_
    refine pl_cell M (want_no rfl) (some 13) rfl 23 _ rfl g1 2 (by kernel_rfl) (.int .u64 l) (fun _ => by kernel_rfl) (fun w M => M.cell 0 rfl (by decide) rfl) ?_
    refine pl_call M (want_no rfl) (some 14) rfl 42 #[.int .u64 l, .int .i64 4] (.string (be4 l)) (fun _ => by kernel_rfl) (fun w M => c_num4 l w M.laid) ?_
    intro u2 M
    refine pl_val (want_no rfl) (some 2) rfl (.string (be4 l)) (fun _ => by kernel_rfl) ?_
    refine pl_nil ?_
    refine au_then ?_
    refine wp_ret ?_
    have e0 : (dB v h l) = (be4 l) := by simp [dB, c0]
    exact bodyPost_ret (v := .string (be4 l)) (results_tmp1 Try.results43 _ _ _ (by kernel_rfl)) (by kernel_rfl) ⟨by rw [e0], below_grown M.old⟩


end Go.Proofs.Ytbechjlkmajcoaa
