/- Texts that are written; a known run; CodeNone. -/
import Derived.Test.YtoiodkhmkkhjcaaQ3
namespace Go.Proofs.Ytoiodkhmkkhjcaa
open Go.RowKit

theorem call_put {P : Program} {f : FuncId} {args : Array Value} {w : World} {v v' : Value} {g : Nat} {Z Z' : Obj} {r : List Nat} (h : Calls P f args w fun e w' => e = .returned v ∧ Grw w w' r ∧ w'.heap[g]? = some Z) (hv : v = v') (hz : Z = Z') : Calls P f args w fun e w' => e = .returned v' ∧ Grw w w' r ∧ w'.heap[g]? = some Z' := hv ▸ hz ▸ h
def wtE (s : ByteArray) : Int := if 32768 < (s.size : Int) then 4 else 0
def wtS (s : ByteArray) : ByteArray := if 32768 < (s.size : Int) then ⟨#[]⟩ else be2 (cv .u64 (cv .u16 (s.size : Int))) ++ s
def duS (s : ByteArray) : ByteArray := if 32768 < (s.size : Int) then ⟨#[]⟩ else be2 (cv .u64 (s.size : Int)) ++ s
set_option maxRecDepth 100000 in
set_option maxHeartbeats 4000000 in
set_option linter.unusedSimpArgs false in
theorem c_WText (s : ByteArray) (w : World) (hL : Laid w)  :
    Calls Try.prog 8 #[.string s] w fun r w' => r = .returned (.tuple #[.string (wtS s), .int .i64 (wtE s)]) ∧ Below w.heap.size w w' := by
  go_enter Try.func8, Try.ntmps8
  have M := Mem.start hL
  refine wp_seq ?_
  refine rg_lit ?_
  refine pl_val (want_no rfl) (some 2) rfl (.string ⟨#[]⟩) (fun _ => by kernel_rfl) ?_
  refine pl_val (want_no rfl) (some 3) rfl (.int .i64 0) (fun _ => by kernel_rfl) ?_
  refine pl_nil ?_
  refine au_then ?_
  refine wp_seq ?_
  refine wp_seq ?_
  refine rg_lit ?_
  refine pl_val (want_no rfl) (some 4) rfl (.string s) (fun _ => by kernel_rfl) ?_
  refine pl_val (want_no rfl) (some 5) rfl (.int .i64 (s.size : Int)) (fun _ => by kernel_rfl) ?_
  by_cases c0 : 32768 < (s.size : Int)
  · skip
    refine pl_val (want_no rfl) (some 6) rfl (.bool true) (fun w => Eq.trans (b := .ok (.value (.bool (decide (32768 < (s.size : Int))))) w) (by kernel_rfl) (by rw [decide_eq_true (c0)])) ?_
    refine pl_nil ?_
    refine au_then ?_
    refine wp_cond_true (by kernel_rfl) ?_
    refine wp_seq ?_
    refine rg_lit ?_
    refine pl_val (want_no rfl) (some 2) rfl (.string ⟨#[]⟩) (fun _ => by kernel_rfl) ?_
    refine pl_val (want_no rfl) (some 3) rfl (.int .i64 4) (fun _ => by kernel_rfl) ?_
    refine pl_nil ?_
    refine au_then ?_
    refine wp_ret ?_
    refine au_then_ret ?_
    have e0 : (wtS s) = ⟨#[]⟩ := by first | (simp only [wtS, wtE, if_pos c0]; done) | simp [wtS, wtE, c0]
    have e1 : (wtE s) = 4 := by first | (simp only [wtS, wtE, if_pos c0]; done) | simp [wtS, wtE, c0]
    exact bodyPost_ret (v := .tuple #[.string ⟨#[]⟩, .int .i64 4]) (results_tmp2 Try.results8 _ _ _ _ (by kernel_rfl) (by kernel_rfl)) (by kernel_rfl) ⟨by simp only [e0, e1], below_grown M.old⟩
  · skip
    refine pl_val (want_no rfl) (some 6) rfl (.bool false) (fun w => Eq.trans (b := .ok (.value (.bool (decide (32768 < (s.size : Int))))) w) (by kernel_rfl) (by rw [decide_eq_false (c0)])) ?_
    refine pl_nil ?_
    refine au_then ?_
    refine wp_cond_false (by kernel_rfl) ?_
    refine wp_skip ?_
    refine au_then ?_
    refine wp_seq ?_
    refine rg_lit ?_
    refine pl_val (want_no rfl) (some 7) rfl (.string s) (fun _ => by kernel_rfl) ?_
    refine pl_val (want_no rfl) (some 8) rfl (.int .i64 (s.size : Int)) (fun _ => by kernel_rfl) ?_
    refine pl_val (want_no rfl) (some 9) rfl (.int .u16 (cv .u16 (s.size : Int))) (fun _ => by kernel_rfl) ?_
    refine pl_call M (want_no rfl) (some 10) rfl 10 #[.int .u16 (cv .u16 (s.size : Int))] (.string (be2 (cv .u64 (cv .u16 (s.size : Int))))) (fun _ => by kernel_rfl) (fun w M => c_U16 (cv .u16 (s.size : Int)) w M.laid) ?_
    intro u1 M
    refine pl_val (want_no rfl) (some 11) rfl (.string s) (fun _ => by kernel_rfl) ?_
    refine pl_val (want_no rfl) (some 12) rfl (.string ((be2 (cv .u64 (cv .u16 (s.size : Int)))) ++ s)) (run_cat 9 9 _ _ rfl (be2 (cv .u64 (cv .u16 (s.size : Int)))) s (by kernel_rfl) (by kernel_rfl) (by rw [be2_size]; omega)) ?_
    refine pl_val (want_no rfl) (some 2) rfl (.string ((be2 (cv .u64 (cv .u16 (s.size : Int)))) ++ s)) (fun _ => by kernel_rfl) ?_
    refine pl_val (want_no rfl) (some 3) rfl (.int .i64 0) (fun _ => by kernel_rfl) ?_
    refine pl_nil ?_
    refine au_then ?_
    refine wp_ret ?_
    have e0 : (wtS s) = ((be2 (cv .u64 (cv .u16 (s.size : Int)))) ++ s) := by first | (simp only [wtS, wtE, if_neg c0]; done) | simp [wtS, wtE, c0]
    have e1 : (wtE s) = 0 := by first | (simp only [wtS, wtE, if_neg c0]; done) | simp [wtS, wtE, c0]
    exact bodyPost_ret (v := .tuple #[.string ((be2 (cv .u64 (cv .u16 (s.size : Int)))) ++ s), .int .i64 0]) (results_tmp2 Try.results8 _ _ _ _ (by kernel_rfl) (by kernel_rfl)) (by kernel_rfl) ⟨by simp only [e0, e1], below_grown M.old⟩

set_option maxRecDepth 100000 in
set_option maxHeartbeats 4000000 in
set_option linter.unusedSimpArgs false in
theorem d_WText (s : ByteArray) (w : World) (hL : Laid w)  :
    Calls Try.prog 9 #[.string s] w fun r w' => r = .returned (.tuple #[.string (duS s), .int .i64 (wtE s)]) ∧ Below w.heap.size w w' := by
  go_enter Try.func9, Try.ntmps9
  have M := Mem.start hL
  refine wp_seq ?_
  refine rg_lit ?_
  refine pl_val (want_no rfl) (some 2) rfl (.string ⟨#[]⟩) (fun _ => by kernel_rfl) ?_
  refine pl_val (want_no rfl) (some 3) rfl (.int .i64 0) (fun _ => by kernel_rfl) ?_
  refine pl_nil ?_
  refine au_then ?_
  refine wp_seq ?_
  refine wp_seq ?_
  refine rg_lit ?_
  refine pl_val (want_no rfl) (some 4) rfl (.string s) (fun _ => by kernel_rfl) ?_
  refine pl_val (want_no rfl) (some 5) rfl (.int .i64 (s.size : Int)) (fun _ => by kernel_rfl) ?_
  by_cases c0 : 32768 < (s.size : Int)
  · skip
    refine pl_val (want_no rfl) (some 6) rfl (.bool true) (fun w => Eq.trans (b := .ok (.value (.bool (decide (32768 < (s.size : Int))))) w) (by kernel_rfl) (by rw [decide_eq_true (c0)])) ?_
    refine pl_nil ?_
    refine au_then ?_
    refine wp_cond_true (by kernel_rfl) ?_
    refine wp_seq ?_
    refine rg_lit ?_
    refine pl_val (want_no rfl) (some 2) rfl (.string ⟨#[]⟩) (fun _ => by kernel_rfl) ?_
    refine pl_val (want_no rfl) (some 3) rfl (.int .i64 4) (fun _ => by kernel_rfl) ?_
    refine pl_nil ?_
    refine au_then ?_
    refine wp_ret ?_
    refine au_then_ret ?_
    have e0 : (duS s) = ⟨#[]⟩ := by first | (simp only [duS, wtE, if_pos c0]; done) | simp [duS, wtE, c0]
    have e1 : (wtE s) = 4 := by first | (simp only [duS, wtE, if_pos c0]; done) | simp [duS, wtE, c0]
    exact bodyPost_ret (v := .tuple #[.string ⟨#[]⟩, .int .i64 4]) (results_tmp2 Try.results9 _ _ _ _ (by kernel_rfl) (by kernel_rfl)) (by kernel_rfl) ⟨by simp only [e0, e1], below_grown M.old⟩
  · skip
    refine pl_val (want_no rfl) (some 6) rfl (.bool false) (fun w => Eq.trans (b := .ok (.value (.bool (decide (32768 < (s.size : Int))))) w) (by kernel_rfl) (by rw [decide_eq_false (c0)])) ?_
    refine pl_nil ?_
    refine au_then ?_
    refine wp_cond_false (by kernel_rfl) ?_
    refine wp_skip ?_
    refine au_then ?_
    refine wp_seq ?_
    refine rg_lit ?_
    refine pl_val (want_no rfl) (some 7) rfl (.string s) (fun _ => by kernel_rfl) ?_
    refine pl_val (want_no rfl) (some 8) rfl (.int .i64 (s.size : Int)) (fun _ => by kernel_rfl) ?_
    refine pl_val (want_no rfl) (some 9) rfl (.int .u64 (cv .u64 (s.size : Int))) (fun _ => by kernel_rfl) ?_
    refine pl_call M (want_no rfl) (some 10) rfl 11 #[.int .u64 (cv .u64 (s.size : Int)), .int .i64 2] (.string (be2 (cv .u64 (s.size : Int)))) (fun _ => by kernel_rfl) (fun w M => c_num2 (cv .u64 (s.size : Int)) w M.laid) ?_
    intro u1 M
    refine pl_val (want_no rfl) (some 11) rfl (.string s) (fun _ => by kernel_rfl) ?_
    refine pl_val (want_no rfl) (some 12) rfl (.string ((be2 (cv .u64 (s.size : Int))) ++ s)) (run_cat 9 9 _ _ rfl (be2 (cv .u64 (s.size : Int))) s (by kernel_rfl) (by kernel_rfl) (by rw [be2_size]; omega)) ?_
    refine pl_val (want_no rfl) (some 2) rfl (.string ((be2 (cv .u64 (s.size : Int))) ++ s)) (fun _ => by kernel_rfl) ?_
    refine pl_val (want_no rfl) (some 3) rfl (.int .i64 0) (fun _ => by kernel_rfl) ?_
    refine pl_nil ?_
    refine au_then ?_
    refine wp_ret ?_
    have e0 : (duS s) = ((be2 (cv .u64 (s.size : Int))) ++ s) := by first | (simp only [duS, wtE, if_neg c0]; done) | simp [duS, wtE, c0]
    have e1 : (wtE s) = 0 := by first | (simp only [duS, wtE, if_neg c0]; done) | simp [duS, wtE, c0]
    exact bodyPost_ret (v := .tuple #[.string ((be2 (cv .u64 (s.size : Int))) ++ s), .int .i64 0]) (results_tmp2 Try.results9 _ _ _ _ (by kernel_rfl) (by kernel_rfl)) (by kernel_rfl) ⟨by simp only [e0, e1], below_grown M.old⟩

set_option maxRecDepth 100000 in
set_option maxHeartbeats 4000000 in
set_option linter.unusedSimpArgs false in
theorem c_works  (w : World) (hL : Laid w)  :
    Calls Try.prog 7 #[] w fun r w' => r = .returned (.bool true) ∧ Below w.heap.size w w' := by
  go_enter Try.func7, Try.ntmps7
  have M := Mem.start hL
  refine wp_seq ?_
  refine rg_lit ?_
  refine pl_val (want_no rfl) (some 0) rfl (.bool false) (fun _ => by kernel_rfl) ?_
  refine pl_nil ?_
  refine au_then ?_
  refine wp_seq ?_
  refine rg_lit ?_
  refine pl_call M (want_no rfl) (some 11) rfl 8 #[.string ⟨#[97, 98]⟩] (.tuple #[.string ⟨#[0, 2, 97, 98]⟩, .int .i64 0]) (fun _ => by kernel_rfl) (fun w M => call_val (c_WText ⟨#[97, 98]⟩ w M.laid) (by kernel_rfl)) ?_
  intro u1 M
  refine pl_val (want_no rfl) (some 10) rfl (.tuple #[.string ⟨#[0, 2, 97, 98]⟩, .int .i64 0]) (fun _ => by kernel_rfl) ?_
  refine pl_val (want_no rfl) (some 12) rfl (.string ⟨#[0, 2, 97, 98]⟩) (fun _ => by kernel_rfl) ?_
  refine pl_val (want_no rfl) (some 13) rfl (.int .i64 0) (fun _ => by kernel_rfl) ?_
  refine pl_val (want_no rfl) (some 1) rfl (.string ⟨#[0, 2, 97, 98]⟩) (fun _ => by kernel_rfl) ?_
  refine pl_val (want_no rfl) (some 2) rfl (.int .i64 0) (fun _ => by kernel_rfl) ?_
  refine pl_nil ?_
  refine au_then ?_
  refine wp_seq ?_
  refine rg_lit ?_
  refine pl_call M (want_no rfl) (some 14) rfl 10 #[.int .u16 258] (.string ⟨#[1, 2]⟩) (fun _ => by kernel_rfl) (fun w M => call_val (c_U16 258 w M.laid) (by kernel_rfl)) ?_
  intro u2 M
  refine pl_call M (want_no rfl) (some 15) rfl 12 #[.int .u32 1] (.string ⟨#[0, 0, 0, 1]⟩) (fun _ => by kernel_rfl) (fun w M => call_val (c_U32 1 w M.laid) (by kernel_rfl)) ?_
  intro u3 M
  refine pl_val (want_no rfl) (some 16) rfl (.string ⟨#[1, 2, 0, 0, 0, 1]⟩) (fun _ => by kernel_rfl) ?_
  refine pl_call M (want_no rfl) (some 17) rfl 13 #[.int .u64 2] (.string ⟨#[0, 0, 0, 0, 0, 0, 0, 2]⟩) (fun _ => by kernel_rfl) (fun w M => call_val (c_U64 2 w M.laid) (by kernel_rfl)) ?_
  intro u4 M
  refine pl_val (want_no rfl) (some 18) rfl (.string ⟨#[1, 2, 0, 0, 0, 1, 0, 0, 0, 0, 0, 0, 0, 2]⟩) (fun _ => by kernel_rfl) ?_
  refine pl_val (want_no rfl) (some 19) rfl (.string ⟨#[0, 2, 97, 98]⟩) (fun _ => by kernel_rfl) ?_
  refine pl_val (want_no rfl) (some 20) rfl (.string ⟨#[1, 2, 0, 0, 0, 1, 0, 0, 0, 0, 0, 0, 0, 2, 0, 2, 97, 98]⟩) (fun _ => by kernel_rfl) ?_
  refine pl_calln M (want_no rfl) (some 21) rfl 14 #[.string ⟨#[1, 2, 0, 0, 0, 1, 0, 0, 0, 0, 0, 0, 0, 2, 0, 2, 97, 98]⟩] (fun g1 => .pointer (some ⟨g1, 0, none⟩)) (.cells (av 3 (ls [.bool true, .string ⟨#[1, 2, 0, 0, 0, 1, 0, 0, 0, 0, 0, 0, 0, 2, 0, 2, 97, 98]⟩, .int .i64 0])) 59) (fun _ => by kernel_rfl) (fun w M => c_New ⟨#[1, 2, 0, 0, 0, 1, 0, 0, 0, 0, 0, 0, 0, 2, 0, 2, 97, 98]⟩ w M.laid) ?_
  intro g1 u5 M
  replace M : Mem ⟨w, []⟩ [⟨g1, .cells (av 3 (ls [.bool true, .string ⟨#[1, 2, 0, 0, 0, 1, 0, 0, 0, 0, 0, 0, 0, 2, 0, 2, 97, 98]⟩, .int .i64 0])) 59⟩] u5 := M
  refine pl_val (want_no rfl) (some 3) rfl (.pointer (some ⟨g1, 0, none⟩)) (fun _ => by kernel_rfl) ?_
  refine pl_nil ?_
  refine au_then ?_
  refine wp_seq ?_
  refine rg_lit ?_
  refine pl_val (want_no rfl) (some 22) rfl (.pointer (some ⟨g1, 0, none⟩)) (fun _ => by kernel_rfl) ?_
  refine pl_callp M (want_no rfl) (some 23) rfl 17 #[.pointer (some ⟨g1, 0, none⟩)] (.int .u16 258) 0 g1 (.cells (av 3 (ls [.bool true, .string ⟨#[1, 2, 0, 0, 0, 1, 0, 0, 0, 0, 0, 0, 0, 2, 0, 2, 97, 98]⟩, .int .i64 0])) 59) (.cells (av 3 (ls [.bool true, .string ⟨#[0, 0, 0, 1, 0, 0, 0, 0, 0, 0, 0, 2, 0, 2, 97, 98]⟩, .int .i64 0])) 59) rfl (fun _ => by kernel_rfl) (fun w M => call_put (r_U16 g1 ⟨#[1, 2, 0, 0, 0, 1, 0, 0, 0, 0, 0, 0, 0, 2, 0, 2, 97, 98]⟩ 0 w M.laid (M.get 0 rfl)) (by kernel_rfl) (by kernel_rfl)) ?_
  intro u6 M
  replace M : Mem ⟨w, []⟩ [⟨g1, .cells (av 3 (ls [.bool true, .string ⟨#[0, 0, 0, 1, 0, 0, 0, 0, 0, 0, 0, 2, 0, 2, 97, 98]⟩, .int .i64 0])) 59⟩] u6 := M
  refine pl_val (want_no rfl) (some 24) rfl (.pointer (some ⟨g1, 0, none⟩)) (fun _ => by kernel_rfl) ?_
  refine pl_callp M (want_no rfl) (some 25) rfl 18 #[.pointer (some ⟨g1, 0, none⟩)] (.int .u32 1) 0 g1 (.cells (av 3 (ls [.bool true, .string ⟨#[0, 0, 0, 1, 0, 0, 0, 0, 0, 0, 0, 2, 0, 2, 97, 98]⟩, .int .i64 0])) 59) (.cells (av 3 (ls [.bool true, .string ⟨#[0, 0, 0, 0, 0, 0, 0, 2, 0, 2, 97, 98]⟩, .int .i64 0])) 59) rfl (fun _ => by kernel_rfl) (fun w M => call_put (r_U32 g1 ⟨#[0, 0, 0, 1, 0, 0, 0, 0, 0, 0, 0, 2, 0, 2, 97, 98]⟩ 0 w M.laid (M.get 0 rfl)) (by kernel_rfl) (by kernel_rfl)) ?_
  intro u7 M
  replace M : Mem ⟨w, []⟩ [⟨g1, .cells (av 3 (ls [.bool true, .string ⟨#[0, 0, 0, 0, 0, 0, 0, 2, 0, 2, 97, 98]⟩, .int .i64 0])) 59⟩] u7 := M
  refine pl_val (want_no rfl) (some 26) rfl (.pointer (some ⟨g1, 0, none⟩)) (fun _ => by kernel_rfl) ?_
  refine pl_callp M (want_no rfl) (some 27) rfl 19 #[.pointer (some ⟨g1, 0, none⟩)] (.int .u64 2) 0 g1 (.cells (av 3 (ls [.bool true, .string ⟨#[0, 0, 0, 0, 0, 0, 0, 2, 0, 2, 97, 98]⟩, .int .i64 0])) 59) (.cells (av 3 (ls [.bool true, .string ⟨#[0, 2, 97, 98]⟩, .int .i64 0])) 59) rfl (fun _ => by kernel_rfl) (fun w M => call_put (r_U64 g1 ⟨#[0, 0, 0, 0, 0, 0, 0, 2, 0, 2, 97, 98]⟩ 0 w M.laid (M.get 0 rfl)) (by kernel_rfl) (by kernel_rfl)) ?_
  intro u8 M
  replace M : Mem ⟨w, []⟩ [⟨g1, .cells (av 3 (ls [.bool true, .string ⟨#[0, 2, 97, 98]⟩, .int .i64 0])) 59⟩] u8 := M
  refine pl_val (want_no rfl) (some 28) rfl (.pointer (some ⟨g1, 0, none⟩)) (fun _ => by kernel_rfl) ?_
  refine pl_callp M (want_no rfl) (some 29) rfl 22 #[.pointer (some ⟨g1, 0, none⟩)] (.string ⟨#[97, 98]⟩) 0 g1 (.cells (av 3 (ls [.bool true, .string ⟨#[0, 2, 97, 98]⟩, .int .i64 0])) 59) (.cells (av 3 (ls [.bool true, .string ⟨#[]⟩, .int .i64 0])) 59) rfl (fun _ => by kernel_rfl) (fun w M => call_put (c_Text g1 ⟨#[0, 2, 97, 98]⟩ w M.laid (M.get 0 rfl)) (by kernel_rfl) (by kernel_rfl)) ?_
  intro u9 M
  replace M : Mem ⟨w, []⟩ [⟨g1, .cells (av 3 (ls [.bool true, .string ⟨#[]⟩, .int .i64 0])) 59⟩] u9 := M
  refine pl_val (want_no rfl) (some 4) rfl (.int .u16 258) (fun _ => by kernel_rfl) ?_
  refine pl_val (want_no rfl) (some 5) rfl (.int .u32 1) (fun _ => by kernel_rfl) ?_
  refine pl_val (want_no rfl) (some 6) rfl (.int .u64 2) (fun _ => by kernel_rfl) ?_
  refine pl_val (want_no rfl) (some 7) rfl (.string ⟨#[97, 98]⟩) (fun _ => by kernel_rfl) ?_
  refine pl_nil ?_
  refine au_then ?_
  refine wp_seq ?_
  refine rg_lit ?_
  refine pl_calln M (want_no rfl) (some 30) rfl 14 #[.string ⟨#[255, 255]⟩] (fun g2 => .pointer (some ⟨g2, 0, none⟩)) (.cells (av 3 (ls [.bool true, .string ⟨#[255, 255]⟩, .int .i64 0])) 59) (fun _ => by kernel_rfl) (fun w M => c_New ⟨#[255, 255]⟩ w M.laid) ?_
  intro g2 u10 M
  replace M : Mem ⟨w, []⟩ [⟨g1, .cells (av 3 (ls [.bool true, .string ⟨#[]⟩, .int .i64 0])) 59⟩, ⟨g2, .cells (av 3 (ls [.bool true, .string ⟨#[255, 255]⟩, .int .i64 0])) 59⟩] u10 := M
  refine pl_val (want_no rfl) (some 8) rfl (.pointer (some ⟨g2, 0, none⟩)) (fun _ => by kernel_rfl) ?_
  refine pl_nil ?_
  refine au_then ?_
  refine wp_seq ?_
  refine rg_lit ?_
  refine pl_val (want_no rfl) (some 31) rfl (.pointer (some ⟨g2, 0, none⟩)) (fun _ => by kernel_rfl) ?_
  refine pl_callp M (want_no rfl) (some 32) rfl 22 #[.pointer (some ⟨g2, 0, none⟩)] (.string ⟨#[]⟩) 1 g2 (.cells (av 3 (ls [.bool true, .string ⟨#[255, 255]⟩, .int .i64 0])) 59) (.cells (av 3 (ls [.bool true, .string ⟨#[255, 255]⟩, .int .i64 4])) 59) rfl (fun _ => by kernel_rfl) (fun w M => call_put (c_Text g2 ⟨#[255, 255]⟩ w M.laid (M.get 1 rfl)) (by kernel_rfl) (by kernel_rfl)) ?_
  intro u11 M
  replace M : Mem ⟨w, []⟩ [⟨g1, .cells (av 3 (ls [.bool true, .string ⟨#[]⟩, .int .i64 0])) 59⟩, ⟨g2, .cells (av 3 (ls [.bool true, .string ⟨#[255, 255]⟩, .int .i64 4])) 59⟩] u11 := M
  refine pl_val (want_no rfl) (some 9) rfl (.string ⟨#[]⟩) (fun _ => by kernel_rfl) ?_
  refine pl_nil ?_
  refine au_then ?_
  refine wp_seq ?_
  refine rg_lit ?_
  refine pl_val (want_no rfl) (some 33) rfl (.int .i64 0) (fun _ => by kernel_rfl) ?_
  refine pl_val (want_no rfl) (some 34) rfl (.bool true) (fun _ => by kernel_rfl) ?_
  refine pl_val (want_no rfl) (some 35) rfl (.bool true) (fun _ => by kernel_rfl) ?_
  refine pl_val (want_on 2 true rfl 35 rfl (by kernel_rfl)) (some 36) rfl (.int .u16 258) (fun _ => by kernel_rfl) ?_
  refine pl_val (want_on 2 true rfl 35 rfl (by kernel_rfl)) (some 37) rfl (.bool true) (fun _ => by kernel_rfl) ?_
  refine pl_val (want_no rfl) (some 38) rfl (.bool true) (fun _ => by kernel_rfl) ?_
  refine pl_val (want_no rfl) (some 39) rfl (.bool true) (fun _ => by kernel_rfl) ?_
  refine pl_val (want_on 6 true rfl 39 rfl (by kernel_rfl)) (some 40) rfl (.int .u32 1) (fun _ => by kernel_rfl) ?_
  refine pl_val (want_on 6 true rfl 39 rfl (by kernel_rfl)) (some 41) rfl (.bool true) (fun _ => by kernel_rfl) ?_
  refine pl_val (want_no rfl) (some 42) rfl (.bool true) (fun _ => by kernel_rfl) ?_
  refine pl_val (want_no rfl) (some 43) rfl (.bool true) (fun _ => by kernel_rfl) ?_
  refine pl_val (want_on 10 true rfl 43 rfl (by kernel_rfl)) (some 44) rfl (.int .u64 2) (fun _ => by kernel_rfl) ?_
  refine pl_val (want_on 10 true rfl 43 rfl (by kernel_rfl)) (some 45) rfl (.bool true) (fun _ => by kernel_rfl) ?_
  refine pl_val (want_no rfl) (some 46) rfl (.bool true) (fun _ => by kernel_rfl) ?_
  refine pl_val (want_no rfl) (some 47) rfl (.bool true) (fun _ => by kernel_rfl) ?_
  refine pl_val (want_on 14 true rfl 47 rfl (by kernel_rfl)) (some 48) rfl (.string ⟨#[97, 98]⟩) (fun _ => by kernel_rfl) ?_
  refine pl_val (want_on 14 true rfl 47 rfl (by kernel_rfl)) (some 49) rfl (.bool true) (fun _ => by kernel_rfl) ?_
  refine pl_val (want_no rfl) (some 50) rfl (.bool true) (fun _ => by kernel_rfl) ?_
  refine pl_val (want_no rfl) (some 51) rfl (.bool true) (fun _ => by kernel_rfl) ?_
  refine pl_val (want_on 18 true rfl 51 rfl (by kernel_rfl)) (some 52) rfl (.pointer (some ⟨g1, 0, none⟩)) (fun _ => by kernel_rfl) ?_
  refine pl_call M (want_on 18 true rfl 51 rfl (by kernel_rfl)) (some 53) rfl 26 #[.pointer (some ⟨g1, 0, none⟩)] (.int .i64 0) (fun _ => by kernel_rfl) (fun w M => call_val (c_End g1 ⟨#[]⟩ 0 w M.laid (M.get 0 rfl)) (by kernel_rfl)) ?_
  intro u12 M
  refine pl_val (want_on 18 true rfl 51 rfl (by kernel_rfl)) (some 54) rfl (.bool true) (fun _ => by kernel_rfl) ?_
  refine pl_val (want_no rfl) (some 55) rfl (.bool true) (fun _ => by kernel_rfl) ?_
  refine pl_val (want_no rfl) (some 56) rfl (.bool true) (fun _ => by kernel_rfl) ?_
  refine pl_val (want_on 23 true rfl 56 rfl (by kernel_rfl)) (some 57) rfl (.string ⟨#[]⟩) (fun _ => by kernel_rfl) ?_
  refine pl_val (want_on 23 true rfl 56 rfl (by kernel_rfl)) (some 58) rfl (.bool true) (fun _ => by kernel_rfl) ?_
  refine pl_val (want_no rfl) (some 59) rfl (.bool true) (fun _ => by kernel_rfl) ?_
  refine pl_val (want_no rfl) (some 60) rfl (.bool true) (fun _ => by kernel_rfl) ?_
  refine pl_val (want_on 27 true rfl 60 rfl (by kernel_rfl)) (some 61) rfl (.pointer (some ⟨g2, 0, none⟩)) (fun _ => by kernel_rfl) ?_
  refine pl_call M (want_on 27 true rfl 60 rfl (by kernel_rfl)) (some 62) rfl 25 #[.pointer (some ⟨g2, 0, none⟩)] (.int .i64 4) (fun _ => by kernel_rfl) (fun w M => c_Fault g2 ⟨#[255, 255]⟩ 4 w M.laid (M.get 1 rfl)) ?_
  intro u13 M
  refine pl_val (want_on 27 true rfl 60 rfl (by kernel_rfl)) (some 63) rfl (.bool true) (fun _ => by kernel_rfl) ?_
  refine pl_val (want_no rfl) (some 64) rfl (.bool true) (fun _ => by kernel_rfl) ?_
  refine pl_val (want_no rfl) (some 65) rfl (.bool true) (fun _ => by kernel_rfl) ?_
  refine pl_val (want_on 32 true rfl 65 rfl (by kernel_rfl)) (some 66) rfl (.pointer (some ⟨g2, 0, none⟩)) (fun _ => by kernel_rfl) ?_
  refine pl_call M (want_on 32 true rfl 65 rfl (by kernel_rfl)) (some 67) rfl 24 #[.pointer (some ⟨g2, 0, none⟩)] (.int .i64 2) (fun _ => by kernel_rfl) (fun w M => call_val (c_Left g2 ⟨#[255, 255]⟩ 4 w M.laid (M.get 1 rfl)) (by kernel_rfl)) ?_
  intro u14 M
  refine pl_val (want_on 32 true rfl 65 rfl (by kernel_rfl)) (some 68) rfl (.bool true) (fun _ => by kernel_rfl) ?_
  refine pl_val (want_no rfl) (some 69) rfl (.bool true) (fun _ => by kernel_rfl) ?_
  refine pl_val (want_no rfl) (some 0) rfl (.bool true) (fun _ => by kernel_rfl) ?_
  refine pl_nil ?_
  refine au_then ?_
  refine wp_ret ?_
  exact bodyPost_ret (v := .bool true) (results_tmp1 Try.results7 _ _ _ (by kernel_rfl)) (by kernel_rfl) ⟨rfl, below_grown M.old⟩

set_option maxRecDepth 100000 in
set_option maxHeartbeats 4000000 in
set_option linter.unusedSimpArgs false in
theorem c_none (n : Int) (w : World) (hL : Laid w)  :
    Calls Try.prog 6 #[.int .i64 n] w fun r w' => r = .returned (.bool true) ∧ Below w.heap.size w w' := by
  go_enter Try.func6, Try.ntmps6
  have M := Mem.start hL
  refine wp_seq ?_
  refine rg_lit ?_
  refine pl_val (want_no rfl) (some 2) rfl (.bool false) (fun _ => by kernel_rfl) ?_
  refine pl_nil ?_
  refine au_then ?_
  refine wp_seq ?_
  refine rg_lit ?_
  refine pl_val (want_no rfl) (some 3) rfl (.pointer none) (fun _ => by kernel_rfl) ?_
  refine pl_nil ?_
  refine au_then ?_
  refine wp_seq ?_
  refine rg_lit ?_
  refine pl_val (want_no rfl) (some 4) rfl (.pointer none) (fun _ => by kernel_rfl) ?_
  refine pl_call M (want_no rfl) (some 5) rfl 15 #[.pointer none] (.int .u8 0) (fun _ => by kernel_rfl) (fun w M => n_U8 w M.laid) ?_
  intro u1 M
  refine pl_val (want_no rfl) (some 6) rfl (.bool true) (fun _ => by kernel_rfl) ?_
  refine pl_val (want_no rfl) (some 7) rfl (.bool true) (fun _ => by kernel_rfl) ?_
  refine pl_val (want_on 3 true rfl 7 rfl (by kernel_rfl)) (some 8) rfl (.pointer none) (fun _ => by kernel_rfl) ?_
  refine pl_call M (want_on 3 true rfl 7 rfl (by kernel_rfl)) (some 9) rfl 17 #[.pointer none] (.int .u16 0) (fun _ => by kernel_rfl) (fun w M => n_U16 w M.laid) ?_
  intro u2 M
  refine pl_val (want_on 3 true rfl 7 rfl (by kernel_rfl)) (some 10) rfl (.bool true) (fun _ => by kernel_rfl) ?_
  refine pl_val (want_no rfl) (some 11) rfl (.bool true) (fun _ => by kernel_rfl) ?_
  refine pl_val (want_no rfl) (some 12) rfl (.bool true) (fun _ => by kernel_rfl) ?_
  refine pl_val (want_on 8 true rfl 12 rfl (by kernel_rfl)) (some 13) rfl (.pointer none) (fun _ => by kernel_rfl) ?_
  refine pl_call M (want_on 8 true rfl 12 rfl (by kernel_rfl)) (some 14) rfl 18 #[.pointer none] (.int .u32 0) (fun _ => by kernel_rfl) (fun w M => n_U32 w M.laid) ?_
  intro u3 M
  refine pl_val (want_on 8 true rfl 12 rfl (by kernel_rfl)) (some 15) rfl (.bool true) (fun _ => by kernel_rfl) ?_
  refine pl_val (want_no rfl) (some 16) rfl (.bool true) (fun _ => by kernel_rfl) ?_
  refine pl_val (want_no rfl) (some 17) rfl (.bool true) (fun _ => by kernel_rfl) ?_
  refine pl_val (want_on 13 true rfl 17 rfl (by kernel_rfl)) (some 18) rfl (.pointer none) (fun _ => by kernel_rfl) ?_
  refine pl_call M (want_on 13 true rfl 17 rfl (by kernel_rfl)) (some 19) rfl 19 #[.pointer none] (.int .u64 0) (fun _ => by kernel_rfl) (fun w M => n_U64 w M.laid) ?_
  intro u4 M
  refine pl_val (want_on 13 true rfl 17 rfl (by kernel_rfl)) (some 20) rfl (.bool true) (fun _ => by kernel_rfl) ?_
  refine pl_val (want_no rfl) (some 21) rfl (.bool true) (fun _ => by kernel_rfl) ?_
  refine pl_val (want_no rfl) (some 22) rfl (.bool true) (fun _ => by kernel_rfl) ?_
  refine pl_val (want_on 18 true rfl 22 rfl (by kernel_rfl)) (some 23) rfl (.pointer none) (fun _ => by kernel_rfl) ?_
  refine pl_val (want_on 18 true rfl 22 rfl (by kernel_rfl)) (some 24) rfl (.int .i64 n) (fun _ => by kernel_rfl) ?_
  refine pl_call M (want_on 18 true rfl 22 rfl (by kernel_rfl)) (some 25) rfl 20 #[.pointer none, .int .i64 n] (.string ⟨#[]⟩) (fun _ => by kernel_rfl) (fun w M => n_Take n w M.laid) ?_
  intro u5 M
  refine pl_val (want_on 18 true rfl 22 rfl (by kernel_rfl)) (some 26) rfl (.bool true) (fun _ => by kernel_rfl) ?_
  refine pl_val (want_no rfl) (some 27) rfl (.bool true) (fun _ => by kernel_rfl) ?_
  refine pl_val (want_no rfl) (some 28) rfl (.bool true) (fun _ => by kernel_rfl) ?_
  refine pl_val (want_on 24 true rfl 28 rfl (by kernel_rfl)) (some 29) rfl (.pointer none) (fun _ => by kernel_rfl) ?_
  refine pl_call M (want_on 24 true rfl 28 rfl (by kernel_rfl)) (some 30) rfl 22 #[.pointer none] (.string ⟨#[]⟩) (fun _ => by kernel_rfl) (fun w M => n_Text w M.laid) ?_
  intro u6 M
  refine pl_val (want_on 24 true rfl 28 rfl (by kernel_rfl)) (some 31) rfl (.bool true) (fun _ => by kernel_rfl) ?_
  refine pl_val (want_no rfl) (some 32) rfl (.bool true) (fun _ => by kernel_rfl) ?_
  refine pl_val (want_no rfl) (some 33) rfl (.bool true) (fun _ => by kernel_rfl) ?_
  refine pl_val (want_on 29 true rfl 33 rfl (by kernel_rfl)) (some 34) rfl (.pointer none) (fun _ => by kernel_rfl) ?_
  refine pl_call M (want_on 29 true rfl 33 rfl (by kernel_rfl)) (some 35) rfl 24 #[.pointer none] (.int .i64 0) (fun _ => by kernel_rfl) (fun w M => n_Left w M.laid) ?_
  intro u7 M
  refine pl_val (want_on 29 true rfl 33 rfl (by kernel_rfl)) (some 36) rfl (.bool true) (fun _ => by kernel_rfl) ?_
  refine pl_val (want_no rfl) (some 37) rfl (.bool true) (fun _ => by kernel_rfl) ?_
  refine pl_val (want_no rfl) (some 38) rfl (.bool true) (fun _ => by kernel_rfl) ?_
  refine pl_val (want_on 34 true rfl 38 rfl (by kernel_rfl)) (some 39) rfl (.pointer none) (fun _ => by kernel_rfl) ?_
  refine pl_call M (want_on 34 true rfl 38 rfl (by kernel_rfl)) (some 40) rfl 25 #[.pointer none] (.int .i64 1) (fun _ => by kernel_rfl) (fun w M => n_Fault w M.laid) ?_
  intro u8 M
  refine pl_val (want_on 34 true rfl 38 rfl (by kernel_rfl)) (some 41) rfl (.bool true) (fun _ => by kernel_rfl) ?_
  refine pl_val (want_no rfl) (some 42) rfl (.bool true) (fun _ => by kernel_rfl) ?_
  refine pl_val (want_no rfl) (some 43) rfl (.bool true) (fun _ => by kernel_rfl) ?_
  refine pl_val (want_on 39 true rfl 43 rfl (by kernel_rfl)) (some 44) rfl (.pointer none) (fun _ => by kernel_rfl) ?_
  refine pl_call M (want_on 39 true rfl 43 rfl (by kernel_rfl)) (some 45) rfl 26 #[.pointer none] (.int .i64 1) (fun _ => by kernel_rfl) (fun w M => n_End w M.laid) ?_
  intro u9 M
  refine pl_val (want_on 39 true rfl 43 rfl (by kernel_rfl)) (some 46) rfl (.bool true) (fun _ => by kernel_rfl) ?_
  refine pl_val (want_no rfl) (some 47) rfl (.bool true) (fun _ => by kernel_rfl) ?_
  refine pl_val (want_no rfl) (some 48) rfl (.bool true) (fun _ => by kernel_rfl) ?_
  refine pl_call M (want_on 44 true rfl 48 rfl (by kernel_rfl)) (some 49) rfl 7 #[] (.bool true) (fun _ => by kernel_rfl) (fun w M => c_works w M.laid) ?_
  intro u10 M
  refine pl_val (want_no rfl) (some 50) rfl (.bool true) (fun _ => by kernel_rfl) ?_
  refine pl_val (want_no rfl) (some 2) rfl (.bool true) (fun _ => by kernel_rfl) ?_
  refine pl_nil ?_
  refine au_then ?_
  refine wp_ret ?_
  exact bodyPost_ret (v := .bool true) (results_tmp1 Try.results6 _ _ _ (by kernel_rfl)) (by kernel_rfl) ⟨rfl, below_grown M.old⟩


end Go.Proofs.Ytoiodkhmkkhjcaa
