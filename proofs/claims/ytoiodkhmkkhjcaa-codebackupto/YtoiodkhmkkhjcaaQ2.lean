/- A reader: the walks of both sides. -/
import Derived.Test.YtoiodkhmkkhjcaaQ1
namespace Go.Proofs.Ytoiodkhmkkhjcaa
open Go.RowKit

theorem Mem.geAt {w : World} {L : List Blk} {W : World} (M : Mem ⟨w, []⟩ L W) (i : Nat) {b : Blk} (hi : L[i]? = some b) : w.heap.size ≤ b.g := (M.ge b (List.mem_of_getElem? hi)).resolve_right (by simp)
theorem vs8_sb (s : ByteArray) (j : Nat) (h : j < s.size) : (vs8 (sb s))[j]? = some (.int .u8 (bt s j)) := by
  unfold vs8
  rw [List.getElem?_map, sb_get s j h]
  rfl
/-- The first fault stays. -/
def ff (f e : Int) : Int := if f = 0 then e else f
/-- Take: what is handed out, what is left, the fault. -/
def tkV (s : ByteArray) (f n : Int) : ByteArray := if f = 0 ∧ 0 ≤ n ∧ n ≤ (s.size : Int) then s.extract 0 n.toNat else ⟨#[]⟩
def tkS (s : ByteArray) (f n : Int) : ByteArray := if f = 0 ∧ 0 ≤ n ∧ n ≤ (s.size : Int) then s.extract n.toNat s.size else s
def tkF (s : ByteArray) (f n : Int) : Int := if f = 0 then (if n < 0 then 2 else if (s.size : Int) < n then 7 else 0) else f
/-- The number of the first j bytes. -/
def bn (s : ByteArray) : Nat → Int
  | 0 => 0
  | j + 1 => uo (sl (bn s j) 8) (cv .u64 (bt s j))
def bd (s : ByteArray) : Nat → Int
  | 0 => 0
  | j + 1 => ua (sl (bd s j) 8) (cv .u64 (bt s j))
def bnv (s : ByteArray) : Int := bn s s.size
def bdv (s : ByteArray) : Int := bd s s.size
def enF (s : ByteArray) (f : Int) : Int := if f = 0 then (if s = ⟨#[]⟩ then 0 else 8) else f
set_option maxRecDepth 100000 in
set_option maxHeartbeats 4000000 in
set_option linter.unusedSimpArgs false in
theorem c_New (s : ByteArray) (w : World) (hL : Laid w)  :
    Calls Try.prog 14 #[.string s] w fun r w' => ∃ g, r = .returned (.pointer (some ⟨g, 0, none⟩)) ∧ w.heap.size ≤ g ∧ w'.heap[g]? = some (.cells (av 3 (ls [.bool true, .string s, .int .i64 0])) 59) ∧ Below w.heap.size w w' := by
  go_enter Try.func14, Try.ntmps14
  have M := Mem.start hL
  refine wp_seq ?_
  refine rg_lit ?_
  refine pl_val (want_no rfl) (some 2) rfl (.pointer none) (fun _ => by kernel_rfl) ?_
  refine pl_nil ?_
  refine au_then ?_
  refine wp_seq ?_
  refine rg_lit ?_
  refine pl_val (want_no rfl) (some 3) rfl (.string s) (fun _ => by kernel_rfl) ?_
  refine pl_val (want_no rfl) (some 4) rfl (.agg (av 3 (ls [.bool true, .string s, .int .i64 0]))) (fun _ => by kernel_rfl) ?_
  refine pl_new M (want_no rfl) (some 5) rfl (.cells (av 3 (ls [.bool true, .string s, .int .i64 0])) 59) (fun _ => by kernel_rfl) ?_
  intro g1 u1 M
  replace M : Mem ⟨w, []⟩ [⟨g1, .cells (av 3 (ls [.bool true, .string s, .int .i64 0])) 59⟩] u1 := M
  refine pl_val (want_no rfl) (some 2) rfl (.pointer (some ⟨g1, 0, none⟩)) (fun _ => by kernel_rfl) ?_
  refine pl_nil ?_
  refine au_then ?_
  refine wp_ret ?_
  exact bodyPost_ret (v := .pointer (some ⟨g1, 0, none⟩)) (results_tmp1 Try.results14 _ _ _ (by kernel_rfl)) (by kernel_rfl) ⟨g1, rfl, M.geAt 0 rfl, M.get 0 rfl, below_grown M.old⟩

set_option maxRecDepth 100000 in
set_option maxHeartbeats 4000000 in
set_option linter.unusedSimpArgs false in
theorem c_Left (g : Nat) (s : ByteArray) (f : Int) (w : World) (hL : Laid w)  (hg : w.heap[g]? = some (.cells (av 3 (ls [.bool true, .string s, .int .i64 f])) 59)) :
    Calls Try.prog 24 #[.pointer (some ⟨g, 0, none⟩)] w fun r w' => r = .returned (.int .i64 (s.size : Int)) ∧ Below w.heap.size w w' := by
  go_enter Try.func24, Try.ntmps24
  have M := Mem.startp hL hg
  refine wp_seq ?_
  refine rg_lit ?_
  refine pl_val (want_no rfl) (some 2) rfl (.int .i64 0) (fun _ => by kernel_rfl) ?_
  refine pl_nil ?_
  refine au_then ?_
  refine wp_seq ?_
  refine wp_seq ?_
  refine rg_lit ?_
  refine pl_val (want_no rfl) (some 3) rfl (.pointer (some ⟨g, 0, none⟩)) (fun _ => by kernel_rfl) ?_
  refine pl_val (want_no rfl) (some 4) rfl (.bool false) (fun _ => by kernel_rfl) ?_
  refine pl_nil ?_
  refine au_then ?_
  refine wp_cond_false (by kernel_rfl) ?_
  refine wp_skip ?_
  refine au_then ?_
  refine wp_seq ?_
  refine rg_lit ?_
  refine pl_val (want_no rfl) (some 5) rfl (.pointer (some ⟨g, 0, none⟩)) (fun _ => by kernel_rfl) ?_
  refine pl_val (want_no rfl) (some 6) rfl (.pointer (some ⟨g, 0, none⟩)) (fun _ => by kernel_rfl) ?_
  refine pl_val (want_no rfl) (some 7) rfl (.pointer (some ⟨g, 1, none⟩)) (fun _ => by kernel_rfl) ?_
  refine pl_cell M (want_no rfl) (some 8) rfl 9 _ rfl g 1 (by kernel_rfl) (.string s) (fun _ => by kernel_rfl) (fun w M => M.cell 0 rfl (by decide) rfl) ?_
  refine pl_val (want_no rfl) (some 9) rfl (.int .i64 (s.size : Int)) (fun _ => by kernel_rfl) ?_
  refine pl_val (want_no rfl) (some 2) rfl (.int .i64 (s.size : Int)) (fun _ => by kernel_rfl) ?_
  refine pl_nil ?_
  refine au_then ?_
  refine wp_ret ?_
  exact bodyPost_ret (v := .int .i64 (s.size : Int)) (results_tmp1 Try.results24 _ _ _ (by kernel_rfl)) (by kernel_rfl) ⟨rfl, ro_below1 M.old hg (M.get 0 rfl)⟩

set_option maxRecDepth 100000 in
set_option maxHeartbeats 4000000 in
set_option linter.unusedSimpArgs false in
theorem n_Left  (w : World) (hL : Laid w)  :
    Calls Try.prog 24 #[.pointer none] w fun r w' => r = .returned (.int .i64 0) ∧ Below w.heap.size w w' := by
  go_enter Try.func24, Try.ntmps24
  have M := Mem.start hL
  refine wp_seq ?_
  refine rg_lit ?_
  refine pl_val (want_no rfl) (some 2) rfl (.int .i64 0) (fun _ => by kernel_rfl) ?_
  refine pl_nil ?_
  refine au_then ?_
  refine wp_seq ?_
  refine wp_seq ?_
  refine rg_lit ?_
  refine pl_val (want_no rfl) (some 3) rfl (.pointer none) (fun _ => by kernel_rfl) ?_
  refine pl_val (want_no rfl) (some 4) rfl (.bool true) (fun _ => by kernel_rfl) ?_
  refine pl_nil ?_
  refine au_then ?_
  refine wp_cond_true (by kernel_rfl) ?_
  refine wp_seq ?_
  refine rg_lit ?_
  refine pl_val (want_no rfl) (some 2) rfl (.int .i64 0) (fun _ => by kernel_rfl) ?_
  refine pl_nil ?_
  refine au_then ?_
  refine wp_ret ?_
  refine au_then_ret ?_
  exact bodyPost_ret (v := .int .i64 0) (results_tmp1 Try.results24 _ _ _ (by kernel_rfl)) (by kernel_rfl) ⟨rfl, below_grown M.old⟩

set_option maxRecDepth 100000 in
set_option maxHeartbeats 4000000 in
set_option linter.unusedSimpArgs false in
theorem c_Fault (g : Nat) (s : ByteArray) (f : Int) (w : World) (hL : Laid w)  (hg : w.heap[g]? = some (.cells (av 3 (ls [.bool true, .string s, .int .i64 f])) 59)) :
    Calls Try.prog 25 #[.pointer (some ⟨g, 0, none⟩)] w fun r w' => r = .returned (.int .i64 f) ∧ Below w.heap.size w w' := by
  go_enter Try.func25, Try.ntmps25
  have M := Mem.startp hL hg
  refine wp_seq ?_
  refine rg_lit ?_
  refine pl_val (want_no rfl) (some 2) rfl (.int .i64 0) (fun _ => by kernel_rfl) ?_
  refine pl_nil ?_
  refine au_then ?_
  refine wp_seq ?_
  refine wp_seq ?_
  refine rg_lit ?_
  refine pl_val (want_no rfl) (some 3) rfl (.pointer (some ⟨g, 0, none⟩)) (fun _ => by kernel_rfl) ?_
  refine pl_val (want_no rfl) (some 4) rfl (.bool false) (fun _ => by kernel_rfl) ?_
  refine pl_val (want_no rfl) (some 5) rfl (.bool false) (fun _ => by kernel_rfl) ?_
  refine pl_val (want_on 2 false rfl 5 rfl (by kernel_rfl)) (some 6) rfl (.pointer (some ⟨g, 0, none⟩)) (fun _ => by kernel_rfl) ?_
  refine pl_val (want_on 2 false rfl 5 rfl (by kernel_rfl)) (some 7) rfl (.pointer (some ⟨g, 0, none⟩)) (fun _ => by kernel_rfl) ?_
  refine pl_val (want_on 2 false rfl 5 rfl (by kernel_rfl)) (some 8) rfl (.pointer (some ⟨g, 0, none⟩)) (fun _ => by kernel_rfl) ?_
  refine pl_cell M (want_on 2 false rfl 5 rfl (by kernel_rfl)) (some 9) rfl 4 _ rfl g 0 (by kernel_rfl) (.bool true) (fun _ => by kernel_rfl) (fun w M => M.cell 0 rfl (by decide) rfl) ?_
  refine pl_val (want_on 2 false rfl 5 rfl (by kernel_rfl)) (some 10) rfl (.bool false) (fun _ => by kernel_rfl) ?_
  refine pl_val (want_no rfl) (some 11) rfl (.bool false) (fun _ => by kernel_rfl) ?_
  refine pl_nil ?_
  refine au_then ?_
  refine wp_cond_false (by kernel_rfl) ?_
  refine wp_skip ?_
  refine au_then ?_
  refine wp_seq ?_
  refine rg_lit ?_
  refine pl_val (want_no rfl) (some 12) rfl (.pointer (some ⟨g, 0, none⟩)) (fun _ => by kernel_rfl) ?_
  refine pl_val (want_no rfl) (some 13) rfl (.pointer (some ⟨g, 0, none⟩)) (fun _ => by kernel_rfl) ?_
  refine pl_val (want_no rfl) (some 14) rfl (.pointer (some ⟨g, 2, none⟩)) (fun _ => by kernel_rfl) ?_
  refine pl_cell M (want_no rfl) (some 15) rfl 24 _ rfl g 2 (by kernel_rfl) (.int .i64 f) (fun _ => by kernel_rfl) (fun w M => M.cell 0 rfl (by decide) rfl) ?_
  refine pl_val (want_no rfl) (some 2) rfl (.int .i64 f) (fun _ => by kernel_rfl) ?_
  refine pl_nil ?_
  refine au_then ?_
  refine wp_ret ?_
  exact bodyPost_ret (v := .int .i64 f) (results_tmp1 Try.results25 _ _ _ (by kernel_rfl)) (by kernel_rfl) ⟨rfl, ro_below1 M.old hg (M.get 0 rfl)⟩

set_option maxRecDepth 100000 in
set_option maxHeartbeats 4000000 in
set_option linter.unusedSimpArgs false in
theorem n_Fault  (w : World) (hL : Laid w)  :
    Calls Try.prog 25 #[.pointer none] w fun r w' => r = .returned (.int .i64 1) ∧ Below w.heap.size w w' := by
  go_enter Try.func25, Try.ntmps25
  have M := Mem.start hL
  refine wp_seq ?_
  refine rg_lit ?_
  refine pl_val (want_no rfl) (some 2) rfl (.int .i64 0) (fun _ => by kernel_rfl) ?_
  refine pl_nil ?_
  refine au_then ?_
  refine wp_seq ?_
  refine wp_seq ?_
  refine rg_lit ?_
  refine pl_val (want_no rfl) (some 3) rfl (.pointer none) (fun _ => by kernel_rfl) ?_
  refine pl_val (want_no rfl) (some 4) rfl (.bool true) (fun _ => by kernel_rfl) ?_
  refine pl_val (want_no rfl) (some 5) rfl (.bool true) (fun _ => by kernel_rfl) ?_
  refine pl_skip (want_off 2 false rfl 5 rfl (by kernel_rfl)) (some 6) rfl ?_
  refine pl_skip (want_off 2 false rfl 5 rfl (by kernel_rfl)) (some 7) rfl ?_
  refine pl_skip (want_off 2 false rfl 5 rfl (by kernel_rfl)) (some 8) rfl ?_
  refine pl_skip (want_off 2 false rfl 5 rfl (by kernel_rfl)) (some 9) rfl ?_
  refine pl_skip (want_off 2 false rfl 5 rfl (by kernel_rfl)) (some 10) rfl ?_
  refine pl_val (want_no rfl) (some 11) rfl (.bool true) (fun _ => by kernel_rfl) ?_
  refine pl_nil ?_
  refine au_then ?_
  refine wp_cond_true (by kernel_rfl) ?_
  refine wp_seq ?_
  refine rg_lit ?_
  refine pl_val (want_no rfl) (some 2) rfl (.int .i64 1) (fun _ => by kernel_rfl) ?_
  refine pl_nil ?_
  refine au_then ?_
  refine wp_ret ?_
  refine au_then_ret ?_
  exact bodyPost_ret (v := .int .i64 1) (results_tmp1 Try.results25 _ _ _ (by kernel_rfl)) (by kernel_rfl) ⟨rfl, below_grown M.old⟩

set_option maxRecDepth 100000 in
set_option maxHeartbeats 4000000 in
set_option linter.unusedSimpArgs false in
theorem c_faultyT (g : Nat) (s : ByteArray) (f : Int) (e : Int) (he : e ≠ 0) (w : World) (hL : Laid w)  (hg : w.heap[g]? = some (.cells (av 3 (ls [.bool true, .string s, .int .i64 f])) 59)) :
    Calls Try.prog 35 #[.pointer (some ⟨g, 0, none⟩), .bool true, .int .i64 e] w fun r w' => r = .returned (.bool true) ∧ Grw w w' [g] ∧ w'.heap[g]? = some (.cells (av 3 (ls [.bool true, .string s, .int .i64 (ff f e)])) 59) := by
  go_enter Try.func35, Try.ntmps35
  have M := Mem.startp hL hg
  refine wp_seq ?_
  refine rg_lit ?_
  refine pl_val (want_no rfl) (some 6) rfl (.bool false) (fun _ => by kernel_rfl) ?_
  refine pl_nil ?_
  refine au_then ?_
  refine wp_seq ?_
  refine wp_seq ?_
  refine rg_lit ?_
  refine pl_val (want_no rfl) (some 7) rfl (.bool true) (fun _ => by kernel_rfl) ?_
  refine pl_val (want_no rfl) (some 8) rfl (.bool true) (fun _ => by kernel_rfl) ?_
  refine pl_val (want_on 1 true rfl 8 rfl (by kernel_rfl)) (some 9) rfl (.pointer (some ⟨g, 0, none⟩)) (fun _ => by kernel_rfl) ?_
  refine pl_call M (want_on 1 true rfl 8 rfl (by kernel_rfl)) (some 10) rfl 25 #[.pointer (some ⟨g, 0, none⟩)] (.int .i64 f) (fun _ => by kernel_rfl) (fun w M => c_Fault g s f w M.laid (M.get 0 rfl)) ?_
  intro u1 M
  by_cases c0 : f = 0
  · skip
    refine pl_val (want_on 1 true rfl 8 rfl (by kernel_rfl)) (some 11) rfl (.bool true) (fun w => Eq.trans (b := .ok (.value (.bool (decide (f = 0)))) w) (by kernel_rfl) (by rw [decide_eq_true (c0)])) ?_
    refine pl_val (want_no rfl) (some 12) rfl (.bool true) (fun _ => by kernel_rfl) ?_
    refine pl_nil ?_
    refine au_then ?_
    refine wp_cond_true (by kernel_rfl) ?_
    refine rg_lit ?_
    refine pl_val (want_no rfl) (some 13) rfl (.pointer (some ⟨g, 0, none⟩)) (fun _ => by kernel_rfl) ?_
    refine pl_val (want_no rfl) (some 14) rfl (.int .i64 e) (fun _ => by kernel_rfl) ?_
    refine pl_val (want_no rfl) (some 15) rfl (.pointer (some ⟨g, 0, none⟩)) (fun _ => by kernel_rfl) ?_
    refine pl_val (want_no rfl) (some 16) rfl (.pointer (some ⟨g, 2, none⟩)) (fun _ => by kernel_rfl) ?_
    refine pl_put1 M (want_no rfl) rfl 24 _ _ rfl 0 g 2 (by kernel_rfl) 3 59 (ls [.bool true, .string s, .int .i64 f]) rfl (.int .i64 e) (ls [.bool true, .string s, .int .i64 e]) (by kernel_rfl) inz24 (by decide) rfl rfl (put_ls _ 2 _ _ rfl) ?_
    intro u2 M
    replace M : Mem ⟨w, [g]⟩ [⟨g, .cells (av 3 (ls [.bool true, .string s, .int .i64 e])) 59⟩] u2 := M
    refine pl_nil ?_
    refine au_then ?_
    refine wp_seq ?_
    refine rg_lit ?_
    refine pl_val (want_no rfl) (some 17) rfl (.pointer (some ⟨g, 0, none⟩)) (fun _ => by kernel_rfl) ?_
    refine pl_call M (want_no rfl) (some 18) rfl 25 #[.pointer (some ⟨g, 0, none⟩)] (.int .i64 e) (fun _ => by kernel_rfl) (fun w M => c_Fault g s e w M.laid (M.get 0 rfl)) ?_
    intro u3 M
    by_cases c1 : e = 0
    · exact absurd c1 he
    · skip
      refine pl_val (want_no rfl) (some 19) rfl (.bool true) (fun w => Eq.trans (b := .ok (.value (.bool (!(decide (e = 0))))) w) (by kernel_rfl) (by rw [decide_eq_false (c1)]; rfl)) ?_
      refine pl_val (want_no rfl) (some 6) rfl (.bool true) (fun _ => by kernel_rfl) ?_
      refine pl_nil ?_
      refine au_then ?_
      refine wp_ret ?_
      have e0 : (ff f e) = e := by first | (simp only [ff, if_pos c0, if_neg c1]; done) | simp [ff, c0, c1]
      exact bodyPost_ret (v := .bool true) (results_tmp1 Try.results35 _ _ _ (by kernel_rfl)) (by kernel_rfl) ⟨rfl, M.old, by simpa only [e0] using M.get 0 rfl⟩
  · skip
    refine pl_val (want_on 1 true rfl 8 rfl (by kernel_rfl)) (some 11) rfl (.bool false) (fun w => Eq.trans (b := .ok (.value (.bool (decide (f = 0)))) w) (by kernel_rfl) (by rw [decide_eq_false (c0)])) ?_
    refine pl_val (want_no rfl) (some 12) rfl (.bool false) (fun _ => by kernel_rfl) ?_
    refine pl_nil ?_
    refine au_then ?_
    refine wp_cond_false (by kernel_rfl) ?_
    refine wp_skip ?_
    refine au_then ?_
    refine wp_seq ?_
    refine rg_lit ?_
    refine pl_val (want_no rfl) (some 17) rfl (.pointer (some ⟨g, 0, none⟩)) (fun _ => by kernel_rfl) ?_
    refine pl_call M (want_no rfl) (some 18) rfl 25 #[.pointer (some ⟨g, 0, none⟩)] (.int .i64 f) (fun _ => by kernel_rfl) (fun w M => c_Fault g s f w M.laid (M.get 0 rfl)) ?_
    intro u2 M
    refine pl_val (want_no rfl) (some 19) rfl (.bool true) (fun w => Eq.trans (b := .ok (.value (.bool (!(decide (f = 0))))) w) (by kernel_rfl) (by rw [decide_eq_false (c0)]; rfl)) ?_
    refine pl_val (want_no rfl) (some 6) rfl (.bool true) (fun _ => by kernel_rfl) ?_
    refine pl_nil ?_
    refine au_then ?_
    refine wp_ret ?_
    have e0 : (ff f e) = f := by first | (simp only [ff, if_neg c0]; done) | simp [ff, c0]
    exact bodyPost_ret (v := .bool true) (results_tmp1 Try.results35 _ _ _ (by kernel_rfl)) (by kernel_rfl) ⟨rfl, M.old, by simpa only [e0] using M.get 0 rfl⟩

set_option maxRecDepth 100000 in
set_option maxHeartbeats 4000000 in
set_option linter.unusedSimpArgs false in
theorem c_faultyF (g : Nat) (s : ByteArray) (f : Int) (e : Int) (w : World) (hL : Laid w)  (hg : w.heap[g]? = some (.cells (av 3 (ls [.bool true, .string s, .int .i64 f])) 59)) :
    Calls Try.prog 35 #[.pointer (some ⟨g, 0, none⟩), .bool false, .int .i64 e] w fun r w' => r = .returned (.bool (decide (f ≠ 0))) ∧ Grw w w' [g] ∧ w'.heap[g]? = some (.cells (av 3 (ls [.bool true, .string s, .int .i64 f])) 59) := by
  go_enter Try.func35, Try.ntmps35
  have M := Mem.startp hL hg
  refine wp_seq ?_
  refine rg_lit ?_
  refine pl_val (want_no rfl) (some 6) rfl (.bool false) (fun _ => by kernel_rfl) ?_
  refine pl_nil ?_
  refine au_then ?_
  refine wp_seq ?_
  refine wp_seq ?_
  refine rg_lit ?_
  refine pl_val (want_no rfl) (some 7) rfl (.bool false) (fun _ => by kernel_rfl) ?_
  refine pl_val (want_no rfl) (some 8) rfl (.bool false) (fun _ => by kernel_rfl) ?_
  refine pl_skip (want_off 1 true rfl 8 rfl (by kernel_rfl)) (some 9) rfl ?_
  refine pl_skip (want_off 1 true rfl 8 rfl (by kernel_rfl)) (some 10) rfl ?_
  refine pl_skip (want_off 1 true rfl 8 rfl (by kernel_rfl)) (some 11) rfl ?_
  refine pl_val (want_no rfl) (some 12) rfl (.bool false) (fun _ => by kernel_rfl) ?_
  refine pl_nil ?_
  refine au_then ?_
  refine wp_cond_false (by kernel_rfl) ?_
  refine wp_skip ?_
  refine au_then ?_
  refine wp_seq ?_
  refine rg_lit ?_
  refine pl_val (want_no rfl) (some 17) rfl (.pointer (some ⟨g, 0, none⟩)) (fun _ => by kernel_rfl) ?_
  refine pl_call M (want_no rfl) (some 18) rfl 25 #[.pointer (some ⟨g, 0, none⟩)] (.int .i64 f) (fun _ => by kernel_rfl) (fun w M => c_Fault g s f w M.laid (M.get 0 rfl)) ?_
  intro u1 M
  by_cases c0 : f = 0
  · skip
    refine pl_val (want_no rfl) (some 19) rfl (.bool false) (fun w => Eq.trans (b := .ok (.value (.bool (!(decide (f = 0))))) w) (by kernel_rfl) (by rw [decide_eq_true (c0)]; rfl)) ?_
    refine pl_val (want_no rfl) (some 6) rfl (.bool false) (fun _ => by kernel_rfl) ?_
    refine pl_nil ?_
    refine au_then ?_
    refine wp_ret ?_
    have e0 : decide (f ≠ 0) = false := by first | (simp only [if_pos c0]; done) | simp [c0]
    exact bodyPost_ret (v := .bool false) (results_tmp1 Try.results35 _ _ _ (by kernel_rfl)) (by kernel_rfl) ⟨by simp only [e0], M.old, by simpa only [e0] using M.get 0 rfl⟩
  · skip
    refine pl_val (want_no rfl) (some 19) rfl (.bool true) (fun w => Eq.trans (b := .ok (.value (.bool (!(decide (f = 0))))) w) (by kernel_rfl) (by rw [decide_eq_false (c0)]; rfl)) ?_
    refine pl_val (want_no rfl) (some 6) rfl (.bool true) (fun _ => by kernel_rfl) ?_
    refine pl_nil ?_
    refine au_then ?_
    refine wp_ret ?_
    have e0 : decide (f ≠ 0) = true := by first | (simp only [if_neg c0]; done) | simp [c0]
    exact bodyPost_ret (v := .bool true) (results_tmp1 Try.results35 _ _ _ (by kernel_rfl)) (by kernel_rfl) ⟨by simp only [e0], M.old, by simpa only [e0] using M.get 0 rfl⟩

set_option maxRecDepth 100000 in
set_option maxHeartbeats 4000000 in
set_option linter.unusedSimpArgs false in
theorem n_faultyT (e : Int) (w : World) (hL : Laid w)  :
    Calls Try.prog 35 #[.pointer none, .bool true, .int .i64 e] w fun r w' => r = .returned (.bool true) ∧ Below w.heap.size w w' := by
  go_enter Try.func35, Try.ntmps35
  have M := Mem.start hL
  refine wp_seq ?_
  refine rg_lit ?_
  refine pl_val (want_no rfl) (some 6) rfl (.bool false) (fun _ => by kernel_rfl) ?_
  refine pl_nil ?_
  refine au_then ?_
  refine wp_seq ?_
  refine wp_seq ?_
  refine rg_lit ?_
  refine pl_val (want_no rfl) (some 7) rfl (.bool true) (fun _ => by kernel_rfl) ?_
  refine pl_val (want_no rfl) (some 8) rfl (.bool true) (fun _ => by kernel_rfl) ?_
  refine pl_val (want_on 1 true rfl 8 rfl (by kernel_rfl)) (some 9) rfl (.pointer none) (fun _ => by kernel_rfl) ?_
  refine pl_call M (want_on 1 true rfl 8 rfl (by kernel_rfl)) (some 10) rfl 25 #[.pointer none] (.int .i64 1) (fun _ => by kernel_rfl) (fun w M => n_Fault w M.laid) ?_
  intro u1 M
  refine pl_val (want_on 1 true rfl 8 rfl (by kernel_rfl)) (some 11) rfl (.bool false) (fun _ => by kernel_rfl) ?_
  refine pl_val (want_no rfl) (some 12) rfl (.bool false) (fun _ => by kernel_rfl) ?_
  refine pl_nil ?_
  refine au_then ?_
  refine wp_cond_false (by kernel_rfl) ?_
  refine wp_skip ?_
  refine au_then ?_
  refine wp_seq ?_
  refine rg_lit ?_
  refine pl_val (want_no rfl) (some 17) rfl (.pointer none) (fun _ => by kernel_rfl) ?_
  refine pl_call M (want_no rfl) (some 18) rfl 25 #[.pointer none] (.int .i64 1) (fun _ => by kernel_rfl) (fun w M => n_Fault w M.laid) ?_
  intro u2 M
  refine pl_val (want_no rfl) (some 19) rfl (.bool true) (fun _ => by kernel_rfl) ?_
  refine pl_val (want_no rfl) (some 6) rfl (.bool true) (fun _ => by kernel_rfl) ?_
  refine pl_nil ?_
  refine au_then ?_
  refine wp_ret ?_
  exact bodyPost_ret (v := .bool true) (results_tmp1 Try.results35 _ _ _ (by kernel_rfl)) (by kernel_rfl) ⟨rfl, below_grown M.old⟩

set_option maxRecDepth 100000 in
set_option maxHeartbeats 4000000 in
set_option linter.unusedSimpArgs false in
theorem n_faultyF (e : Int) (w : World) (hL : Laid w)  :
    Calls Try.prog 35 #[.pointer none, .bool false, .int .i64 e] w fun r w' => r = .returned (.bool true) ∧ Below w.heap.size w w' := by
  go_enter Try.func35, Try.ntmps35
  have M := Mem.start hL
  refine wp_seq ?_
  refine rg_lit ?_
  refine pl_val (want_no rfl) (some 6) rfl (.bool false) (fun _ => by kernel_rfl) ?_
  refine pl_nil ?_
  refine au_then ?_
  refine wp_seq ?_
  refine wp_seq ?_
  refine rg_lit ?_
  refine pl_val (want_no rfl) (some 7) rfl (.bool false) (fun _ => by kernel_rfl) ?_
  refine pl_val (want_no rfl) (some 8) rfl (.bool false) (fun _ => by kernel_rfl) ?_
  refine pl_skip (want_off 1 true rfl 8 rfl (by kernel_rfl)) (some 9) rfl ?_
  refine pl_skip (want_off 1 true rfl 8 rfl (by kernel_rfl)) (some 10) rfl ?_
  refine pl_skip (want_off 1 true rfl 8 rfl (by kernel_rfl)) (some 11) rfl ?_
  refine pl_val (want_no rfl) (some 12) rfl (.bool false) (fun _ => by kernel_rfl) ?_
  refine pl_nil ?_
  refine au_then ?_
  refine wp_cond_false (by kernel_rfl) ?_
  refine wp_skip ?_
  refine au_then ?_
  refine wp_seq ?_
  refine rg_lit ?_
  refine pl_val (want_no rfl) (some 17) rfl (.pointer none) (fun _ => by kernel_rfl) ?_
  refine pl_call M (want_no rfl) (some 18) rfl 25 #[.pointer none] (.int .i64 1) (fun _ => by kernel_rfl) (fun w M => n_Fault w M.laid) ?_
  intro u1 M
  refine pl_val (want_no rfl) (some 19) rfl (.bool true) (fun _ => by kernel_rfl) ?_
  refine pl_val (want_no rfl) (some 6) rfl (.bool true) (fun _ => by kernel_rfl) ?_
  refine pl_nil ?_
  refine au_then ?_
  refine wp_ret ?_
  exact bodyPost_ret (v := .bool true) (results_tmp1 Try.results35 _ _ _ (by kernel_rfl)) (by kernel_rfl) ⟨rfl, below_grown M.old⟩

set_option maxRecDepth 100000 in
set_option maxHeartbeats 4000000 in
set_option linter.unusedSimpArgs false in
theorem c_Take (g : Nat) (s : ByteArray) (f : Int) (n : Int) (w : World) (hL : Laid w)  (hg : w.heap[g]? = some (.cells (av 3 (ls [.bool true, .string s, .int .i64 f])) 59)) :
    Calls Try.prog 20 #[.pointer (some ⟨g, 0, none⟩), .int .i64 n] w fun r w' => r = .returned (.string (tkV s f n)) ∧ Grw w w' [g] ∧ w'.heap[g]? = some (.cells (av 3 (ls [.bool true, .string (tkS s f n), .int .i64 (tkF s f n)])) 59) := by
  go_enter Try.func20, Try.ntmps20
  have M := Mem.startp hL hg
  refine wp_seq ?_
  refine rg_lit ?_
  refine pl_val (want_no rfl) (some 4) rfl (.string ⟨#[]⟩) (fun _ => by kernel_rfl) ?_
  refine pl_nil ?_
  refine au_then ?_
  refine wp_seq ?_
  refine wp_seq ?_
  refine rg_lit ?_
  refine pl_val (want_no rfl) (some 6) rfl (.pointer (some ⟨g, 0, none⟩)) (fun _ => by kernel_rfl) ?_
  refine pl_val (want_no rfl) (some 7) rfl (.int .i64 n) (fun _ => by kernel_rfl) ?_
  by_cases c0 : n < 0
  · skip
    refine pl_val (want_no rfl) (some 8) rfl (.bool true) (fun w => Eq.trans (b := .ok (.value (.bool (decide (n < 0)))) w) (by kernel_rfl) (by rw [decide_eq_true (c0)])) ?_
    refine pl_callp M (want_no rfl) (some 9) rfl 35 #[.pointer (some ⟨g, 0, none⟩), .bool true, .int .i64 2] (.bool true) 0 g (.cells (av 3 (ls [.bool true, .string s, .int .i64 f])) 59) (.cells (av 3 (ls [.bool true, .string s, .int .i64 (ff f 2)])) 59) rfl (fun _ => by kernel_rfl) (fun w M => c_faultyT g s f 2 (by decide) w M.laid (M.get 0 rfl)) ?_
    intro u1 M
    replace M : Mem ⟨w, [g]⟩ [⟨g, .cells (av 3 (ls [.bool true, .string s, .int .i64 (ff f 2)])) 59⟩] u1 := M
    refine pl_val (want_no rfl) (some 10) rfl (.bool true) (fun _ => by kernel_rfl) ?_
    refine pl_skip (want_off 4 false rfl 10 rfl (by kernel_rfl)) (some 11) rfl ?_
    refine pl_skip (want_off 4 false rfl 10 rfl (by kernel_rfl)) (some 12) rfl ?_
    refine pl_skip (want_off 4 false rfl 10 rfl (by kernel_rfl)) (some 13) rfl ?_
    refine pl_skip (want_off 4 false rfl 10 rfl (by kernel_rfl)) (some 14) rfl ?_
    refine pl_skip (want_off 4 false rfl 10 rfl (by kernel_rfl)) (some 15) rfl ?_
    refine pl_skip (want_off 4 false rfl 10 rfl (by kernel_rfl)) (some 16) rfl ?_
    refine pl_val (want_no rfl) (some 17) rfl (.bool true) (fun _ => by kernel_rfl) ?_
    refine pl_nil ?_
    refine au_then ?_
    refine wp_cond_true (by kernel_rfl) ?_
    refine wp_seq ?_
    refine rg_lit ?_
    refine pl_val (want_no rfl) (some 4) rfl (.string ⟨#[]⟩) (fun _ => by kernel_rfl) ?_
    refine pl_nil ?_
    refine au_then ?_
    refine wp_ret ?_
    refine au_then_ret ?_
    have e0 : (tkV s f n) = ⟨#[]⟩ := by simp [tkV, tkS, tkF, ff, c0] <;> (intros; omega)
    have e1 : (tkS s f n) = s := by simp [tkV, tkS, tkF, ff, c0] <;> (intros; omega)
    have e2 : (tkF s f n) = (ff f 2) := by simp [tkV, tkS, tkF, ff, c0] <;> (intros; omega)
    exact bodyPost_ret (v := .string ⟨#[]⟩) (results_tmp1 Try.results20 _ _ _ (by kernel_rfl)) (by kernel_rfl) ⟨by simp only [e0, e1, e2], M.old, by simpa only [e0, e1, e2] using M.get 0 rfl⟩
  · skip
    refine pl_val (want_no rfl) (some 8) rfl (.bool false) (fun w => Eq.trans (b := .ok (.value (.bool (decide (n < 0)))) w) (by kernel_rfl) (by rw [decide_eq_false (c0)])) ?_
    by_cases c1 : f = 0
    · skip
      refine pl_callp M (want_no rfl) (some 9) rfl 35 #[.pointer (some ⟨g, 0, none⟩), .bool false, .int .i64 2] (.bool false) 0 g (.cells (av 3 (ls [.bool true, .string s, .int .i64 f])) 59) (.cells (av 3 (ls [.bool true, .string s, .int .i64 f])) 59) rfl (fun _ => by kernel_rfl) (fun w M => call_val (c_faultyF g s f 2 w M.laid (M.get 0 rfl)) (congrArg Value.bool (decide_eq_false (not_not_intro c1)))) ?_
      intro u1 M
      replace M : Mem ⟨w, [g]⟩ [⟨g, .cells (av 3 (ls [.bool true, .string s, .int .i64 f])) 59⟩] u1 := M
      refine pl_val (want_no rfl) (some 10) rfl (.bool false) (fun _ => by kernel_rfl) ?_
      refine pl_val (want_on 4 false rfl 10 rfl (by kernel_rfl)) (some 11) rfl (.pointer (some ⟨g, 0, none⟩)) (fun _ => by kernel_rfl) ?_
      refine pl_val (want_on 4 false rfl 10 rfl (by kernel_rfl)) (some 12) rfl (.int .i64 n) (fun _ => by kernel_rfl) ?_
      refine pl_val (want_on 4 false rfl 10 rfl (by kernel_rfl)) (some 13) rfl (.pointer (some ⟨g, 0, none⟩)) (fun _ => by kernel_rfl) ?_
      refine pl_call M (want_on 4 false rfl 10 rfl (by kernel_rfl)) (some 14) rfl 24 #[.pointer (some ⟨g, 0, none⟩)] (.int .i64 (s.size : Int)) (fun _ => by kernel_rfl) (fun w M => c_Left g s f w M.laid (M.get 0 rfl)) ?_
      intro u2 M
      by_cases c2 : (s.size : Int) < n
      · skip
        refine pl_val (want_on 4 false rfl 10 rfl (by kernel_rfl)) (some 15) rfl (.bool true) (fun w => Eq.trans (b := .ok (.value (.bool (decide ((s.size : Int) < n)))) w) (by kernel_rfl) (by rw [decide_eq_true (c2)])) ?_
        refine pl_callp M (want_on 4 false rfl 10 rfl (by kernel_rfl)) (some 16) rfl 35 #[.pointer (some ⟨g, 0, none⟩), .bool true, .int .i64 7] (.bool true) 0 g (.cells (av 3 (ls [.bool true, .string s, .int .i64 f])) 59) (.cells (av 3 (ls [.bool true, .string s, .int .i64 (ff f 7)])) 59) rfl (fun _ => by kernel_rfl) (fun w M => c_faultyT g s f 7 (by decide) w M.laid (M.get 0 rfl)) ?_
        intro u3 M
        replace M : Mem ⟨w, [g]⟩ [⟨g, .cells (av 3 (ls [.bool true, .string s, .int .i64 (ff f 7)])) 59⟩] u3 := M
        refine pl_val (want_no rfl) (some 17) rfl (.bool true) (fun _ => by kernel_rfl) ?_
        refine pl_nil ?_
        refine au_then ?_
        refine wp_cond_true (by kernel_rfl) ?_
        refine wp_seq ?_
        refine rg_lit ?_
        refine pl_val (want_no rfl) (some 4) rfl (.string ⟨#[]⟩) (fun _ => by kernel_rfl) ?_
        refine pl_nil ?_
        refine au_then ?_
        refine wp_ret ?_
        refine au_then_ret ?_
        have e0 : (tkV s f n) = ⟨#[]⟩ := by simp [tkV, tkS, tkF, ff, c0, c1, c2] <;> (intros; omega)
        have e1 : (tkS s f n) = s := by simp [tkV, tkS, tkF, ff, c0, c1, c2] <;> (intros; omega)
        have e2 : (tkF s f n) = (ff f 7) := by simp [tkV, tkS, tkF, ff, c0, c1, c2] <;> (intros; omega)
        exact bodyPost_ret (v := .string ⟨#[]⟩) (results_tmp1 Try.results20 _ _ _ (by kernel_rfl)) (by kernel_rfl) ⟨by simp only [e0, e1, e2], M.old, by simpa only [e0, e1, e2] using M.get 0 rfl⟩
      · skip
        refine pl_val (want_on 4 false rfl 10 rfl (by kernel_rfl)) (some 15) rfl (.bool false) (fun w => Eq.trans (b := .ok (.value (.bool (decide ((s.size : Int) < n)))) w) (by kernel_rfl) (by rw [decide_eq_false (c2)])) ?_
        refine pl_callp M (want_on 4 false rfl 10 rfl (by kernel_rfl)) (some 16) rfl 35 #[.pointer (some ⟨g, 0, none⟩), .bool false, .int .i64 7] (.bool false) 0 g (.cells (av 3 (ls [.bool true, .string s, .int .i64 f])) 59) (.cells (av 3 (ls [.bool true, .string s, .int .i64 f])) 59) rfl (fun _ => by kernel_rfl) (fun w M => call_val (c_faultyF g s f 7 w M.laid (M.get 0 rfl)) (congrArg Value.bool (decide_eq_false (not_not_intro c1)))) ?_
        intro u3 M
        replace M : Mem ⟨w, [g]⟩ [⟨g, .cells (av 3 (ls [.bool true, .string s, .int .i64 f])) 59⟩] u3 := M
        refine pl_val (want_no rfl) (some 17) rfl (.bool false) (fun _ => by kernel_rfl) ?_
        refine pl_nil ?_
        refine au_then ?_
        refine wp_cond_false (by kernel_rfl) ?_
        refine wp_skip ?_
        refine au_then ?_
        refine wp_seq ?_
        refine rg_lit ?_
        refine pl_val (want_no rfl) (some 18) rfl (.pointer (some ⟨g, 0, none⟩)) (fun _ => by kernel_rfl) ?_
        refine pl_val (want_no rfl) (some 19) rfl (.pointer (some ⟨g, 0, none⟩)) (fun _ => by kernel_rfl) ?_
        refine pl_val (want_no rfl) (some 20) rfl (.pointer (some ⟨g, 1, none⟩)) (fun _ => by kernel_rfl) ?_
        refine pl_cell M (want_no rfl) (some 21) rfl 9 _ rfl g 1 (by kernel_rfl) (.string s) (fun _ => by kernel_rfl) (fun w M => M.cell 0 rfl (by decide) rfl) ?_
        refine pl_val (want_no rfl) (some 22) rfl (.int .i64 n) (fun _ => by kernel_rfl) ?_
        refine pl_val (want_no rfl) (some 23) rfl (.string (s.extract 0 n.toNat)) (run_strh 9 Try.underlying9 _ _ rfl s (by kernel_rfl) .i64 n.toNat (nat_of (k := .i64) (by kernel_rfl) (by omega)) (by omega) _ rfl) ?_
        refine pl_val (want_no rfl) (some 5) rfl (.string (s.extract 0 n.toNat)) (fun _ => by kernel_rfl) ?_
        refine pl_nil ?_
        refine au_then ?_
        refine wp_seq ?_
        refine rg_lit ?_
        refine pl_val (want_no rfl) (some 24) rfl (.pointer (some ⟨g, 0, none⟩)) (fun _ => by kernel_rfl) ?_
        refine pl_val (want_no rfl) (some 25) rfl (.pointer (some ⟨g, 0, none⟩)) (fun _ => by kernel_rfl) ?_
        refine pl_val (want_no rfl) (some 26) rfl (.pointer (some ⟨g, 0, none⟩)) (fun _ => by kernel_rfl) ?_
        refine pl_val (want_no rfl) (some 27) rfl (.pointer (some ⟨g, 1, none⟩)) (fun _ => by kernel_rfl) ?_
        refine pl_cell M (want_no rfl) (some 28) rfl 9 _ rfl g 1 (by kernel_rfl) (.string s) (fun _ => by kernel_rfl) (fun w M => M.cell 0 rfl (by decide) rfl) ?_
        refine pl_val (want_no rfl) (some 29) rfl (.int .i64 n) (fun _ => by kernel_rfl) ?_
        refine pl_val (want_no rfl) (some 30) rfl (.string (s.extract n.toNat s.size)) (run_strl 9 Try.underlying9 _ _ rfl s (by kernel_rfl) .i64 n.toNat (nat_of (k := .i64) (by kernel_rfl) (by omega)) (by omega) _ rfl) ?_
        refine pl_val (want_no rfl) (some 31) rfl (.pointer (some ⟨g, 0, none⟩)) (fun _ => by kernel_rfl) ?_
        refine pl_val (want_no rfl) (some 32) rfl (.pointer (some ⟨g, 1, none⟩)) (fun _ => by kernel_rfl) ?_
        refine pl_put1 M (want_no rfl) rfl 9 _ _ rfl 0 g 1 (by kernel_rfl) 3 59 (ls [.bool true, .string s, .int .i64 f]) rfl (.string (s.extract n.toNat s.size)) (ls [.bool true, .string (s.extract n.toNat s.size), .int .i64 f]) (by kernel_rfl) inz9 (by decide) rfl rfl (put_ls _ 1 _ _ rfl) ?_
        intro u4 M
        replace M : Mem ⟨w, [g]⟩ [⟨g, .cells (av 3 (ls [.bool true, .string (s.extract n.toNat s.size), .int .i64 f])) 59⟩] u4 := M
        refine pl_nil ?_
        refine au_then ?_
        refine wp_seq ?_
        refine rg_lit ?_
        refine pl_val (want_no rfl) (some 33) rfl (.string (s.extract 0 n.toNat)) (fun _ => by kernel_rfl) ?_
        refine pl_val (want_no rfl) (some 4) rfl (.string (s.extract 0 n.toNat)) (fun _ => by kernel_rfl) ?_
        refine pl_nil ?_
        refine au_then ?_
        refine wp_ret ?_
        have e0 : (tkV s f n) = (s.extract 0 n.toNat) := by simp [tkV, tkS, tkF, ff, c0, c1, c2] <;> (intros; omega)
        have e1 : (tkS s f n) = (s.extract n.toNat s.size) := by simp [tkV, tkS, tkF, ff, c0, c1, c2] <;> (intros; omega)
        have e2 : (tkF s f n) = f := by simp [tkV, tkS, tkF, ff, c0, c1, c2] <;> (intros; omega)
        exact bodyPost_ret (v := .string (s.extract 0 n.toNat)) (results_tmp1 Try.results20 _ _ _ (by kernel_rfl)) (by kernel_rfl) ⟨by simp only [e0, e1, e2], M.old, by simpa only [e0, e1, e2] using M.get 0 rfl⟩
    · skip
      refine pl_callp M (want_no rfl) (some 9) rfl 35 #[.pointer (some ⟨g, 0, none⟩), .bool false, .int .i64 2] (.bool true) 0 g (.cells (av 3 (ls [.bool true, .string s, .int .i64 f])) 59) (.cells (av 3 (ls [.bool true, .string s, .int .i64 f])) 59) rfl (fun _ => by kernel_rfl) (fun w M => call_val (c_faultyF g s f 2 w M.laid (M.get 0 rfl)) (congrArg Value.bool (decide_eq_true (c1)))) ?_
      intro u1 M
      replace M : Mem ⟨w, [g]⟩ [⟨g, .cells (av 3 (ls [.bool true, .string s, .int .i64 f])) 59⟩] u1 := M
      refine pl_val (want_no rfl) (some 10) rfl (.bool true) (fun _ => by kernel_rfl) ?_
      refine pl_skip (want_off 4 false rfl 10 rfl (by kernel_rfl)) (some 11) rfl ?_
      refine pl_skip (want_off 4 false rfl 10 rfl (by kernel_rfl)) (some 12) rfl ?_
      refine pl_skip (want_off 4 false rfl 10 rfl (by kernel_rfl)) (some 13) rfl ?_
      refine pl_skip (want_off 4 false rfl 10 rfl (by kernel_rfl)) (some 14) rfl ?_
      refine pl_skip (want_off 4 false rfl 10 rfl (by kernel_rfl)) (some 15) rfl ?_
      refine pl_skip (want_off 4 false rfl 10 rfl (by kernel_rfl)) (some 16) rfl ?_
      refine pl_val (want_no rfl) (some 17) rfl (.bool true) (fun _ => by kernel_rfl) ?_
      refine pl_nil ?_
      refine au_then ?_
      refine wp_cond_true (by kernel_rfl) ?_
      refine wp_seq ?_
      refine rg_lit ?_
      refine pl_val (want_no rfl) (some 4) rfl (.string ⟨#[]⟩) (fun _ => by kernel_rfl) ?_
      refine pl_nil ?_
      refine au_then ?_
      refine wp_ret ?_
      refine au_then_ret ?_
      have e0 : (tkV s f n) = ⟨#[]⟩ := by simp [tkV, tkS, tkF, ff, c0, c1] <;> (intros; omega)
      have e1 : (tkS s f n) = s := by simp [tkV, tkS, tkF, ff, c0, c1] <;> (intros; omega)
      have e2 : (tkF s f n) = f := by simp [tkV, tkS, tkF, ff, c0, c1] <;> (intros; omega)
      exact bodyPost_ret (v := .string ⟨#[]⟩) (results_tmp1 Try.results20 _ _ _ (by kernel_rfl)) (by kernel_rfl) ⟨by simp only [e0, e1, e2], M.old, by simpa only [e0, e1, e2] using M.get 0 rfl⟩

set_option maxRecDepth 100000 in
set_option maxHeartbeats 4000000 in
set_option linter.unusedSimpArgs false in
theorem n_Take (n : Int) (w : World) (hL : Laid w)  :
    Calls Try.prog 20 #[.pointer none, .int .i64 n] w fun r w' => r = .returned (.string ⟨#[]⟩) ∧ Below w.heap.size w w' := by
  go_enter Try.func20, Try.ntmps20
  have M := Mem.start hL
  refine wp_seq ?_
  refine rg_lit ?_
  refine pl_val (want_no rfl) (some 4) rfl (.string ⟨#[]⟩) (fun _ => by kernel_rfl) ?_
  refine pl_nil ?_
  refine au_then ?_
  refine wp_seq ?_
  refine wp_seq ?_
  refine rg_lit ?_
  refine pl_val (want_no rfl) (some 6) rfl (.pointer none) (fun _ => by kernel_rfl) ?_
  refine pl_val (want_no rfl) (some 7) rfl (.int .i64 n) (fun _ => by kernel_rfl) ?_
  by_cases c0 : n < 0
  · skip
    refine pl_val (want_no rfl) (some 8) rfl (.bool true) (fun w => Eq.trans (b := .ok (.value (.bool (decide (n < 0)))) w) (by kernel_rfl) (by rw [decide_eq_true (c0)])) ?_
    refine pl_call M (want_no rfl) (some 9) rfl 35 #[.pointer none, .bool true, .int .i64 2] (.bool true) (fun _ => by kernel_rfl) (fun w M => n_faultyT 2 w M.laid) ?_
    intro u1 M
    refine pl_val (want_no rfl) (some 10) rfl (.bool true) (fun _ => by kernel_rfl) ?_
    refine pl_skip (want_off 4 false rfl 10 rfl (by kernel_rfl)) (some 11) rfl ?_
    refine pl_skip (want_off 4 false rfl 10 rfl (by kernel_rfl)) (some 12) rfl ?_
    refine pl_skip (want_off 4 false rfl 10 rfl (by kernel_rfl)) (some 13) rfl ?_
    refine pl_skip (want_off 4 false rfl 10 rfl (by kernel_rfl)) (some 14) rfl ?_
    refine pl_skip (want_off 4 false rfl 10 rfl (by kernel_rfl)) (some 15) rfl ?_
    refine pl_skip (want_off 4 false rfl 10 rfl (by kernel_rfl)) (some 16) rfl ?_
    refine pl_val (want_no rfl) (some 17) rfl (.bool true) (fun _ => by kernel_rfl) ?_
    refine pl_nil ?_
    refine au_then ?_
    refine wp_cond_true (by kernel_rfl) ?_
    refine wp_seq ?_
    refine rg_lit ?_
    refine pl_val (want_no rfl) (some 4) rfl (.string ⟨#[]⟩) (fun _ => by kernel_rfl) ?_
    refine pl_nil ?_
    refine au_then ?_
    refine wp_ret ?_
    refine au_then_ret ?_
    exact bodyPost_ret (v := .string ⟨#[]⟩) (results_tmp1 Try.results20 _ _ _ (by kernel_rfl)) (by kernel_rfl) ⟨rfl, below_grown M.old⟩
  · skip
    refine pl_val (want_no rfl) (some 8) rfl (.bool false) (fun w => Eq.trans (b := .ok (.value (.bool (decide (n < 0)))) w) (by kernel_rfl) (by rw [decide_eq_false (c0)])) ?_
    refine pl_call M (want_no rfl) (some 9) rfl 35 #[.pointer none, .bool false, .int .i64 2] (.bool true) (fun _ => by kernel_rfl) (fun w M => n_faultyF 2 w M.laid) ?_
    intro u1 M
    refine pl_val (want_no rfl) (some 10) rfl (.bool true) (fun _ => by kernel_rfl) ?_
    refine pl_skip (want_off 4 false rfl 10 rfl (by kernel_rfl)) (some 11) rfl ?_
    refine pl_skip (want_off 4 false rfl 10 rfl (by kernel_rfl)) (some 12) rfl ?_
    refine pl_skip (want_off 4 false rfl 10 rfl (by kernel_rfl)) (some 13) rfl ?_
    refine pl_skip (want_off 4 false rfl 10 rfl (by kernel_rfl)) (some 14) rfl ?_
    refine pl_skip (want_off 4 false rfl 10 rfl (by kernel_rfl)) (some 15) rfl ?_
    refine pl_skip (want_off 4 false rfl 10 rfl (by kernel_rfl)) (some 16) rfl ?_
    refine pl_val (want_no rfl) (some 17) rfl (.bool true) (fun _ => by kernel_rfl) ?_
    refine pl_nil ?_
    refine au_then ?_
    refine wp_cond_true (by kernel_rfl) ?_
    refine wp_seq ?_
    refine rg_lit ?_
    refine pl_val (want_no rfl) (some 4) rfl (.string ⟨#[]⟩) (fun _ => by kernel_rfl) ?_
    refine pl_nil ?_
    refine au_then ?_
    refine wp_ret ?_
    refine au_then_ret ?_
    exact bodyPost_ret (v := .string ⟨#[]⟩) (results_tmp1 Try.results20 _ _ _ (by kernel_rfl)) (by kernel_rfl) ⟨rfl, below_grown M.old⟩

set_option maxRecDepth 100000 in
set_option maxHeartbeats 4000000 in
set_option linter.unusedSimpArgs false in
theorem d_Take (q : Nat) (s : ByteArray) (f n : Int) (w : World) (hL : Laid w)  (hg : w.heap[q]? = some (.cells (av 2 (ls [.string s, .int .i64 f])) 39)) :
    Calls Try.prog 21 #[.pointer (some ⟨q, 0, none⟩), .int .i64 n] w fun r w' => r = .returned (.string (tkV s f n)) ∧ Grw w w' [q] ∧ w'.heap[q]? = some (.cells (av 2 (ls [.string (tkS s f n), .int .i64 (tkF s f n)])) 39) := by
  go_enter Try.func21, Try.ntmps21
  have M := Mem.startp hL hg
  refine wp_seq ?_
  refine rg_lit ?_
  refine pl_val (want_no rfl) (some 4) rfl (.string ⟨#[]⟩) (fun _ => by kernel_rfl) ?_
  refine pl_nil ?_
  refine au_then ?_
  refine wp_seq ?_
  refine wp_seq ?_
  refine rg_lit ?_
  refine pl_val (want_no rfl) (some 6) rfl (.pointer (some ⟨q, 0, none⟩)) (fun _ => by kernel_rfl) ?_
  refine pl_val (want_no rfl) (some 7) rfl (.pointer (some ⟨q, 0, none⟩)) (fun _ => by kernel_rfl) ?_
  refine pl_val (want_no rfl) (some 8) rfl (.pointer (some ⟨q, 1, none⟩)) (fun _ => by kernel_rfl) ?_
  refine pl_cell M (want_no rfl) (some 9) rfl 24 _ rfl q 1 (by kernel_rfl) (.int .i64 f) (fun _ => by kernel_rfl) (fun w M => M.cell 0 rfl (by decide) rfl) ?_
  by_cases c0 : f = 0
  · skip
    refine pl_val (want_no rfl) (some 10) rfl (.bool false) (fun w => Eq.trans (b := .ok (.value (.bool (!(decide (f = 0))))) w) (by kernel_rfl) (by rw [decide_eq_true (c0)]; rfl)) ?_
    refine pl_nil ?_
    refine au_then ?_
    refine wp_cond_false (by kernel_rfl) ?_
    refine wp_skip ?_
    refine au_then ?_
    refine wp_seq ?_
    refine wp_seq ?_
    refine rg_lit ?_
    refine pl_val (want_no rfl) (some 11) rfl (.int .i64 n) (fun _ => by kernel_rfl) ?_
    by_cases c1 : n < 0
    · skip
      refine pl_val (want_no rfl) (some 12) rfl (.bool true) (fun w => Eq.trans (b := .ok (.value (.bool (decide (n < 0)))) w) (by kernel_rfl) (by rw [decide_eq_true (c1)])) ?_
      refine pl_nil ?_
      refine au_then ?_
      refine wp_cond_true (by kernel_rfl) ?_
      refine wp_seq ?_
      refine rg_lit ?_
      refine pl_val (want_no rfl) (some 13) rfl (.pointer (some ⟨q, 0, none⟩)) (fun _ => by kernel_rfl) ?_
      refine pl_val (want_no rfl) (some 14) rfl (.pointer (some ⟨q, 0, none⟩)) (fun _ => by kernel_rfl) ?_
      refine pl_val (want_no rfl) (some 15) rfl (.pointer (some ⟨q, 1, none⟩)) (fun _ => by kernel_rfl) ?_
      refine pl_put1 M (want_no rfl) rfl 24 _ _ rfl 0 q 1 (by kernel_rfl) 2 39 (ls [.string s, .int .i64 f]) rfl (.int .i64 2) (ls [.string s, .int .i64 2]) (by kernel_rfl) inz24 (by decide) rfl rfl (put_ls _ 1 _ _ rfl) ?_
      intro u1 M
      replace M : Mem ⟨w, [q]⟩ [⟨q, .cells (av 2 (ls [.string s, .int .i64 2])) 39⟩] u1 := M
      refine pl_nil ?_
      refine au_then ?_
      refine wp_seq ?_
      refine rg_lit ?_
      refine pl_val (want_no rfl) (some 4) rfl (.string ⟨#[]⟩) (fun _ => by kernel_rfl) ?_
      refine pl_nil ?_
      refine au_then ?_
      refine wp_ret ?_
      refine au_then_ret ?_
      have e0 : (tkV s f n) = ⟨#[]⟩ := by simp [tkV, tkS, tkF, ff, c0, c1] <;> (intros; omega)
      have e1 : (tkS s f n) = s := by simp [tkV, tkS, tkF, ff, c0, c1] <;> (intros; omega)
      have e2 : (tkF s f n) = 2 := by simp [tkV, tkS, tkF, ff, c0, c1] <;> (intros; omega)
      exact bodyPost_ret (v := .string ⟨#[]⟩) (results_tmp1 Try.results21 _ _ _ (by kernel_rfl)) (by kernel_rfl) ⟨by simp only [e0, e1, e2], M.old, by simpa only [e0, e1, e2] using M.get 0 rfl⟩
    · skip
      refine pl_val (want_no rfl) (some 12) rfl (.bool false) (fun w => Eq.trans (b := .ok (.value (.bool (decide (n < 0)))) w) (by kernel_rfl) (by rw [decide_eq_false (c1)])) ?_
      refine pl_nil ?_
      refine au_then ?_
      refine wp_cond_false (by kernel_rfl) ?_
      refine wp_skip ?_
      refine au_then ?_
      refine wp_seq ?_
      refine wp_seq ?_
      refine rg_lit ?_
      refine pl_val (want_no rfl) (some 16) rfl (.int .i64 n) (fun _ => by kernel_rfl) ?_
      refine pl_val (want_no rfl) (some 17) rfl (.pointer (some ⟨q, 0, none⟩)) (fun _ => by kernel_rfl) ?_
      refine pl_val (want_no rfl) (some 18) rfl (.pointer (some ⟨q, 0, none⟩)) (fun _ => by kernel_rfl) ?_
      refine pl_val (want_no rfl) (some 19) rfl (.pointer (some ⟨q, 0, none⟩)) (fun _ => by kernel_rfl) ?_
      refine pl_cell M (want_no rfl) (some 20) rfl 9 _ rfl q 0 (by kernel_rfl) (.string s) (fun _ => by kernel_rfl) (fun w M => M.cell 0 rfl (by decide) rfl) ?_
      refine pl_val (want_no rfl) (some 21) rfl (.int .i64 (s.size : Int)) (fun _ => by kernel_rfl) ?_
      by_cases c2 : (s.size : Int) < n
      · skip
        refine pl_val (want_no rfl) (some 22) rfl (.bool true) (fun w => Eq.trans (b := .ok (.value (.bool (decide ((s.size : Int) < n)))) w) (by kernel_rfl) (by rw [decide_eq_true (c2)])) ?_
        refine pl_nil ?_
        refine au_then ?_
        refine wp_cond_true (by kernel_rfl) ?_
        refine wp_seq ?_
        refine rg_lit ?_
        refine pl_val (want_no rfl) (some 23) rfl (.pointer (some ⟨q, 0, none⟩)) (fun _ => by kernel_rfl) ?_
        refine pl_val (want_no rfl) (some 24) rfl (.pointer (some ⟨q, 0, none⟩)) (fun _ => by kernel_rfl) ?_
        refine pl_val (want_no rfl) (some 25) rfl (.pointer (some ⟨q, 1, none⟩)) (fun _ => by kernel_rfl) ?_
        refine pl_put1 M (want_no rfl) rfl 24 _ _ rfl 0 q 1 (by kernel_rfl) 2 39 (ls [.string s, .int .i64 f]) rfl (.int .i64 7) (ls [.string s, .int .i64 7]) (by kernel_rfl) inz24 (by decide) rfl rfl (put_ls _ 1 _ _ rfl) ?_
        intro u1 M
        replace M : Mem ⟨w, [q]⟩ [⟨q, .cells (av 2 (ls [.string s, .int .i64 7])) 39⟩] u1 := M
        refine pl_nil ?_
        refine au_then ?_
        refine wp_seq ?_
        refine rg_lit ?_
        refine pl_val (want_no rfl) (some 4) rfl (.string ⟨#[]⟩) (fun _ => by kernel_rfl) ?_
        refine pl_nil ?_
        refine au_then ?_
        refine wp_ret ?_
        refine au_then_ret ?_
        have e0 : (tkV s f n) = ⟨#[]⟩ := by simp [tkV, tkS, tkF, ff, c0, c1, c2] <;> (intros; omega)
        have e1 : (tkS s f n) = s := by simp [tkV, tkS, tkF, ff, c0, c1, c2] <;> (intros; omega)
        have e2 : (tkF s f n) = 7 := by simp [tkV, tkS, tkF, ff, c0, c1, c2] <;> (intros; omega)
        exact bodyPost_ret (v := .string ⟨#[]⟩) (results_tmp1 Try.results21 _ _ _ (by kernel_rfl)) (by kernel_rfl) ⟨by simp only [e0, e1, e2], M.old, by simpa only [e0, e1, e2] using M.get 0 rfl⟩
      · skip
        refine pl_val (want_no rfl) (some 22) rfl (.bool false) (fun w => Eq.trans (b := .ok (.value (.bool (decide ((s.size : Int) < n)))) w) (by kernel_rfl) (by rw [decide_eq_false (c2)])) ?_
        refine pl_nil ?_
        refine au_then ?_
        refine wp_cond_false (by kernel_rfl) ?_
        refine wp_skip ?_
        refine au_then ?_
        refine wp_seq ?_
        refine rg_lit ?_
        refine pl_val (want_no rfl) (some 26) rfl (.pointer (some ⟨q, 0, none⟩)) (fun _ => by kernel_rfl) ?_
        refine pl_val (want_no rfl) (some 27) rfl (.pointer (some ⟨q, 0, none⟩)) (fun _ => by kernel_rfl) ?_
        refine pl_val (want_no rfl) (some 28) rfl (.pointer (some ⟨q, 0, none⟩)) (fun _ => by kernel_rfl) ?_
        refine pl_cell M (want_no rfl) (some 29) rfl 9 _ rfl q 0 (by kernel_rfl) (.string s) (fun _ => by kernel_rfl) (fun w M => M.cell 0 rfl (by decide) rfl) ?_
        refine pl_val (want_no rfl) (some 30) rfl (.int .i64 n) (fun _ => by kernel_rfl) ?_
        refine pl_val (want_no rfl) (some 31) rfl (.string (s.extract 0 n.toNat)) (run_strh 9 Try.underlying9 _ _ rfl s (by kernel_rfl) .i64 n.toNat (nat_of (k := .i64) (by kernel_rfl) (by omega)) (by omega) _ rfl) ?_
        refine pl_val (want_no rfl) (some 5) rfl (.string (s.extract 0 n.toNat)) (fun _ => by kernel_rfl) ?_
        refine pl_nil ?_
        refine au_then ?_
        refine wp_seq ?_
        refine rg_lit ?_
        refine pl_val (want_no rfl) (some 32) rfl (.pointer (some ⟨q, 0, none⟩)) (fun _ => by kernel_rfl) ?_
        refine pl_val (want_no rfl) (some 33) rfl (.pointer (some ⟨q, 0, none⟩)) (fun _ => by kernel_rfl) ?_
        refine pl_val (want_no rfl) (some 34) rfl (.pointer (some ⟨q, 0, none⟩)) (fun _ => by kernel_rfl) ?_
        refine pl_val (want_no rfl) (some 35) rfl (.pointer (some ⟨q, 0, none⟩)) (fun _ => by kernel_rfl) ?_
        refine pl_cell M (want_no rfl) (some 36) rfl 9 _ rfl q 0 (by kernel_rfl) (.string s) (fun _ => by kernel_rfl) (fun w M => M.cell 0 rfl (by decide) rfl) ?_
        refine pl_val (want_no rfl) (some 37) rfl (.int .i64 n) (fun _ => by kernel_rfl) ?_
        refine pl_val (want_no rfl) (some 38) rfl (.string (s.extract n.toNat s.size)) (run_strl 9 Try.underlying9 _ _ rfl s (by kernel_rfl) .i64 n.toNat (nat_of (k := .i64) (by kernel_rfl) (by omega)) (by omega) _ rfl) ?_
        refine pl_val (want_no rfl) (some 39) rfl (.pointer (some ⟨q, 0, none⟩)) (fun _ => by kernel_rfl) ?_
        refine pl_val (want_no rfl) (some 40) rfl (.pointer (some ⟨q, 0, none⟩)) (fun _ => by kernel_rfl) ?_
        refine pl_put1 M (want_no rfl) rfl 9 _ _ rfl 0 q 0 (by kernel_rfl) 2 39 (ls [.string s, .int .i64 f]) rfl (.string (s.extract n.toNat s.size)) (ls [.string (s.extract n.toNat s.size), .int .i64 f]) (by kernel_rfl) inz9 (by decide) rfl rfl (put_ls _ 0 _ _ rfl) ?_
        intro u1 M
        replace M : Mem ⟨w, [q]⟩ [⟨q, .cells (av 2 (ls [.string (s.extract n.toNat s.size), .int .i64 f])) 39⟩] u1 := M
        refine pl_nil ?_
        refine au_then ?_
        refine wp_seq ?_
        refine rg_lit ?_
        refine pl_val (want_no rfl) (some 41) rfl (.string (s.extract 0 n.toNat)) (fun _ => by kernel_rfl) ?_
        refine pl_val (want_no rfl) (some 4) rfl (.string (s.extract 0 n.toNat)) (fun _ => by kernel_rfl) ?_
        refine pl_nil ?_
        refine au_then ?_
        refine wp_ret ?_
        have e0 : (tkV s f n) = (s.extract 0 n.toNat) := by simp [tkV, tkS, tkF, ff, c0, c1, c2] <;> (intros; omega)
        have e1 : (tkS s f n) = (s.extract n.toNat s.size) := by simp [tkV, tkS, tkF, ff, c0, c1, c2] <;> (intros; omega)
        have e2 : (tkF s f n) = f := by simp [tkV, tkS, tkF, ff, c0, c1, c2] <;> (intros; omega)
        exact bodyPost_ret (v := .string (s.extract 0 n.toNat)) (results_tmp1 Try.results21 _ _ _ (by kernel_rfl)) (by kernel_rfl) ⟨by simp only [e0, e1, e2], M.old, by simpa only [e0, e1, e2] using M.get 0 rfl⟩
  · skip
    refine pl_val (want_no rfl) (some 10) rfl (.bool true) (fun w => Eq.trans (b := .ok (.value (.bool (!(decide (f = 0))))) w) (by kernel_rfl) (by rw [decide_eq_false (c0)]; rfl)) ?_
    refine pl_nil ?_
    refine au_then ?_
    refine wp_cond_true (by kernel_rfl) ?_
    refine wp_seq ?_
    refine rg_lit ?_
    refine pl_val (want_no rfl) (some 4) rfl (.string ⟨#[]⟩) (fun _ => by kernel_rfl) ?_
    refine pl_nil ?_
    refine au_then ?_
    refine wp_ret ?_
    refine au_then_ret ?_
    have e0 : (tkV s f n) = ⟨#[]⟩ := by simp [tkV, tkS, tkF, ff, c0] <;> (intros; omega)
    have e1 : (tkS s f n) = s := by simp [tkV, tkS, tkF, ff, c0] <;> (intros; omega)
    have e2 : (tkF s f n) = f := by simp [tkV, tkS, tkF, ff, c0] <;> (intros; omega)
    exact bodyPost_ret (v := .string ⟨#[]⟩) (results_tmp1 Try.results21 _ _ _ (by kernel_rfl)) (by kernel_rfl) ⟨by simp only [e0, e1, e2], M.old, by simpa only [e0, e1, e2] using M.get 0 rfl⟩

set_option maxRecDepth 100000 in
set_option maxHeartbeats 4000000 in
set_option linter.unusedSimpArgs false in
theorem d_End (q : Nat) (s : ByteArray) (f : Int) (w : World) (hL : Laid w)  (hg : w.heap[q]? = some (.cells (av 2 (ls [.string s, .int .i64 f])) 39)) :
    Calls Try.prog 27 #[.pointer (some ⟨q, 0, none⟩)] w fun r w' => r = .returned (.int .i64 (enF s f)) ∧ Below w.heap.size w w' := by
  go_enter Try.func27, Try.ntmps27
  have M := Mem.startp hL hg
  refine wp_seq ?_
  refine rg_lit ?_
  refine pl_val (want_no rfl) (some 2) rfl (.int .i64 0) (fun _ => by kernel_rfl) ?_
  refine pl_nil ?_
  refine au_then ?_
  refine wp_seq ?_
  refine wp_seq ?_
  refine rg_lit ?_
  refine pl_val (want_no rfl) (some 3) rfl (.pointer (some ⟨q, 0, none⟩)) (fun _ => by kernel_rfl) ?_
  refine pl_val (want_no rfl) (some 4) rfl (.pointer (some ⟨q, 0, none⟩)) (fun _ => by kernel_rfl) ?_
  refine pl_val (want_no rfl) (some 5) rfl (.pointer (some ⟨q, 1, none⟩)) (fun _ => by kernel_rfl) ?_
  refine pl_cell M (want_no rfl) (some 6) rfl 24 _ rfl q 1 (by kernel_rfl) (.int .i64 f) (fun _ => by kernel_rfl) (fun w M => M.cell 0 rfl (by decide) rfl) ?_
  by_cases c0 : f = 0
  · skip
    refine pl_val (want_no rfl) (some 7) rfl (.bool false) (fun w => Eq.trans (b := .ok (.value (.bool (!(decide (f = 0))))) w) (by kernel_rfl) (by rw [decide_eq_true (c0)]; rfl)) ?_
    refine pl_nil ?_
    refine au_then ?_
    refine wp_cond_false (by kernel_rfl) ?_
    refine wp_skip ?_
    refine au_then ?_
    refine wp_seq ?_
    refine wp_seq ?_
    refine rg_lit ?_
    refine pl_val (want_no rfl) (some 12) rfl (.pointer (some ⟨q, 0, none⟩)) (fun _ => by kernel_rfl) ?_
    refine pl_val (want_no rfl) (some 13) rfl (.pointer (some ⟨q, 0, none⟩)) (fun _ => by kernel_rfl) ?_
    refine pl_val (want_no rfl) (some 14) rfl (.pointer (some ⟨q, 0, none⟩)) (fun _ => by kernel_rfl) ?_
    refine pl_cell M (want_no rfl) (some 15) rfl 9 _ rfl q 0 (by kernel_rfl) (.string s) (fun _ => by kernel_rfl) (fun w M => M.cell 0 rfl (by decide) rfl) ?_
    by_cases c1 : s = (⟨#[]⟩ : ByteArray)
    · skip
      refine pl_val (want_no rfl) (some 16) rfl (.bool false) (fun w => Eq.trans (b := .ok (.value (.bool (!(s.toList == (⟨#[]⟩ : ByteArray).toList)))) w) (by kernel_rfl) (by rw [seq_pos c1]; rfl)) ?_
      refine pl_nil ?_
      refine au_then ?_
      refine wp_cond_false (by kernel_rfl) ?_
      refine wp_skip ?_
      refine au_then ?_
      refine wp_seq ?_
      refine rg_lit ?_
      refine pl_val (want_no rfl) (some 2) rfl (.int .i64 0) (fun _ => by kernel_rfl) ?_
      refine pl_nil ?_
      refine au_then ?_
      refine wp_ret ?_
      have e0 : (enF s f) = 0 := by first | (simp only [enF, if_pos c0, if_pos c1]; done) | simp [enF, c0, c1]
      exact bodyPost_ret (v := .int .i64 0) (results_tmp1 Try.results27 _ _ _ (by kernel_rfl)) (by kernel_rfl) ⟨by simp only [e0], ro_below1 M.old hg (M.get 0 rfl)⟩
    · skip
      refine pl_val (want_no rfl) (some 16) rfl (.bool true) (fun w => Eq.trans (b := .ok (.value (.bool (!(s.toList == (⟨#[]⟩ : ByteArray).toList)))) w) (by kernel_rfl) (by rw [seq_neg c1]; rfl)) ?_
      refine pl_nil ?_
      refine au_then ?_
      refine wp_cond_true (by kernel_rfl) ?_
      refine wp_seq ?_
      refine rg_lit ?_
      refine pl_val (want_no rfl) (some 2) rfl (.int .i64 8) (fun _ => by kernel_rfl) ?_
      refine pl_nil ?_
      refine au_then ?_
      refine wp_ret ?_
      refine au_then_ret ?_
      have e0 : (enF s f) = 8 := by first | (simp only [enF, if_pos c0, if_neg c1]; done) | simp [enF, c0, c1]
      exact bodyPost_ret (v := .int .i64 8) (results_tmp1 Try.results27 _ _ _ (by kernel_rfl)) (by kernel_rfl) ⟨by simp only [e0], ro_below1 M.old hg (M.get 0 rfl)⟩
  · skip
    refine pl_val (want_no rfl) (some 7) rfl (.bool true) (fun w => Eq.trans (b := .ok (.value (.bool (!(decide (f = 0))))) w) (by kernel_rfl) (by rw [decide_eq_false (c0)]; rfl)) ?_
    refine pl_nil ?_
    refine au_then ?_
    refine wp_cond_true (by kernel_rfl) ?_
    refine wp_seq ?_
    refine rg_lit ?_
    refine pl_val (want_no rfl) (some 8) rfl (.pointer (some ⟨q, 0, none⟩)) (fun _ => by kernel_rfl) ?_
    refine pl_val (want_no rfl) (some 9) rfl (.pointer (some ⟨q, 0, none⟩)) (fun _ => by kernel_rfl) ?_
    refine pl_val (want_no rfl) (some 10) rfl (.pointer (some ⟨q, 1, none⟩)) (fun _ => by kernel_rfl) ?_
    refine pl_cell M (want_no rfl) (some 11) rfl 24 _ rfl q 1 (by kernel_rfl) (.int .i64 f) (fun _ => by kernel_rfl) (fun w M => M.cell 0 rfl (by decide) rfl) ?_
    refine pl_val (want_no rfl) (some 2) rfl (.int .i64 f) (fun _ => by kernel_rfl) ?_
    refine pl_nil ?_
    refine au_then ?_
    refine wp_ret ?_
    refine au_then_ret ?_
    have e0 : (enF s f) = f := by first | (simp only [enF, if_neg c0]; done) | simp [enF, c0]
    exact bodyPost_ret (v := .int .i64 f) (results_tmp1 Try.results27 _ _ _ (by kernel_rfl)) (by kernel_rfl) ⟨by simp only [e0], ro_below1 M.old hg (M.get 0 rfl)⟩

set_option maxRecDepth 100000 in
set_option maxHeartbeats 4000000 in
set_option linter.unusedSimpArgs false in
theorem c_End (g : Nat) (s : ByteArray) (f : Int) (w : World) (hL : Laid w)  (hg : w.heap[g]? = some (.cells (av 3 (ls [.bool true, .string s, .int .i64 f])) 59)) :
    Calls Try.prog 26 #[.pointer (some ⟨g, 0, none⟩)] w fun r w' => r = .returned (.int .i64 (enF s f)) ∧ Below w.heap.size w w' := by
  go_enter Try.func26, Try.ntmps26
  have M := Mem.startp hL hg
  refine wp_seq ?_
  refine rg_lit ?_
  refine pl_val (want_no rfl) (some 2) rfl (.int .i64 0) (fun _ => by kernel_rfl) ?_
  refine pl_nil ?_
  refine au_then ?_
  refine wp_seq ?_
  refine wp_seq ?_
  refine rg_lit ?_
  refine pl_val (want_no rfl) (some 4) rfl (.pointer (some ⟨g, 0, none⟩)) (fun _ => by kernel_rfl) ?_
  refine pl_call M (want_no rfl) (some 5) rfl 25 #[.pointer (some ⟨g, 0, none⟩)] (.int .i64 f) (fun _ => by kernel_rfl) (fun w M => c_Fault g s f w M.laid (M.get 0 rfl)) ?_
  intro u1 M
  refine pl_val (want_no rfl) (some 3) rfl (.int .i64 f) (fun _ => by kernel_rfl) ?_
  refine pl_nil ?_
  refine au_then ?_
  refine wp_seq ?_
  refine rg_lit ?_
  refine pl_val (want_no rfl) (some 6) rfl (.int .i64 f) (fun _ => by kernel_rfl) ?_
  by_cases c0 : f = 0
  · skip
    refine pl_val (want_no rfl) (some 7) rfl (.bool false) (fun w => Eq.trans (b := .ok (.value (.bool (!(decide (f = 0))))) w) (by kernel_rfl) (by rw [decide_eq_true (c0)]; rfl)) ?_
    refine pl_nil ?_
    refine au_then ?_
    refine wp_cond_false (by kernel_rfl) ?_
    refine wp_skip ?_
    refine au_then ?_
    refine wp_seq ?_
    refine wp_seq ?_
    refine rg_lit ?_
    refine pl_val (want_no rfl) (some 9) rfl (.pointer (some ⟨g, 0, none⟩)) (fun _ => by kernel_rfl) ?_
    refine pl_val (want_no rfl) (some 10) rfl (.pointer (some ⟨g, 0, none⟩)) (fun _ => by kernel_rfl) ?_
    refine pl_val (want_no rfl) (some 11) rfl (.pointer (some ⟨g, 1, none⟩)) (fun _ => by kernel_rfl) ?_
    refine pl_cell M (want_no rfl) (some 12) rfl 9 _ rfl g 1 (by kernel_rfl) (.string s) (fun _ => by kernel_rfl) (fun w M => M.cell 0 rfl (by decide) rfl) ?_
    by_cases c1 : s = (⟨#[]⟩ : ByteArray)
    · skip
      refine pl_val (want_no rfl) (some 13) rfl (.bool false) (fun w => Eq.trans (b := .ok (.value (.bool (!(s.toList == (⟨#[]⟩ : ByteArray).toList)))) w) (by kernel_rfl) (by rw [seq_pos c1]; rfl)) ?_
      refine pl_nil ?_
      refine au_then ?_
      refine wp_cond_false (by kernel_rfl) ?_
      refine wp_skip ?_
      refine au_then ?_
      refine wp_seq ?_
      refine rg_lit ?_
      refine pl_val (want_no rfl) (some 2) rfl (.int .i64 0) (fun _ => by kernel_rfl) ?_
      refine pl_nil ?_
      refine au_then ?_
      refine wp_ret ?_
      have e0 : (enF s f) = 0 := by first | (simp only [enF, if_pos c0, if_pos c1]; done) | simp [enF, c0, c1]
      exact bodyPost_ret (v := .int .i64 0) (results_tmp1 Try.results26 _ _ _ (by kernel_rfl)) (by kernel_rfl) ⟨by simp only [e0], ro_below1 M.old hg (M.get 0 rfl)⟩
    · skip
      refine pl_val (want_no rfl) (some 13) rfl (.bool true) (fun w => Eq.trans (b := .ok (.value (.bool (!(s.toList == (⟨#[]⟩ : ByteArray).toList)))) w) (by kernel_rfl) (by rw [seq_neg c1]; rfl)) ?_
      refine pl_nil ?_
      refine au_then ?_
      refine wp_cond_true (by kernel_rfl) ?_
      refine wp_seq ?_
      refine rg_lit ?_
      refine pl_val (want_no rfl) (some 2) rfl (.int .i64 8) (fun _ => by kernel_rfl) ?_
      refine pl_nil ?_
      refine au_then ?_
      refine wp_ret ?_
      refine au_then_ret ?_
      have e0 : (enF s f) = 8 := by first | (simp only [enF, if_pos c0, if_neg c1]; done) | simp [enF, c0, c1]
      exact bodyPost_ret (v := .int .i64 8) (results_tmp1 Try.results26 _ _ _ (by kernel_rfl)) (by kernel_rfl) ⟨by simp only [e0], ro_below1 M.old hg (M.get 0 rfl)⟩
  · skip
    refine pl_val (want_no rfl) (some 7) rfl (.bool true) (fun w => Eq.trans (b := .ok (.value (.bool (!(decide (f = 0))))) w) (by kernel_rfl) (by rw [decide_eq_false (c0)]; rfl)) ?_
    refine pl_nil ?_
    refine au_then ?_
    refine wp_cond_true (by kernel_rfl) ?_
    refine wp_seq ?_
    refine rg_lit ?_
    refine pl_val (want_no rfl) (some 8) rfl (.int .i64 f) (fun _ => by kernel_rfl) ?_
    refine pl_val (want_no rfl) (some 2) rfl (.int .i64 f) (fun _ => by kernel_rfl) ?_
    refine pl_nil ?_
    refine au_then ?_
    refine wp_ret ?_
    refine au_then_ret ?_
    have e0 : (enF s f) = f := by first | (simp only [enF, if_neg c0]; done) | simp [enF, c0]
    exact bodyPost_ret (v := .int .i64 f) (results_tmp1 Try.results26 _ _ _ (by kernel_rfl)) (by kernel_rfl) ⟨by simp only [e0], ro_below1 M.old hg (M.get 0 rfl)⟩

set_option maxRecDepth 100000 in
set_option maxHeartbeats 4000000 in
set_option linter.unusedSimpArgs false in
theorem n_End  (w : World) (hL : Laid w)  :
    Calls Try.prog 26 #[.pointer none] w fun r w' => r = .returned (.int .i64 1) ∧ Below w.heap.size w w' := by
  go_enter Try.func26, Try.ntmps26
  have M := Mem.start hL
  refine wp_seq ?_
  refine rg_lit ?_
  refine pl_val (want_no rfl) (some 2) rfl (.int .i64 0) (fun _ => by kernel_rfl) ?_
  refine pl_nil ?_
  refine au_then ?_
  refine wp_seq ?_
  refine wp_seq ?_
  refine rg_lit ?_
  refine pl_val (want_no rfl) (some 4) rfl (.pointer none) (fun _ => by kernel_rfl) ?_
  refine pl_call M (want_no rfl) (some 5) rfl 25 #[.pointer none] (.int .i64 1) (fun _ => by kernel_rfl) (fun w M => n_Fault w M.laid) ?_
  intro u1 M
  refine pl_val (want_no rfl) (some 3) rfl (.int .i64 1) (fun _ => by kernel_rfl) ?_
  refine pl_nil ?_
  refine au_then ?_
  refine wp_seq ?_
  refine rg_lit ?_
  refine pl_val (want_no rfl) (some 6) rfl (.int .i64 1) (fun _ => by kernel_rfl) ?_
  refine pl_val (want_no rfl) (some 7) rfl (.bool true) (fun _ => by kernel_rfl) ?_
  refine pl_nil ?_
  refine au_then ?_
  refine wp_cond_true (by kernel_rfl) ?_
  refine wp_seq ?_
  refine rg_lit ?_
  refine pl_val (want_no rfl) (some 8) rfl (.int .i64 1) (fun _ => by kernel_rfl) ?_
  refine pl_val (want_no rfl) (some 2) rfl (.int .i64 1) (fun _ => by kernel_rfl) ?_
  refine pl_nil ?_
  refine au_then ?_
  refine wp_ret ?_
  refine au_then_ret ?_
  exact bodyPost_ret (v := .int .i64 1) (results_tmp1 Try.results26 _ _ _ (by kernel_rfl)) (by kernel_rfl) ⟨rfl, below_grown M.old⟩


end Go.Proofs.Ytoiodkhmkkhjcaa
