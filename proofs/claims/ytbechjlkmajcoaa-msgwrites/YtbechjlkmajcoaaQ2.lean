/- A reader: the walks. -/
import Derived.Test.YtbechjlkmajcoaaQ1
namespace Go.Proofs.Ytbechjlkmajcoaa
open Go.RowKit

theorem Mem.geAt {w : World} {L : List Blk} {W : World} (M : Mem ⟨w, []⟩ L W) (i : Nat) {b : Blk} (hi : L[i]? = some b) : w.heap.size ≤ b.g := (M.ge b (List.mem_of_getElem? hi)).resolve_right (by simp)
theorem vs8_sb (s : ByteArray) (j : Nat) (h : j < s.size) : (vs8 (sb s))[j]? = some (.int .u8 (bt s j)) := by
  unfold vs8
  rw [List.getElem?_map, sb_get s j h]
  rfl
/-- The first fault stays. -/
def ff (f e : Int) : Int := if f = 0 then e else f
/-- Take: what is handed out, what is left, the fault. -/
def tkV (s : ByteArray) (f n : Int) : ByteArray := if f = 0 ∧ 0 ≤ n ∧ n ≤ (s.size : Int) then s.extract 0 n.toNat else ⟨#[]⟩
def tkS (s : ByteArray) (f n : Int) : ByteArray := if f = 0 ∧ 0 ≤ n ∧ n ≤ (s.size : Int) then s.extract n.toNat s.size else s
def tkF (s : ByteArray) (f n : Int) : Int := if f = 0 then (if n < 0 then 2 else if (s.size : Int) < n then 7 else 0) else f
/-- The number of the first j bytes. -/
def bn (s : ByteArray) : Nat → Int
  | 0 => 0
  | j + 1 => uo (sl (bn s j) 8) (cv .u64 (bt s j))
def bd (s : ByteArray) : Nat → Int
  | 0 => 0
  | j + 1 => ua (sl (bd s j) 8) (cv .u64 (bt s j))
def bnv (s : ByteArray) : Int := bn s s.size
def bdv (s : ByteArray) : Int := bd s s.size
theorem tkV_le (s : ByteArray) (f : Int) (k : Nat) : (tkV s f (k : Int)).size ≤ k := by
  unfold tkV
  split
  · rw [ByteArray.size_extract]
    omega
  · exact Nat.zero_le _
set_option maxRecDepth 100000 in
set_option maxHeartbeats 4000000 in
set_option linter.unusedSimpArgs false in
theorem c_New (s : ByteArray) (w : World) (hL : Laid w)  :
    Calls Try.prog 49 #[.string s] w fun r w' => ∃ g, r = .returned (.pointer (some ⟨g, 0, none⟩)) ∧ w.heap.size ≤ g ∧ w'.heap[g]? = some (.cells (av 3 (ls [.bool true, .string s, .int .i64 0])) 112) ∧ Below w.heap.size w w' := by
  go_enter Try.func49, Try.ntmps49
  have M := Mem.start hL
  refine wp_seq ?_
  refine rg_lit ?_
  refine pl_val (want_no rfl) (some 2) rfl (.pointer none) (fun _ => by kernel_rfl) ?_
  refine pl_nil ?_
  refine au_then ?_
  refine wp_seq ?_
  refine rg_lit ?_
  refine pl_val (want_no rfl) (some 3) rfl (.string s) (fun _ => by kernel_rfl) ?_
  refine pl_val (want_no rfl) (some 4) rfl (.agg (av 3 (ls [.bool true, .string s, .int .i64 0]))) (fun _ => by kernel_rfl) ?_
  refine pl_new M (want_no rfl) (some 5) rfl (.cells (av 3 (ls [.bool true, .string s, .int .i64 0])) 112) (fun _ => by kernel_rfl) ?_
  intro g1 u1 M
  replace M : Mem ⟨w, []⟩ [⟨g1, .cells (av 3 (ls [.bool true, .string s, .int .i64 0])) 112⟩] u1 := M
  refine pl_val (want_no rfl) (some 2) rfl (.pointer (some ⟨g1, 0, none⟩)) (fun _ => by kernel_rfl) ?_
  refine pl_nil ?_
  refine au_then ?_
  refine wp_ret ?_
  exact bodyPost_ret (v := .pointer (some ⟨g1, 0, none⟩)) (results_tmp1 Try.results49 _ _ _ (by kernel_rfl)) (by kernel_rfl) ⟨g1, rfl, M.geAt 0 rfl, M.get 0 rfl, below_grown M.old⟩

set_option maxRecDepth 100000 in
set_option maxHeartbeats 4000000 in
set_option linter.unusedSimpArgs false in
theorem c_Left (g : Nat) (s : ByteArray) (f : Int) (w : World) (hL : Laid w)  (hg : w.heap[g]? = some (.cells (av 3 (ls [.bool true, .string s, .int .i64 f])) 112)) :
    Calls Try.prog 72 #[.pointer (some ⟨g, 0, none⟩)] w fun r w' => r = .returned (.int .i64 (s.size : Int)) ∧ Below w.heap.size w w' := by
  go_enter Try.func72, Try.ntmps72
  have M := Mem.startp hL hg
  refine wp_seq ?_
  refine rg_lit ?_
  refine pl_val (want_no rfl) (some 2) rfl (.int .i64 0) (fun _ => by kernel_rfl) ?_
  refine pl_nil ?_
  refine au_then ?_
  refine wp_seq ?_
  refine wp_seq ?_
  refine rg_lit ?_
  refine pl_val (want_no rfl) (some 3) rfl (.pointer (some ⟨g, 0, none⟩)) (fun _ => by kernel_rfl) ?_
  refine pl_val (want_no rfl) (some 4) rfl (.bool false) (fun _ => by kernel_rfl) ?_
  refine pl_nil ?_
  refine au_then ?_
  refine wp_cond_false (by kernel_rfl) ?_
  refine wp_skip ?_
  refine au_then ?_
  refine wp_seq ?_
  refine rg_lit ?_
  refine pl_val (want_no rfl) (some 5) rfl (.pointer (some ⟨g, 0, none⟩)) (fun _ => by kernel_rfl) ?_
  refine pl_val (want_no rfl) (some 6) rfl (.pointer (some ⟨g, 0, none⟩)) (fun _ => by kernel_rfl) ?_
  refine pl_val (want_no rfl) (some 7) rfl (.pointer (some ⟨g, 1, none⟩)) (fun _ => by kernel_rfl) ?_
  refine pl_cell M (want_no rfl) (some 8) rfl 9 _ rfl g 1 (by kernel_rfl) (.string s) (fun _ => by kernel_rfl) (fun w M => M.cell 0 rfl (by decide) rfl) ?_
  refine pl_val (want_no rfl) (some 9) rfl (.int .i64 (s.size : Int)) (fun _ => by kernel_rfl) ?_
  refine pl_val (want_no rfl) (some 2) rfl (.int .i64 (s.size : Int)) (fun _ => by kernel_rfl) ?_
  refine pl_nil ?_
  refine au_then ?_
  refine wp_ret ?_
  exact bodyPost_ret (v := .int .i64 (s.size : Int)) (results_tmp1 Try.results72 _ _ _ (by kernel_rfl)) (by kernel_rfl) ⟨rfl, ro_below1 M.old hg (M.get 0 rfl)⟩

set_option maxRecDepth 100000 in
set_option maxHeartbeats 4000000 in
set_option linter.unusedSimpArgs false in
theorem c_Fault (g : Nat) (s : ByteArray) (f : Int) (w : World) (hL : Laid w)  (hg : w.heap[g]? = some (.cells (av 3 (ls [.bool true, .string s, .int .i64 f])) 112)) :
    Calls Try.prog 73 #[.pointer (some ⟨g, 0, none⟩)] w fun r w' => r = .returned (.int .i64 f) ∧ Below w.heap.size w w' := by
  go_enter Try.func73, Try.ntmps73
  have M := Mem.startp hL hg
  refine wp_seq ?_
  refine rg_lit ?_
  refine pl_val (want_no rfl) (some 2) rfl (.int .i64 0) (fun _ => by kernel_rfl) ?_
  refine pl_nil ?_
  refine au_then ?_
  refine wp_seq ?_
  refine wp_seq ?_
  refine rg_lit ?_
  refine pl_val (want_no rfl) (some 3) rfl (.pointer (some ⟨g, 0, none⟩)) (fun _ => by kernel_rfl) ?_
  refine pl_val (want_no rfl) (some 4) rfl (.bool false) (fun _ => by kernel_rfl) ?_
  refine pl_val (want_no rfl) (some 5) rfl (.bool false) (fun _ => by kernel_rfl) ?_
  refine pl_val (want_on 2 false rfl 5 rfl (by kernel_rfl)) (some 6) rfl (.pointer (some ⟨g, 0, none⟩)) (fun _ => by kernel_rfl) ?_
  refine pl_val (want_on 2 false rfl 5 rfl (by kernel_rfl)) (some 7) rfl (.pointer (some ⟨g, 0, none⟩)) (fun _ => by kernel_rfl) ?_
  refine pl_val (want_on 2 false rfl 5 rfl (by kernel_rfl)) (some 8) rfl (.pointer (some ⟨g, 0, none⟩)) (fun _ => by kernel_rfl) ?_
  refine pl_cell M (want_on 2 false rfl 5 rfl (by kernel_rfl)) (some 9) rfl 4 _ rfl g 0 (by kernel_rfl) (.bool true) (fun _ => by kernel_rfl) (fun w M => M.cell 0 rfl (by decide) rfl) ?_
  refine pl_val (want_on 2 false rfl 5 rfl (by kernel_rfl)) (some 10) rfl (.bool false) (fun _ => by kernel_rfl) ?_
  refine pl_val (want_no rfl) (some 11) rfl (.bool false) (fun _ => by kernel_rfl) ?_
  refine pl_nil ?_
  refine au_then ?_
  refine wp_cond_false (by kernel_rfl) ?_
  refine wp_skip ?_
  refine au_then ?_
  refine wp_seq ?_
  refine rg_lit ?_
  refine pl_val (want_no rfl) (some 12) rfl (.pointer (some ⟨g, 0, none⟩)) (fun _ => by kernel_rfl) ?_
  refine pl_val (want_no rfl) (some 13) rfl (.pointer (some ⟨g, 0, none⟩)) (fun _ => by kernel_rfl) ?_
  refine pl_val (want_no rfl) (some 14) rfl (.pointer (some ⟨g, 2, none⟩)) (fun _ => by kernel_rfl) ?_
  refine pl_cell M (want_no rfl) (some 15) rfl 33 _ rfl g 2 (by kernel_rfl) (.int .i64 f) (fun _ => by kernel_rfl) (fun w M => M.cell 0 rfl (by decide) rfl) ?_
  refine pl_val (want_no rfl) (some 2) rfl (.int .i64 f) (fun _ => by kernel_rfl) ?_
  refine pl_nil ?_
  refine au_then ?_
  refine wp_ret ?_
  exact bodyPost_ret (v := .int .i64 f) (results_tmp1 Try.results73 _ _ _ (by kernel_rfl)) (by kernel_rfl) ⟨rfl, ro_below1 M.old hg (M.get 0 rfl)⟩

set_option maxRecDepth 100000 in
set_option maxHeartbeats 4000000 in
set_option linter.unusedSimpArgs false in
theorem c_faultyT (g : Nat) (s : ByteArray) (f : Int) (e : Int) (he : e ≠ 0) (w : World) (hL : Laid w)  (hg : w.heap[g]? = some (.cells (av 3 (ls [.bool true, .string s, .int .i64 f])) 112)) :
    Calls Try.prog 71 #[.pointer (some ⟨g, 0, none⟩), .bool true, .int .i64 e] w fun r w' => r = .returned (.bool true) ∧ Grw w w' [g] ∧ w'.heap[g]? = some (.cells (av 3 (ls [.bool true, .string s, .int .i64 (ff f e)])) 112) := by
  go_enter Try.func71, Try.ntmps71
  have M := Mem.startp hL hg
  refine wp_seq ?_
  refine rg_lit ?_
  refine pl_val (want_no rfl) (some 6) rfl (.bool false) (fun _ => by kernel_rfl) ?_
  refine pl_nil ?_
  refine au_then ?_
  refine wp_seq ?_
  refine wp_seq ?_
  refine rg_lit ?_
  refine pl_val (want_no rfl) (some 7) rfl (.bool true) (fun _ => by kernel_rfl) ?_
  refine pl_val (want_no rfl) (some 8) rfl (.bool true) (fun _ => by kernel_rfl) ?_
  refine pl_val (want_on 1 true rfl 8 rfl (by kernel_rfl)) (some 9) rfl (.pointer (some ⟨g, 0, none⟩)) (fun _ => by kernel_rfl) ?_
  refine pl_call M (want_on 1 true rfl 8 rfl (by kernel_rfl)) (some 10) rfl 73 #[.pointer (some ⟨g, 0, none⟩)] (.int .i64 f) (fun _ => by kernel_rfl) (fun w M => c_Fault g s f w M.laid (M.get 0 rfl)) ?_
  intro u1 M
  by_cases c0 : f = 0
  · skip
    refine pl_val (want_on 1 true rfl 8 rfl (by kernel_rfl)) (some 11) rfl (.bool true) (fun w => Eq.trans (b := .ok (.value (.bool (decide (f = 0)))) w) (by kernel_rfl) (by rw [decide_eq_true (c0)])) ?_
    refine pl_val (want_no rfl) (some 12) rfl (.bool true) (fun _ => by kernel_rfl) ?_
    refine pl_nil ?_
    refine au_then ?_
    refine wp_cond_true (by kernel_rfl) ?_
    refine rg_lit ?_
    refine pl_val (want_no rfl) (some 13) rfl (.pointer (some ⟨g, 0, none⟩)) (fun _ => by kernel_rfl) ?_
    refine pl_val (want_no rfl) (some 14) rfl (.int .i64 e) (fun _ => by kernel_rfl) ?_
    refine pl_val (want_no rfl) (some 15) rfl (.pointer (some ⟨g, 0, none⟩)) (fun _ => by kernel_rfl) ?_
    refine pl_val (want_no rfl) (some 16) rfl (.pointer (some ⟨g, 2, none⟩)) (fun _ => by kernel_rfl) ?_
    refine pl_put1 M (want_no rfl) rfl 33 _ _ rfl 0 g 2 (by kernel_rfl) 3 112 (ls [.bool true, .string s, .int .i64 f]) rfl (.int .i64 e) (ls [.bool true, .string s, .int .i64 e]) (by kernel_rfl) inz33 (by decide) rfl rfl (put_ls _ 2 _ _ rfl) ?_
    intro u2 M
    replace M : Mem ⟨w, [g]⟩ [⟨g, .cells (av 3 (ls [.bool true, .string s, .int .i64 e])) 112⟩] u2 := M
    refine pl_nil ?_
    refine au_then ?_
    refine wp_seq ?_
    refine rg_lit ?_
    refine pl_val (want_no rfl) (some 17) rfl (.pointer (some ⟨g, 0, none⟩)) (fun _ => by kernel_rfl) ?_
    refine pl_call M (want_no rfl) (some 18) rfl 73 #[.pointer (some ⟨g, 0, none⟩)] (.int .i64 e) (fun _ => by kernel_rfl) (fun w M => c_Fault g s e w M.laid (M.get 0 rfl)) ?_
    intro u3 M
    by_cases c1 : e = 0
    · exact absurd c1 he
    · skip
      refine pl_val (want_no rfl) (some 19) rfl (.bool true) (fun w => Eq.trans (b := .ok (.value (.bool (!(decide (e = 0))))) w) (by kernel_rfl) (by rw [decide_eq_false (c1)]; rfl)) ?_
      refine pl_val (want_no rfl) (some 6) rfl (.bool true) (fun _ => by kernel_rfl) ?_
      refine pl_nil ?_
      refine au_then ?_
      refine wp_ret ?_
      have e0 : (ff f e) = e := by first | (simp only [ff, if_pos c0, if_neg c1]; done) | simp [ff, c0, c1]
      exact bodyPost_ret (v := .bool true) (results_tmp1 Try.results71 _ _ _ (by kernel_rfl)) (by kernel_rfl) ⟨rfl, M.old, by simpa only [e0] using M.get 0 rfl⟩
  · skip
    refine pl_val (want_on 1 true rfl 8 rfl (by kernel_rfl)) (some 11) rfl (.bool false) (fun w => Eq.trans (b := .ok (.value (.bool (decide (f = 0)))) w) (by kernel_rfl) (by rw [decide_eq_false (c0)])) ?_
    refine pl_val (want_no rfl) (some 12) rfl (.bool false) (fun _ => by kernel_rfl) ?_
    refine pl_nil ?_
    refine au_then ?_
    refine wp_cond_false (by kernel_rfl) ?_
    refine wp_skip ?_
    refine au_then ?_
    refine wp_seq ?_
    refine rg_lit ?_
    refine pl_val (want_no rfl) (some 17) rfl (.pointer (some ⟨g, 0, none⟩)) (fun _ => by kernel_rfl) ?_
    refine pl_call M (want_no rfl) (some 18) rfl 73 #[.pointer (some ⟨g, 0, none⟩)] (.int .i64 f) (fun _ => by kernel_rfl) (fun w M => c_Fault g s f w M.laid (M.get 0 rfl)) ?_
    intro u2 M
    refine pl_val (want_no rfl) (some 19) rfl (.bool true) (fun w => Eq.trans (b := .ok (.value (.bool (!(decide (f = 0))))) w) (by kernel_rfl) (by rw [decide_eq_false (c0)]; rfl)) ?_
    refine pl_val (want_no rfl) (some 6) rfl (.bool true) (fun _ => by kernel_rfl) ?_
    refine pl_nil ?_
    refine au_then ?_
    refine wp_ret ?_
    have e0 : (ff f e) = f := by first | (simp only [ff, if_neg c0]; done) | simp [ff, c0]
    exact bodyPost_ret (v := .bool true) (results_tmp1 Try.results71 _ _ _ (by kernel_rfl)) (by kernel_rfl) ⟨rfl, M.old, by simpa only [e0] using M.get 0 rfl⟩

set_option maxRecDepth 100000 in
set_option maxHeartbeats 4000000 in
set_option linter.unusedSimpArgs false in
theorem c_faultyF (g : Nat) (s : ByteArray) (f : Int) (e : Int) (w : World) (hL : Laid w)  (hg : w.heap[g]? = some (.cells (av 3 (ls [.bool true, .string s, .int .i64 f])) 112)) :
    Calls Try.prog 71 #[.pointer (some ⟨g, 0, none⟩), .bool false, .int .i64 e] w fun r w' => r = .returned (.bool (decide (f ≠ 0))) ∧ Grw w w' [g] ∧ w'.heap[g]? = some (.cells (av 3 (ls [.bool true, .string s, .int .i64 f])) 112) := by
  go_enter Try.func71, Try.ntmps71
  have M := Mem.startp hL hg
  refine wp_seq ?_
  refine rg_lit ?_
  refine pl_val (want_no rfl) (some 6) rfl (.bool false) (fun _ => by kernel_rfl) ?_
  refine pl_nil ?_
  refine au_then ?_
  refine wp_seq ?_
  refine wp_seq ?_
  refine rg_lit ?_
  refine pl_val (want_no rfl) (some 7) rfl (.bool false) (fun _ => by kernel_rfl) ?_
  refine pl_val (want_no rfl) (some 8) rfl (.bool false) (fun _ => by kernel_rfl) ?_
  refine pl_skip (want_off 1 true rfl 8 rfl (by kernel_rfl)) (some 9) rfl ?_
  refine pl_skip (want_off 1 true rfl 8 rfl (by kernel_rfl)) (some 10) rfl ?_
  refine pl_skip (want_off 1 true rfl 8 rfl (by kernel_rfl)) (some 11) rfl ?_
  refine pl_val (want_no rfl) (some 12) rfl (.bool false) (fun _ => by kernel_rfl) ?_
  refine pl_nil ?_
  refine au_then ?_
  refine wp_cond_false (by kernel_rfl) ?_
  refine wp_skip ?_
  refine au_then ?_
  refine wp_seq ?_
  refine rg_lit ?_
  refine pl_val (want_no rfl) (some 17) rfl (.pointer (some ⟨g, 0, none⟩)) (fun _ => by kernel_rfl) ?_
  refine pl_call M (want_no rfl) (some 18) rfl 73 #[.pointer (some ⟨g, 0, none⟩)] (.int .i64 f) (fun _ => by kernel_rfl) (fun w M => c_Fault g s f w M.laid (M.get 0 rfl)) ?_
  intro u1 M
  by_cases c0 : f = 0
  · skip
    refine pl_val (want_no rfl) (some 19) rfl (.bool false) (fun w => Eq.trans (b := .ok (.value (.bool (!(decide (f = 0))))) w) (by kernel_rfl) (by rw [decide_eq_true (c0)]; rfl)) ?_
    refine pl_val (want_no rfl) (some 6) rfl (.bool false) (fun _ => by kernel_rfl) ?_
    refine pl_nil ?_
    refine au_then ?_
    refine wp_ret ?_
    have e0 : decide (f ≠ 0) = false := by first | (simp only [if_pos c0]; done) | simp [c0]
    exact bodyPost_ret (v := .bool false) (results_tmp1 Try.results71 _ _ _ (by kernel_rfl)) (by kernel_rfl) ⟨by rw [e0], M.old, by simpa only [e0] using M.get 0 rfl⟩
  · skip
    refine pl_val (want_no rfl) (some 19) rfl (.bool true) (fun w => Eq.trans (b := .ok (.value (.bool (!(decide (f = 0))))) w) (by kernel_rfl) (by rw [decide_eq_false (c0)]; rfl)) ?_
    refine pl_val (want_no rfl) (some 6) rfl (.bool true) (fun _ => by kernel_rfl) ?_
    refine pl_nil ?_
    refine au_then ?_
    refine wp_ret ?_
    have e0 : decide (f ≠ 0) = true := by first | (simp only [if_neg c0]; done) | simp [c0]
    exact bodyPost_ret (v := .bool true) (results_tmp1 Try.results71 _ _ _ (by kernel_rfl)) (by kernel_rfl) ⟨by rw [e0], M.old, by simpa only [e0] using M.get 0 rfl⟩

set_option maxRecDepth 100000 in
set_option maxHeartbeats 4000000 in
set_option linter.unusedSimpArgs false in
theorem c_Take (g : Nat) (s : ByteArray) (f : Int) (n : Int) (w : World) (hL : Laid w)  (hg : w.heap[g]? = some (.cells (av 3 (ls [.bool true, .string s, .int .i64 f])) 112)) :
    Calls Try.prog 57 #[.pointer (some ⟨g, 0, none⟩), .int .i64 n] w fun r w' => r = .returned (.string (tkV s f n)) ∧ Grw w w' [g] ∧ w'.heap[g]? = some (.cells (av 3 (ls [.bool true, .string (tkS s f n), .int .i64 (tkF s f n)])) 112) := by
  go_enter Try.func57, Try.ntmps57
  have M := Mem.startp hL hg
  refine wp_seq ?_
  refine rg_lit ?_
  refine pl_val (want_no rfl) (some 4) rfl (.string ⟨#[]⟩) (fun _ => by kernel_rfl) ?_
  refine pl_nil ?_
  refine au_then ?_
  refine wp_seq ?_
  refine wp_seq ?_
  refine rg_lit ?_
  refine pl_val (want_no rfl) (some 6) rfl (.pointer (some ⟨g, 0, none⟩)) (fun _ => by kernel_rfl) ?_
  refine pl_val (want_no rfl) (some 7) rfl (.int .i64 n) (fun _ => by kernel_rfl) ?_
  by_cases c0 : n < 0
  · skip
    refine pl_val (want_no rfl) (some 8) rfl (.bool true) (fun w => Eq.trans (b := .ok (.value (.bool (decide (n < 0)))) w) (by kernel_rfl) (by rw [decide_eq_true (c0)])) ?_
    refine pl_callp M (want_no rfl) (some 9) rfl 71 #[.pointer (some ⟨g, 0, none⟩), .bool true, .int .i64 2] (.bool true) 0 g (.cells (av 3 (ls [.bool true, .string s, .int .i64 f])) 112) (.cells (av 3 (ls [.bool true, .string s, .int .i64 (ff f 2)])) 112) rfl (fun _ => by kernel_rfl) (fun w M => c_faultyT g s f 2 (by decide) w M.laid (M.get 0 rfl)) ?_
    intro u1 M
    replace M : Mem ⟨w, [g]⟩ [⟨g, .cells (av 3 (ls [.bool true, .string s, .int .i64 (ff f 2)])) 112⟩] u1 := M
    refine pl_val (want_no rfl) (some 10) rfl (.bool true) (fun _ => by kernel_rfl) ?_
    refine pl_skip (want_off 4 false rfl 10 rfl (by kernel_rfl)) (some 11) rfl ?_
    refine pl_skip (want_off 4 false rfl 10 rfl (by kernel_rfl)) (some 12) rfl ?_
    refine pl_skip (want_off 4 false rfl 10 rfl (by kernel_rfl)) (some 13) rfl ?_
    refine pl_skip (want_off 4 false rfl 10 rfl (by kernel_rfl)) (some 14) rfl ?_
    refine pl_skip (want_off 4 false rfl 10 rfl (by kernel_rfl)) (some 15) rfl ?_
    refine pl_skip (want_off 4 false rfl 10 rfl (by kernel_rfl)) (some 16) rfl ?_
    refine pl_val (want_no rfl) (some 17) rfl (.bool true) (fun _ => by kernel_rfl) ?_
    refine pl_nil ?_
    refine au_then ?_
    refine wp_cond_true (by kernel_rfl) ?_
    refine wp_seq ?_
    refine rg_lit ?_
    refine pl_val (want_no rfl) (some 4) rfl (.string ⟨#[]⟩) (fun _ => by kernel_rfl) ?_
    refine pl_nil ?_
    refine au_then ?_
    refine wp_ret ?_
    refine au_then_ret ?_
    have e0 : (tkV s f n) = ⟨#[]⟩ := by simp [tkV, tkS, tkF, ff, c0] <;> (intros; omega)
    have e1 : (tkS s f n) = s := by simp [tkV, tkS, tkF, ff, c0] <;> (intros; omega)
    have e2 : (tkF s f n) = (ff f 2) := by simp [tkV, tkS, tkF, ff, c0] <;> (intros; omega)
    exact bodyPost_ret (v := .string ⟨#[]⟩) (results_tmp1 Try.results57 _ _ _ (by kernel_rfl)) (by kernel_rfl) ⟨by rw [e0], M.old, by simpa only [e0, e1, e2] using M.get 0 rfl⟩
  · skip
    refine pl_val (want_no rfl) (some 8) rfl (.bool false) (fun w => Eq.trans (b := .ok (.value (.bool (decide (n < 0)))) w) (by kernel_rfl) (by rw [decide_eq_false (c0)])) ?_
    by_cases c1 : f = 0
    · skip
      refine pl_callp M (want_no rfl) (some 9) rfl 71 #[.pointer (some ⟨g, 0, none⟩), .bool false, .int .i64 2] (.bool false) 0 g (.cells (av 3 (ls [.bool true, .string s, .int .i64 f])) 112) (.cells (av 3 (ls [.bool true, .string s, .int .i64 f])) 112) rfl (fun _ => by kernel_rfl) (fun w M => call_val (c_faultyF g s f 2 w M.laid (M.get 0 rfl)) (congrArg Value.bool (decide_eq_false (not_not_intro c1)))) ?_
      intro u1 M
      replace M : Mem ⟨w, [g]⟩ [⟨g, .cells (av 3 (ls [.bool true, .string s, .int .i64 f])) 112⟩] u1 := M
      refine pl_val (want_no rfl) (some 10) rfl (.bool false) (fun _ => by kernel_rfl) ?_
      refine pl_val (want_on 4 false rfl 10 rfl (by kernel_rfl)) (some 11) rfl (.pointer (some ⟨g, 0, none⟩)) (fun _ => by kernel_rfl) ?_
      refine pl_val (want_on 4 false rfl 10 rfl (by kernel_rfl)) (some 12) rfl (.int .i64 n) (fun _ => by kernel_rfl) ?_
      refine pl_val (want_on 4 false rfl 10 rfl (by kernel_rfl)) (some 13) rfl (.pointer (some ⟨g, 0, none⟩)) (fun _ => by kernel_rfl) ?_
      refine pl_call M (want_on 4 false rfl 10 rfl (by kernel_rfl)) (some 14) rfl 72 #[.pointer (some ⟨g, 0, none⟩)] (.int .i64 (s.size : Int)) (fun _ => by kernel_rfl) (fun w M => c_Left g s f w M.laid (M.get 0 rfl)) ?_
      intro u2 M
      by_cases c2 : (s.size : Int) < n
      · skip
        refine pl_val (want_on 4 false rfl 10 rfl (by kernel_rfl)) (some 15) rfl (.bool true) (fun w => Eq.trans (b := .ok (.value (.bool (decide ((s.size : Int) < n)))) w) (by kernel_rfl) (by rw [decide_eq_true (c2)])) ?_
        refine pl_callp M (want_on 4 false rfl 10 rfl (by kernel_rfl)) (some 16) rfl 71 #[.pointer (some ⟨g, 0, none⟩), .bool true, .int .i64 7] (.bool true) 0 g (.cells (av 3 (ls [.bool true, .string s, .int .i64 f])) 112) (.cells (av 3 (ls [.bool true, .string s, .int .i64 (ff f 7)])) 112) rfl (fun _ => by kernel_rfl) (fun w M => c_faultyT g s f 7 (by decide) w M.laid (M.get 0 rfl)) ?_
        intro u3 M
        replace M : Mem ⟨w, [g]⟩ [⟨g, .cells (av 3 (ls [.bool true, .string s, .int .i64 (ff f 7)])) 112⟩] u3 := M
        refine pl_val (want_no rfl) (some 17) rfl (.bool true) (fun _ => by kernel_rfl) ?_
        refine pl_nil ?_
        refine au_then ?_
        refine wp_cond_true (by kernel_rfl) ?_
        refine wp_seq ?_
        refine rg_lit ?_
        refine pl_val (want_no rfl) (some 4) rfl (.string ⟨#[]⟩) (fun _ => by kernel_rfl) ?_
        refine pl_nil ?_
        refine au_then ?_
        refine wp_ret ?_
        refine au_then_ret ?_
        have e0 : (tkV s f n) = ⟨#[]⟩ := by simp [tkV, tkS, tkF, ff, c0, c1, c2] <;> (intros; omega)
        have e1 : (tkS s f n) = s := by simp [tkV, tkS, tkF, ff, c0, c1, c2] <;> (intros; omega)
        have e2 : (tkF s f n) = (ff f 7) := by simp [tkV, tkS, tkF, ff, c0, c1, c2] <;> (intros; omega)
        exact bodyPost_ret (v := .string ⟨#[]⟩) (results_tmp1 Try.results57 _ _ _ (by kernel_rfl)) (by kernel_rfl) ⟨by rw [e0], M.old, by simpa only [e0, e1, e2] using M.get 0 rfl⟩
      · skip
        refine pl_val (want_on 4 false rfl 10 rfl (by kernel_rfl)) (some 15) rfl (.bool false) (fun w => Eq.trans (b := .ok (.value (.bool (decide ((s.size : Int) < n)))) w) (by kernel_rfl) (by rw [decide_eq_false (c2)])) ?_
        refine pl_callp M (want_on 4 false rfl 10 rfl (by kernel_rfl)) (some 16) rfl 71 #[.pointer (some ⟨g, 0, none⟩), .bool false, .int .i64 7] (.bool false) 0 g (.cells (av 3 (ls [.bool true, .string s, .int .i64 f])) 112) (.cells (av 3 (ls [.bool true, .string s, .int .i64 f])) 112) rfl (fun _ => by kernel_rfl) (fun w M => call_val (c_faultyF g s f 7 w M.laid (M.get 0 rfl)) (congrArg Value.bool (decide_eq_false (not_not_intro c1)))) ?_
        intro u3 M
        replace M : Mem ⟨w, [g]⟩ [⟨g, .cells (av 3 (ls [.bool true, .string s, .int .i64 f])) 112⟩] u3 := M
        refine pl_val (want_no rfl) (some 17) rfl (.bool false) (fun _ => by kernel_rfl) ?_
        refine pl_nil ?_
        refine au_then ?_
        refine wp_cond_false (by kernel_rfl) ?_
        refine wp_skip ?_
        refine au_then ?_
        refine wp_seq ?_
        refine rg_lit ?_
        refine pl_val (want_no rfl) (some 18) rfl (.pointer (some ⟨g, 0, none⟩)) (fun _ => by kernel_rfl) ?_
        refine pl_val (want_no rfl) (some 19) rfl (.pointer (some ⟨g, 0, none⟩)) (fun _ => by kernel_rfl) ?_
        refine pl_val (want_no rfl) (some 20) rfl (.pointer (some ⟨g, 1, none⟩)) (fun _ => by kernel_rfl) ?_
        refine pl_cell M (want_no rfl) (some 21) rfl 9 _ rfl g 1 (by kernel_rfl) (.string s) (fun _ => by kernel_rfl) (fun w M => M.cell 0 rfl (by decide) rfl) ?_
        refine pl_val (want_no rfl) (some 22) rfl (.int .i64 n) (fun _ => by kernel_rfl) ?_
        refine pl_val (want_no rfl) (some 23) rfl (.string (s.extract 0 n.toNat)) (run_strh 9 Try.underlying9 _ _ rfl s (by kernel_rfl) .i64 n.toNat (nat_of (k := .i64) (by kernel_rfl) (by omega)) (by omega) _ rfl) ?_
        refine pl_val (want_no rfl) (some 5) rfl (.string (s.extract 0 n.toNat)) (fun _ => by kernel_rfl) ?_
        refine pl_nil ?_
        refine au_then ?_
        refine wp_seq ?_
        refine rg_lit ?_
        refine pl_val (want_no rfl) (some 24) rfl (.pointer (some ⟨g, 0, none⟩)) (fun _ => by kernel_rfl) ?_
        refine pl_val (want_no rfl) (some 25) rfl (.pointer (some ⟨g, 0, none⟩)) (fun _ => by kernel_rfl) ?_
        refine pl_val (want_no rfl) (some 26) rfl (.pointer (some ⟨g, 0, none⟩)) (fun _ => by kernel_rfl) ?_
        refine pl_val (want_no rfl) (some 27) rfl (.pointer (some ⟨g, 1, none⟩)) (fun _ => by kernel_rfl) ?_
        refine pl_cell M (want_no rfl) (some 28) rfl 9 _ rfl g 1 (by kernel_rfl) (.string s) (fun _ => by kernel_rfl) (fun w M => M.cell 0 rfl (by decide) rfl) ?_
        refine pl_val (want_no rfl) (some 29) rfl (.int .i64 n) (fun _ => by kernel_rfl) ?_
        refine pl_val (want_no rfl) (some 30) rfl (.string (s.extract n.toNat s.size)) (run_strl 9 Try.underlying9 _ _ rfl s (by kernel_rfl) .i64 n.toNat (nat_of (k := .i64) (by kernel_rfl) (by omega)) (by omega) _ rfl) ?_
        refine pl_val (want_no rfl) (some 31) rfl (.pointer (some ⟨g, 0, none⟩)) (fun _ => by kernel_rfl) ?_
        refine pl_val (want_no rfl) (some 32) rfl (.pointer (some ⟨g, 1, none⟩)) (fun _ => by kernel_rfl) ?_
        refine pl_put1 M (want_no rfl) rfl 9 _ _ rfl 0 g 1 (by kernel_rfl) 3 112 (ls [.bool true, .string s, .int .i64 f]) rfl (.string (s.extract n.toNat s.size)) (ls [.bool true, .string (s.extract n.toNat s.size), .int .i64 f]) (by kernel_rfl) inz9 (by decide) rfl rfl (put_ls _ 1 _ _ rfl) ?_
        intro u4 M
        replace M : Mem ⟨w, [g]⟩ [⟨g, .cells (av 3 (ls [.bool true, .string (s.extract n.toNat s.size), .int .i64 f])) 112⟩] u4 := M
        refine pl_nil ?_
        refine au_then ?_
        refine wp_seq ?_
        refine rg_lit ?_
        refine pl_val (want_no rfl) (some 33) rfl (.string (s.extract 0 n.toNat)) (fun _ => by kernel_rfl) ?_
        refine pl_val (want_no rfl) (some 4) rfl (.string (s.extract 0 n.toNat)) (fun _ => by kernel_rfl) ?_
        refine pl_nil ?_
        refine au_then ?_
        refine wp_ret ?_
        have e0 : (tkV s f n) = (s.extract 0 n.toNat) := by simp [tkV, tkS, tkF, ff, c0, c1, c2] <;> (intros; omega)
        have e1 : (tkS s f n) = (s.extract n.toNat s.size) := by simp [tkV, tkS, tkF, ff, c0, c1, c2] <;> (intros; omega)
        have e2 : (tkF s f n) = f := by simp [tkV, tkS, tkF, ff, c0, c1, c2] <;> (intros; omega)
        exact bodyPost_ret (v := .string (s.extract 0 n.toNat)) (results_tmp1 Try.results57 _ _ _ (by kernel_rfl)) (by kernel_rfl) ⟨by rw [e0], M.old, by simpa only [e0, e1, e2] using M.get 0 rfl⟩
    · skip
      refine pl_callp M (want_no rfl) (some 9) rfl 71 #[.pointer (some ⟨g, 0, none⟩), .bool false, .int .i64 2] (.bool true) 0 g (.cells (av 3 (ls [.bool true, .string s, .int .i64 f])) 112) (.cells (av 3 (ls [.bool true, .string s, .int .i64 f])) 112) rfl (fun _ => by kernel_rfl) (fun w M => call_val (c_faultyF g s f 2 w M.laid (M.get 0 rfl)) (congrArg Value.bool (decide_eq_true (c1)))) ?_
      intro u1 M
      replace M : Mem ⟨w, [g]⟩ [⟨g, .cells (av 3 (ls [.bool true, .string s, .int .i64 f])) 112⟩] u1 := M
      refine pl_val (want_no rfl) (some 10) rfl (.bool true) (fun _ => by kernel_rfl) ?_
      refine pl_skip (want_off 4 false rfl 10 rfl (by kernel_rfl)) (some 11) rfl ?_
      refine pl_skip (want_off 4 false rfl 10 rfl (by kernel_rfl)) (some 12) rfl ?_
      refine pl_skip (want_off 4 false rfl 10 rfl (by kernel_rfl)) (some 13) rfl ?_
      refine pl_skip (want_off 4 false rfl 10 rfl (by kernel_rfl)) (some 14) rfl ?_
      refine pl_skip (want_off 4 false rfl 10 rfl (by kernel_rfl)) (some 15) rfl ?_
      refine pl_skip (want_off 4 false rfl 10 rfl (by kernel_rfl)) (some 16) rfl ?_
      refine pl_val (want_no rfl) (some 17) rfl (.bool true) (fun _ => by kernel_rfl) ?_
      refine pl_nil ?_
      refine au_then ?_
      refine wp_cond_true (by kernel_rfl) ?_
      refine wp_seq ?_
      refine rg_lit ?_
      refine pl_val (want_no rfl) (some 4) rfl (.string ⟨#[]⟩) (fun _ => by kernel_rfl) ?_
      refine pl_nil ?_
      refine au_then ?_
      refine wp_ret ?_
      refine au_then_ret ?_
      have e0 : (tkV s f n) = ⟨#[]⟩ := by simp [tkV, tkS, tkF, ff, c0, c1] <;> (intros; omega)
      have e1 : (tkS s f n) = s := by simp [tkV, tkS, tkF, ff, c0, c1] <;> (intros; omega)
      have e2 : (tkF s f n) = f := by simp [tkV, tkS, tkF, ff, c0, c1] <;> (intros; omega)
      exact bodyPost_ret (v := .string ⟨#[]⟩) (results_tmp1 Try.results57 _ _ _ (by kernel_rfl)) (by kernel_rfl) ⟨by rw [e0], M.old, by simpa only [e0, e1, e2] using M.get 0 rfl⟩

set_option maxRecDepth 100000 in
set_option maxHeartbeats 4000000 in
set_option linter.unusedSimpArgs false in
theorem c_next1 (g : Nat) (s : ByteArray) (f : Int) (w : World) (hL : Laid w)  (hg : w.heap[g]? = some (.cells (av 3 (ls [.bool true, .string s, .int .i64 f])) 112)) :
    Calls Try.prog 67 #[.pointer (some ⟨g, 0, none⟩)] w fun r w' => r = .returned (.int .u8 (cv .u8 (bnv (tkV s f 1)))) ∧ Grw w w' [g] ∧ w'.heap[g]? = some (.cells (av 3 (ls [.bool true, .string (tkS s f 1), .int .i64 (tkF s f 1)])) 112) := by
  go_enter Try.func67, Try.ntmps67
  have M := Mem.startp hL hg
  have hz : (tkV s f 1).size ≤ 1 := tkV_le s f 1
  refine wp_seq ?_
  refine rg_lit ?_
  refine pl_val (want_no rfl) (some 2) rfl (.int .u8 0) (fun _ => by kernel_rfl) ?_
  refine pl_nil ?_
  refine au_then ?_
  refine wp_seq ?_
  refine rg_lit ?_
  refine pl_val (want_no rfl) (some 3) rfl (.int .u64 0) (fun _ => by kernel_rfl) ?_
  refine pl_nil ?_
  refine au_then ?_
  refine wp_seq ?_
  refine wp_seq ?_
  refine rg_lit ?_
  refine pl_val (want_no rfl) (some 6) rfl (.pointer (some ⟨g, 0, none⟩)) (fun _ => by kernel_rfl) ?_
  refine pl_call M (want_no rfl) (some 7) rfl 80 #[] (.int .i64 1) (fun _ => by kernel_rfl) (fun w M => c_size1 w M.laid) ?_
  intro u1 M
  refine pl_callp M (want_no rfl) (some 8) rfl 57 #[.pointer (some ⟨g, 0, none⟩), .int .i64 1] (.string (tkV s f 1)) 0 g (.cells (av 3 (ls [.bool true, .string s, .int .i64 f])) 112) (.cells (av 3 (ls [.bool true, .string (tkS s f 1), .int .i64 (tkF s f 1)])) 112) rfl (fun _ => by kernel_rfl) (fun w M => c_Take g s f 1 w M.laid (M.get 0 rfl)) ?_
  intro u2 M
  replace M : Mem ⟨w, [g]⟩ [⟨g, .cells (av 3 (ls [.bool true, .string (tkS s f 1), .int .i64 (tkF s f 1)])) 112⟩] u2 := M
  refine pl_conv M (want_no rfl) (some 9) rfl _ rfl (tkV s f 1) (by kernel_rfl) ?_
  intro g1 cap1 Z1 u3 hZ1 M
  replace M : Mem ⟨w, [g]⟩ [⟨g, .cells (av 3 (ls [.bool true, .string (tkS s f 1), .int .i64 (tkF s f 1)])) 112⟩, ⟨g1, Z1⟩] u3 := M
  refine pl_val (want_no rfl) (some 10) rfl (.int .i64 (((tkV s f 1).size : Nat) : Int)) (fun _ => by kernel_rfl) ?_
  refine pl_val (want_no rfl) (some 11) rfl (.int .i64 0) (fun _ => by kernel_rfl) ?_
  refine pl_nil ?_
  refine au_then ?_
  refine wp_block ?_
  refine au_loop (fun j a w' => ∃ v1 : Nat → Value, a = ⟨#[.pointer (some ⟨g, 0, none⟩), undef, .int .u8 0, .int .u64 (bn (tkV s f 1) j), undef, v1 5, .pointer (some ⟨g, 0, none⟩), .int .i64 1, .string (tkV s f 1), .slice (some ⟨g1, 0, none⟩) (tkV s f 1).size cap1, .int .i64 (((tkV s f 1).size : Nat) : Int), .int .i64 (j : Int), v1 12, v1 13, v1 14, v1 15, v1 16, v1 17, v1 18, v1 19, v1 20, undef, undef], []⟩ ∧ Mem ⟨w, [g]⟩ [⟨g, .cells (av 3 (ls [.bool true, .string (tkS s f 1), .int .i64 (tkF s f 1)])) 112⟩, ⟨g1, Z1⟩] w') (tkV s f 1).size ⟨fun k_ => ([undef, undef, undef, undef, undef, undef, undef, undef, undef, undef, undef, undef, undef, undef, undef, undef] : List Value).getD (k_ - 5) undef, by kernel_rfl, M⟩ ?_ ?_
  · intro j a u0 hj hI
    obtain ⟨v1, rfl, M⟩ := hI
    refine wp_seq ?_
    refine rg_lit ?_
    refine pl_val (want_no rfl) (some 12) rfl (.bool true) (fun w => Eq.trans (b := .ok (.value (.bool (decide ((j : Int) < (((tkV s f 1).size : Nat) : Int))))) w) (by kernel_rfl) (by rw [decide_eq_true (by omega)])) ?_
    refine pl_nil ?_
    refine au_then ?_
    refine wp_seq ?_
    refine wp_cond_true (by kernel_rfl) ?_
    refine wp_skip ?_
    refine au_then ?_
    refine wp_seq ?_
    refine wp_block ?_
    refine wp_seq ?_
    refine rg_lit ?_
    refine pl_val (want_no rfl) (some 13) rfl (.pointer (some ⟨g1, j, none⟩)) (run_ix0 49 5 Try.underlying49 inz5 _ _ rfl g1 ((tkV s f 1).size) cap1 (by kernel_rfl) .i64 j (by kernel_rfl) (by omega)) ?_
    refine pl_cell M (want_no rfl) (some 14) rfl 5 _ rfl g1 j (by kernel_rfl) (.int .u8 (bt (tkV s f 1) j)) (fun _ => by kernel_rfl) (fun w M => hZ1.cell (M.get 1 rfl) (vs8_sb _ _ (by omega))) ?_
    refine pl_val (want_no rfl) (some 5) rfl (.int .u8 (bt (tkV s f 1) j)) (fun _ => by kernel_rfl) ?_
    refine pl_nil ?_
    refine au_then ?_
    refine rg_lit ?_
    refine pl_val (want_no rfl) (some 15) rfl (.int .u64 (bn (tkV s f 1) j)) (fun _ => by kernel_rfl) ?_
    refine pl_val (want_no rfl) (some 16) rfl (.int .u64 (sl (bn (tkV s f 1) j) 8)) (fun _ => by kernel_rfl) ?_
    refine pl_val (want_no rfl) (some 17) rfl (.int .u8 (bt (tkV s f 1) j)) (fun _ => by kernel_rfl) ?_
    refine pl_val (want_no rfl) (some 18) rfl (.int .u64 (cv .u64 (bt (tkV s f 1) j))) (fun _ => by kernel_rfl) ?_
    refine pl_val (want_no rfl) (some 19) rfl (.int .u64 (uo (sl (bn (tkV s f 1) j) 8) (cv .u64 (bt (tkV s f 1) j)))) (fun _ => by kernel_rfl) ?_
    refine pl_val (want_no rfl) (some 3) rfl (.int .u64 (uo (sl (bn (tkV s f 1) j) 8) (cv .u64 (bt (tkV s f 1) j)))) (fun _ => by kernel_rfl) ?_
    refine pl_nil ?_
    refine au_block ?_
    refine au_then ?_
    refine rg_lit ?_
    refine pl_val (want_no rfl) (some 20) rfl (.int .i64 ((j + 1 : Nat) : Int)) (fun w => Eq.trans (b := .ok (.value (.int .i64 (IntKind.wrap .i64 ((j : Int) + 1)))) w) (by kernel_rfl) (by rw [wrap64 (by omega) (by omega)]; congr 3)) ?_
    refine pl_val (want_no rfl) (some 11) rfl (.int .i64 ((j + 1 : Nat) : Int)) (fun _ => by kernel_rfl) ?_
    refine pl_nil ?_
    refine au_then ?_
    exact ⟨fun k_ => ([.int .u8 (bt (tkV s f 1) j), undef, undef, undef, undef, undef, undef, .bool true, .pointer (some ⟨g1, j, none⟩), .int .u8 (bt (tkV s f 1) j), .int .u64 (bn (tkV s f 1) j), .int .u64 (sl (bn (tkV s f 1) j) 8), .int .u8 (bt (tkV s f 1) j), .int .u64 (cv .u64 (bt (tkV s f 1) j)), .int .u64 (uo (sl (bn (tkV s f 1) j) 8) (cv .u64 (bt (tkV s f 1) j))), .int .i64 ((j + 1 : Nat) : Int)] : List Value).getD (k_ - 5) undef, by kernel_rfl, M⟩
  · intro a u0 hI
    obtain ⟨v1, rfl, M⟩ := hI
    refine wp_seq ?_
    refine rg_lit ?_
    refine pl_val (want_no rfl) (some 12) rfl (.bool false) (fun w => Eq.trans (b := .ok (.value (.bool (decide ((((tkV s f 1).size : Nat) : Int) < (((tkV s f 1).size : Nat) : Int))))) w) (by kernel_rfl) (by rw [decide_eq_false (by omega)])) ?_
    refine pl_nil ?_
    refine au_then ?_
    refine wp_seq ?_
    refine wp_cond_false (by kernel_rfl) ?_
    refine wp_exit ?_
    refine au_then_exit ?_
    refine au_then_exit ?_
    refine au_block_exit ?_
    refine au_then ?_
    refine wp_seq ?_
    refine rg_lit ?_
    refine pl_val (want_no rfl) (some 21) rfl (.int .u64 (bn (tkV s f 1) ((tkV s f 1).size))) (fun _ => by kernel_rfl) ?_
    refine pl_val (want_no rfl) (some 22) rfl (.int .u8 (cv .u8 (bn (tkV s f 1) ((tkV s f 1).size)))) (fun _ => by kernel_rfl) ?_
    refine pl_val (want_no rfl) (some 2) rfl (.int .u8 (cv .u8 (bn (tkV s f 1) ((tkV s f 1).size)))) (fun _ => by kernel_rfl) ?_
    refine pl_nil ?_
    refine au_then ?_
    refine wp_ret ?_
    have e0 : (cv .u8 (bnv (tkV s f 1))) = (cv .u8 (bn (tkV s f 1) ((tkV s f 1).size))) := rfl
    exact bodyPost_ret (v := .int .u8 (cv .u8 (bn (tkV s f 1) ((tkV s f 1).size)))) (results_tmp1 Try.results67 _ _ _ (by kernel_rfl)) (by kernel_rfl) ⟨by rw [e0], M.old, by simpa only [e0] using M.get 0 rfl⟩

set_option maxRecDepth 100000 in
set_option maxHeartbeats 4000000 in
set_option linter.unusedSimpArgs false in
theorem r_U8 (g : Nat) (s : ByteArray) (f : Int) (w : World) (hL : Laid w)  (hg : w.heap[g]? = some (.cells (av 3 (ls [.bool true, .string s, .int .i64 f])) 112)) :
    Calls Try.prog 50 #[.pointer (some ⟨g, 0, none⟩)] w fun r w' => r = .returned (.int .u8 (cv .u8 (bnv (tkV s f 1)))) ∧ Grw w w' [g] ∧ w'.heap[g]? = some (.cells (av 3 (ls [.bool true, .string (tkS s f 1), .int .i64 (tkF s f 1)])) 112) := by
  go_enter Try.func50, Try.ntmps50
  have M := Mem.startp hL hg
  refine wp_seq ?_
  refine rg_lit ?_
  refine pl_val (want_no rfl) (some 2) rfl (.int .u8 0) (fun _ => by kernel_rfl) ?_
  refine pl_nil ?_
  refine au_then ?_
  refine wp_seq ?_
  refine rg_lit ?_
  refine pl_val (want_no rfl) (some 3) rfl (.pointer (some ⟨g, 0, none⟩)) (fun _ => by kernel_rfl) ?_
  refine pl_callp M (want_no rfl) (some 4) rfl 67 #[.pointer (some ⟨g, 0, none⟩)] (.int .u8 (cv .u8 (bnv (tkV s f 1)))) 0 g (.cells (av 3 (ls [.bool true, .string s, .int .i64 f])) 112) (.cells (av 3 (ls [.bool true, .string (tkS s f 1), .int .i64 (tkF s f 1)])) 112) rfl (fun _ => by kernel_rfl) (fun w M => c_next1 g s f w M.laid (M.get 0 rfl)) ?_
  intro u1 M
  replace M : Mem ⟨w, [g]⟩ [⟨g, .cells (av 3 (ls [.bool true, .string (tkS s f 1), .int .i64 (tkF s f 1)])) 112⟩] u1 := M
  refine pl_val (want_no rfl) (some 2) rfl (.int .u8 (cv .u8 (bnv (tkV s f 1)))) (fun _ => by kernel_rfl) ?_
  refine pl_nil ?_
  refine au_then ?_
  refine wp_ret ?_
  exact bodyPost_ret (v := .int .u8 (cv .u8 (bnv (tkV s f 1)))) (results_tmp1 Try.results50 _ _ _ (by kernel_rfl)) (by kernel_rfl) ⟨rfl, M.old, M.get 0 rfl⟩

set_option maxRecDepth 100000 in
set_option maxHeartbeats 4000000 in
set_option linter.unusedSimpArgs false in
theorem c_next2 (g : Nat) (s : ByteArray) (f : Int) (w : World) (hL : Laid w)  (hg : w.heap[g]? = some (.cells (av 3 (ls [.bool true, .string s, .int .i64 f])) 112)) :
    Calls Try.prog 70 #[.pointer (some ⟨g, 0, none⟩)] w fun r w' => r = .returned (.int .u16 (cv .u16 (bnv (tkV s f 2)))) ∧ Grw w w' [g] ∧ w'.heap[g]? = some (.cells (av 3 (ls [.bool true, .string (tkS s f 2), .int .i64 (tkF s f 2)])) 112) := by
  go_enter Try.func70, Try.ntmps70
  have M := Mem.startp hL hg
  have hz : (tkV s f 2).size ≤ 2 := tkV_le s f 2
  refine wp_seq ?_
  refine rg_lit ?_
  refine pl_val (want_no rfl) (some 2) rfl (.int .u16 0) (fun _ => by kernel_rfl) ?_
  refine pl_nil ?_
  refine au_then ?_
  refine wp_seq ?_
  refine rg_lit ?_
  refine pl_val (want_no rfl) (some 3) rfl (.int .u64 0) (fun _ => by kernel_rfl) ?_
  refine pl_nil ?_
  refine au_then ?_
  refine wp_seq ?_
  refine wp_seq ?_
  refine rg_lit ?_
  refine pl_val (want_no rfl) (some 6) rfl (.pointer (some ⟨g, 0, none⟩)) (fun _ => by kernel_rfl) ?_
  refine pl_call M (want_no rfl) (some 7) rfl 83 #[] (.int .i64 2) (fun _ => by kernel_rfl) (fun w M => c_size2 w M.laid) ?_
  intro u1 M
  refine pl_callp M (want_no rfl) (some 8) rfl 57 #[.pointer (some ⟨g, 0, none⟩), .int .i64 2] (.string (tkV s f 2)) 0 g (.cells (av 3 (ls [.bool true, .string s, .int .i64 f])) 112) (.cells (av 3 (ls [.bool true, .string (tkS s f 2), .int .i64 (tkF s f 2)])) 112) rfl (fun _ => by kernel_rfl) (fun w M => c_Take g s f 2 w M.laid (M.get 0 rfl)) ?_
  intro u2 M
  replace M : Mem ⟨w, [g]⟩ [⟨g, .cells (av 3 (ls [.bool true, .string (tkS s f 2), .int .i64 (tkF s f 2)])) 112⟩] u2 := M
  refine pl_conv M (want_no rfl) (some 9) rfl _ rfl (tkV s f 2) (by kernel_rfl) ?_
  intro g1 cap1 Z1 u3 hZ1 M
  replace M : Mem ⟨w, [g]⟩ [⟨g, .cells (av 3 (ls [.bool true, .string (tkS s f 2), .int .i64 (tkF s f 2)])) 112⟩, ⟨g1, Z1⟩] u3 := M
  refine pl_val (want_no rfl) (some 10) rfl (.int .i64 (((tkV s f 2).size : Nat) : Int)) (fun _ => by kernel_rfl) ?_
  refine pl_val (want_no rfl) (some 11) rfl (.int .i64 0) (fun _ => by kernel_rfl) ?_
  refine pl_nil ?_
  refine au_then ?_
  refine wp_block ?_
  refine au_loop (fun j a w' => ∃ v1 : Nat → Value, a = ⟨#[.pointer (some ⟨g, 0, none⟩), undef, .int .u16 0, .int .u64 (bn (tkV s f 2) j), undef, v1 5, .pointer (some ⟨g, 0, none⟩), .int .i64 2, .string (tkV s f 2), .slice (some ⟨g1, 0, none⟩) (tkV s f 2).size cap1, .int .i64 (((tkV s f 2).size : Nat) : Int), .int .i64 (j : Int), v1 12, v1 13, v1 14, v1 15, v1 16, v1 17, v1 18, v1 19, v1 20, undef, undef], []⟩ ∧ Mem ⟨w, [g]⟩ [⟨g, .cells (av 3 (ls [.bool true, .string (tkS s f 2), .int .i64 (tkF s f 2)])) 112⟩, ⟨g1, Z1⟩] w') (tkV s f 2).size ⟨fun k_ => ([undef, undef, undef, undef, undef, undef, undef, undef, undef, undef, undef, undef, undef, undef, undef, undef] : List Value).getD (k_ - 5) undef, by kernel_rfl, M⟩ ?_ ?_
  · intro j a u0 hj hI
    obtain ⟨v1, rfl, M⟩ := hI
    refine wp_seq ?_
    refine rg_lit ?_
    refine pl_val (want_no rfl) (some 12) rfl (.bool true) (fun w => Eq.trans (b := .ok (.value (.bool (decide ((j : Int) < (((tkV s f 2).size : Nat) : Int))))) w) (by kernel_rfl) (by rw [decide_eq_true (by omega)])) ?_
    refine pl_nil ?_
    refine au_then ?_
    refine wp_seq ?_
    refine wp_cond_true (by kernel_rfl) ?_
    refine wp_skip ?_
    refine au_then ?_
    refine wp_seq ?_
    refine wp_block ?_
    refine wp_seq ?_
    refine rg_lit ?_
    refine pl_val (want_no rfl) (some 13) rfl (.pointer (some ⟨g1, j, none⟩)) (run_ix0 49 5 Try.underlying49 inz5 _ _ rfl g1 ((tkV s f 2).size) cap1 (by kernel_rfl) .i64 j (by kernel_rfl) (by omega)) ?_
    refine pl_cell M (want_no rfl) (some 14) rfl 5 _ rfl g1 j (by kernel_rfl) (.int .u8 (bt (tkV s f 2) j)) (fun _ => by kernel_rfl) (fun w M => hZ1.cell (M.get 1 rfl) (vs8_sb _ _ (by omega))) ?_
    refine pl_val (want_no rfl) (some 5) rfl (.int .u8 (bt (tkV s f 2) j)) (fun _ => by kernel_rfl) ?_
    refine pl_nil ?_
    refine au_then ?_
    refine rg_lit ?_
    refine pl_val (want_no rfl) (some 15) rfl (.int .u64 (bn (tkV s f 2) j)) (fun _ => by kernel_rfl) ?_
    refine pl_val (want_no rfl) (some 16) rfl (.int .u64 (sl (bn (tkV s f 2) j) 8)) (fun _ => by kernel_rfl) ?_
    refine pl_val (want_no rfl) (some 17) rfl (.int .u8 (bt (tkV s f 2) j)) (fun _ => by kernel_rfl) ?_
    refine pl_val (want_no rfl) (some 18) rfl (.int .u64 (cv .u64 (bt (tkV s f 2) j))) (fun _ => by kernel_rfl) ?_
    refine pl_val (want_no rfl) (some 19) rfl (.int .u64 (uo (sl (bn (tkV s f 2) j) 8) (cv .u64 (bt (tkV s f 2) j)))) (fun _ => by kernel_rfl) ?_
    refine pl_val (want_no rfl) (some 3) rfl (.int .u64 (uo (sl (bn (tkV s f 2) j) 8) (cv .u64 (bt (tkV s f 2) j)))) (fun _ => by kernel_rfl) ?_
    refine pl_nil ?_
    refine au_block ?_
    refine au_then ?_
    refine rg_lit ?_
    refine pl_val (want_no rfl) (some 20) rfl (.int .i64 ((j + 1 : Nat) : Int)) (fun w => Eq.trans (b := .ok (.value (.int .i64 (IntKind.wrap .i64 ((j : Int) + 1)))) w) (by kernel_rfl) (by rw [wrap64 (by omega) (by omega)]; congr 3)) ?_
    refine pl_val (want_no rfl) (some 11) rfl (.int .i64 ((j + 1 : Nat) : Int)) (fun _ => by kernel_rfl) ?_
    refine pl_nil ?_
    refine au_then ?_
    exact ⟨fun k_ => ([.int .u8 (bt (tkV s f 2) j), undef, undef, undef, undef, undef, undef, .bool true, .pointer (some ⟨g1, j, none⟩), .int .u8 (bt (tkV s f 2) j), .int .u64 (bn (tkV s f 2) j), .int .u64 (sl (bn (tkV s f 2) j) 8), .int .u8 (bt (tkV s f 2) j), .int .u64 (cv .u64 (bt (tkV s f 2) j)), .int .u64 (uo (sl (bn (tkV s f 2) j) 8) (cv .u64 (bt (tkV s f 2) j))), .int .i64 ((j + 1 : Nat) : Int)] : List Value).getD (k_ - 5) undef, by kernel_rfl, M⟩
  · intro a u0 hI
    obtain ⟨v1, rfl, M⟩ := hI
    refine wp_seq ?_
    refine rg_lit ?_
    refine pl_val (want_no rfl) (some 12) rfl (.bool false) (fun w => Eq.trans (b := .ok (.value (.bool (decide ((((tkV s f 2).size : Nat) : Int) < (((tkV s f 2).size : Nat) : Int))))) w) (by kernel_rfl) (by rw [decide_eq_false (by omega)])) ?_
    refine pl_nil ?_
    refine au_then ?_
    refine wp_seq ?_
    refine wp_cond_false (by kernel_rfl) ?_
    refine wp_exit ?_
    refine au_then_exit ?_
    refine au_then_exit ?_
    refine au_block_exit ?_
    refine au_then ?_
    refine wp_seq ?_
    refine rg_lit ?_
    refine pl_val (want_no rfl) (some 21) rfl (.int .u64 (bn (tkV s f 2) ((tkV s f 2).size))) (fun _ => by kernel_rfl) ?_
    refine pl_val (want_no rfl) (some 22) rfl (.int .u16 (cv .u16 (bn (tkV s f 2) ((tkV s f 2).size)))) (fun _ => by kernel_rfl) ?_
    refine pl_val (want_no rfl) (some 2) rfl (.int .u16 (cv .u16 (bn (tkV s f 2) ((tkV s f 2).size)))) (fun _ => by kernel_rfl) ?_
    refine pl_nil ?_
    refine au_then ?_
    refine wp_ret ?_
    have e0 : (cv .u16 (bnv (tkV s f 2))) = (cv .u16 (bn (tkV s f 2) ((tkV s f 2).size))) := rfl
    exact bodyPost_ret (v := .int .u16 (cv .u16 (bn (tkV s f 2) ((tkV s f 2).size)))) (results_tmp1 Try.results70 _ _ _ (by kernel_rfl)) (by kernel_rfl) ⟨by rw [e0], M.old, by simpa only [e0] using M.get 0 rfl⟩

set_option maxRecDepth 100000 in
set_option maxHeartbeats 4000000 in
set_option linter.unusedSimpArgs false in
theorem r_U16 (g : Nat) (s : ByteArray) (f : Int) (w : World) (hL : Laid w)  (hg : w.heap[g]? = some (.cells (av 3 (ls [.bool true, .string s, .int .i64 f])) 112)) :
    Calls Try.prog 54 #[.pointer (some ⟨g, 0, none⟩)] w fun r w' => r = .returned (.int .u16 (cv .u16 (bnv (tkV s f 2)))) ∧ Grw w w' [g] ∧ w'.heap[g]? = some (.cells (av 3 (ls [.bool true, .string (tkS s f 2), .int .i64 (tkF s f 2)])) 112) := by
  go_enter Try.func54, Try.ntmps54
  have M := Mem.startp hL hg
  refine wp_seq ?_
  refine rg_lit ?_
  refine pl_val (want_no rfl) (some 2) rfl (.int .u16 0) (fun _ => by kernel_rfl) ?_
  refine pl_nil ?_
  refine au_then ?_
  refine wp_seq ?_
  refine rg_lit ?_
  refine pl_val (want_no rfl) (some 3) rfl (.pointer (some ⟨g, 0, none⟩)) (fun _ => by kernel_rfl) ?_
  refine pl_callp M (want_no rfl) (some 4) rfl 70 #[.pointer (some ⟨g, 0, none⟩)] (.int .u16 (cv .u16 (bnv (tkV s f 2)))) 0 g (.cells (av 3 (ls [.bool true, .string s, .int .i64 f])) 112) (.cells (av 3 (ls [.bool true, .string (tkS s f 2), .int .i64 (tkF s f 2)])) 112) rfl (fun _ => by kernel_rfl) (fun w M => c_next2 g s f w M.laid (M.get 0 rfl)) ?_
  intro u1 M
  replace M : Mem ⟨w, [g]⟩ [⟨g, .cells (av 3 (ls [.bool true, .string (tkS s f 2), .int .i64 (tkF s f 2)])) 112⟩] u1 := M
  refine pl_val (want_no rfl) (some 2) rfl (.int .u16 (cv .u16 (bnv (tkV s f 2)))) (fun _ => by kernel_rfl) ?_
  refine pl_nil ?_
  refine au_then ?_
  refine wp_ret ?_
  exact bodyPost_ret (v := .int .u16 (cv .u16 (bnv (tkV s f 2)))) (results_tmp1 Try.results54 _ _ _ (by kernel_rfl)) (by kernel_rfl) ⟨rfl, M.old, M.get 0 rfl⟩

set_option maxRecDepth 100000 in
set_option maxHeartbeats 4000000 in
set_option linter.unusedSimpArgs false in
theorem c_next4 (g : Nat) (s : ByteArray) (f : Int) (w : World) (hL : Laid w)  (hg : w.heap[g]? = some (.cells (av 3 (ls [.bool true, .string s, .int .i64 f])) 112)) :
    Calls Try.prog 68 #[.pointer (some ⟨g, 0, none⟩)] w fun r w' => r = .returned (.int .u32 (cv .u32 (bnv (tkV s f 4)))) ∧ Grw w w' [g] ∧ w'.heap[g]? = some (.cells (av 3 (ls [.bool true, .string (tkS s f 4), .int .i64 (tkF s f 4)])) 112) := by
  go_enter Try.func68, Try.ntmps68
  have M := Mem.startp hL hg
  have hz : (tkV s f 4).size ≤ 4 := tkV_le s f 4
  refine wp_seq ?_
  refine rg_lit ?_
  refine pl_val (want_no rfl) (some 2) rfl (.int .u32 0) (fun _ => by kernel_rfl) ?_
  refine pl_nil ?_
  refine au_then ?_
  refine wp_seq ?_
  refine rg_lit ?_
  refine pl_val (want_no rfl) (some 3) rfl (.int .u64 0) (fun _ => by kernel_rfl) ?_
  refine pl_nil ?_
  refine au_then ?_
  refine wp_seq ?_
  refine wp_seq ?_
  refine rg_lit ?_
  refine pl_val (want_no rfl) (some 6) rfl (.pointer (some ⟨g, 0, none⟩)) (fun _ => by kernel_rfl) ?_
  refine pl_call M (want_no rfl) (some 7) rfl 81 #[] (.int .i64 4) (fun _ => by kernel_rfl) (fun w M => c_size4 w M.laid) ?_
  intro u1 M
  refine pl_callp M (want_no rfl) (some 8) rfl 57 #[.pointer (some ⟨g, 0, none⟩), .int .i64 4] (.string (tkV s f 4)) 0 g (.cells (av 3 (ls [.bool true, .string s, .int .i64 f])) 112) (.cells (av 3 (ls [.bool true, .string (tkS s f 4), .int .i64 (tkF s f 4)])) 112) rfl (fun _ => by kernel_rfl) (fun w M => c_Take g s f 4 w M.laid (M.get 0 rfl)) ?_
  intro u2 M
  replace M : Mem ⟨w, [g]⟩ [⟨g, .cells (av 3 (ls [.bool true, .string (tkS s f 4), .int .i64 (tkF s f 4)])) 112⟩] u2 := M
  refine pl_conv M (want_no rfl) (some 9) rfl _ rfl (tkV s f 4) (by kernel_rfl) ?_
  intro g1 cap1 Z1 u3 hZ1 M
  replace M : Mem ⟨w, [g]⟩ [⟨g, .cells (av 3 (ls [.bool true, .string (tkS s f 4), .int .i64 (tkF s f 4)])) 112⟩, ⟨g1, Z1⟩] u3 := M
  refine pl_val (want_no rfl) (some 10) rfl (.int .i64 (((tkV s f 4).size : Nat) : Int)) (fun _ => by kernel_rfl) ?_
  refine pl_val (want_no rfl) (some 11) rfl (.int .i64 0) (fun _ => by kernel_rfl) ?_
  refine pl_nil ?_
  refine au_then ?_
  refine wp_block ?_
  refine au_loop (fun j a w' => ∃ v1 : Nat → Value, a = ⟨#[.pointer (some ⟨g, 0, none⟩), undef, .int .u32 0, .int .u64 (bn (tkV s f 4) j), undef, v1 5, .pointer (some ⟨g, 0, none⟩), .int .i64 4, .string (tkV s f 4), .slice (some ⟨g1, 0, none⟩) (tkV s f 4).size cap1, .int .i64 (((tkV s f 4).size : Nat) : Int), .int .i64 (j : Int), v1 12, v1 13, v1 14, v1 15, v1 16, v1 17, v1 18, v1 19, v1 20, undef, undef], []⟩ ∧ Mem ⟨w, [g]⟩ [⟨g, .cells (av 3 (ls [.bool true, .string (tkS s f 4), .int .i64 (tkF s f 4)])) 112⟩, ⟨g1, Z1⟩] w') (tkV s f 4).size ⟨fun k_ => ([undef, undef, undef, undef, undef, undef, undef, undef, undef, undef, undef, undef, undef, undef, undef, undef] : List Value).getD (k_ - 5) undef, by kernel_rfl, M⟩ ?_ ?_
  · intro j a u0 hj hI
    obtain ⟨v1, rfl, M⟩ := hI
    refine wp_seq ?_
    refine rg_lit ?_
    refine pl_val (want_no rfl) (some 12) rfl (.bool true) (fun w => Eq.trans (b := .ok (.value (.bool (decide ((j : Int) < (((tkV s f 4).size : Nat) : Int))))) w) (by kernel_rfl) (by rw [decide_eq_true (by omega)])) ?_
    refine pl_nil ?_
    refine au_then ?_
    refine wp_seq ?_
    refine wp_cond_true (by kernel_rfl) ?_
    refine wp_skip ?_
    refine au_then ?_
    refine wp_seq ?_
    refine wp_block ?_
    refine wp_seq ?_
    refine rg_lit ?_
    refine pl_val (want_no rfl) (some 13) rfl (.pointer (some ⟨g1, j, none⟩)) (run_ix0 49 5 Try.underlying49 inz5 _ _ rfl g1 ((tkV s f 4).size) cap1 (by kernel_rfl) .i64 j (by kernel_rfl) (by omega)) ?_
    refine pl_cell M (want_no rfl) (some 14) rfl 5 _ rfl g1 j (by kernel_rfl) (.int .u8 (bt (tkV s f 4) j)) (fun _ => by kernel_rfl) (fun w M => hZ1.cell (M.get 1 rfl) (vs8_sb _ _ (by omega))) ?_
    refine pl_val (want_no rfl) (some 5) rfl (.int .u8 (bt (tkV s f 4) j)) (fun _ => by kernel_rfl) ?_
    refine pl_nil ?_
    refine au_then ?_
    refine rg_lit ?_
    refine pl_val (want_no rfl) (some 15) rfl (.int .u64 (bn (tkV s f 4) j)) (fun _ => by kernel_rfl) ?_
    refine pl_val (want_no rfl) (some 16) rfl (.int .u64 (sl (bn (tkV s f 4) j) 8)) (fun _ => by kernel_rfl) ?_
    refine pl_val (want_no rfl) (some 17) rfl (.int .u8 (bt (tkV s f 4) j)) (fun _ => by kernel_rfl) ?_
    refine pl_val (want_no rfl) (some 18) rfl (.int .u64 (cv .u64 (bt (tkV s f 4) j))) (fun _ => by kernel_rfl) ?_
    refine pl_val (want_no rfl) (some 19) rfl (.int .u64 (uo (sl (bn (tkV s f 4) j) 8) (cv .u64 (bt (tkV s f 4) j)))) (fun _ => by kernel_rfl) ?_
    refine pl_val (want_no rfl) (some 3) rfl (.int .u64 (uo (sl (bn (tkV s f 4) j) 8) (cv .u64 (bt (tkV s f 4) j)))) (fun _ => by kernel_rfl) ?_
    refine pl_nil ?_
    refine au_block ?_
    refine au_then ?_
    refine rg_lit ?_
    refine pl_val (want_no rfl) (some 20) rfl (.int .i64 ((j + 1 : Nat) : Int)) (fun w => Eq.trans (b := .ok (.value (.int .i64 (IntKind.wrap .i64 ((j : Int) + 1)))) w) (by kernel_rfl) (by rw [wrap64 (by omega) (by omega)]; congr 3)) ?_
    refine pl_val (want_no rfl) (some 11) rfl (.int .i64 ((j + 1 : Nat) : Int)) (fun _ => by kernel_rfl) ?_
    refine pl_nil ?_
    refine au_then ?_
    exact ⟨fun k_ => ([.int .u8 (bt (tkV s f 4) j), undef, undef, undef, undef, undef, undef, .bool true, .pointer (some ⟨g1, j, none⟩), .int .u8 (bt (tkV s f 4) j), .int .u64 (bn (tkV s f 4) j), .int .u64 (sl (bn (tkV s f 4) j) 8), .int .u8 (bt (tkV s f 4) j), .int .u64 (cv .u64 (bt (tkV s f 4) j)), .int .u64 (uo (sl (bn (tkV s f 4) j) 8) (cv .u64 (bt (tkV s f 4) j))), .int .i64 ((j + 1 : Nat) : Int)] : List Value).getD (k_ - 5) undef, by kernel_rfl, M⟩
  · intro a u0 hI
    obtain ⟨v1, rfl, M⟩ := hI
    refine wp_seq ?_
    refine rg_lit ?_
    refine pl_val (want_no rfl) (some 12) rfl (.bool false) (fun w => Eq.trans (b := .ok (.value (.bool (decide ((((tkV s f 4).size : Nat) : Int) < (((tkV s f 4).size : Nat) : Int))))) w) (by kernel_rfl) (by rw [decide_eq_false (by omega)])) ?_
    refine pl_nil ?_
    refine au_then ?_
    refine wp_seq ?_
    refine wp_cond_false (by kernel_rfl) ?_
    refine wp_exit ?_
    refine au_then_exit ?_
    refine au_then_exit ?_
    refine au_block_exit ?_
    refine au_then ?_
    refine wp_seq ?_
    refine rg_lit ?_
    refine pl_val (want_no rfl) (some 21) rfl (.int .u64 (bn (tkV s f 4) ((tkV s f 4).size))) (fun _ => by kernel_rfl) ?_
    refine pl_val (want_no rfl) (some 22) rfl (.int .u32 (cv .u32 (bn (tkV s f 4) ((tkV s f 4).size)))) (fun _ => by kernel_rfl) ?_
    refine pl_val (want_no rfl) (some 2) rfl (.int .u32 (cv .u32 (bn (tkV s f 4) ((tkV s f 4).size)))) (fun _ => by kernel_rfl) ?_
    refine pl_nil ?_
    refine au_then ?_
    refine wp_ret ?_
    have e0 : (cv .u32 (bnv (tkV s f 4))) = (cv .u32 (bn (tkV s f 4) ((tkV s f 4).size))) := rfl
    exact bodyPost_ret (v := .int .u32 (cv .u32 (bn (tkV s f 4) ((tkV s f 4).size)))) (results_tmp1 Try.results68 _ _ _ (by kernel_rfl)) (by kernel_rfl) ⟨by rw [e0], M.old, by simpa only [e0] using M.get 0 rfl⟩

set_option maxRecDepth 100000 in
set_option maxHeartbeats 4000000 in
set_option linter.unusedSimpArgs false in
theorem r_U32 (g : Nat) (s : ByteArray) (f : Int) (w : World) (hL : Laid w)  (hg : w.heap[g]? = some (.cells (av 3 (ls [.bool true, .string s, .int .i64 f])) 112)) :
    Calls Try.prog 52 #[.pointer (some ⟨g, 0, none⟩)] w fun r w' => r = .returned (.int .u32 (cv .u32 (bnv (tkV s f 4)))) ∧ Grw w w' [g] ∧ w'.heap[g]? = some (.cells (av 3 (ls [.bool true, .string (tkS s f 4), .int .i64 (tkF s f 4)])) 112) := by
  go_enter Try.func52, Try.ntmps52
  have M := Mem.startp hL hg
  refine wp_seq ?_
  refine rg_lit ?_
  refine pl_val (want_no rfl) (some 2) rfl (.int .u32 0) (fun _ => by kernel_rfl) ?_
  refine pl_nil ?_
  refine au_then ?_
  refine wp_seq ?_
  refine rg_lit ?_
  refine pl_val (want_no rfl) (some 3) rfl (.pointer (some ⟨g, 0, none⟩)) (fun _ => by kernel_rfl) ?_
  refine pl_callp M (want_no rfl) (some 4) rfl 68 #[.pointer (some ⟨g, 0, none⟩)] (.int .u32 (cv .u32 (bnv (tkV s f 4)))) 0 g (.cells (av 3 (ls [.bool true, .string s, .int .i64 f])) 112) (.cells (av 3 (ls [.bool true, .string (tkS s f 4), .int .i64 (tkF s f 4)])) 112) rfl (fun _ => by kernel_rfl) (fun w M => c_next4 g s f w M.laid (M.get 0 rfl)) ?_
  intro u1 M
  replace M : Mem ⟨w, [g]⟩ [⟨g, .cells (av 3 (ls [.bool true, .string (tkS s f 4), .int .i64 (tkF s f 4)])) 112⟩] u1 := M
  refine pl_val (want_no rfl) (some 2) rfl (.int .u32 (cv .u32 (bnv (tkV s f 4)))) (fun _ => by kernel_rfl) ?_
  refine pl_nil ?_
  refine au_then ?_
  refine wp_ret ?_
  exact bodyPost_ret (v := .int .u32 (cv .u32 (bnv (tkV s f 4)))) (results_tmp1 Try.results52 _ _ _ (by kernel_rfl)) (by kernel_rfl) ⟨rfl, M.old, M.get 0 rfl⟩

set_option maxRecDepth 100000 in
set_option maxHeartbeats 4000000 in
set_option linter.unusedSimpArgs false in
theorem c_next8 (g : Nat) (s : ByteArray) (f : Int) (w : World) (hL : Laid w)  (hg : w.heap[g]? = some (.cells (av 3 (ls [.bool true, .string s, .int .i64 f])) 112)) :
    Calls Try.prog 69 #[.pointer (some ⟨g, 0, none⟩)] w fun r w' => r = .returned (.int .u64 (bnv (tkV s f 8))) ∧ Grw w w' [g] ∧ w'.heap[g]? = some (.cells (av 3 (ls [.bool true, .string (tkS s f 8), .int .i64 (tkF s f 8)])) 112) := by
  go_enter Try.func69, Try.ntmps69
  have M := Mem.startp hL hg
  have hz : (tkV s f 8).size ≤ 8 := tkV_le s f 8
  refine wp_seq ?_
  refine rg_lit ?_
  refine pl_val (want_no rfl) (some 2) rfl (.int .u64 0) (fun _ => by kernel_rfl) ?_
  refine pl_nil ?_
  refine au_then ?_
  refine wp_seq ?_
  refine rg_lit ?_
  refine pl_val (want_no rfl) (some 3) rfl (.int .u64 0) (fun _ => by kernel_rfl) ?_
  refine pl_nil ?_
  refine au_then ?_
  refine wp_seq ?_
  refine wp_seq ?_
  refine rg_lit ?_
  refine pl_val (want_no rfl) (some 6) rfl (.pointer (some ⟨g, 0, none⟩)) (fun _ => by kernel_rfl) ?_
  refine pl_call M (want_no rfl) (some 7) rfl 82 #[] (.int .i64 8) (fun _ => by kernel_rfl) (fun w M => c_size8 w M.laid) ?_
  intro u1 M
  refine pl_callp M (want_no rfl) (some 8) rfl 57 #[.pointer (some ⟨g, 0, none⟩), .int .i64 8] (.string (tkV s f 8)) 0 g (.cells (av 3 (ls [.bool true, .string s, .int .i64 f])) 112) (.cells (av 3 (ls [.bool true, .string (tkS s f 8), .int .i64 (tkF s f 8)])) 112) rfl (fun _ => by kernel_rfl) (fun w M => c_Take g s f 8 w M.laid (M.get 0 rfl)) ?_
  intro u2 M
  replace M : Mem ⟨w, [g]⟩ [⟨g, .cells (av 3 (ls [.bool true, .string (tkS s f 8), .int .i64 (tkF s f 8)])) 112⟩] u2 := M
  refine pl_conv M (want_no rfl) (some 9) rfl _ rfl (tkV s f 8) (by kernel_rfl) ?_
  intro g1 cap1 Z1 u3 hZ1 M
  replace M : Mem ⟨w, [g]⟩ [⟨g, .cells (av 3 (ls [.bool true, .string (tkS s f 8), .int .i64 (tkF s f 8)])) 112⟩, ⟨g1, Z1⟩] u3 := M
  refine pl_val (want_no rfl) (some 10) rfl (.int .i64 (((tkV s f 8).size : Nat) : Int)) (fun _ => by kernel_rfl) ?_
  refine pl_val (want_no rfl) (some 11) rfl (.int .i64 0) (fun _ => by kernel_rfl) ?_
  refine pl_nil ?_
  refine au_then ?_
  refine wp_block ?_
  refine au_loop (fun j a w' => ∃ v1 : Nat → Value, a = ⟨#[.pointer (some ⟨g, 0, none⟩), undef, .int .u64 0, .int .u64 (bn (tkV s f 8) j), undef, v1 5, .pointer (some ⟨g, 0, none⟩), .int .i64 8, .string (tkV s f 8), .slice (some ⟨g1, 0, none⟩) (tkV s f 8).size cap1, .int .i64 (((tkV s f 8).size : Nat) : Int), .int .i64 (j : Int), v1 12, v1 13, v1 14, v1 15, v1 16, v1 17, v1 18, v1 19, v1 20, undef], []⟩ ∧ Mem ⟨w, [g]⟩ [⟨g, .cells (av 3 (ls [.bool true, .string (tkS s f 8), .int .i64 (tkF s f 8)])) 112⟩, ⟨g1, Z1⟩] w') (tkV s f 8).size ⟨fun k_ => ([undef, undef, undef, undef, undef, undef, undef, undef, undef, undef, undef, undef, undef, undef, undef, undef] : List Value).getD (k_ - 5) undef, by kernel_rfl, M⟩ ?_ ?_
  · intro j a u0 hj hI
    obtain ⟨v1, rfl, M⟩ := hI
    refine wp_seq ?_
    refine rg_lit ?_
    refine pl_val (want_no rfl) (some 12) rfl (.bool true) (fun w => Eq.trans (b := .ok (.value (.bool (decide ((j : Int) < (((tkV s f 8).size : Nat) : Int))))) w) (by kernel_rfl) (by rw [decide_eq_true (by omega)])) ?_
    refine pl_nil ?_
    refine au_then ?_
    refine wp_seq ?_
    refine wp_cond_true (by kernel_rfl) ?_
    refine wp_skip ?_
    refine au_then ?_
    refine wp_seq ?_
    refine wp_block ?_
    refine wp_seq ?_
    refine rg_lit ?_
    refine pl_val (want_no rfl) (some 13) rfl (.pointer (some ⟨g1, j, none⟩)) (run_ix0 49 5 Try.underlying49 inz5 _ _ rfl g1 ((tkV s f 8).size) cap1 (by kernel_rfl) .i64 j (by kernel_rfl) (by omega)) ?_
    refine pl_cell M (want_no rfl) (some 14) rfl 5 _ rfl g1 j (by kernel_rfl) (.int .u8 (bt (tkV s f 8) j)) (fun _ => by kernel_rfl) (fun w M => hZ1.cell (M.get 1 rfl) (vs8_sb _ _ (by omega))) ?_
    refine pl_val (want_no rfl) (some 5) rfl (.int .u8 (bt (tkV s f 8) j)) (fun _ => by kernel_rfl) ?_
    refine pl_nil ?_
    refine au_then ?_
    refine rg_lit ?_
    refine pl_val (want_no rfl) (some 15) rfl (.int .u64 (bn (tkV s f 8) j)) (fun _ => by kernel_rfl) ?_
    refine pl_val (want_no rfl) (some 16) rfl (.int .u64 (sl (bn (tkV s f 8) j) 8)) (fun _ => by kernel_rfl) ?_
    refine pl_val (want_no rfl) (some 17) rfl (.int .u8 (bt (tkV s f 8) j)) (fun _ => by kernel_rfl) ?_
    refine pl_val (want_no rfl) (some 18) rfl (.int .u64 (cv .u64 (bt (tkV s f 8) j))) (fun _ => by kernel_rfl) ?_
    refine pl_val (want_no rfl) (some 19) rfl (.int .u64 (uo (sl (bn (tkV s f 8) j) 8) (cv .u64 (bt (tkV s f 8) j)))) (fun _ => by kernel_rfl) ?_
    refine pl_val (want_no rfl) (some 3) rfl (.int .u64 (uo (sl (bn (tkV s f 8) j) 8) (cv .u64 (bt (tkV s f 8) j)))) (fun _ => by kernel_rfl) ?_
    refine pl_nil ?_
    refine au_block ?_
    refine au_then ?_
    refine rg_lit ?_
    refine pl_val (want_no rfl) (some 20) rfl (.int .i64 ((j + 1 : Nat) : Int)) (fun w => Eq.trans (b := .ok (.value (.int .i64 (IntKind.wrap .i64 ((j : Int) + 1)))) w) (by kernel_rfl) (by rw [wrap64 (by omega) (by omega)]; congr 3)) ?_
    refine pl_val (want_no rfl) (some 11) rfl (.int .i64 ((j + 1 : Nat) : Int)) (fun _ => by kernel_rfl) ?_
    refine pl_nil ?_
    refine au_then ?_
    exact ⟨fun k_ => ([.int .u8 (bt (tkV s f 8) j), undef, undef, undef, undef, undef, undef, .bool true, .pointer (some ⟨g1, j, none⟩), .int .u8 (bt (tkV s f 8) j), .int .u64 (bn (tkV s f 8) j), .int .u64 (sl (bn (tkV s f 8) j) 8), .int .u8 (bt (tkV s f 8) j), .int .u64 (cv .u64 (bt (tkV s f 8) j)), .int .u64 (uo (sl (bn (tkV s f 8) j) 8) (cv .u64 (bt (tkV s f 8) j))), .int .i64 ((j + 1 : Nat) : Int)] : List Value).getD (k_ - 5) undef, by kernel_rfl, M⟩
  · intro a u0 hI
    obtain ⟨v1, rfl, M⟩ := hI
    refine wp_seq ?_
    refine rg_lit ?_
    refine pl_val (want_no rfl) (some 12) rfl (.bool false) (fun w => Eq.trans (b := .ok (.value (.bool (decide ((((tkV s f 8).size : Nat) : Int) < (((tkV s f 8).size : Nat) : Int))))) w) (by kernel_rfl) (by rw [decide_eq_false (by omega)])) ?_
    refine pl_nil ?_
    refine au_then ?_
    refine wp_seq ?_
    refine wp_cond_false (by kernel_rfl) ?_
    refine wp_exit ?_
    refine au_then_exit ?_
    refine au_then_exit ?_
    refine au_block_exit ?_
    refine au_then ?_
    refine wp_seq ?_
    refine rg_lit ?_
    refine pl_val (want_no rfl) (some 21) rfl (.int .u64 (bn (tkV s f 8) ((tkV s f 8).size))) (fun _ => by kernel_rfl) ?_
    refine pl_val (want_no rfl) (some 2) rfl (.int .u64 (bn (tkV s f 8) ((tkV s f 8).size))) (fun _ => by kernel_rfl) ?_
    refine pl_nil ?_
    refine au_then ?_
    refine wp_ret ?_
    have e0 : (bnv (tkV s f 8)) = (bn (tkV s f 8) ((tkV s f 8).size)) := rfl
    exact bodyPost_ret (v := .int .u64 (bn (tkV s f 8) ((tkV s f 8).size))) (results_tmp1 Try.results69 _ _ _ (by kernel_rfl)) (by kernel_rfl) ⟨by rw [e0], M.old, by simpa only [e0] using M.get 0 rfl⟩

set_option maxRecDepth 100000 in
set_option maxHeartbeats 4000000 in
set_option linter.unusedSimpArgs false in
theorem r_U64 (g : Nat) (s : ByteArray) (f : Int) (w : World) (hL : Laid w)  (hg : w.heap[g]? = some (.cells (av 3 (ls [.bool true, .string s, .int .i64 f])) 112)) :
    Calls Try.prog 53 #[.pointer (some ⟨g, 0, none⟩)] w fun r w' => r = .returned (.int .u64 (bnv (tkV s f 8))) ∧ Grw w w' [g] ∧ w'.heap[g]? = some (.cells (av 3 (ls [.bool true, .string (tkS s f 8), .int .i64 (tkF s f 8)])) 112) := by
  go_enter Try.func53, Try.ntmps53
  have M := Mem.startp hL hg
  refine wp_seq ?_
  refine rg_lit ?_
  refine pl_val (want_no rfl) (some 2) rfl (.int .u64 0) (fun _ => by kernel_rfl) ?_
  refine pl_nil ?_
  refine au_then ?_
  refine wp_seq ?_
  refine rg_lit ?_
  refine pl_val (want_no rfl) (some 3) rfl (.pointer (some ⟨g, 0, none⟩)) (fun _ => by kernel_rfl) ?_
  refine pl_callp M (want_no rfl) (some 4) rfl 69 #[.pointer (some ⟨g, 0, none⟩)] (.int .u64 (bnv (tkV s f 8))) 0 g (.cells (av 3 (ls [.bool true, .string s, .int .i64 f])) 112) (.cells (av 3 (ls [.bool true, .string (tkS s f 8), .int .i64 (tkF s f 8)])) 112) rfl (fun _ => by kernel_rfl) (fun w M => c_next8 g s f w M.laid (M.get 0 rfl)) ?_
  intro u1 M
  replace M : Mem ⟨w, [g]⟩ [⟨g, .cells (av 3 (ls [.bool true, .string (tkS s f 8), .int .i64 (tkF s f 8)])) 112⟩] u1 := M
  refine pl_val (want_no rfl) (some 2) rfl (.int .u64 (bnv (tkV s f 8))) (fun _ => by kernel_rfl) ?_
  refine pl_nil ?_
  refine au_then ?_
  refine wp_ret ?_
  exact bodyPost_ret (v := .int .u64 (bnv (tkV s f 8))) (results_tmp1 Try.results53 _ _ _ (by kernel_rfl)) (by kernel_rfl) ⟨rfl, M.old, M.get 0 rfl⟩


end Go.Proofs.Ytbechjlkmajcoaa
