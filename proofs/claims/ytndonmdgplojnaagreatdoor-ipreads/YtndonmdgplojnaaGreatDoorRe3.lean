/- Part 3 of the walks and facts behind ipReads_holds. -/
import Derived.Test.YtndonmdgplojnaaGreatDoorRe2
import Derived.ScopeJumps
/- Packets that are read: the walks of the program. -/
namespace Go.Proofs.YtndonmdgplojnaaGreatDoor
open Go.RowKit

theorem ne_size {s : ByteArray} (h : ¬ s = ⟨#[]⟩) : 0 < s.size := by
  rcases Nat.eq_zero_or_pos s.size with e | e
  · exact absurd (ByteArray.ext (Array.eq_empty_of_size_eq_zero e)) h
  · exact e
/-- What is wrong whatever the version is. -/
def fF (s : ByteArray) : Int := if (1500 : Int) < (s.size : Int) then 4 else if s = (⟨#[]⟩ : ByteArray) then 7 else if sr (bt s 0) 4 = 4 then 0 else if sr (bt s 0) 4 = 6 then 0 else 130
def exB (p : Int) : Bool := decide (p = 0 ∨ p = 43 ∨ p = 44 ∨ p = 50 ∨ p = 51 ∨ p = 60)
/-- The number of the two bytes at a place. -/
def pA (s : ByteArray) (k : Nat) : Int := cv .u16 (bnv (tkV (s.extract k s.size) 0 2))
theorem pA_nn (s : ByteArray) (k : Nat) : 0 ≤ pA s k ∧ pA s k < 65536 := by
  unfold pA
  rw [cv_u16]
  omega
def fa4 (s : ByteArray) : Int := if (s.size : Int) < 20 then 7 else if bt s 0 = 69 then (if 0 + pA s 2 = (s.size : Int) then (if sumS (s.extract 0 20) = 0 then (if yd (pA s 6) 16384 = 0 then 0 else 132) else 131) else 8) else 133
def fa6 (s : ByteArray) : Int := if (s.size : Int) < 40 then 7 else if 40 + pA s 4 = (s.size : Int) then (if exB (bt s 6) = true then 133 else 0) else 8
def hFa (s : ByteArray) : Int := if sr (bt s 0) 4 = 6 then fa6 s else fa4 s
def dcE (s : ByteArray) : Int := if fF s = 0 then hFa s else fF s
def zI (e x : Int) : Int := if e = 0 then x else 0
def zB (e : Int) (x : Bool) : Bool := if e = 0 then x else false
def zS (e : Int) (x : ByteArray) : ByteArray := if e = 0 then x else ⟨#[]⟩
set_option maxRecDepth 100000 in
set_option maxHeartbeats 4000000 in
set_option linter.unusedSimpArgs false in
theorem c_isSix (s : ByteArray) (hz : 0 < s.size) (w : World) (hL : Laid w)  :
    Calls Tryz.prog 60 #[.string s] w fun r w' => r = .returned (.bool (decide ((sr (bt s 0) 4) = 6))) ∧ Below w.heap.size w w' := by
  go_enter Tryz.func60, Tryz.ntmps60
  have M := Mem.start hL
  refine wp_seq ?_
  refine rg_lit ?_
  refine pl_val (want_no rfl) (some 2) rfl (.bool false) (fun _ => by kernel_rfl) ?_
  refine pl_nil ?_
  refine au_then ?_
  refine wp_seq ?_
  refine rg_lit ?_
  refine pl_val (want_no rfl) (some 3) rfl (.string s) (fun _ => by kernel_rfl) ?_
  refine pl_val (want_no rfl) (some 4) rfl (.int .u8 (bt s 0)) (run_ixS 9 Tryz.underlying9 _ _ rfl s (by kernel_rfl) .i64 0 (by kernel_rfl) (by omega)) ?_
  refine pl_val (want_no rfl) (some 5) rfl (.int .u8 (sr (bt s 0) 4)) (fun _ => by kernel_rfl) ?_
  by_cases c0 : (sr (bt s 0) 4) = 6
  · skip
    refine pl_val (want_no rfl) (some 6) rfl (.bool true) (fun w => Eq.trans (b := .ok (.value (.bool (decide ((sr (bt s 0) 4) = 6)))) w) (by kernel_rfl) (by rw [decide_eq_true (c0)])) ?_
    refine pl_val (want_no rfl) (some 2) rfl (.bool true) (fun _ => by kernel_rfl) ?_
    refine pl_nil ?_
    refine au_then ?_
    refine wp_ret ?_
    have e0 : decide ((sr (bt s 0) 4) = 6) = true := by first | (simp only [if_pos c0]; done) | simp [c0]
    exact bodyPost_ret (v := .bool true) (results_tmp1 Tryz.results60 _ _ _ (by kernel_rfl)) (by kernel_rfl) ⟨by rw [e0], below_grown M.old⟩
  · skip
    refine pl_val (want_no rfl) (some 6) rfl (.bool false) (fun w => Eq.trans (b := .ok (.value (.bool (decide ((sr (bt s 0) 4) = 6)))) w) (by kernel_rfl) (by rw [decide_eq_false (c0)])) ?_
    refine pl_val (want_no rfl) (some 2) rfl (.bool false) (fun _ => by kernel_rfl) ?_
    refine pl_nil ?_
    refine au_then ?_
    refine wp_ret ?_
    have e0 : decide ((sr (bt s 0) 4) = 6) = false := by first | (simp only [if_neg c0]; done) | simp [c0]
    exact bodyPost_ret (v := .bool false) (results_tmp1 Tryz.results60 _ _ _ (by kernel_rfl)) (by kernel_rfl) ⟨by rw [e0], below_grown M.old⟩

set_option maxRecDepth 100000 in
set_option maxHeartbeats 4000000 in
set_option linter.unusedSimpArgs false in
theorem c_firstFault (s : ByteArray) (w : World) (hL : Laid w)  :
    Calls Tryz.prog 39 #[.string s] w fun r w' => r = .returned (.int .i64 (fF s)) ∧ Below w.heap.size w w' := by
  go_enter Tryz.func39, Tryz.ntmps39
  have M := Mem.start hL
  refine wp_seq ?_
  refine rg_lit ?_
  refine pl_val (want_no rfl) (some 2) rfl (.int .i64 0) (fun _ => by kernel_rfl) ?_
  refine pl_nil ?_
  refine au_then ?_
  refine wp_seq ?_
  refine wp_block ?_
  refine wp_seq ?_
  refine rg_lit ?_
  refine pl_val (want_no rfl) (some 4) rfl (.string s) (fun _ => by kernel_rfl) ?_
  refine pl_val (want_no rfl) (some 5) rfl (.int .i64 (s.size : Int)) (fun _ => by kernel_rfl) ?_
  by_cases c0 : 1500 < (s.size : Int)
  · skip
    refine pl_val (want_no rfl) (some 6) rfl (.bool true) (fun w => Eq.trans (b := .ok (.value (.bool (decide (1500 < (s.size : Int))))) w) (by kernel_rfl) (by rw [decide_eq_true (c0)])) ?_
    refine pl_val (want_no rfl) (some 3) rfl (.bool true) (fun _ => by kernel_rfl) ?_
    refine pl_nil ?_
    refine au_then ?_
    refine wp_cond_true (by kernel_rfl) ?_
    refine wp_seq ?_
    refine rg_lit ?_
    refine pl_val (want_no rfl) (some 2) rfl (.int .i64 4) (fun _ => by kernel_rfl) ?_
    refine pl_nil ?_
    refine au_then ?_
    refine wp_ret ?_
    refine au_block_ret ?_
    refine au_then_ret ?_
    have e0 : (fF s) = 4 := by first | (simp only [fF, if_pos c0]; done) | simp [fF, c0]
    exact bodyPost_ret (v := .int .i64 4) (results_tmp1 Tryz.results39 _ _ _ (by kernel_rfl)) (by kernel_rfl) ⟨by rw [e0], below_grown M.old⟩
  · skip
    refine pl_val (want_no rfl) (some 6) rfl (.bool false) (fun w => Eq.trans (b := .ok (.value (.bool (decide (1500 < (s.size : Int))))) w) (by kernel_rfl) (by rw [decide_eq_false (c0)])) ?_
    refine pl_val (want_no rfl) (some 3) rfl (.bool false) (fun _ => by kernel_rfl) ?_
    refine pl_nil ?_
    refine au_then ?_
    refine wp_cond_false (by kernel_rfl) ?_
    refine wp_seq ?_
    refine rg_lit ?_
    refine pl_val (want_no rfl) (some 8) rfl (.string s) (fun _ => by kernel_rfl) ?_
    by_cases c1 : s = (⟨#[]⟩ : ByteArray)
    · skip
      refine pl_val (want_no rfl) (some 9) rfl (.bool true) (fun w => Eq.trans (b := .ok (.value (.bool (s.toList == (⟨#[]⟩ : ByteArray).toList))) w) (by kernel_rfl) (by rw [seq_pos c1])) ?_
      refine pl_val (want_no rfl) (some 7) rfl (.bool true) (fun _ => by kernel_rfl) ?_
      refine pl_nil ?_
      refine au_then ?_
      refine wp_cond_true (by kernel_rfl) ?_
      refine wp_seq ?_
      refine rg_lit ?_
      refine pl_val (want_no rfl) (some 2) rfl (.int .i64 7) (fun _ => by kernel_rfl) ?_
      refine pl_nil ?_
      refine au_then ?_
      refine wp_ret ?_
      refine au_block_ret ?_
      refine au_then_ret ?_
      have e0 : (fF s) = 7 := by first | (simp only [fF, if_neg c0, if_pos c1]; done) | simp [fF, c0, c1]
      exact bodyPost_ret (v := .int .i64 7) (results_tmp1 Tryz.results39 _ _ _ (by kernel_rfl)) (by kernel_rfl) ⟨by rw [e0], below_grown M.old⟩
    · skip
      refine pl_val (want_no rfl) (some 9) rfl (.bool false) (fun w => Eq.trans (b := .ok (.value (.bool (s.toList == (⟨#[]⟩ : ByteArray).toList))) w) (by kernel_rfl) (by rw [seq_neg c1])) ?_
      refine pl_val (want_no rfl) (some 7) rfl (.bool false) (fun _ => by kernel_rfl) ?_
      refine pl_nil ?_
      refine au_then ?_
      refine wp_cond_false (by kernel_rfl) ?_
      refine wp_seq ?_
      refine rg_lit ?_
      refine pl_val (want_no rfl) (some 11) rfl (.string s) (fun _ => by kernel_rfl) ?_
      refine pl_val (want_no rfl) (some 12) rfl (.int .u8 (bt s 0)) (run_ixS 9 Tryz.underlying9 _ _ rfl s (by kernel_rfl) .i64 0 (by kernel_rfl) (ne_size c1)) ?_
      refine pl_val (want_no rfl) (some 13) rfl (.int .u8 (sr (bt s 0) 4)) (fun _ => by kernel_rfl) ?_
      by_cases c2 : (sr (bt s 0) 4) = 4
      · skip
        refine pl_val (want_no rfl) (some 14) rfl (.bool false) (fun w => Eq.trans (b := .ok (.value (.bool (!(decide ((sr (bt s 0) 4) = 4))))) w) (by kernel_rfl) (by rw [decide_eq_true (c2)]; rfl)) ?_
        refine pl_val (want_no rfl) (some 15) rfl (.bool false) (fun _ => by kernel_rfl) ?_
        refine pl_skip (want_off 4 true rfl 15 rfl (by kernel_rfl)) (some 16) rfl ?_
        refine pl_skip (want_off 4 true rfl 15 rfl (by kernel_rfl)) (some 17) rfl ?_
        refine pl_skip (want_off 4 true rfl 15 rfl (by kernel_rfl)) (some 18) rfl ?_
        refine pl_skip (want_off 4 true rfl 15 rfl (by kernel_rfl)) (some 19) rfl ?_
        refine pl_val (want_no rfl) (some 20) rfl (.bool false) (fun _ => by kernel_rfl) ?_
        refine pl_val (want_no rfl) (some 10) rfl (.bool false) (fun _ => by kernel_rfl) ?_
        refine pl_nil ?_
        refine au_then ?_
        refine wp_cond_false (by kernel_rfl) ?_
        refine wp_skip ?_
        refine au_block ?_
        refine au_then ?_
        refine wp_seq ?_
        refine rg_lit ?_
        refine pl_val (want_no rfl) (some 2) rfl (.int .i64 0) (fun _ => by kernel_rfl) ?_
        refine pl_nil ?_
        refine au_then ?_
        refine wp_ret ?_
        have e0 : (fF s) = 0 := by first | (simp only [fF, if_neg c0, if_neg c1, if_pos c2]; done) | simp [fF, c0, c1, c2]
        exact bodyPost_ret (v := .int .i64 0) (results_tmp1 Tryz.results39 _ _ _ (by kernel_rfl)) (by kernel_rfl) ⟨by rw [e0], below_grown M.old⟩
      · skip
        refine pl_val (want_no rfl) (some 14) rfl (.bool true) (fun w => Eq.trans (b := .ok (.value (.bool (!(decide ((sr (bt s 0) 4) = 4))))) w) (by kernel_rfl) (by rw [decide_eq_false (c2)]; rfl)) ?_
        refine pl_val (want_no rfl) (some 15) rfl (.bool true) (fun _ => by kernel_rfl) ?_
        refine pl_val (want_on 4 true rfl 15 rfl (by kernel_rfl)) (some 16) rfl (.string s) (fun _ => by kernel_rfl) ?_
        refine pl_val (want_on 4 true rfl 15 rfl (by kernel_rfl)) (some 17) rfl (.int .u8 (bt s 0)) (run_ixS 9 Tryz.underlying9 _ _ rfl s (by kernel_rfl) .i64 0 (by kernel_rfl) (ne_size c1)) ?_
        refine pl_val (want_on 4 true rfl 15 rfl (by kernel_rfl)) (some 18) rfl (.int .u8 (sr (bt s 0) 4)) (fun _ => by kernel_rfl) ?_
        by_cases c3 : (sr (bt s 0) 4) = 6
        · skip
          refine pl_val (want_on 4 true rfl 15 rfl (by kernel_rfl)) (some 19) rfl (.bool false) (fun w => Eq.trans (b := .ok (.value (.bool (!(decide ((sr (bt s 0) 4) = 6))))) w) (by kernel_rfl) (by rw [decide_eq_true (c3)]; rfl)) ?_
          refine pl_val (want_no rfl) (some 20) rfl (.bool false) (fun _ => by kernel_rfl) ?_
          refine pl_val (want_no rfl) (some 10) rfl (.bool false) (fun _ => by kernel_rfl) ?_
          refine pl_nil ?_
          refine au_then ?_
          refine wp_cond_false (by kernel_rfl) ?_
          refine wp_skip ?_
          refine au_block ?_
          refine au_then ?_
          refine wp_seq ?_
          refine rg_lit ?_
          refine pl_val (want_no rfl) (some 2) rfl (.int .i64 0) (fun _ => by kernel_rfl) ?_
          refine pl_nil ?_
          refine au_then ?_
          refine wp_ret ?_
          have e0 : (fF s) = 0 := by first | (simp only [fF, if_neg c0, if_neg c1, if_neg c2, if_pos c3]; done) | simp [fF, c0, c1, c2, c3]
          exact bodyPost_ret (v := .int .i64 0) (results_tmp1 Tryz.results39 _ _ _ (by kernel_rfl)) (by kernel_rfl) ⟨by rw [e0], below_grown M.old⟩
        · skip
          refine pl_val (want_on 4 true rfl 15 rfl (by kernel_rfl)) (some 19) rfl (.bool true) (fun w => Eq.trans (b := .ok (.value (.bool (!(decide ((sr (bt s 0) 4) = 6))))) w) (by kernel_rfl) (by rw [decide_eq_false (c3)]; rfl)) ?_
          refine pl_val (want_no rfl) (some 20) rfl (.bool true) (fun _ => by kernel_rfl) ?_
          refine pl_val (want_no rfl) (some 10) rfl (.bool true) (fun _ => by kernel_rfl) ?_
          refine pl_nil ?_
          refine au_then ?_
          refine wp_cond_true (by kernel_rfl) ?_
          refine wp_seq ?_
          refine rg_lit ?_
          refine pl_val (want_no rfl) (some 2) rfl (.int .i64 130) (fun _ => by kernel_rfl) ?_
          refine pl_nil ?_
          refine au_then ?_
          refine wp_ret ?_
          refine au_block_ret ?_
          refine au_then_ret ?_
          have e0 : (fF s) = 130 := by first | (simp only [fF, if_neg c0, if_neg c1, if_neg c2, if_neg c3]; done) | simp [fF, c0, c1, c2, c3]
          exact bodyPost_ret (v := .int .i64 130) (results_tmp1 Tryz.results39 _ _ _ (by kernel_rfl)) (by kernel_rfl) ⟨by rw [e0], below_grown M.old⟩

set_option maxRecDepth 100000 in
set_option maxHeartbeats 4000000 in
set_option linter.unusedSimpArgs false in
theorem c_isExtra (p : Int) (w : World) (hL : Laid w)  :
    Calls Tryz.prog 83 #[.int .u8 p] w fun r w' => r = .returned (.bool (exB p)) ∧ Below w.heap.size w w' := by
  go_enter Tryz.func83, Tryz.ntmps83
  have M := Mem.start hL
  refine wp_seq ?_
  refine rg_lit ?_
  refine pl_val (want_no rfl) (some 2) rfl (.bool false) (fun _ => by kernel_rfl) ?_
  refine pl_nil ?_
  refine au_then ?_
  refine wp_seq ?_
  refine wp_seq ?_
  refine rg_lit ?_
  refine pl_val (want_no rfl) (some 3) rfl (.int .u8 p) (fun _ => by kernel_rfl) ?_
  refine pl_nil ?_
  refine au_then ?_
  refine wp_block ?_
  refine wp_seq ?_
  refine wp_seq ?_
  refine rg_lit ?_
  by_cases c0 : p = 0
  · skip
    refine pl_val (want_no rfl) (some 5) rfl (.bool true) (fun w => Eq.trans (b := .ok (.value (.bool (decide (p = 0)))) w) (by kernel_rfl) (by rw [decide_eq_true (c0)])) ?_
    refine pl_val (want_no rfl) (some 4) rfl (.bool true) (fun _ => by kernel_rfl) ?_
    refine pl_nil ?_
    refine au_then ?_
    refine wp_cond_true (by kernel_rfl) ?_
    refine wp_skip ?_
    refine au_then ?_
    refine wp_cond_true (by kernel_rfl) ?_
    refine wp_seq ?_
    refine rg_lit ?_
    refine pl_val (want_no rfl) (some 2) rfl (.bool true) (fun _ => by kernel_rfl) ?_
    refine pl_nil ?_
    refine au_then ?_
    refine wp_ret ?_
    refine au_block_ret ?_
    refine au_then_ret ?_
    have e0 : exB p = true := by simp [exB, c0]
    exact bodyPost_ret (v := .bool true) (results_tmp1 Tryz.results83 _ _ _ (by kernel_rfl)) (by kernel_rfl) ⟨by rw [e0], below_grown M.old⟩
  · skip
    refine pl_val (want_no rfl) (some 5) rfl (.bool false) (fun w => Eq.trans (b := .ok (.value (.bool (decide (p = 0)))) w) (by kernel_rfl) (by rw [decide_eq_false (c0)])) ?_
    refine pl_val (want_no rfl) (some 4) rfl (.bool false) (fun _ => by kernel_rfl) ?_
    refine pl_nil ?_
    refine au_then ?_
    refine wp_cond_false (by kernel_rfl) ?_
    refine wp_seq ?_
    refine rg_lit ?_
    by_cases c1 : p = 43
    · skip
      refine pl_val (want_no rfl) (some 6) rfl (.bool true) (fun w => Eq.trans (b := .ok (.value (.bool (decide (p = 43)))) w) (by kernel_rfl) (by rw [decide_eq_true (c1)])) ?_
      refine pl_val (want_no rfl) (some 4) rfl (.bool true) (fun _ => by kernel_rfl) ?_
      refine pl_nil ?_
      refine au_then ?_
      refine wp_cond_true (by kernel_rfl) ?_
      refine wp_skip ?_
      refine au_then ?_
      refine wp_cond_true (by kernel_rfl) ?_
      refine wp_seq ?_
      refine rg_lit ?_
      refine pl_val (want_no rfl) (some 2) rfl (.bool true) (fun _ => by kernel_rfl) ?_
      refine pl_nil ?_
      refine au_then ?_
      refine wp_ret ?_
      refine au_block_ret ?_
      refine au_then_ret ?_
      have e0 : exB p = true := by simp [exB, c0, c1]
      exact bodyPost_ret (v := .bool true) (results_tmp1 Tryz.results83 _ _ _ (by kernel_rfl)) (by kernel_rfl) ⟨by rw [e0], below_grown M.old⟩
    · skip
      refine pl_val (want_no rfl) (some 6) rfl (.bool false) (fun w => Eq.trans (b := .ok (.value (.bool (decide (p = 43)))) w) (by kernel_rfl) (by rw [decide_eq_false (c1)])) ?_
      refine pl_val (want_no rfl) (some 4) rfl (.bool false) (fun _ => by kernel_rfl) ?_
      refine pl_nil ?_
      refine au_then ?_
      refine wp_cond_false (by kernel_rfl) ?_
      refine wp_seq ?_
      refine rg_lit ?_
      by_cases c2 : p = 44
      · skip
        refine pl_val (want_no rfl) (some 7) rfl (.bool true) (fun w => Eq.trans (b := .ok (.value (.bool (decide (p = 44)))) w) (by kernel_rfl) (by rw [decide_eq_true (c2)])) ?_
        refine pl_val (want_no rfl) (some 4) rfl (.bool true) (fun _ => by kernel_rfl) ?_
        refine pl_nil ?_
        refine au_then ?_
        refine wp_cond_true (by kernel_rfl) ?_
        refine wp_skip ?_
        refine au_then ?_
        refine wp_cond_true (by kernel_rfl) ?_
        refine wp_seq ?_
        refine rg_lit ?_
        refine pl_val (want_no rfl) (some 2) rfl (.bool true) (fun _ => by kernel_rfl) ?_
        refine pl_nil ?_
        refine au_then ?_
        refine wp_ret ?_
        refine au_block_ret ?_
        refine au_then_ret ?_
        have e0 : exB p = true := by simp [exB, c0, c1, c2]
        exact bodyPost_ret (v := .bool true) (results_tmp1 Tryz.results83 _ _ _ (by kernel_rfl)) (by kernel_rfl) ⟨by rw [e0], below_grown M.old⟩
      · skip
        refine pl_val (want_no rfl) (some 7) rfl (.bool false) (fun w => Eq.trans (b := .ok (.value (.bool (decide (p = 44)))) w) (by kernel_rfl) (by rw [decide_eq_false (c2)])) ?_
        refine pl_val (want_no rfl) (some 4) rfl (.bool false) (fun _ => by kernel_rfl) ?_
        refine pl_nil ?_
        refine au_then ?_
        refine wp_cond_false (by kernel_rfl) ?_
        refine wp_seq ?_
        refine rg_lit ?_
        by_cases c3 : p = 50
        · skip
          refine pl_val (want_no rfl) (some 8) rfl (.bool true) (fun w => Eq.trans (b := .ok (.value (.bool (decide (p = 50)))) w) (by kernel_rfl) (by rw [decide_eq_true (c3)])) ?_
          refine pl_val (want_no rfl) (some 4) rfl (.bool true) (fun _ => by kernel_rfl) ?_
          refine pl_nil ?_
          refine au_then ?_
          refine wp_cond_true (by kernel_rfl) ?_
          refine wp_skip ?_
          refine au_then ?_
          refine wp_cond_true (by kernel_rfl) ?_
          refine wp_seq ?_
          refine rg_lit ?_
          refine pl_val (want_no rfl) (some 2) rfl (.bool true) (fun _ => by kernel_rfl) ?_
          refine pl_nil ?_
          refine au_then ?_
          refine wp_ret ?_
          refine au_block_ret ?_
          refine au_then_ret ?_
          have e0 : exB p = true := by simp [exB, c0, c1, c2, c3]
          exact bodyPost_ret (v := .bool true) (results_tmp1 Tryz.results83 _ _ _ (by kernel_rfl)) (by kernel_rfl) ⟨by rw [e0], below_grown M.old⟩
        · skip
          refine pl_val (want_no rfl) (some 8) rfl (.bool false) (fun w => Eq.trans (b := .ok (.value (.bool (decide (p = 50)))) w) (by kernel_rfl) (by rw [decide_eq_false (c3)])) ?_
          refine pl_val (want_no rfl) (some 4) rfl (.bool false) (fun _ => by kernel_rfl) ?_
          refine pl_nil ?_
          refine au_then ?_
          refine wp_cond_false (by kernel_rfl) ?_
          refine wp_seq ?_
          refine rg_lit ?_
          by_cases c4 : p = 51
          · skip
            refine pl_val (want_no rfl) (some 9) rfl (.bool true) (fun w => Eq.trans (b := .ok (.value (.bool (decide (p = 51)))) w) (by kernel_rfl) (by rw [decide_eq_true (c4)])) ?_
            refine pl_val (want_no rfl) (some 4) rfl (.bool true) (fun _ => by kernel_rfl) ?_
            refine pl_nil ?_
            refine au_then ?_
            refine wp_cond_true (by kernel_rfl) ?_
            refine wp_skip ?_
            refine au_then ?_
            refine wp_cond_true (by kernel_rfl) ?_
            refine wp_seq ?_
            refine rg_lit ?_
            refine pl_val (want_no rfl) (some 2) rfl (.bool true) (fun _ => by kernel_rfl) ?_
            refine pl_nil ?_
            refine au_then ?_
            refine wp_ret ?_
            refine au_block_ret ?_
            refine au_then_ret ?_
            have e0 : exB p = true := by simp [exB, c0, c1, c2, c3, c4]
            exact bodyPost_ret (v := .bool true) (results_tmp1 Tryz.results83 _ _ _ (by kernel_rfl)) (by kernel_rfl) ⟨by rw [e0], below_grown M.old⟩
          · skip
            refine pl_val (want_no rfl) (some 9) rfl (.bool false) (fun w => Eq.trans (b := .ok (.value (.bool (decide (p = 51)))) w) (by kernel_rfl) (by rw [decide_eq_false (c4)])) ?_
            refine pl_val (want_no rfl) (some 4) rfl (.bool false) (fun _ => by kernel_rfl) ?_
            refine pl_nil ?_
            refine au_then ?_
            refine wp_cond_false (by kernel_rfl) ?_
            refine rg_lit ?_
            by_cases c5 : p = 60
            · skip
              refine pl_val (want_no rfl) (some 10) rfl (.bool true) (fun w => Eq.trans (b := .ok (.value (.bool (decide (p = 60)))) w) (by kernel_rfl) (by rw [decide_eq_true (c5)])) ?_
              refine pl_val (want_no rfl) (some 4) rfl (.bool true) (fun _ => by kernel_rfl) ?_
              refine pl_nil ?_
              refine au_then ?_
              refine wp_cond_true (by kernel_rfl) ?_
              refine wp_seq ?_
              refine rg_lit ?_
              refine pl_val (want_no rfl) (some 2) rfl (.bool true) (fun _ => by kernel_rfl) ?_
              refine pl_nil ?_
              refine au_then ?_
              refine wp_ret ?_
              refine au_block_ret ?_
              refine au_then_ret ?_
              have e0 : exB p = true := by simp [exB, c0, c1, c2, c3, c4, c5]
              exact bodyPost_ret (v := .bool true) (results_tmp1 Tryz.results83 _ _ _ (by kernel_rfl)) (by kernel_rfl) ⟨by rw [e0], below_grown M.old⟩
            · skip
              refine pl_val (want_no rfl) (some 10) rfl (.bool false) (fun w => Eq.trans (b := .ok (.value (.bool (decide (p = 60)))) w) (by kernel_rfl) (by rw [decide_eq_false (c5)])) ?_
              refine pl_val (want_no rfl) (some 4) rfl (.bool false) (fun _ => by kernel_rfl) ?_
              refine pl_nil ?_
              refine au_then ?_
              refine wp_cond_false (by kernel_rfl) ?_
              refine wp_skip ?_
              refine au_block ?_
              refine au_then ?_
              refine wp_seq ?_
              refine rg_lit ?_
              refine pl_val (want_no rfl) (some 2) rfl (.bool false) (fun _ => by kernel_rfl) ?_
              refine pl_nil ?_
              refine au_then ?_
              refine wp_ret ?_
              have e0 : exB p = false := by simp [exB, c0, c1, c2, c3, c4, c5]
              exact bodyPost_ret (v := .bool false) (results_tmp1 Tryz.results83 _ _ _ (by kernel_rfl)) (by kernel_rfl) ⟨by rw [e0], below_grown M.old⟩

set_option maxRecDepth 100000 in
set_option maxHeartbeats 4000000 in
set_option linter.unusedSimpArgs false in
theorem c_pairAt (s : ByteArray) (k : Nat) (hk : k ≤ s.size) (w : World) (hL : Laid w)  :
    Calls Tryz.prog 84 #[.string s, .int .i64 (k : Int)] w fun r w' => r = .returned (.int .u16 (pA s k)) ∧ Below w.heap.size w w' := by
  go_enter Tryz.func84, Tryz.ntmps84
  have M := Mem.start hL
  refine wp_seq ?_
  refine rg_lit ?_
  refine pl_val (want_no rfl) (some 4) rfl (.int .u16 0) (fun _ => by kernel_rfl) ?_
  refine pl_nil ?_
  refine au_then ?_
  refine wp_seq ?_
  refine rg_lit ?_
  refine pl_val (want_no rfl) (some 5) rfl (.string s) (fun _ => by kernel_rfl) ?_
  refine pl_val (want_no rfl) (some 6) rfl (.int .i64 (k : Int)) (fun _ => by kernel_rfl) ?_
  refine pl_val (want_no rfl) (some 7) rfl (.string (s.extract k s.size)) (run_strl 9 Tryz.underlying9 _ _ rfl s (by kernel_rfl) .i64 k (by kernel_rfl) (by omega) _ rfl) ?_
  refine pl_calln M (want_no rfl) (some 8) rfl 63 #[.string (s.extract k s.size)] (fun g1 => .pointer (some ⟨g1, 0, none⟩)) (.cells (av 3 (ls [.bool true, .string (s.extract k s.size), .int .i64 0])) 108) (fun _ => by kernel_rfl) (fun w M => c_New (s.extract k s.size) w M.laid) ?_
  intro g1 u1 M
  replace M : Mem ⟨w, []⟩ [⟨g1, .cells (av 3 (ls [.bool true, .string (s.extract k s.size), .int .i64 0])) 108⟩] u1 := M
  refine pl_callp M (want_no rfl) (some 9) rfl 103 #[.pointer (some ⟨g1, 0, none⟩)] (.int .u16 (cv .u16 (bnv (tkV (s.extract k s.size) 0 2)))) 0 g1 (.cells (av 3 (ls [.bool true, .string (s.extract k s.size), .int .i64 0])) 108) (.cells (av 3 (ls [.bool true, .string (tkS (s.extract k s.size) 0 2), .int .i64 (tkF (s.extract k s.size) 0 2)])) 108) rfl (fun _ => by kernel_rfl) (fun w M => r_U16 g1 (s.extract k s.size) 0 w M.laid (M.get 0 rfl) (M.ne0 0 rfl)) ?_
  intro u2 M
  replace M : Mem ⟨w, []⟩ [⟨g1, .cells (av 3 (ls [.bool true, .string (tkS (s.extract k s.size) 0 2), .int .i64 (tkF (s.extract k s.size) 0 2)])) 108⟩] u2 := M
  refine pl_val (want_no rfl) (some 4) rfl (.int .u16 (cv .u16 (bnv (tkV (s.extract k s.size) 0 2)))) (fun _ => by kernel_rfl) ?_
  refine pl_nil ?_
  refine au_then ?_
  refine wp_ret ?_
  have e0 : (pA s k) = (cv .u16 (bnv (tkV (s.extract k s.size) 0 2))) := rfl
  exact bodyPost_ret (v := .int .u16 (cv .u16 (bnv (tkV (s.extract k s.size) 0 2)))) (results_tmp1 Tryz.results84 _ _ _ (by kernel_rfl)) (by kernel_rfl) ⟨by rw [e0], below_grown M.old⟩

set_option maxRecDepth 100000 in
set_option maxHeartbeats 4000000 in
set_option linter.unusedSimpArgs false in
theorem c_tellsT (s : ByteArray) (hz : 20 ≤ s.size) (hs : s.size ≤ 200000) (w : World) (hL : Laid w)  :
    Calls Tryz.prog 82 #[.string s, .agg (av 7 (ls [.int .u8 96, .int .i64 40, .int .i64 4, .int .i64 7, .int .i64 6, .int .i64 8, .int .i64 40]))] w fun r w' => r = .returned (.bool (decide ((40 + pA s 4) = (s.size : Int)))) ∧ Below w.heap.size w w' := by
  go_enter Tryz.func82, Tryz.ntmps82
  have M := Mem.start hL
  have hp := pA_nn s 4
  refine wp_seq ?_
  refine rg_lit ?_
  refine pl_new M (want_no rfl) (some 3) rfl (.cells (av 7 (ls [.int .u8 96, .int .i64 40, .int .i64 4, .int .i64 7, .int .i64 6, .int .i64 8, .int .i64 40])) 60) (fun _ => by kernel_rfl) ?_
  intro g1 u1 M
  replace M : Mem ⟨w, []⟩ [⟨g1, .cells (av 7 (ls [.int .u8 96, .int .i64 40, .int .i64 4, .int .i64 7, .int .i64 6, .int .i64 8, .int .i64 40])) 60⟩] u1 := M
  refine pl_val (want_no rfl) (some 4) rfl (.bool false) (fun _ => by kernel_rfl) ?_
  refine pl_nil ?_
  refine au_then ?_
  refine wp_seq ?_
  refine rg_tail M 11 (by kernel_rfl) (by kernel_rfl) ?_
  simp only [List.take_succ_cons, List.take_zero]
  refine k_val (want_no rfl) (some 5) rfl (.pointer (some ⟨g1, 6, none⟩)) (fun _ => by kernel_rfl) ?_
  refine k_cell M (want_no rfl) (some 6) rfl 3 _ rfl g1 6 (by kernel_rfl) (.int .i64 40) (fun _ => by kernel_rfl) (fun w M => M.cell 0 rfl (by decide) rfl) ?_
  refine k_val (want_no rfl) (some 7) rfl (.string s) (fun _ => by kernel_rfl) ?_
  refine k_val (want_no rfl) (some 8) rfl (.pointer (some ⟨g1, 2, none⟩)) (fun _ => by kernel_rfl) ?_
  refine k_cell M (want_no rfl) (some 9) rfl 3 _ rfl g1 2 (by kernel_rfl) (.int .i64 4) (fun _ => by kernel_rfl) (fun w M => M.cell 0 rfl (by decide) rfl) ?_
  refine k_call M (want_no rfl) (some 10) rfl 84 #[.string s, .int .i64 4] (.int .u16 (pA s 4)) (fun _ => by kernel_rfl) (fun w M => c_pairAt s 4 (by omega) w M.laid) ?_
  refine k_val (want_no rfl) (some 11) rfl (.int .i64 (pA s 4)) (fun w => Eq.trans (b := .ok (.value (.int .i64 (cv .i64 (pA s 4)))) w) (by kernel_rfl) (by rw [cv_i64 (by omega) (by omega)])) ?_
  refine k_val (want_no rfl) (some 12) rfl (.int .i64 (40 + (pA s 4))) (fun w => Eq.trans (b := .ok (.value (.int .i64 (IntKind.wrap .i64 (40 + (pA s 4))))) w) (by kernel_rfl) (by rw [wrap64 (by omega) (by omega)])) ?_
  refine k_val (want_no rfl) (some 13) rfl (.string s) (fun _ => by kernel_rfl) ?_
  refine k_val (want_no rfl) (some 14) rfl (.int .i64 (s.size : Int)) (fun _ => by kernel_rfl) ?_
  by_cases c0 : (40 + (pA s 4)) = (s.size : Int)
  · skip
    refine k_val (want_no rfl) (some 15) rfl (.bool true) (fun w => Eq.trans (b := .ok (.value (.bool (decide ((40 + (pA s 4)) = (s.size : Int))))) w) (by kernel_rfl) (by rw [decide_eq_true (c0)])) ?_
    refine kl_nil ?_
    intro u2 M
    replace M : Mem ⟨w, []⟩ [⟨g1, .cells (av 7 (ls [.int .u8 96, .int .i64 40, .int .i64 4, .int .i64 7, .int .i64 6, .int .i64 8, .int .i64 40])) 60⟩] u2 := M
    refine pl_val (want_no rfl) (some 4) rfl (.bool true) (fun _ => by kernel_rfl) ?_
    refine pl_nil ?_
    refine au_then ?_
    refine wp_ret ?_
    have e0 : decide ((40 + pA s 4) = (s.size : Int)) = true := decide_eq_true c0
    exact bodyPost_ret (v := .bool true) (results_tmp1 Tryz.results82 _ _ _ (by kernel_rfl)) (by kernel_rfl) ⟨by rw [e0], below_grown M.old⟩
  · skip
    refine k_val (want_no rfl) (some 15) rfl (.bool false) (fun w => Eq.trans (b := .ok (.value (.bool (decide ((40 + (pA s 4)) = (s.size : Int))))) w) (by kernel_rfl) (by rw [decide_eq_false (c0)])) ?_
    refine kl_nil ?_
    intro u2 M
    replace M : Mem ⟨w, []⟩ [⟨g1, .cells (av 7 (ls [.int .u8 96, .int .i64 40, .int .i64 4, .int .i64 7, .int .i64 6, .int .i64 8, .int .i64 40])) 60⟩] u2 := M
    refine pl_val (want_no rfl) (some 4) rfl (.bool false) (fun _ => by kernel_rfl) ?_
    refine pl_nil ?_
    refine au_then ?_
    refine wp_ret ?_
    have e0 : decide ((40 + pA s 4) = (s.size : Int)) = false := decide_eq_false c0
    exact bodyPost_ret (v := .bool false) (results_tmp1 Tryz.results82 _ _ _ (by kernel_rfl)) (by kernel_rfl) ⟨by rw [e0], below_grown M.old⟩

set_option maxRecDepth 100000 in
set_option maxHeartbeats 4000000 in
set_option linter.unusedSimpArgs false in
theorem c_tellsF (s : ByteArray) (hz : 20 ≤ s.size) (hs : s.size ≤ 200000) (w : World) (hL : Laid w)  :
    Calls Tryz.prog 82 #[.string s, .agg (av 7 (ls [.int .u8 69, .int .i64 20, .int .i64 2, .int .i64 8, .int .i64 9, .int .i64 12, .int .i64 0]))] w fun r w' => r = .returned (.bool (decide ((0 + pA s 2) = (s.size : Int)))) ∧ Below w.heap.size w w' := by
  go_enter Tryz.func82, Tryz.ntmps82
  have M := Mem.start hL
  have hp := pA_nn s 2
  refine wp_seq ?_
  refine rg_lit ?_
  refine pl_new M (want_no rfl) (some 3) rfl (.cells (av 7 (ls [.int .u8 69, .int .i64 20, .int .i64 2, .int .i64 8, .int .i64 9, .int .i64 12, .int .i64 0])) 60) (fun _ => by kernel_rfl) ?_
  intro g1 u1 M
  replace M : Mem ⟨w, []⟩ [⟨g1, .cells (av 7 (ls [.int .u8 69, .int .i64 20, .int .i64 2, .int .i64 8, .int .i64 9, .int .i64 12, .int .i64 0])) 60⟩] u1 := M
  refine pl_val (want_no rfl) (some 4) rfl (.bool false) (fun _ => by kernel_rfl) ?_
  refine pl_nil ?_
  refine au_then ?_
  refine wp_seq ?_
  refine rg_tail M 11 (by kernel_rfl) (by kernel_rfl) ?_
  simp only [List.take_succ_cons, List.take_zero]
  refine k_val (want_no rfl) (some 5) rfl (.pointer (some ⟨g1, 6, none⟩)) (fun _ => by kernel_rfl) ?_
  refine k_cell M (want_no rfl) (some 6) rfl 3 _ rfl g1 6 (by kernel_rfl) (.int .i64 0) (fun _ => by kernel_rfl) (fun w M => M.cell 0 rfl (by decide) rfl) ?_
  refine k_val (want_no rfl) (some 7) rfl (.string s) (fun _ => by kernel_rfl) ?_
  refine k_val (want_no rfl) (some 8) rfl (.pointer (some ⟨g1, 2, none⟩)) (fun _ => by kernel_rfl) ?_
  refine k_cell M (want_no rfl) (some 9) rfl 3 _ rfl g1 2 (by kernel_rfl) (.int .i64 2) (fun _ => by kernel_rfl) (fun w M => M.cell 0 rfl (by decide) rfl) ?_
  refine k_call M (want_no rfl) (some 10) rfl 84 #[.string s, .int .i64 2] (.int .u16 (pA s 2)) (fun _ => by kernel_rfl) (fun w M => c_pairAt s 2 (by omega) w M.laid) ?_
  refine k_val (want_no rfl) (some 11) rfl (.int .i64 (pA s 2)) (fun w => Eq.trans (b := .ok (.value (.int .i64 (cv .i64 (pA s 2)))) w) (by kernel_rfl) (by rw [cv_i64 (by omega) (by omega)])) ?_
  refine k_val (want_no rfl) (some 12) rfl (.int .i64 (0 + (pA s 2))) (fun w => Eq.trans (b := .ok (.value (.int .i64 (IntKind.wrap .i64 (0 + (pA s 2))))) w) (by kernel_rfl) (by rw [wrap64 (by omega) (by omega)])) ?_
  refine k_val (want_no rfl) (some 13) rfl (.string s) (fun _ => by kernel_rfl) ?_
  refine k_val (want_no rfl) (some 14) rfl (.int .i64 (s.size : Int)) (fun _ => by kernel_rfl) ?_
  by_cases c0 : (0 + (pA s 2)) = (s.size : Int)
  · skip
    refine k_val (want_no rfl) (some 15) rfl (.bool true) (fun w => Eq.trans (b := .ok (.value (.bool (decide ((0 + (pA s 2)) = (s.size : Int))))) w) (by kernel_rfl) (by rw [decide_eq_true (c0)])) ?_
    refine kl_nil ?_
    intro u2 M
    replace M : Mem ⟨w, []⟩ [⟨g1, .cells (av 7 (ls [.int .u8 69, .int .i64 20, .int .i64 2, .int .i64 8, .int .i64 9, .int .i64 12, .int .i64 0])) 60⟩] u2 := M
    refine pl_val (want_no rfl) (some 4) rfl (.bool true) (fun _ => by kernel_rfl) ?_
    refine pl_nil ?_
    refine au_then ?_
    refine wp_ret ?_
    have e0 : decide ((0 + pA s 2) = (s.size : Int)) = true := decide_eq_true c0
    exact bodyPost_ret (v := .bool true) (results_tmp1 Tryz.results82 _ _ _ (by kernel_rfl)) (by kernel_rfl) ⟨by rw [e0], below_grown M.old⟩
  · skip
    refine k_val (want_no rfl) (some 15) rfl (.bool false) (fun w => Eq.trans (b := .ok (.value (.bool (decide ((0 + (pA s 2)) = (s.size : Int))))) w) (by kernel_rfl) (by rw [decide_eq_false (c0)])) ?_
    refine kl_nil ?_
    intro u2 M
    replace M : Mem ⟨w, []⟩ [⟨g1, .cells (av 7 (ls [.int .u8 69, .int .i64 20, .int .i64 2, .int .i64 8, .int .i64 9, .int .i64 12, .int .i64 0])) 60⟩] u2 := M
    refine pl_val (want_no rfl) (some 4) rfl (.bool false) (fun _ => by kernel_rfl) ?_
    refine pl_nil ?_
    refine au_then ?_
    refine wp_ret ?_
    have e0 : decide ((0 + pA s 2) = (s.size : Int)) = false := decide_eq_false c0
    exact bodyPost_ret (v := .bool false) (results_tmp1 Tryz.results82 _ _ _ (by kernel_rfl)) (by kernel_rfl) ⟨by rw [e0], below_grown M.old⟩

set_option maxRecDepth 100000 in
set_option maxHeartbeats 4000000 in
set_option linter.unusedSimpArgs false in
theorem c_fault4 (s : ByteArray) (hs : s.size ≤ 200000) (w : World) (hL : Laid w)  :
    Calls Tryz.prog 62 #[.string s] w fun r w' => r = .returned (.int .i64 (fa4 s)) ∧ Below w.heap.size w w' := by
  go_enter Tryz.func62, Tryz.ntmps62
  have M := Mem.start hL
  refine wp_seq ?_
  refine rg_lit ?_
  refine pl_val (want_no rfl) (some 2) rfl (.int .i64 0) (fun _ => by kernel_rfl) ?_
  refine pl_nil ?_
  refine au_then ?_
  refine wp_seq ?_
  refine rg_lit ?_
  refine pl_call M (want_no rfl) (some 4) rfl 37 #[.bool false] (.agg (av 7 (ls [.int .u8 69, .int .i64 20, .int .i64 2, .int .i64 8, .int .i64 9, .int .i64 12, .int .i64 0]))) (fun _ => by kernel_rfl) (fun w M => c_layF w M.laid) ?_
  intro u1 M
  refine pl_new M (want_no rfl) (some 3) rfl (.cells (av 7 (ls [.int .u8 0, .int .i64 0, .int .i64 0, .int .i64 0, .int .i64 0, .int .i64 0, .int .i64 0])) 60) (fun _ => by kernel_rfl) ?_
  intro g1 u2 M
  replace M : Mem ⟨w, []⟩ [⟨g1, .cells (av 7 (ls [.int .u8 0, .int .i64 0, .int .i64 0, .int .i64 0, .int .i64 0, .int .i64 0, .int .i64 0])) 60⟩] u2 := M
  refine pl_put M (want_no rfl) rfl 60 _ _ rfl 0 g1 0 (by kernel_rfl) 7 60 (ls [.int .u8 0, .int .i64 0, .int .i64 0, .int .i64 0, .int .i64 0, .int .i64 0, .int .i64 0]) rfl 7 (ls [.int .u8 69, .int .i64 20, .int .i64 2, .int .i64 8, .int .i64 9, .int .i64 12, .int .i64 0]) (ls [.int .u8 69, .int .i64 20, .int .i64 2, .int .i64 8, .int .i64 9, .int .i64 12, .int .i64 0]) (by kernel_rfl) inz60 (by decide) (one_ls _ rfl) (fun j hj => by rw [if_pos (by omega), Nat.sub_zero]) ?_
  intro u3 M
  replace M : Mem ⟨w, []⟩ [⟨g1, .cells (av 7 (ls [.int .u8 69, .int .i64 20, .int .i64 2, .int .i64 8, .int .i64 9, .int .i64 12, .int .i64 0])) 60⟩] u3 := M
  refine pl_nil ?_
  refine au_then ?_
  refine wp_seq ?_
  refine wp_block ?_
  refine wp_seq ?_
  refine rg_lit ?_
  refine pl_val (want_no rfl) (some 6) rfl (.string s) (fun _ => by kernel_rfl) ?_
  refine pl_val (want_no rfl) (some 7) rfl (.int .i64 (s.size : Int)) (fun _ => by kernel_rfl) ?_
  refine pl_val (want_no rfl) (some 8) rfl (.pointer (some ⟨g1, 1, none⟩)) (fun _ => by kernel_rfl) ?_
  refine pl_cell M (want_no rfl) (some 9) rfl 3 _ rfl g1 1 (by kernel_rfl) (.int .i64 20) (fun _ => by kernel_rfl) (fun w M => M.cell 0 rfl (by decide) rfl) ?_
  by_cases c0 : (s.size : Int) < 20
  · skip
    refine pl_val (want_no rfl) (some 10) rfl (.bool true) (fun w => Eq.trans (b := .ok (.value (.bool (decide ((s.size : Int) < 20)))) w) (by kernel_rfl) (by rw [decide_eq_true (c0)])) ?_
    refine pl_val (want_no rfl) (some 5) rfl (.bool true) (fun _ => by kernel_rfl) ?_
    refine pl_nil ?_
    refine au_then ?_
    refine wp_cond_true (by kernel_rfl) ?_
    refine wp_seq ?_
    refine rg_lit ?_
    refine pl_val (want_no rfl) (some 2) rfl (.int .i64 7) (fun _ => by kernel_rfl) ?_
    refine pl_nil ?_
    refine au_then ?_
    refine wp_ret ?_
    refine au_block_ret ?_
    refine au_then_ret ?_
    have e0 : (fa4 s) = 7 := by first | (simp only [fa4, if_pos c0]; done) | simp [fa4, c0]
    exact bodyPost_ret (v := .int .i64 7) (results_tmp1 Tryz.results62 _ _ _ (by kernel_rfl)) (by kernel_rfl) ⟨by rw [e0], below_grown M.old⟩
  · skip
    refine pl_val (want_no rfl) (some 10) rfl (.bool false) (fun w => Eq.trans (b := .ok (.value (.bool (decide ((s.size : Int) < 20)))) w) (by kernel_rfl) (by rw [decide_eq_false (c0)])) ?_
    refine pl_val (want_no rfl) (some 5) rfl (.bool false) (fun _ => by kernel_rfl) ?_
    refine pl_nil ?_
    refine au_then ?_
    refine wp_cond_false (by kernel_rfl) ?_
    refine wp_seq ?_
    refine rg_tail M 5 (by kernel_rfl) (by kernel_rfl) ?_
    simp only [List.take_succ_cons, List.take_zero]
    refine k_val (want_no rfl) (some 12) rfl (.string s) (fun _ => by kernel_rfl) ?_
    refine k_val (want_no rfl) (some 13) rfl (.int .u8 (bt s 0)) (run_ixS 9 Tryz.underlying9 _ _ rfl s (by kernel_rfl) .i64 0 (by kernel_rfl) (by omega)) ?_
    refine k_val (want_no rfl) (some 14) rfl (.pointer (some ⟨g1, 0, none⟩)) (fun _ => by kernel_rfl) ?_
    refine k_cell M (want_no rfl) (some 15) rfl 5 _ rfl g1 0 (by kernel_rfl) (.int .u8 69) (fun _ => by kernel_rfl) (fun w M => M.cell 0 rfl (by decide) rfl) ?_
    by_cases c1 : (bt s 0) = 69
    · skip
      refine k_val (want_no rfl) (some 16) rfl (.bool false) (fun w => Eq.trans (b := .ok (.value (.bool (!(decide ((bt s 0) = 69))))) w) (by kernel_rfl) (by rw [decide_eq_true (c1)]; rfl)) ?_
      refine kl_nil ?_
      intro u4 M
      replace M : Mem ⟨w, []⟩ [⟨g1, .cells (av 7 (ls [.int .u8 69, .int .i64 20, .int .i64 2, .int .i64 8, .int .i64 9, .int .i64 12, .int .i64 0])) 60⟩] u4 := M
      refine pl_val (want_no rfl) (some 11) rfl (.bool false) (fun _ => by kernel_rfl) ?_
      refine pl_nil ?_
      refine au_then ?_
      refine wp_cond_false (by kernel_rfl) ?_
      refine wp_seq ?_
      refine rg_lit ?_
      refine pl_val (want_no rfl) (some 18) rfl (.string s) (fun _ => by kernel_rfl) ?_
      refine pl_load M (want_no rfl) (some 19) rfl 60 _ rfl 0 g1 0 (by kernel_rfl) 7 60 (ls [.int .u8 69, .int .i64 20, .int .i64 2, .int .i64 8, .int .i64 9, .int .i64 12, .int .i64 0]) rfl 7 (ls [.int .u8 69, .int .i64 20, .int .i64 2, .int .i64 8, .int .i64 9, .int .i64 12, .int .i64 0]) (fun j _ => by rw [Nat.zero_add]) (by decide) _ Tryz.underlying60 rfl inz60 ?_
      by_cases c2 : (0 + pA s 2) = (s.size : Int)
      · skip
        refine pl_call M (want_no rfl) (some 20) rfl 82 #[.string s, .agg (av 7 (ls [.int .u8 69, .int .i64 20, .int .i64 2, .int .i64 8, .int .i64 9, .int .i64 12, .int .i64 0]))] (.bool true) (fun _ => by kernel_rfl) (fun w M => call_val (c_tellsF s (by omega) (by omega) w M.laid) (congrArg Value.bool (decide_eq_true (c2)))) ?_
        intro u5 M
        refine pl_val (want_no rfl) (some 21) rfl (.bool false) (fun _ => by kernel_rfl) ?_
        refine pl_val (want_no rfl) (some 17) rfl (.bool false) (fun _ => by kernel_rfl) ?_
        refine pl_nil ?_
        refine au_then ?_
        refine wp_cond_false (by kernel_rfl) ?_
        refine wp_seq ?_
        refine rg_lit ?_
        refine pl_val (want_no rfl) (some 23) rfl (.string s) (fun _ => by kernel_rfl) ?_
        refine pl_val (want_no rfl) (some 24) rfl (.pointer (some ⟨g1, 1, none⟩)) (fun _ => by kernel_rfl) ?_
        refine pl_cell M (want_no rfl) (some 25) rfl 3 _ rfl g1 1 (by kernel_rfl) (.int .i64 20) (fun _ => by kernel_rfl) (fun w M => M.cell 0 rfl (by decide) rfl) ?_
        refine pl_val (want_no rfl) (some 26) rfl (.string (s.extract 0 20)) (run_strh 9 Tryz.underlying9 _ _ rfl s (by kernel_rfl) .i64 20 (by kernel_rfl) (by omega) _ rfl) ?_
        refine pl_call M (want_no rfl) (some 27) rfl 14 #[.string (s.extract 0 20)] (.int .u16 (sumS (s.extract 0 20))) (fun _ => by kernel_rfl) (fun w M => c_Sum (s.extract 0 20) (by rw [ByteArray.size_extract]; omega) w M.laid) ?_
        intro u6 M
        by_cases c3 : (sumS (s.extract 0 20)) = 0
        · skip
          refine pl_val (want_no rfl) (some 28) rfl (.bool false) (fun w => Eq.trans (b := .ok (.value (.bool (!(decide ((sumS (s.extract 0 20)) = 0))))) w) (by kernel_rfl) (by rw [decide_eq_true (c3)]; rfl)) ?_
          refine pl_val (want_no rfl) (some 22) rfl (.bool false) (fun _ => by kernel_rfl) ?_
          refine pl_nil ?_
          refine au_then ?_
          refine wp_cond_false (by kernel_rfl) ?_
          refine wp_seq ?_
          refine rg_lit ?_
          refine pl_val (want_no rfl) (some 30) rfl (.string s) (fun _ => by kernel_rfl) ?_
          refine pl_call M (want_no rfl) (some 31) rfl 84 #[.string s, .int .i64 6] (.int .u16 (pA s 6)) (fun _ => by kernel_rfl) (fun w M => c_pairAt s 6 (by omega) w M.laid) ?_
          intro u7 M
          refine pl_val (want_no rfl) (some 32) rfl (.int .u16 (yd (pA s 6) 16384)) (fun _ => by kernel_rfl) ?_
          by_cases c4 : (yd (pA s 6) 16384) = 0
          · skip
            refine pl_val (want_no rfl) (some 33) rfl (.bool false) (fun w => Eq.trans (b := .ok (.value (.bool (!(decide ((yd (pA s 6) 16384) = 0))))) w) (by kernel_rfl) (by rw [decide_eq_true (c4)]; rfl)) ?_
            refine pl_val (want_no rfl) (some 29) rfl (.bool false) (fun _ => by kernel_rfl) ?_
            refine pl_nil ?_
            refine au_then ?_
            refine wp_cond_false (by kernel_rfl) ?_
            refine wp_skip ?_
            refine au_block ?_
            refine au_then ?_
            refine wp_seq ?_
            refine rg_lit ?_
            refine pl_val (want_no rfl) (some 2) rfl (.int .i64 0) (fun _ => by kernel_rfl) ?_
            refine pl_nil ?_
            refine au_then ?_
            refine wp_ret ?_
            have e0 : (fa4 s) = 0 := by first | (simp only [fa4, if_neg c0, if_pos c1, if_pos c2, if_pos c3, if_pos c4]; done) | simp [fa4, c0, c1, c2, c3, c4]
            exact bodyPost_ret (v := .int .i64 0) (results_tmp1 Tryz.results62 _ _ _ (by kernel_rfl)) (by kernel_rfl) ⟨by rw [e0], below_grown M.old⟩
          · skip
            refine pl_val (want_no rfl) (some 33) rfl (.bool true) (fun w => Eq.trans (b := .ok (.value (.bool (!(decide ((yd (pA s 6) 16384) = 0))))) w) (by kernel_rfl) (by rw [decide_eq_false (c4)]; rfl)) ?_
            refine pl_val (want_no rfl) (some 29) rfl (.bool true) (fun _ => by kernel_rfl) ?_
            refine pl_nil ?_
            refine au_then ?_
            refine wp_cond_true (by kernel_rfl) ?_
            refine wp_seq ?_
            refine rg_lit ?_
            refine pl_val (want_no rfl) (some 2) rfl (.int .i64 132) (fun _ => by kernel_rfl) ?_
            refine pl_nil ?_
            refine au_then ?_
            refine wp_ret ?_
            refine au_block_ret ?_
            refine au_then_ret ?_
            have e0 : (fa4 s) = 132 := by first | (simp only [fa4, if_neg c0, if_pos c1, if_pos c2, if_pos c3, if_neg c4]; done) | simp [fa4, c0, c1, c2, c3, c4]
            exact bodyPost_ret (v := .int .i64 132) (results_tmp1 Tryz.results62 _ _ _ (by kernel_rfl)) (by kernel_rfl) ⟨by rw [e0], below_grown M.old⟩
        · skip
          refine pl_val (want_no rfl) (some 28) rfl (.bool true) (fun w => Eq.trans (b := .ok (.value (.bool (!(decide ((sumS (s.extract 0 20)) = 0))))) w) (by kernel_rfl) (by rw [decide_eq_false (c3)]; rfl)) ?_
          refine pl_val (want_no rfl) (some 22) rfl (.bool true) (fun _ => by kernel_rfl) ?_
          refine pl_nil ?_
          refine au_then ?_
          refine wp_cond_true (by kernel_rfl) ?_
          refine wp_seq ?_
          refine rg_lit ?_
          refine pl_val (want_no rfl) (some 2) rfl (.int .i64 131) (fun _ => by kernel_rfl) ?_
          refine pl_nil ?_
          refine au_then ?_
          refine wp_ret ?_
          refine au_block_ret ?_
          refine au_then_ret ?_
          have e0 : (fa4 s) = 131 := by first | (simp only [fa4, if_neg c0, if_pos c1, if_pos c2, if_neg c3]; done) | simp [fa4, c0, c1, c2, c3]
          exact bodyPost_ret (v := .int .i64 131) (results_tmp1 Tryz.results62 _ _ _ (by kernel_rfl)) (by kernel_rfl) ⟨by rw [e0], below_grown M.old⟩
      · skip
        refine pl_call M (want_no rfl) (some 20) rfl 82 #[.string s, .agg (av 7 (ls [.int .u8 69, .int .i64 20, .int .i64 2, .int .i64 8, .int .i64 9, .int .i64 12, .int .i64 0]))] (.bool false) (fun _ => by kernel_rfl) (fun w M => call_val (c_tellsF s (by omega) (by omega) w M.laid) (congrArg Value.bool (decide_eq_false (c2)))) ?_
        intro u5 M
        refine pl_val (want_no rfl) (some 21) rfl (.bool true) (fun _ => by kernel_rfl) ?_
        refine pl_val (want_no rfl) (some 17) rfl (.bool true) (fun _ => by kernel_rfl) ?_
        refine pl_nil ?_
        refine au_then ?_
        refine wp_cond_true (by kernel_rfl) ?_
        refine wp_seq ?_
        refine rg_lit ?_
        refine pl_val (want_no rfl) (some 2) rfl (.int .i64 8) (fun _ => by kernel_rfl) ?_
        refine pl_nil ?_
        refine au_then ?_
        refine wp_ret ?_
        refine au_block_ret ?_
        refine au_then_ret ?_
        have e0 : (fa4 s) = 8 := by first | (simp only [fa4, if_neg c0, if_pos c1, if_neg c2]; done) | simp [fa4, c0, c1, c2]
        exact bodyPost_ret (v := .int .i64 8) (results_tmp1 Tryz.results62 _ _ _ (by kernel_rfl)) (by kernel_rfl) ⟨by rw [e0], below_grown M.old⟩
    · skip
      refine k_val (want_no rfl) (some 16) rfl (.bool true) (fun w => Eq.trans (b := .ok (.value (.bool (!(decide ((bt s 0) = 69))))) w) (by kernel_rfl) (by rw [decide_eq_false (c1)]; rfl)) ?_
      refine kl_nil ?_
      intro u4 M
      replace M : Mem ⟨w, []⟩ [⟨g1, .cells (av 7 (ls [.int .u8 69, .int .i64 20, .int .i64 2, .int .i64 8, .int .i64 9, .int .i64 12, .int .i64 0])) 60⟩] u4 := M
      refine pl_val (want_no rfl) (some 11) rfl (.bool true) (fun _ => by kernel_rfl) ?_
      refine pl_nil ?_
      refine au_then ?_
      refine wp_cond_true (by kernel_rfl) ?_
      refine wp_seq ?_
      refine rg_lit ?_
      refine pl_val (want_no rfl) (some 2) rfl (.int .i64 133) (fun _ => by kernel_rfl) ?_
      refine pl_nil ?_
      refine au_then ?_
      refine wp_ret ?_
      refine au_block_ret ?_
      refine au_then_ret ?_
      have e0 : (fa4 s) = 133 := by first | (simp only [fa4, if_neg c0, if_neg c1]; done) | simp [fa4, c0, c1]
      exact bodyPost_ret (v := .int .i64 133) (results_tmp1 Tryz.results62 _ _ _ (by kernel_rfl)) (by kernel_rfl) ⟨by rw [e0], below_grown M.old⟩

set_option maxRecDepth 100000 in
set_option maxHeartbeats 4000000 in
set_option linter.unusedSimpArgs false in
theorem c_fault6 (s : ByteArray) (hs : s.size ≤ 200000) (w : World) (hL : Laid w)  :
    Calls Tryz.prog 61 #[.string s] w fun r w' => r = .returned (.int .i64 (fa6 s)) ∧ Below w.heap.size w w' := by
  go_enter Tryz.func61, Tryz.ntmps61
  have M := Mem.start hL
  refine wp_seq ?_
  refine rg_lit ?_
  refine pl_val (want_no rfl) (some 2) rfl (.int .i64 0) (fun _ => by kernel_rfl) ?_
  refine pl_nil ?_
  refine au_then ?_
  refine wp_seq ?_
  refine rg_lit ?_
  refine pl_call M (want_no rfl) (some 4) rfl 37 #[.bool true] (.agg (av 7 (ls [.int .u8 96, .int .i64 40, .int .i64 4, .int .i64 7, .int .i64 6, .int .i64 8, .int .i64 40]))) (fun _ => by kernel_rfl) (fun w M => c_layT w M.laid) ?_
  intro u1 M
  refine pl_new M (want_no rfl) (some 3) rfl (.cells (av 7 (ls [.int .u8 0, .int .i64 0, .int .i64 0, .int .i64 0, .int .i64 0, .int .i64 0, .int .i64 0])) 60) (fun _ => by kernel_rfl) ?_
  intro g1 u2 M
  replace M : Mem ⟨w, []⟩ [⟨g1, .cells (av 7 (ls [.int .u8 0, .int .i64 0, .int .i64 0, .int .i64 0, .int .i64 0, .int .i64 0, .int .i64 0])) 60⟩] u2 := M
  refine pl_put M (want_no rfl) rfl 60 _ _ rfl 0 g1 0 (by kernel_rfl) 7 60 (ls [.int .u8 0, .int .i64 0, .int .i64 0, .int .i64 0, .int .i64 0, .int .i64 0, .int .i64 0]) rfl 7 (ls [.int .u8 96, .int .i64 40, .int .i64 4, .int .i64 7, .int .i64 6, .int .i64 8, .int .i64 40]) (ls [.int .u8 96, .int .i64 40, .int .i64 4, .int .i64 7, .int .i64 6, .int .i64 8, .int .i64 40]) (by kernel_rfl) inz60 (by decide) (one_ls _ rfl) (fun j hj => by rw [if_pos (by omega), Nat.sub_zero]) ?_
  intro u3 M
  replace M : Mem ⟨w, []⟩ [⟨g1, .cells (av 7 (ls [.int .u8 96, .int .i64 40, .int .i64 4, .int .i64 7, .int .i64 6, .int .i64 8, .int .i64 40])) 60⟩] u3 := M
  refine pl_nil ?_
  refine au_then ?_
  refine wp_seq ?_
  refine wp_block ?_
  refine wp_seq ?_
  refine rg_lit ?_
  refine pl_val (want_no rfl) (some 6) rfl (.string s) (fun _ => by kernel_rfl) ?_
  refine pl_val (want_no rfl) (some 7) rfl (.int .i64 (s.size : Int)) (fun _ => by kernel_rfl) ?_
  refine pl_val (want_no rfl) (some 8) rfl (.pointer (some ⟨g1, 1, none⟩)) (fun _ => by kernel_rfl) ?_
  refine pl_cell M (want_no rfl) (some 9) rfl 3 _ rfl g1 1 (by kernel_rfl) (.int .i64 40) (fun _ => by kernel_rfl) (fun w M => M.cell 0 rfl (by decide) rfl) ?_
  by_cases c0 : (s.size : Int) < 40
  · skip
    refine pl_val (want_no rfl) (some 10) rfl (.bool true) (fun w => Eq.trans (b := .ok (.value (.bool (decide ((s.size : Int) < 40)))) w) (by kernel_rfl) (by rw [decide_eq_true (c0)])) ?_
    refine pl_val (want_no rfl) (some 5) rfl (.bool true) (fun _ => by kernel_rfl) ?_
    refine pl_nil ?_
    refine au_then ?_
    refine wp_cond_true (by kernel_rfl) ?_
    refine wp_seq ?_
    refine rg_lit ?_
    refine pl_val (want_no rfl) (some 2) rfl (.int .i64 7) (fun _ => by kernel_rfl) ?_
    refine pl_nil ?_
    refine au_then ?_
    refine wp_ret ?_
    refine au_block_ret ?_
    refine au_then_ret ?_
    have e0 : (fa6 s) = 7 := by unfold fa6; rw [if_pos c0]
    exact bodyPost_ret (v := .int .i64 7) (results_tmp1 Tryz.results61 _ _ _ (by kernel_rfl)) (by kernel_rfl) ⟨by rw [e0], below_grown M.old⟩
  · skip
    refine pl_val (want_no rfl) (some 10) rfl (.bool false) (fun w => Eq.trans (b := .ok (.value (.bool (decide ((s.size : Int) < 40)))) w) (by kernel_rfl) (by rw [decide_eq_false (c0)])) ?_
    refine pl_val (want_no rfl) (some 5) rfl (.bool false) (fun _ => by kernel_rfl) ?_
    refine pl_nil ?_
    refine au_then ?_
    refine wp_cond_false (by kernel_rfl) ?_
    refine wp_seq ?_
    refine rg_lit ?_
    refine pl_val (want_no rfl) (some 12) rfl (.string s) (fun _ => by kernel_rfl) ?_
    refine pl_load M (want_no rfl) (some 13) rfl 60 _ rfl 0 g1 0 (by kernel_rfl) 7 60 (ls [.int .u8 96, .int .i64 40, .int .i64 4, .int .i64 7, .int .i64 6, .int .i64 8, .int .i64 40]) rfl 7 (ls [.int .u8 96, .int .i64 40, .int .i64 4, .int .i64 7, .int .i64 6, .int .i64 8, .int .i64 40]) (fun j _ => by rw [Nat.zero_add]) (by decide) _ Tryz.underlying60 rfl inz60 ?_
    by_cases c1 : (40 + pA s 4) = (s.size : Int)
    · skip
      refine pl_call M (want_no rfl) (some 14) rfl 82 #[.string s, .agg (av 7 (ls [.int .u8 96, .int .i64 40, .int .i64 4, .int .i64 7, .int .i64 6, .int .i64 8, .int .i64 40]))] (.bool true) (fun _ => by kernel_rfl) (fun w M => call_val (c_tellsT s (by omega) (by omega) w M.laid) (congrArg Value.bool (decide_eq_true (c1)))) ?_
      intro u4 M
      refine pl_val (want_no rfl) (some 15) rfl (.bool false) (fun _ => by kernel_rfl) ?_
      refine pl_val (want_no rfl) (some 11) rfl (.bool false) (fun _ => by kernel_rfl) ?_
      refine pl_nil ?_
      refine au_then ?_
      refine wp_cond_false (by kernel_rfl) ?_
      refine wp_seq ?_
      refine rg_lit ?_
      refine pl_val (want_no rfl) (some 17) rfl (.string s) (fun _ => by kernel_rfl) ?_
      refine pl_val (want_no rfl) (some 18) rfl (.pointer (some ⟨g1, 4, none⟩)) (fun _ => by kernel_rfl) ?_
      refine pl_cell M (want_no rfl) (some 19) rfl 3 _ rfl g1 4 (by kernel_rfl) (.int .i64 6) (fun _ => by kernel_rfl) (fun w M => M.cell 0 rfl (by decide) rfl) ?_
      refine pl_val (want_no rfl) (some 20) rfl (.int .u8 (bt s 6)) (run_ixS 9 Tryz.underlying9 _ _ rfl s (by kernel_rfl) .i64 6 (by kernel_rfl) (by omega)) ?_
      rcases Bool.eq_false_or_eq_true (exB (bt s 6)) with c2 | c2
      · skip
        refine pl_call M (want_no rfl) (some 21) rfl 83 #[.int .u8 (bt s 6)] (.bool true) (fun _ => by kernel_rfl) (fun w M => call_val (c_isExtra (bt s 6) w M.laid) (congrArg Value.bool c2)) ?_
        intro u5 M
        refine pl_val (want_no rfl) (some 16) rfl (.bool true) (fun _ => by kernel_rfl) ?_
        refine pl_nil ?_
        refine au_then ?_
        refine wp_cond_true (by kernel_rfl) ?_
        refine wp_seq ?_
        refine rg_lit ?_
        refine pl_val (want_no rfl) (some 2) rfl (.int .i64 133) (fun _ => by kernel_rfl) ?_
        refine pl_nil ?_
        refine au_then ?_
        refine wp_ret ?_
        refine au_block_ret ?_
        refine au_then_ret ?_
        have e0 : (fa6 s) = 133 := by unfold fa6; rw [if_neg c0, if_pos c1, if_pos c2]
        exact bodyPost_ret (v := .int .i64 133) (results_tmp1 Tryz.results61 _ _ _ (by kernel_rfl)) (by kernel_rfl) ⟨by rw [e0], below_grown M.old⟩
      · skip
        refine pl_call M (want_no rfl) (some 21) rfl 83 #[.int .u8 (bt s 6)] (.bool false) (fun _ => by kernel_rfl) (fun w M => call_val (c_isExtra (bt s 6) w M.laid) (congrArg Value.bool c2)) ?_
        intro u5 M
        refine pl_val (want_no rfl) (some 16) rfl (.bool false) (fun _ => by kernel_rfl) ?_
        refine pl_nil ?_
        refine au_then ?_
        refine wp_cond_false (by kernel_rfl) ?_
        refine wp_skip ?_
        refine au_block ?_
        refine au_then ?_
        refine wp_seq ?_
        refine rg_lit ?_
        refine pl_val (want_no rfl) (some 2) rfl (.int .i64 0) (fun _ => by kernel_rfl) ?_
        refine pl_nil ?_
        refine au_then ?_
        refine wp_ret ?_
        have e0 : (fa6 s) = 0 := by unfold fa6; rw [if_neg c0, if_pos c1, if_neg (by rw [c2]; decide)]
        exact bodyPost_ret (v := .int .i64 0) (results_tmp1 Tryz.results61 _ _ _ (by kernel_rfl)) (by kernel_rfl) ⟨by rw [e0], below_grown M.old⟩
    · skip
      refine pl_call M (want_no rfl) (some 14) rfl 82 #[.string s, .agg (av 7 (ls [.int .u8 96, .int .i64 40, .int .i64 4, .int .i64 7, .int .i64 6, .int .i64 8, .int .i64 40]))] (.bool false) (fun _ => by kernel_rfl) (fun w M => call_val (c_tellsT s (by omega) (by omega) w M.laid) (congrArg Value.bool (decide_eq_false (c1)))) ?_
      intro u4 M
      refine pl_val (want_no rfl) (some 15) rfl (.bool true) (fun _ => by kernel_rfl) ?_
      refine pl_val (want_no rfl) (some 11) rfl (.bool true) (fun _ => by kernel_rfl) ?_
      refine pl_nil ?_
      refine au_then ?_
      refine wp_cond_true (by kernel_rfl) ?_
      refine wp_seq ?_
      refine rg_lit ?_
      refine pl_val (want_no rfl) (some 2) rfl (.int .i64 8) (fun _ => by kernel_rfl) ?_
      refine pl_nil ?_
      refine au_then ?_
      refine wp_ret ?_
      refine au_block_ret ?_
      refine au_then_ret ?_
      have e0 : (fa6 s) = 8 := by unfold fa6; rw [if_neg c0, if_neg c1]
      exact bodyPost_ret (v := .int .i64 8) (results_tmp1 Tryz.results61 _ _ _ (by kernel_rfl)) (by kernel_rfl) ⟨by rw [e0], below_grown M.old⟩

set_option maxRecDepth 100000 in
set_option maxHeartbeats 4000000 in
set_option linter.unusedSimpArgs false in
theorem c_header (s : ByteArray) (hz : 0 < s.size) (hs : s.size ≤ 200000) (w : World) (hL : Laid w)  :
    Calls Tryz.prog 40 #[.string s] w fun r w' => r = .returned (.int .i64 (hFa s)) ∧ Below w.heap.size w w' := by
  go_enter Tryz.func40, Tryz.ntmps40
  have M := Mem.start hL
  refine wp_seq ?_
  refine rg_lit ?_
  refine pl_val (want_no rfl) (some 2) rfl (.int .i64 0) (fun _ => by kernel_rfl) ?_
  refine pl_nil ?_
  refine au_then ?_
  refine wp_seq ?_
  refine wp_seq ?_
  refine rg_lit ?_
  refine pl_val (want_no rfl) (some 3) rfl (.string s) (fun _ => by kernel_rfl) ?_
  by_cases c0 : (sr (bt s 0) 4) = 6
  · skip
    refine pl_call M (want_no rfl) (some 4) rfl 60 #[.string s] (.bool true) (fun _ => by kernel_rfl) (fun w M => call_val (c_isSix s (by omega) w M.laid) (congrArg Value.bool (decide_eq_true (c0)))) ?_
    intro u1 M
    refine pl_nil ?_
    refine au_then ?_
    refine wp_cond_true (by kernel_rfl) ?_
    refine wp_seq ?_
    refine rg_lit ?_
    refine pl_val (want_no rfl) (some 5) rfl (.string s) (fun _ => by kernel_rfl) ?_
    refine pl_call M (want_no rfl) (some 6) rfl 61 #[.string s] (.int .i64 (fa6 s)) (fun _ => by kernel_rfl) (fun w M => c_fault6 s hs w M.laid) ?_
    intro u2 M
    refine pl_val (want_no rfl) (some 2) rfl (.int .i64 (fa6 s)) (fun _ => by kernel_rfl) ?_
    refine pl_nil ?_
    refine au_then ?_
    refine wp_ret ?_
    refine au_then_ret ?_
    have e0 : (hFa s) = (fa6 s) := by first | (simp only [hFa, if_pos c0]; done) | simp [hFa, c0]
    exact bodyPost_ret (v := .int .i64 (fa6 s)) (results_tmp1 Tryz.results40 _ _ _ (by kernel_rfl)) (by kernel_rfl) ⟨by rw [e0], below_grown M.old⟩
  · skip
    refine pl_call M (want_no rfl) (some 4) rfl 60 #[.string s] (.bool false) (fun _ => by kernel_rfl) (fun w M => call_val (c_isSix s (by omega) w M.laid) (congrArg Value.bool (decide_eq_false (c0)))) ?_
    intro u1 M
    refine pl_nil ?_
    refine au_then ?_
    refine wp_cond_false (by kernel_rfl) ?_
    refine wp_skip ?_
    refine au_then ?_
    refine wp_seq ?_
    refine rg_lit ?_
    refine pl_val (want_no rfl) (some 7) rfl (.string s) (fun _ => by kernel_rfl) ?_
    refine pl_call M (want_no rfl) (some 8) rfl 62 #[.string s] (.int .i64 (fa4 s)) (fun _ => by kernel_rfl) (fun w M => c_fault4 s hs w M.laid) ?_
    intro u2 M
    refine pl_val (want_no rfl) (some 2) rfl (.int .i64 (fa4 s)) (fun _ => by kernel_rfl) ?_
    refine pl_nil ?_
    refine au_then ?_
    refine wp_ret ?_
    have e0 : (hFa s) = (fa4 s) := by first | (simp only [hFa, if_neg c0]; done) | simp [hFa, c0]
    exact bodyPost_ret (v := .int .i64 (fa4 s)) (results_tmp1 Tryz.results40 _ _ _ (by kernel_rfl)) (by kernel_rfl) ⟨by rw [e0], below_grown M.old⟩

set_option maxRecDepth 100000 in
set_option maxHeartbeats 4000000 in
set_option linter.unusedSimpArgs false in
theorem c_readT (g : Nat) (s : ByteArray) (f : Int) (w : World) (hL : Laid w)  (hg : w.heap[g]? = some (.cells (av 3 (ls [.bool true, .string s, .int .i64 f])) 108)) (h0 : 8 ≤ g) :
    Calls Tryz.prog 64 #[.pointer (some ⟨g, 0, none⟩), .bool true] w fun r w' => r = .returned (.agg (av 3 (ls [.bool true, .int .u64 (bnv (tkV s f 8)), .int .u64 (bnv (tkV (tkS s f 8) (tkF s f 8) 8))]))) ∧ Grw w w' [g] ∧ w'.heap[g]? = some (.cells (av 3 (ls [.bool true, .string (tkS (tkS s f 8) (tkF s f 8) 8), .int .i64 (tkF (tkS s f 8) (tkF s f 8) 8)])) 108) := by
  go_enter Tryz.func64, Tryz.ntmps64
  have M := Mem.startp hL hg h0
  refine wp_seq ?_
  refine rg_lit ?_
  refine pl_new M (want_no rfl) (some 4) rfl (.cells (av 3 (ls [.bool false, .int .u64 0, .int .u64 0])) 24) (fun _ => by kernel_rfl) ?_
  intro g1 u1 M
  replace M : Mem ⟨w, [g]⟩ [⟨g, .cells (av 3 (ls [.bool true, .string s, .int .i64 f])) 108⟩, ⟨g1, .cells (av 3 (ls [.bool false, .int .u64 0, .int .u64 0])) 24⟩] u1 := M
  refine pl_nil ?_
  refine au_then ?_
  refine wp_seq ?_
  refine wp_seq ?_
  refine rg_lit ?_
  refine pl_val (want_no rfl) (some 6) rfl (.bool true) (fun _ => by kernel_rfl) ?_
  refine pl_val (want_no rfl) (some 7) rfl (.bool false) (fun _ => by kernel_rfl) ?_
  refine pl_nil ?_
  refine au_then ?_
  refine wp_cond_false (by kernel_rfl) ?_
  refine wp_skip ?_
  refine au_then ?_
  refine wp_seq ?_
  refine rg_lit ?_
  refine pl_val (want_no rfl) (some 12) rfl (.pointer (some ⟨g, 0, none⟩)) (fun _ => by kernel_rfl) ?_
  refine pl_callp M (want_no rfl) (some 13) rfl 86 #[.pointer (some ⟨g, 0, none⟩)] (.int .u64 (bnv (tkV s f 8))) 0 g (.cells (av 3 (ls [.bool true, .string s, .int .i64 f])) 108) (.cells (av 3 (ls [.bool true, .string (tkS s f 8), .int .i64 (tkF s f 8)])) 108) rfl (fun _ => by kernel_rfl) (fun w M => r_U64 g s f w M.laid (M.get 0 rfl) (M.ne0 0 rfl)) ?_
  intro u2 M
  replace M : Mem ⟨w, [g]⟩ [⟨g, .cells (av 3 (ls [.bool true, .string (tkS s f 8), .int .i64 (tkF s f 8)])) 108⟩, ⟨g1, .cells (av 3 (ls [.bool false, .int .u64 0, .int .u64 0])) 24⟩] u2 := M
  refine pl_val (want_no rfl) (some 5) rfl (.int .u64 (bnv (tkV s f 8))) (fun _ => by kernel_rfl) ?_
  refine pl_nil ?_
  refine au_then ?_
  refine wp_seq ?_
  refine rg_lit ?_
  refine pl_val (want_no rfl) (some 14) rfl (.int .u64 (bnv (tkV s f 8))) (fun _ => by kernel_rfl) ?_
  refine pl_val (want_no rfl) (some 15) rfl (.pointer (some ⟨g, 0, none⟩)) (fun _ => by kernel_rfl) ?_
  refine pl_callp M (want_no rfl) (some 16) rfl 86 #[.pointer (some ⟨g, 0, none⟩)] (.int .u64 (bnv (tkV (tkS s f 8) (tkF s f 8) 8))) 0 g (.cells (av 3 (ls [.bool true, .string (tkS s f 8), .int .i64 (tkF s f 8)])) 108) (.cells (av 3 (ls [.bool true, .string (tkS (tkS s f 8) (tkF s f 8) 8), .int .i64 (tkF (tkS s f 8) (tkF s f 8) 8)])) 108) rfl (fun _ => by kernel_rfl) (fun w M => r_U64 g (tkS s f 8) (tkF s f 8) w M.laid (M.get 0 rfl) (M.ne0 0 rfl)) ?_
  intro u3 M
  replace M : Mem ⟨w, [g]⟩ [⟨g, .cells (av 3 (ls [.bool true, .string (tkS (tkS s f 8) (tkF s f 8) 8), .int .i64 (tkF (tkS s f 8) (tkF s f 8) 8)])) 108⟩, ⟨g1, .cells (av 3 (ls [.bool false, .int .u64 0, .int .u64 0])) 24⟩] u3 := M
  refine pl_val (want_no rfl) (some 17) rfl (.agg (av 3 (ls [.bool true, .int .u64 (bnv (tkV s f 8)), .int .u64 (bnv (tkV (tkS s f 8) (tkF s f 8) 8))]))) (fun _ => by kernel_rfl) ?_
  refine pl_put M (want_no rfl) rfl 24 _ _ rfl 1 g1 0 (by kernel_rfl) 3 24 (ls [.bool false, .int .u64 0, .int .u64 0]) rfl 3 (ls [.bool true, .int .u64 (bnv (tkV s f 8)), .int .u64 (bnv (tkV (tkS s f 8) (tkF s f 8) 8))]) (ls [.bool true, .int .u64 (bnv (tkV s f 8)), .int .u64 (bnv (tkV (tkS s f 8) (tkF s f 8) 8))]) (by kernel_rfl) inz24 (by decide) (one_ls _ rfl) (fun j hj => by rw [if_pos (by omega), Nat.sub_zero]) ?_
  intro u4 M
  replace M : Mem ⟨w, [g]⟩ [⟨g, .cells (av 3 (ls [.bool true, .string (tkS (tkS s f 8) (tkF s f 8) 8), .int .i64 (tkF (tkS s f 8) (tkF s f 8) 8)])) 108⟩, ⟨g1, .cells (av 3 (ls [.bool true, .int .u64 (bnv (tkV s f 8)), .int .u64 (bnv (tkV (tkS s f 8) (tkF s f 8) 8))])) 24⟩] u4 := M
  refine pl_nil ?_
  refine au_then ?_
  refine wp_ret ?_
  exact bodyPost_ret (v := .agg (av 3 (ls [.bool true, .int .u64 (bnv (tkV s f 8)), .int .u64 (bnv (tkV (tkS s f 8) (tkF s f 8) 8))]))) (results_cell_row Tryz.results64 _ _ g1 24 (av 3 (ls [.bool true, .int .u64 (bnv (tkV s f 8)), .int .u64 (bnv (tkV (tkS s f 8) (tkF s f 8) 8))])) (0, 0) _ (by kernel_rfl) (M.get 1 rfl) Tryz.underlying24 rfl (by rw [av_size]; exact inz24)) (by kernel_rfl) ⟨rfl, M.old, M.get 0 rfl⟩

set_option maxRecDepth 100000 in
set_option maxHeartbeats 4000000 in
set_option linter.unusedSimpArgs false in
theorem c_readF (g : Nat) (s : ByteArray) (f : Int) (w : World) (hL : Laid w)  (hg : w.heap[g]? = some (.cells (av 3 (ls [.bool true, .string s, .int .i64 f])) 108)) (h0 : 8 ≤ g) :
    Calls Tryz.prog 64 #[.pointer (some ⟨g, 0, none⟩), .bool false] w fun r w' => r = .returned (.agg (av 3 (ls [.bool false, .int .u64 0, .int .u64 (cv .u64 (cv .u32 (bnv (tkV s f 4))))]))) ∧ Grw w w' [g] ∧ w'.heap[g]? = some (.cells (av 3 (ls [.bool true, .string (tkS s f 4), .int .i64 (tkF s f 4)])) 108) := by
  go_enter Tryz.func64, Tryz.ntmps64
  have M := Mem.startp hL hg h0
  refine wp_seq ?_
  refine rg_lit ?_
  refine pl_new M (want_no rfl) (some 4) rfl (.cells (av 3 (ls [.bool false, .int .u64 0, .int .u64 0])) 24) (fun _ => by kernel_rfl) ?_
  intro g1 u1 M
  replace M : Mem ⟨w, [g]⟩ [⟨g, .cells (av 3 (ls [.bool true, .string s, .int .i64 f])) 108⟩, ⟨g1, .cells (av 3 (ls [.bool false, .int .u64 0, .int .u64 0])) 24⟩] u1 := M
  refine pl_nil ?_
  refine au_then ?_
  refine wp_seq ?_
  refine wp_seq ?_
  refine rg_lit ?_
  refine pl_val (want_no rfl) (some 6) rfl (.bool false) (fun _ => by kernel_rfl) ?_
  refine pl_val (want_no rfl) (some 7) rfl (.bool true) (fun _ => by kernel_rfl) ?_
  refine pl_nil ?_
  refine au_then ?_
  refine wp_cond_true (by kernel_rfl) ?_
  refine wp_seq ?_
  refine rg_lit ?_
  refine pl_val (want_no rfl) (some 8) rfl (.pointer (some ⟨g, 0, none⟩)) (fun _ => by kernel_rfl) ?_
  refine pl_callp M (want_no rfl) (some 9) rfl 85 #[.pointer (some ⟨g, 0, none⟩)] (.int .u32 (cv .u32 (bnv (tkV s f 4)))) 0 g (.cells (av 3 (ls [.bool true, .string s, .int .i64 f])) 108) (.cells (av 3 (ls [.bool true, .string (tkS s f 4), .int .i64 (tkF s f 4)])) 108) rfl (fun _ => by kernel_rfl) (fun w M => r_U32 g s f w M.laid (M.get 0 rfl) (M.ne0 0 rfl)) ?_
  intro u2 M
  replace M : Mem ⟨w, [g]⟩ [⟨g, .cells (av 3 (ls [.bool true, .string (tkS s f 4), .int .i64 (tkF s f 4)])) 108⟩, ⟨g1, .cells (av 3 (ls [.bool false, .int .u64 0, .int .u64 0])) 24⟩] u2 := M
  refine pl_val (want_no rfl) (some 10) rfl (.int .u64 (cv .u64 (cv .u32 (bnv (tkV s f 4))))) (fun _ => by kernel_rfl) ?_
  refine pl_val (want_no rfl) (some 11) rfl (.agg (av 3 (ls [.bool false, .int .u64 0, .int .u64 (cv .u64 (cv .u32 (bnv (tkV s f 4))))]))) (fun _ => by kernel_rfl) ?_
  refine pl_put M (want_no rfl) rfl 24 _ _ rfl 1 g1 0 (by kernel_rfl) 3 24 (ls [.bool false, .int .u64 0, .int .u64 0]) rfl 3 (ls [.bool false, .int .u64 0, .int .u64 (cv .u64 (cv .u32 (bnv (tkV s f 4))))]) (ls [.bool false, .int .u64 0, .int .u64 (cv .u64 (cv .u32 (bnv (tkV s f 4))))]) (by kernel_rfl) inz24 (by decide) (one_ls _ rfl) (fun j hj => by rw [if_pos (by omega), Nat.sub_zero]) ?_
  intro u3 M
  replace M : Mem ⟨w, [g]⟩ [⟨g, .cells (av 3 (ls [.bool true, .string (tkS s f 4), .int .i64 (tkF s f 4)])) 108⟩, ⟨g1, .cells (av 3 (ls [.bool false, .int .u64 0, .int .u64 (cv .u64 (cv .u32 (bnv (tkV s f 4))))])) 24⟩] u3 := M
  refine pl_nil ?_
  refine au_then ?_
  refine wp_ret ?_
  refine au_then_ret ?_
  exact bodyPost_ret (v := .agg (av 3 (ls [.bool false, .int .u64 0, .int .u64 (cv .u64 (cv .u32 (bnv (tkV s f 4))))]))) (results_cell_row Tryz.results64 _ _ g1 24 (av 3 (ls [.bool false, .int .u64 0, .int .u64 (cv .u64 (cv .u32 (bnv (tkV s f 4))))])) (0, 0) _ (by kernel_rfl) (M.get 1 rfl) Tryz.underlying24 rfl (by rw [av_size]; exact inz24)) (by kernel_rfl) ⟨rfl, M.old, M.get 0 rfl⟩

def q6H0 (s : ByteArray) : Int := bnv (tkV (s.extract 8 s.size) 0 8)
def q6L0 (s : ByteArray) : Int := bnv (tkV (tkS (s.extract 8 s.size) 0 8) (tkF (s.extract 8 s.size) 0 8) 8)
def q6H1 (s : ByteArray) : Int := bnv (tkV (tkS (tkS (s.extract 8 s.size) 0 8) (tkF (s.extract 8 s.size) 0 8) 8) (tkF (tkS (s.extract 8 s.size) 0 8) (tkF (s.extract 8 s.size) 0 8) 8) 8)
def q6L1 (s : ByteArray) : Int := bnv (tkV (tkS (tkS (tkS (s.extract 8 s.size) 0 8) (tkF (s.extract 8 s.size) 0 8) 8) (tkF (tkS (s.extract 8 s.size) 0 8) (tkF (s.extract 8 s.size) 0 8) 8) 8) (tkF (tkS (tkS (s.extract 8 s.size) 0 8) (tkF (s.extract 8 s.size) 0 8) 8) (tkF (tkS (s.extract 8 s.size) 0 8) (tkF (s.extract 8 s.size) 0 8) 8) 8) 8)
def q6D (s : ByteArray) : ByteArray := (tkV (tkS (tkS (tkS (tkS (s.extract 8 s.size) 0 8) (tkF (s.extract 8 s.size) 0 8) 8) (tkF (tkS (s.extract 8 s.size) 0 8) (tkF (s.extract 8 s.size) 0 8) 8) 8) (tkF (tkS (tkS (s.extract 8 s.size) 0 8) (tkF (s.extract 8 s.size) 0 8) 8) (tkF (tkS (s.extract 8 s.size) 0 8) (tkF (s.extract 8 s.size) 0 8) 8) 8) 8) (tkF (tkS (tkS (tkS (s.extract 8 s.size) 0 8) (tkF (s.extract 8 s.size) 0 8) 8) (tkF (tkS (s.extract 8 s.size) 0 8) (tkF (s.extract 8 s.size) 0 8) 8) 8) (tkF (tkS (tkS (s.extract 8 s.size) 0 8) (tkF (s.extract 8 s.size) 0 8) 8) (tkF (tkS (s.extract 8 s.size) 0 8) (tkF (s.extract 8 s.size) 0 8) 8) 8) 8) ((tkS (tkS (tkS (tkS (s.extract 8 s.size) 0 8) (tkF (s.extract 8 s.size) 0 8) 8) (tkF (tkS (s.extract 8 s.size) 0 8) (tkF (s.extract 8 s.size) 0 8) 8) 8) (tkF (tkS (tkS (s.extract 8 s.size) 0 8) (tkF (s.extract 8 s.size) 0 8) 8) (tkF (tkS (s.extract 8 s.size) 0 8) (tkF (s.extract 8 s.size) 0 8) 8) 8) 8).size : Int))
def q4L0 (s : ByteArray) : Int := cv .u64 (cv .u32 (bnv (tkV (s.extract 12 s.size) 0 4)))
def q4L1 (s : ByteArray) : Int := cv .u64 (cv .u32 (bnv (tkV (tkS (s.extract 12 s.size) 0 4) (tkF (s.extract 12 s.size) 0 4) 4)))
def q4D (s : ByteArray) : ByteArray := (tkV (tkS (tkS (s.extract 12 s.size) 0 4) (tkF (s.extract 12 s.size) 0 4) 4) (tkF (tkS (s.extract 12 s.size) 0 4) (tkF (s.extract 12 s.size) 0 4) 4) ((tkS (tkS (s.extract 12 s.size) 0 4) (tkF (s.extract 12 s.size) 0 4) 4).size : Int))
set_option maxRecDepth 100000 in
set_option maxHeartbeats 4000000 in
set_option linter.unusedSimpArgs false in
theorem c_packT (s : ByteArray) (h6 : (sr (bt s 0) 4) = 6) (hz : 40 ≤ s.size) (w : World) (hL : Laid w)  :
    Calls Tryz.prog 41 #[.string s] w fun r w' => r = .returned (.agg (av 9 (ls [.bool true, .int .u64 (q6H0 s), .int .u64 (q6L0 s), .bool true, .int .u64 (q6H1 s), .int .u64 (q6L1 s), .int .u8 (bt s 6), .int .u8 (bt s 7), .string (q6D s)]))) ∧ Below w.heap.size w w' := by
  go_enter Tryz.func41, Tryz.ntmps41
  have M := Mem.start hL
  refine wp_seq ?_
  refine rg_lit ?_
  refine pl_new M (want_no rfl) (some 2) rfl (.cells (av 9 (ls [.bool false, .int .u64 0, .int .u64 0, .bool false, .int .u64 0, .int .u64 0, .int .u8 0, .int .u8 0, .string ⟨#[]⟩])) 26) (fun _ => by kernel_rfl) ?_
  intro g1 u1 M
  replace M : Mem ⟨w, []⟩ [⟨g1, .cells (av 9 (ls [.bool false, .int .u64 0, .int .u64 0, .bool false, .int .u64 0, .int .u64 0, .int .u8 0, .int .u8 0, .string ⟨#[]⟩])) 26⟩] u1 := M
  refine pl_nil ?_
  refine au_then ?_
  refine wp_seq ?_
  refine rg_lit ?_
  refine pl_val (want_no rfl) (some 7) rfl (.string s) (fun _ => by kernel_rfl) ?_
  refine pl_call M (want_no rfl) (some 8) rfl 60 #[.string s] (.bool true) (fun _ => by kernel_rfl) (fun w M => call_val (c_isSix s (by omega) w M.laid) (congrArg Value.bool (decide_eq_true (h6)))) ?_
  intro u2 M
  refine pl_val (want_no rfl) (some 3) rfl (.bool true) (fun _ => by kernel_rfl) ?_
  refine pl_nil ?_
  refine au_then ?_
  refine wp_seq ?_
  refine rg_lit ?_
  refine pl_val (want_no rfl) (some 9) rfl (.bool true) (fun _ => by kernel_rfl) ?_
  refine pl_call M (want_no rfl) (some 10) rfl 37 #[.bool true] (.agg (av 7 (ls [.int .u8 96, .int .i64 40, .int .i64 4, .int .i64 7, .int .i64 6, .int .i64 8, .int .i64 40]))) (fun _ => by kernel_rfl) (fun w M => c_layT w M.laid) ?_
  intro u3 M
  refine pl_new M (want_no rfl) (some 4) rfl (.cells (av 7 (ls [.int .u8 0, .int .i64 0, .int .i64 0, .int .i64 0, .int .i64 0, .int .i64 0, .int .i64 0])) 60) (fun _ => by kernel_rfl) ?_
  intro g2 u4 M
  replace M : Mem ⟨w, []⟩ [⟨g1, .cells (av 9 (ls [.bool false, .int .u64 0, .int .u64 0, .bool false, .int .u64 0, .int .u64 0, .int .u8 0, .int .u8 0, .string ⟨#[]⟩])) 26⟩, ⟨g2, .cells (av 7 (ls [.int .u8 0, .int .i64 0, .int .i64 0, .int .i64 0, .int .i64 0, .int .i64 0, .int .i64 0])) 60⟩] u4 := M
  refine pl_put M (want_no rfl) rfl 60 _ _ rfl 1 g2 0 (by kernel_rfl) 7 60 (ls [.int .u8 0, .int .i64 0, .int .i64 0, .int .i64 0, .int .i64 0, .int .i64 0, .int .i64 0]) rfl 7 (ls [.int .u8 96, .int .i64 40, .int .i64 4, .int .i64 7, .int .i64 6, .int .i64 8, .int .i64 40]) (ls [.int .u8 96, .int .i64 40, .int .i64 4, .int .i64 7, .int .i64 6, .int .i64 8, .int .i64 40]) (by kernel_rfl) inz60 (by decide) (one_ls _ rfl) (fun j hj => by rw [if_pos (by omega), Nat.sub_zero]) ?_
  intro u5 M
  replace M : Mem ⟨w, []⟩ [⟨g1, .cells (av 9 (ls [.bool false, .int .u64 0, .int .u64 0, .bool false, .int .u64 0, .int .u64 0, .int .u8 0, .int .u8 0, .string ⟨#[]⟩])) 26⟩, ⟨g2, .cells (av 7 (ls [.int .u8 96, .int .i64 40, .int .i64 4, .int .i64 7, .int .i64 6, .int .i64 8, .int .i64 40])) 60⟩] u5 := M
  refine pl_nil ?_
  refine au_then ?_
  refine wp_seq ?_
  refine rg_lit ?_
  refine pl_val (want_no rfl) (some 11) rfl (.string s) (fun _ => by kernel_rfl) ?_
  refine pl_val (want_no rfl) (some 12) rfl (.pointer (some ⟨g2, 5, none⟩)) (fun _ => by kernel_rfl) ?_
  refine pl_cell M (want_no rfl) (some 13) rfl 3 _ rfl g2 5 (by kernel_rfl) (.int .i64 8) (fun _ => by kernel_rfl) (fun w M => M.cell 1 rfl (by decide) rfl) ?_
  refine pl_val (want_no rfl) (some 14) rfl (.string (s.extract 8 s.size)) (run_strl 9 Tryz.underlying9 _ _ rfl s (by kernel_rfl) .i64 8 (by kernel_rfl) (by omega) _ rfl) ?_
  refine pl_calln M (want_no rfl) (some 15) rfl 63 #[.string (s.extract 8 s.size)] (fun g3 => .pointer (some ⟨g3, 0, none⟩)) (.cells (av 3 (ls [.bool true, .string (s.extract 8 s.size), .int .i64 0])) 108) (fun _ => by kernel_rfl) (fun w M => c_New (s.extract 8 s.size) w M.laid) ?_
  intro g3 u6 M
  replace M : Mem ⟨w, []⟩ [⟨g1, .cells (av 9 (ls [.bool false, .int .u64 0, .int .u64 0, .bool false, .int .u64 0, .int .u64 0, .int .u8 0, .int .u8 0, .string ⟨#[]⟩])) 26⟩, ⟨g2, .cells (av 7 (ls [.int .u8 96, .int .i64 40, .int .i64 4, .int .i64 7, .int .i64 6, .int .i64 8, .int .i64 40])) 60⟩, ⟨g3, .cells (av 3 (ls [.bool true, .string (s.extract 8 s.size), .int .i64 0])) 108⟩] u6 := M
  refine pl_val (want_no rfl) (some 5) rfl (.pointer (some ⟨g3, 0, none⟩)) (fun _ => by kernel_rfl) ?_
  refine pl_nil ?_
  refine au_then ?_
  refine wp_seq ?_
  refine rg_held M [⟨g1, .cells (av 9 (ls [.bool false, .int .u64 0, .int .u64 0, .bool false, .int .u64 0, .int .u64 0, .int .u8 0, .int .u8 0, .string ⟨#[]⟩])) 26⟩, ⟨g2, .cells (av 7 (ls [.int .u8 96, .int .i64 40, .int .i64 4, .int .i64 7, .int .i64 6, .int .i64 8, .int .i64 40])) 60⟩, ⟨g3, .cells (av 3 (ls [.bool true, .string (s.extract 8 s.size), .int .i64 0])) 108⟩] 10 rfl (by kernel_rfl) (by kernel_rfl) (fun _ _ d _ _ h => by cases d <;> exact h) ?_
  intro u7 M
  replace M : Mem ⟨w, []⟩ [⟨g1, .cells (av 9 (ls [.bool false, .int .u64 0, .int .u64 0, .bool false, .int .u64 0, .int .u64 0, .int .u8 0, .int .u8 0, .string ⟨#[]⟩])) 26⟩, ⟨g2, .cells (av 7 (ls [.int .u8 96, .int .i64 40, .int .i64 4, .int .i64 7, .int .i64 6, .int .i64 8, .int .i64 40])) 60⟩, ⟨g3, .cells (av 3 (ls [.bool true, .string (s.extract 8 s.size), .int .i64 0])) 108⟩] u7 := M
  refine hl_val M 0 rfl (by decide) (by kernel_rfl) (by kernel_rfl) (want_no rfl) (some 16) rfl (.string s) (fun _ _ => by kernel_rfl) ?_
  refine hl_val M 1 rfl (by decide) (by kernel_rfl) (by kernel_rfl) (want_no rfl) (some 17) rfl (.pointer (some ⟨g2, 4, none⟩)) (fun _ _ => by kernel_rfl) ?_
  refine hl_cell M 2 rfl (by decide) (by kernel_rfl) (by kernel_rfl) (want_no rfl) (some 18) rfl 3 _ rfl g2 4 (by kernel_rfl) (.int .i64 6) (fun _ => by kernel_rfl) (fun w M => M.cell 1 rfl (by decide) rfl) ?_
  refine hl_val M 3 rfl (by decide) (by kernel_rfl) (by kernel_rfl) (want_no rfl) (some 19) rfl (.int .u8 (bt s 6)) (fun w _ => (run_ixS 9 Tryz.underlying9 _ _ rfl s (by kernel_rfl) .i64 6 (by kernel_rfl) (by omega)) w) ?_
  refine hl_val M 4 rfl (by decide) (by kernel_rfl) (by kernel_rfl) (want_no rfl) (some 20) rfl (.string s) (fun _ _ => by kernel_rfl) ?_
  refine hl_val M 5 rfl (by decide) (by kernel_rfl) (by kernel_rfl) (want_no rfl) (some 21) rfl (.pointer (some ⟨g2, 3, none⟩)) (fun _ _ => by kernel_rfl) ?_
  refine hl_cell M 6 rfl (by decide) (by kernel_rfl) (by kernel_rfl) (want_no rfl) (some 22) rfl 3 _ rfl g2 3 (by kernel_rfl) (.int .i64 7) (fun _ => by kernel_rfl) (fun w M => M.cell 1 rfl (by decide) rfl) ?_
  refine hl_val M 7 rfl (by decide) (by kernel_rfl) (by kernel_rfl) (want_no rfl) (some 23) rfl (.int .u8 (bt s 7)) (fun w _ => (run_ixS 9 Tryz.underlying9 _ _ rfl s (by kernel_rfl) .i64 7 (by kernel_rfl) (by omega)) w) ?_
  refine hl_val M 8 rfl (by decide) (by kernel_rfl) (by kernel_rfl) (want_no rfl) (some 24) rfl (.agg (av 9 (ls [.bool false, .int .u64 0, .int .u64 0, .bool false, .int .u64 0, .int .u64 0, .int .u8 (bt s 6), .int .u8 (bt s 7), .string ⟨#[]⟩]))) (fun _ _ => by kernel_rfl) ?_
  refine hl_one 9 (by decide) (by kernel_rfl) rfl ?_
  refine pl_new M (want_no rfl) (some 6) rfl (.cells (av 9 (ls [.bool false, .int .u64 0, .int .u64 0, .bool false, .int .u64 0, .int .u64 0, .int .u8 0, .int .u8 0, .string ⟨#[]⟩])) 26) (fun _ => by kernel_rfl) ?_
  intro g4 u8 M
  replace M : Mem ⟨w, []⟩ [⟨g1, .cells (av 9 (ls [.bool false, .int .u64 0, .int .u64 0, .bool false, .int .u64 0, .int .u64 0, .int .u8 0, .int .u8 0, .string ⟨#[]⟩])) 26⟩, ⟨g2, .cells (av 7 (ls [.int .u8 96, .int .i64 40, .int .i64 4, .int .i64 7, .int .i64 6, .int .i64 8, .int .i64 40])) 60⟩, ⟨g3, .cells (av 3 (ls [.bool true, .string (s.extract 8 s.size), .int .i64 0])) 108⟩, ⟨g4, .cells (av 9 (ls [.bool false, .int .u64 0, .int .u64 0, .bool false, .int .u64 0, .int .u64 0, .int .u8 0, .int .u8 0, .string ⟨#[]⟩])) 26⟩] u8 := M
  refine pl_nil ?_
  refine au_then ?_
  refine ⟨(M.drop (.cons_cons _ (.cons_cons _ (.cons_cons _ (.cons _ (.slnil)))))), ?_⟩
  refine hl_end (by kernel_rfl) (by kernel_rfl) rfl ?_
  refine pl_put M (want_no rfl) rfl 26 _ _ rfl 3 g4 0 (by kernel_rfl) 9 26 (ls [.bool false, .int .u64 0, .int .u64 0, .bool false, .int .u64 0, .int .u64 0, .int .u8 0, .int .u8 0, .string ⟨#[]⟩]) rfl 9 (ls [.bool false, .int .u64 0, .int .u64 0, .bool false, .int .u64 0, .int .u64 0, .int .u8 (bt s 6), .int .u8 (bt s 7), .string ⟨#[]⟩]) (ls [.bool false, .int .u64 0, .int .u64 0, .bool false, .int .u64 0, .int .u64 0, .int .u8 (bt s 6), .int .u8 (bt s 7), .string ⟨#[]⟩]) (by kernel_rfl) inz26 (by decide) (one_ls _ rfl) (fun j hj => by rw [if_pos (by omega), Nat.sub_zero]) ?_
  intro u9 M
  replace M : Mem ⟨w, []⟩ [⟨g1, .cells (av 9 (ls [.bool false, .int .u64 0, .int .u64 0, .bool false, .int .u64 0, .int .u64 0, .int .u8 0, .int .u8 0, .string ⟨#[]⟩])) 26⟩, ⟨g2, .cells (av 7 (ls [.int .u8 96, .int .i64 40, .int .i64 4, .int .i64 7, .int .i64 6, .int .i64 8, .int .i64 40])) 60⟩, ⟨g3, .cells (av 3 (ls [.bool true, .string (s.extract 8 s.size), .int .i64 0])) 108⟩, ⟨g4, .cells (av 9 (ls [.bool false, .int .u64 0, .int .u64 0, .bool false, .int .u64 0, .int .u64 0, .int .u8 (bt s 6), .int .u8 (bt s 7), .string ⟨#[]⟩])) 26⟩] u9 := M
  refine pl_nil ?_
  refine au_then ?_
  refine au_then ?_
  refine wp_seq ?_
  refine rg_lit ?_
  refine pl_val (want_no rfl) (some 25) rfl (.pointer (some ⟨g3, 0, none⟩)) (fun _ => by kernel_rfl) ?_
  refine pl_val (want_no rfl) (some 26) rfl (.bool true) (fun _ => by kernel_rfl) ?_
  refine pl_callp M (want_no rfl) (some 27) rfl 64 #[.pointer (some ⟨g3, 0, none⟩), .bool true] (.agg (av 3 (ls [.bool true, .int .u64 (bnv (tkV (s.extract 8 s.size) 0 8)), .int .u64 (bnv (tkV (tkS (s.extract 8 s.size) 0 8) (tkF (s.extract 8 s.size) 0 8) 8))]))) 2 g3 (.cells (av 3 (ls [.bool true, .string (s.extract 8 s.size), .int .i64 0])) 108) (.cells (av 3 (ls [.bool true, .string (tkS (tkS (s.extract 8 s.size) 0 8) (tkF (s.extract 8 s.size) 0 8) 8), .int .i64 (tkF (tkS (s.extract 8 s.size) 0 8) (tkF (s.extract 8 s.size) 0 8) 8)])) 108) rfl (fun _ => by kernel_rfl) (fun w M => c_readT g3 (s.extract 8 s.size) 0 w M.laid (M.get 2 rfl) (M.ne0 2 rfl)) ?_
  intro u10 M
  replace M : Mem ⟨w, []⟩ [⟨g1, .cells (av 9 (ls [.bool false, .int .u64 0, .int .u64 0, .bool false, .int .u64 0, .int .u64 0, .int .u8 0, .int .u8 0, .string ⟨#[]⟩])) 26⟩, ⟨g2, .cells (av 7 (ls [.int .u8 96, .int .i64 40, .int .i64 4, .int .i64 7, .int .i64 6, .int .i64 8, .int .i64 40])) 60⟩, ⟨g3, .cells (av 3 (ls [.bool true, .string (tkS (tkS (s.extract 8 s.size) 0 8) (tkF (s.extract 8 s.size) 0 8) 8), .int .i64 (tkF (tkS (s.extract 8 s.size) 0 8) (tkF (s.extract 8 s.size) 0 8) 8)])) 108⟩, ⟨g4, .cells (av 9 (ls [.bool false, .int .u64 0, .int .u64 0, .bool false, .int .u64 0, .int .u64 0, .int .u8 (bt s 6), .int .u8 (bt s 7), .string ⟨#[]⟩])) 26⟩] u10 := M
  refine pl_val (want_no rfl) (some 28) rfl (.pointer (some ⟨g4, 0, none⟩)) (fun _ => by kernel_rfl) ?_
  refine pl_put M (want_no rfl) rfl 24 _ _ rfl 3 g4 0 (by kernel_rfl) 9 26 (ls [.bool false, .int .u64 0, .int .u64 0, .bool false, .int .u64 0, .int .u64 0, .int .u8 (bt s 6), .int .u8 (bt s 7), .string ⟨#[]⟩]) rfl 3 (ls [.bool true, .int .u64 (bnv (tkV (s.extract 8 s.size) 0 8)), .int .u64 (bnv (tkV (tkS (s.extract 8 s.size) 0 8) (tkF (s.extract 8 s.size) 0 8) 8))]) (ls [.bool true, .int .u64 (bnv (tkV (s.extract 8 s.size) 0 8)), .int .u64 (bnv (tkV (tkS (s.extract 8 s.size) 0 8) (tkF (s.extract 8 s.size) 0 8) 8)), .bool false, .int .u64 0, .int .u64 0, .int .u8 (bt s 6), .int .u8 (bt s 7), .string ⟨#[]⟩]) (by kernel_rfl) inz24 (by decide) (one_ls _ rfl) (putp_ls ([.bool false, .int .u64 0, .int .u64 0, .bool false, .int .u64 0, .int .u64 0, .int .u8 (bt s 6), .int .u8 (bt s 7), .string ⟨#[]⟩] : List Value) ([.bool true, .int .u64 (bnv (tkV (s.extract 8 s.size) 0 8)), .int .u64 (bnv (tkV (tkS (s.extract 8 s.size) 0 8) (tkF (s.extract 8 s.size) 0 8) 8))] : List Value) 0 _ rfl ⟨Nat.le_of_ble_eq_true rfl, Nat.le_of_ble_eq_true rfl⟩) ?_
  intro u11 M
  replace M : Mem ⟨w, []⟩ [⟨g1, .cells (av 9 (ls [.bool false, .int .u64 0, .int .u64 0, .bool false, .int .u64 0, .int .u64 0, .int .u8 0, .int .u8 0, .string ⟨#[]⟩])) 26⟩, ⟨g2, .cells (av 7 (ls [.int .u8 96, .int .i64 40, .int .i64 4, .int .i64 7, .int .i64 6, .int .i64 8, .int .i64 40])) 60⟩, ⟨g3, .cells (av 3 (ls [.bool true, .string (tkS (tkS (s.extract 8 s.size) 0 8) (tkF (s.extract 8 s.size) 0 8) 8), .int .i64 (tkF (tkS (s.extract 8 s.size) 0 8) (tkF (s.extract 8 s.size) 0 8) 8)])) 108⟩, ⟨g4, .cells (av 9 (ls [.bool true, .int .u64 (bnv (tkV (s.extract 8 s.size) 0 8)), .int .u64 (bnv (tkV (tkS (s.extract 8 s.size) 0 8) (tkF (s.extract 8 s.size) 0 8) 8)), .bool false, .int .u64 0, .int .u64 0, .int .u8 (bt s 6), .int .u8 (bt s 7), .string ⟨#[]⟩])) 26⟩] u11 := M
  refine pl_nil ?_
  refine au_then ?_
  refine wp_seq ?_
  refine rg_lit ?_
  refine pl_val (want_no rfl) (some 29) rfl (.pointer (some ⟨g3, 0, none⟩)) (fun _ => by kernel_rfl) ?_
  refine pl_val (want_no rfl) (some 30) rfl (.bool true) (fun _ => by kernel_rfl) ?_
  refine pl_callp M (want_no rfl) (some 31) rfl 64 #[.pointer (some ⟨g3, 0, none⟩), .bool true] (.agg (av 3 (ls [.bool true, .int .u64 (bnv (tkV (tkS (tkS (s.extract 8 s.size) 0 8) (tkF (s.extract 8 s.size) 0 8) 8) (tkF (tkS (s.extract 8 s.size) 0 8) (tkF (s.extract 8 s.size) 0 8) 8) 8)), .int .u64 (bnv (tkV (tkS (tkS (tkS (s.extract 8 s.size) 0 8) (tkF (s.extract 8 s.size) 0 8) 8) (tkF (tkS (s.extract 8 s.size) 0 8) (tkF (s.extract 8 s.size) 0 8) 8) 8) (tkF (tkS (tkS (s.extract 8 s.size) 0 8) (tkF (s.extract 8 s.size) 0 8) 8) (tkF (tkS (s.extract 8 s.size) 0 8) (tkF (s.extract 8 s.size) 0 8) 8) 8) 8))]))) 2 g3 (.cells (av 3 (ls [.bool true, .string (tkS (tkS (s.extract 8 s.size) 0 8) (tkF (s.extract 8 s.size) 0 8) 8), .int .i64 (tkF (tkS (s.extract 8 s.size) 0 8) (tkF (s.extract 8 s.size) 0 8) 8)])) 108) (.cells (av 3 (ls [.bool true, .string (tkS (tkS (tkS (tkS (s.extract 8 s.size) 0 8) (tkF (s.extract 8 s.size) 0 8) 8) (tkF (tkS (s.extract 8 s.size) 0 8) (tkF (s.extract 8 s.size) 0 8) 8) 8) (tkF (tkS (tkS (s.extract 8 s.size) 0 8) (tkF (s.extract 8 s.size) 0 8) 8) (tkF (tkS (s.extract 8 s.size) 0 8) (tkF (s.extract 8 s.size) 0 8) 8) 8) 8), .int .i64 (tkF (tkS (tkS (tkS (s.extract 8 s.size) 0 8) (tkF (s.extract 8 s.size) 0 8) 8) (tkF (tkS (s.extract 8 s.size) 0 8) (tkF (s.extract 8 s.size) 0 8) 8) 8) (tkF (tkS (tkS (s.extract 8 s.size) 0 8) (tkF (s.extract 8 s.size) 0 8) 8) (tkF (tkS (s.extract 8 s.size) 0 8) (tkF (s.extract 8 s.size) 0 8) 8) 8) 8)])) 108) rfl (fun _ => by kernel_rfl) (fun w M => c_readT g3 (tkS (tkS (s.extract 8 s.size) 0 8) (tkF (s.extract 8 s.size) 0 8) 8) (tkF (tkS (s.extract 8 s.size) 0 8) (tkF (s.extract 8 s.size) 0 8) 8) w M.laid (M.get 2 rfl) (M.ne0 2 rfl)) ?_
  intro u12 M
  replace M : Mem ⟨w, []⟩ [⟨g1, .cells (av 9 (ls [.bool false, .int .u64 0, .int .u64 0, .bool false, .int .u64 0, .int .u64 0, .int .u8 0, .int .u8 0, .string ⟨#[]⟩])) 26⟩, ⟨g2, .cells (av 7 (ls [.int .u8 96, .int .i64 40, .int .i64 4, .int .i64 7, .int .i64 6, .int .i64 8, .int .i64 40])) 60⟩, ⟨g3, .cells (av 3 (ls [.bool true, .string (tkS (tkS (tkS (tkS (s.extract 8 s.size) 0 8) (tkF (s.extract 8 s.size) 0 8) 8) (tkF (tkS (s.extract 8 s.size) 0 8) (tkF (s.extract 8 s.size) 0 8) 8) 8) (tkF (tkS (tkS (s.extract 8 s.size) 0 8) (tkF (s.extract 8 s.size) 0 8) 8) (tkF (tkS (s.extract 8 s.size) 0 8) (tkF (s.extract 8 s.size) 0 8) 8) 8) 8), .int .i64 (tkF (tkS (tkS (tkS (s.extract 8 s.size) 0 8) (tkF (s.extract 8 s.size) 0 8) 8) (tkF (tkS (s.extract 8 s.size) 0 8) (tkF (s.extract 8 s.size) 0 8) 8) 8) (tkF (tkS (tkS (s.extract 8 s.size) 0 8) (tkF (s.extract 8 s.size) 0 8) 8) (tkF (tkS (s.extract 8 s.size) 0 8) (tkF (s.extract 8 s.size) 0 8) 8) 8) 8)])) 108⟩, ⟨g4, .cells (av 9 (ls [.bool true, .int .u64 (bnv (tkV (s.extract 8 s.size) 0 8)), .int .u64 (bnv (tkV (tkS (s.extract 8 s.size) 0 8) (tkF (s.extract 8 s.size) 0 8) 8)), .bool false, .int .u64 0, .int .u64 0, .int .u8 (bt s 6), .int .u8 (bt s 7), .string ⟨#[]⟩])) 26⟩] u12 := M
  refine pl_val (want_no rfl) (some 32) rfl (.pointer (some ⟨g4, 3, none⟩)) (fun _ => by kernel_rfl) ?_
  refine pl_put M (want_no rfl) rfl 24 _ _ rfl 3 g4 3 (by kernel_rfl) 9 26 (ls [.bool true, .int .u64 (bnv (tkV (s.extract 8 s.size) 0 8)), .int .u64 (bnv (tkV (tkS (s.extract 8 s.size) 0 8) (tkF (s.extract 8 s.size) 0 8) 8)), .bool false, .int .u64 0, .int .u64 0, .int .u8 (bt s 6), .int .u8 (bt s 7), .string ⟨#[]⟩]) rfl 3 (ls [.bool true, .int .u64 (bnv (tkV (tkS (tkS (s.extract 8 s.size) 0 8) (tkF (s.extract 8 s.size) 0 8) 8) (tkF (tkS (s.extract 8 s.size) 0 8) (tkF (s.extract 8 s.size) 0 8) 8) 8)), .int .u64 (bnv (tkV (tkS (tkS (tkS (s.extract 8 s.size) 0 8) (tkF (s.extract 8 s.size) 0 8) 8) (tkF (tkS (s.extract 8 s.size) 0 8) (tkF (s.extract 8 s.size) 0 8) 8) 8) (tkF (tkS (tkS (s.extract 8 s.size) 0 8) (tkF (s.extract 8 s.size) 0 8) 8) (tkF (tkS (s.extract 8 s.size) 0 8) (tkF (s.extract 8 s.size) 0 8) 8) 8) 8))]) (ls [.bool true, .int .u64 (bnv (tkV (s.extract 8 s.size) 0 8)), .int .u64 (bnv (tkV (tkS (s.extract 8 s.size) 0 8) (tkF (s.extract 8 s.size) 0 8) 8)), .bool true, .int .u64 (bnv (tkV (tkS (tkS (s.extract 8 s.size) 0 8) (tkF (s.extract 8 s.size) 0 8) 8) (tkF (tkS (s.extract 8 s.size) 0 8) (tkF (s.extract 8 s.size) 0 8) 8) 8)), .int .u64 (bnv (tkV (tkS (tkS (tkS (s.extract 8 s.size) 0 8) (tkF (s.extract 8 s.size) 0 8) 8) (tkF (tkS (s.extract 8 s.size) 0 8) (tkF (s.extract 8 s.size) 0 8) 8) 8) (tkF (tkS (tkS (s.extract 8 s.size) 0 8) (tkF (s.extract 8 s.size) 0 8) 8) (tkF (tkS (s.extract 8 s.size) 0 8) (tkF (s.extract 8 s.size) 0 8) 8) 8) 8)), .int .u8 (bt s 6), .int .u8 (bt s 7), .string ⟨#[]⟩]) (by kernel_rfl) inz24 (by decide) (one_ls _ rfl) (putp_ls ([.bool true, .int .u64 (bnv (tkV (s.extract 8 s.size) 0 8)), .int .u64 (bnv (tkV (tkS (s.extract 8 s.size) 0 8) (tkF (s.extract 8 s.size) 0 8) 8)), .bool false, .int .u64 0, .int .u64 0, .int .u8 (bt s 6), .int .u8 (bt s 7), .string ⟨#[]⟩] : List Value) ([.bool true, .int .u64 (bnv (tkV (tkS (tkS (s.extract 8 s.size) 0 8) (tkF (s.extract 8 s.size) 0 8) 8) (tkF (tkS (s.extract 8 s.size) 0 8) (tkF (s.extract 8 s.size) 0 8) 8) 8)), .int .u64 (bnv (tkV (tkS (tkS (tkS (s.extract 8 s.size) 0 8) (tkF (s.extract 8 s.size) 0 8) 8) (tkF (tkS (s.extract 8 s.size) 0 8) (tkF (s.extract 8 s.size) 0 8) 8) 8) (tkF (tkS (tkS (s.extract 8 s.size) 0 8) (tkF (s.extract 8 s.size) 0 8) 8) (tkF (tkS (s.extract 8 s.size) 0 8) (tkF (s.extract 8 s.size) 0 8) 8) 8) 8))] : List Value) 3 _ rfl ⟨Nat.le_of_ble_eq_true rfl, Nat.le_of_ble_eq_true rfl⟩) ?_
  intro u13 M
  replace M : Mem ⟨w, []⟩ [⟨g1, .cells (av 9 (ls [.bool false, .int .u64 0, .int .u64 0, .bool false, .int .u64 0, .int .u64 0, .int .u8 0, .int .u8 0, .string ⟨#[]⟩])) 26⟩, ⟨g2, .cells (av 7 (ls [.int .u8 96, .int .i64 40, .int .i64 4, .int .i64 7, .int .i64 6, .int .i64 8, .int .i64 40])) 60⟩, ⟨g3, .cells (av 3 (ls [.bool true, .string (tkS (tkS (tkS (tkS (s.extract 8 s.size) 0 8) (tkF (s.extract 8 s.size) 0 8) 8) (tkF (tkS (s.extract 8 s.size) 0 8) (tkF (s.extract 8 s.size) 0 8) 8) 8) (tkF (tkS (tkS (s.extract 8 s.size) 0 8) (tkF (s.extract 8 s.size) 0 8) 8) (tkF (tkS (s.extract 8 s.size) 0 8) (tkF (s.extract 8 s.size) 0 8) 8) 8) 8), .int .i64 (tkF (tkS (tkS (tkS (s.extract 8 s.size) 0 8) (tkF (s.extract 8 s.size) 0 8) 8) (tkF (tkS (s.extract 8 s.size) 0 8) (tkF (s.extract 8 s.size) 0 8) 8) 8) (tkF (tkS (tkS (s.extract 8 s.size) 0 8) (tkF (s.extract 8 s.size) 0 8) 8) (tkF (tkS (s.extract 8 s.size) 0 8) (tkF (s.extract 8 s.size) 0 8) 8) 8) 8)])) 108⟩, ⟨g4, .cells (av 9 (ls [.bool true, .int .u64 (bnv (tkV (s.extract 8 s.size) 0 8)), .int .u64 (bnv (tkV (tkS (s.extract 8 s.size) 0 8) (tkF (s.extract 8 s.size) 0 8) 8)), .bool true, .int .u64 (bnv (tkV (tkS (tkS (s.extract 8 s.size) 0 8) (tkF (s.extract 8 s.size) 0 8) 8) (tkF (tkS (s.extract 8 s.size) 0 8) (tkF (s.extract 8 s.size) 0 8) 8) 8)), .int .u64 (bnv (tkV (tkS (tkS (tkS (s.extract 8 s.size) 0 8) (tkF (s.extract 8 s.size) 0 8) 8) (tkF (tkS (s.extract 8 s.size) 0 8) (tkF (s.extract 8 s.size) 0 8) 8) 8) (tkF (tkS (tkS (s.extract 8 s.size) 0 8) (tkF (s.extract 8 s.size) 0 8) 8) (tkF (tkS (s.extract 8 s.size) 0 8) (tkF (s.extract 8 s.size) 0 8) 8) 8) 8)), .int .u8 (bt s 6), .int .u8 (bt s 7), .string ⟨#[]⟩])) 26⟩] u13 := M
  refine pl_nil ?_
  refine au_then ?_
  refine wp_seq ?_
  refine rg_lit ?_
  refine pl_val (want_no rfl) (some 33) rfl (.pointer (some ⟨g3, 0, none⟩)) (fun _ => by kernel_rfl) ?_
  refine pl_val (want_no rfl) (some 34) rfl (.pointer (some ⟨g3, 0, none⟩)) (fun _ => by kernel_rfl) ?_
  refine pl_call M (want_no rfl) (some 35) rfl 66 #[.pointer (some ⟨g3, 0, none⟩)] (.int .i64 ((tkS (tkS (tkS (tkS (s.extract 8 s.size) 0 8) (tkF (s.extract 8 s.size) 0 8) 8) (tkF (tkS (s.extract 8 s.size) 0 8) (tkF (s.extract 8 s.size) 0 8) 8) 8) (tkF (tkS (tkS (s.extract 8 s.size) 0 8) (tkF (s.extract 8 s.size) 0 8) 8) (tkF (tkS (s.extract 8 s.size) 0 8) (tkF (s.extract 8 s.size) 0 8) 8) 8) 8).size : Int)) (fun _ => by kernel_rfl) (fun w M => c_Left g3 (tkS (tkS (tkS (tkS (s.extract 8 s.size) 0 8) (tkF (s.extract 8 s.size) 0 8) 8) (tkF (tkS (s.extract 8 s.size) 0 8) (tkF (s.extract 8 s.size) 0 8) 8) 8) (tkF (tkS (tkS (s.extract 8 s.size) 0 8) (tkF (s.extract 8 s.size) 0 8) 8) (tkF (tkS (s.extract 8 s.size) 0 8) (tkF (s.extract 8 s.size) 0 8) 8) 8) 8) (tkF (tkS (tkS (tkS (s.extract 8 s.size) 0 8) (tkF (s.extract 8 s.size) 0 8) 8) (tkF (tkS (s.extract 8 s.size) 0 8) (tkF (s.extract 8 s.size) 0 8) 8) 8) (tkF (tkS (tkS (s.extract 8 s.size) 0 8) (tkF (s.extract 8 s.size) 0 8) 8) (tkF (tkS (s.extract 8 s.size) 0 8) (tkF (s.extract 8 s.size) 0 8) 8) 8) 8) w M.laid (M.get 2 rfl) (M.ne0 2 rfl)) ?_
  intro u14 M
  refine pl_callp M (want_no rfl) (some 36) rfl 65 #[.pointer (some ⟨g3, 0, none⟩), .int .i64 ((tkS (tkS (tkS (tkS (s.extract 8 s.size) 0 8) (tkF (s.extract 8 s.size) 0 8) 8) (tkF (tkS (s.extract 8 s.size) 0 8) (tkF (s.extract 8 s.size) 0 8) 8) 8) (tkF (tkS (tkS (s.extract 8 s.size) 0 8) (tkF (s.extract 8 s.size) 0 8) 8) (tkF (tkS (s.extract 8 s.size) 0 8) (tkF (s.extract 8 s.size) 0 8) 8) 8) 8).size : Int)] (.string (tkV (tkS (tkS (tkS (tkS (s.extract 8 s.size) 0 8) (tkF (s.extract 8 s.size) 0 8) 8) (tkF (tkS (s.extract 8 s.size) 0 8) (tkF (s.extract 8 s.size) 0 8) 8) 8) (tkF (tkS (tkS (s.extract 8 s.size) 0 8) (tkF (s.extract 8 s.size) 0 8) 8) (tkF (tkS (s.extract 8 s.size) 0 8) (tkF (s.extract 8 s.size) 0 8) 8) 8) 8) (tkF (tkS (tkS (tkS (s.extract 8 s.size) 0 8) (tkF (s.extract 8 s.size) 0 8) 8) (tkF (tkS (s.extract 8 s.size) 0 8) (tkF (s.extract 8 s.size) 0 8) 8) 8) (tkF (tkS (tkS (s.extract 8 s.size) 0 8) (tkF (s.extract 8 s.size) 0 8) 8) (tkF (tkS (s.extract 8 s.size) 0 8) (tkF (s.extract 8 s.size) 0 8) 8) 8) 8) ((tkS (tkS (tkS (tkS (s.extract 8 s.size) 0 8) (tkF (s.extract 8 s.size) 0 8) 8) (tkF (tkS (s.extract 8 s.size) 0 8) (tkF (s.extract 8 s.size) 0 8) 8) 8) (tkF (tkS (tkS (s.extract 8 s.size) 0 8) (tkF (s.extract 8 s.size) 0 8) 8) (tkF (tkS (s.extract 8 s.size) 0 8) (tkF (s.extract 8 s.size) 0 8) 8) 8) 8).size : Int))) 2 g3 (.cells (av 3 (ls [.bool true, .string (tkS (tkS (tkS (tkS (s.extract 8 s.size) 0 8) (tkF (s.extract 8 s.size) 0 8) 8) (tkF (tkS (s.extract 8 s.size) 0 8) (tkF (s.extract 8 s.size) 0 8) 8) 8) (tkF (tkS (tkS (s.extract 8 s.size) 0 8) (tkF (s.extract 8 s.size) 0 8) 8) (tkF (tkS (s.extract 8 s.size) 0 8) (tkF (s.extract 8 s.size) 0 8) 8) 8) 8), .int .i64 (tkF (tkS (tkS (tkS (s.extract 8 s.size) 0 8) (tkF (s.extract 8 s.size) 0 8) 8) (tkF (tkS (s.extract 8 s.size) 0 8) (tkF (s.extract 8 s.size) 0 8) 8) 8) (tkF (tkS (tkS (s.extract 8 s.size) 0 8) (tkF (s.extract 8 s.size) 0 8) 8) (tkF (tkS (s.extract 8 s.size) 0 8) (tkF (s.extract 8 s.size) 0 8) 8) 8) 8)])) 108) (.cells (av 3 (ls [.bool true, .string (tkS (tkS (tkS (tkS (tkS (s.extract 8 s.size) 0 8) (tkF (s.extract 8 s.size) 0 8) 8) (tkF (tkS (s.extract 8 s.size) 0 8) (tkF (s.extract 8 s.size) 0 8) 8) 8) (tkF (tkS (tkS (s.extract 8 s.size) 0 8) (tkF (s.extract 8 s.size) 0 8) 8) (tkF (tkS (s.extract 8 s.size) 0 8) (tkF (s.extract 8 s.size) 0 8) 8) 8) 8) (tkF (tkS (tkS (tkS (s.extract 8 s.size) 0 8) (tkF (s.extract 8 s.size) 0 8) 8) (tkF (tkS (s.extract 8 s.size) 0 8) (tkF (s.extract 8 s.size) 0 8) 8) 8) (tkF (tkS (tkS (s.extract 8 s.size) 0 8) (tkF (s.extract 8 s.size) 0 8) 8) (tkF (tkS (s.extract 8 s.size) 0 8) (tkF (s.extract 8 s.size) 0 8) 8) 8) 8) ((tkS (tkS (tkS (tkS (s.extract 8 s.size) 0 8) (tkF (s.extract 8 s.size) 0 8) 8) (tkF (tkS (s.extract 8 s.size) 0 8) (tkF (s.extract 8 s.size) 0 8) 8) 8) (tkF (tkS (tkS (s.extract 8 s.size) 0 8) (tkF (s.extract 8 s.size) 0 8) 8) (tkF (tkS (s.extract 8 s.size) 0 8) (tkF (s.extract 8 s.size) 0 8) 8) 8) 8).size : Int)), .int .i64 (tkF (tkS (tkS (tkS (tkS (s.extract 8 s.size) 0 8) (tkF (s.extract 8 s.size) 0 8) 8) (tkF (tkS (s.extract 8 s.size) 0 8) (tkF (s.extract 8 s.size) 0 8) 8) 8) (tkF (tkS (tkS (s.extract 8 s.size) 0 8) (tkF (s.extract 8 s.size) 0 8) 8) (tkF (tkS (s.extract 8 s.size) 0 8) (tkF (s.extract 8 s.size) 0 8) 8) 8) 8) (tkF (tkS (tkS (tkS (s.extract 8 s.size) 0 8) (tkF (s.extract 8 s.size) 0 8) 8) (tkF (tkS (s.extract 8 s.size) 0 8) (tkF (s.extract 8 s.size) 0 8) 8) 8) (tkF (tkS (tkS (s.extract 8 s.size) 0 8) (tkF (s.extract 8 s.size) 0 8) 8) (tkF (tkS (s.extract 8 s.size) 0 8) (tkF (s.extract 8 s.size) 0 8) 8) 8) 8) ((tkS (tkS (tkS (tkS (s.extract 8 s.size) 0 8) (tkF (s.extract 8 s.size) 0 8) 8) (tkF (tkS (s.extract 8 s.size) 0 8) (tkF (s.extract 8 s.size) 0 8) 8) 8) (tkF (tkS (tkS (s.extract 8 s.size) 0 8) (tkF (s.extract 8 s.size) 0 8) 8) (tkF (tkS (s.extract 8 s.size) 0 8) (tkF (s.extract 8 s.size) 0 8) 8) 8) 8).size : Int))])) 108) rfl (fun _ => by kernel_rfl) (fun w M => c_Take g3 (tkS (tkS (tkS (tkS (s.extract 8 s.size) 0 8) (tkF (s.extract 8 s.size) 0 8) 8) (tkF (tkS (s.extract 8 s.size) 0 8) (tkF (s.extract 8 s.size) 0 8) 8) 8) (tkF (tkS (tkS (s.extract 8 s.size) 0 8) (tkF (s.extract 8 s.size) 0 8) 8) (tkF (tkS (s.extract 8 s.size) 0 8) (tkF (s.extract 8 s.size) 0 8) 8) 8) 8) (tkF (tkS (tkS (tkS (s.extract 8 s.size) 0 8) (tkF (s.extract 8 s.size) 0 8) 8) (tkF (tkS (s.extract 8 s.size) 0 8) (tkF (s.extract 8 s.size) 0 8) 8) 8) (tkF (tkS (tkS (s.extract 8 s.size) 0 8) (tkF (s.extract 8 s.size) 0 8) 8) (tkF (tkS (s.extract 8 s.size) 0 8) (tkF (s.extract 8 s.size) 0 8) 8) 8) 8) ((tkS (tkS (tkS (tkS (s.extract 8 s.size) 0 8) (tkF (s.extract 8 s.size) 0 8) 8) (tkF (tkS (s.extract 8 s.size) 0 8) (tkF (s.extract 8 s.size) 0 8) 8) 8) (tkF (tkS (tkS (s.extract 8 s.size) 0 8) (tkF (s.extract 8 s.size) 0 8) 8) (tkF (tkS (s.extract 8 s.size) 0 8) (tkF (s.extract 8 s.size) 0 8) 8) 8) 8).size : Int) w M.laid (M.get 2 rfl) (M.ne0 2 rfl)) ?_
  intro u15 M
  replace M : Mem ⟨w, []⟩ [⟨g1, .cells (av 9 (ls [.bool false, .int .u64 0, .int .u64 0, .bool false, .int .u64 0, .int .u64 0, .int .u8 0, .int .u8 0, .string ⟨#[]⟩])) 26⟩, ⟨g2, .cells (av 7 (ls [.int .u8 96, .int .i64 40, .int .i64 4, .int .i64 7, .int .i64 6, .int .i64 8, .int .i64 40])) 60⟩, ⟨g3, .cells (av 3 (ls [.bool true, .string (tkS (tkS (tkS (tkS (tkS (s.extract 8 s.size) 0 8) (tkF (s.extract 8 s.size) 0 8) 8) (tkF (tkS (s.extract 8 s.size) 0 8) (tkF (s.extract 8 s.size) 0 8) 8) 8) (tkF (tkS (tkS (s.extract 8 s.size) 0 8) (tkF (s.extract 8 s.size) 0 8) 8) (tkF (tkS (s.extract 8 s.size) 0 8) (tkF (s.extract 8 s.size) 0 8) 8) 8) 8) (tkF (tkS (tkS (tkS (s.extract 8 s.size) 0 8) (tkF (s.extract 8 s.size) 0 8) 8) (tkF (tkS (s.extract 8 s.size) 0 8) (tkF (s.extract 8 s.size) 0 8) 8) 8) (tkF (tkS (tkS (s.extract 8 s.size) 0 8) (tkF (s.extract 8 s.size) 0 8) 8) (tkF (tkS (s.extract 8 s.size) 0 8) (tkF (s.extract 8 s.size) 0 8) 8) 8) 8) ((tkS (tkS (tkS (tkS (s.extract 8 s.size) 0 8) (tkF (s.extract 8 s.size) 0 8) 8) (tkF (tkS (s.extract 8 s.size) 0 8) (tkF (s.extract 8 s.size) 0 8) 8) 8) (tkF (tkS (tkS (s.extract 8 s.size) 0 8) (tkF (s.extract 8 s.size) 0 8) 8) (tkF (tkS (s.extract 8 s.size) 0 8) (tkF (s.extract 8 s.size) 0 8) 8) 8) 8).size : Int)), .int .i64 (tkF (tkS (tkS (tkS (tkS (s.extract 8 s.size) 0 8) (tkF (s.extract 8 s.size) 0 8) 8) (tkF (tkS (s.extract 8 s.size) 0 8) (tkF (s.extract 8 s.size) 0 8) 8) 8) (tkF (tkS (tkS (s.extract 8 s.size) 0 8) (tkF (s.extract 8 s.size) 0 8) 8) (tkF (tkS (s.extract 8 s.size) 0 8) (tkF (s.extract 8 s.size) 0 8) 8) 8) 8) (tkF (tkS (tkS (tkS (s.extract 8 s.size) 0 8) (tkF (s.extract 8 s.size) 0 8) 8) (tkF (tkS (s.extract 8 s.size) 0 8) (tkF (s.extract 8 s.size) 0 8) 8) 8) (tkF (tkS (tkS (s.extract 8 s.size) 0 8) (tkF (s.extract 8 s.size) 0 8) 8) (tkF (tkS (s.extract 8 s.size) 0 8) (tkF (s.extract 8 s.size) 0 8) 8) 8) 8) ((tkS (tkS (tkS (tkS (s.extract 8 s.size) 0 8) (tkF (s.extract 8 s.size) 0 8) 8) (tkF (tkS (s.extract 8 s.size) 0 8) (tkF (s.extract 8 s.size) 0 8) 8) 8) (tkF (tkS (tkS (s.extract 8 s.size) 0 8) (tkF (s.extract 8 s.size) 0 8) 8) (tkF (tkS (s.extract 8 s.size) 0 8) (tkF (s.extract 8 s.size) 0 8) 8) 8) 8).size : Int))])) 108⟩, ⟨g4, .cells (av 9 (ls [.bool true, .int .u64 (bnv (tkV (s.extract 8 s.size) 0 8)), .int .u64 (bnv (tkV (tkS (s.extract 8 s.size) 0 8) (tkF (s.extract 8 s.size) 0 8) 8)), .bool true, .int .u64 (bnv (tkV (tkS (tkS (s.extract 8 s.size) 0 8) (tkF (s.extract 8 s.size) 0 8) 8) (tkF (tkS (s.extract 8 s.size) 0 8) (tkF (s.extract 8 s.size) 0 8) 8) 8)), .int .u64 (bnv (tkV (tkS (tkS (tkS (s.extract 8 s.size) 0 8) (tkF (s.extract 8 s.size) 0 8) 8) (tkF (tkS (s.extract 8 s.size) 0 8) (tkF (s.extract 8 s.size) 0 8) 8) 8) (tkF (tkS (tkS (s.extract 8 s.size) 0 8) (tkF (s.extract 8 s.size) 0 8) 8) (tkF (tkS (s.extract 8 s.size) 0 8) (tkF (s.extract 8 s.size) 0 8) 8) 8) 8)), .int .u8 (bt s 6), .int .u8 (bt s 7), .string ⟨#[]⟩])) 26⟩] u15 := M
  refine pl_val (want_no rfl) (some 37) rfl (.pointer (some ⟨g4, 8, none⟩)) (fun _ => by kernel_rfl) ?_
  refine pl_put1 M (want_no rfl) rfl 9 _ _ rfl 3 g4 8 (by kernel_rfl) 9 26 (ls [.bool true, .int .u64 (bnv (tkV (s.extract 8 s.size) 0 8)), .int .u64 (bnv (tkV (tkS (s.extract 8 s.size) 0 8) (tkF (s.extract 8 s.size) 0 8) 8)), .bool true, .int .u64 (bnv (tkV (tkS (tkS (s.extract 8 s.size) 0 8) (tkF (s.extract 8 s.size) 0 8) 8) (tkF (tkS (s.extract 8 s.size) 0 8) (tkF (s.extract 8 s.size) 0 8) 8) 8)), .int .u64 (bnv (tkV (tkS (tkS (tkS (s.extract 8 s.size) 0 8) (tkF (s.extract 8 s.size) 0 8) 8) (tkF (tkS (s.extract 8 s.size) 0 8) (tkF (s.extract 8 s.size) 0 8) 8) 8) (tkF (tkS (tkS (s.extract 8 s.size) 0 8) (tkF (s.extract 8 s.size) 0 8) 8) (tkF (tkS (s.extract 8 s.size) 0 8) (tkF (s.extract 8 s.size) 0 8) 8) 8) 8)), .int .u8 (bt s 6), .int .u8 (bt s 7), .string ⟨#[]⟩]) rfl (.string (tkV (tkS (tkS (tkS (tkS (s.extract 8 s.size) 0 8) (tkF (s.extract 8 s.size) 0 8) 8) (tkF (tkS (s.extract 8 s.size) 0 8) (tkF (s.extract 8 s.size) 0 8) 8) 8) (tkF (tkS (tkS (s.extract 8 s.size) 0 8) (tkF (s.extract 8 s.size) 0 8) 8) (tkF (tkS (s.extract 8 s.size) 0 8) (tkF (s.extract 8 s.size) 0 8) 8) 8) 8) (tkF (tkS (tkS (tkS (s.extract 8 s.size) 0 8) (tkF (s.extract 8 s.size) 0 8) 8) (tkF (tkS (s.extract 8 s.size) 0 8) (tkF (s.extract 8 s.size) 0 8) 8) 8) (tkF (tkS (tkS (s.extract 8 s.size) 0 8) (tkF (s.extract 8 s.size) 0 8) 8) (tkF (tkS (s.extract 8 s.size) 0 8) (tkF (s.extract 8 s.size) 0 8) 8) 8) 8) ((tkS (tkS (tkS (tkS (s.extract 8 s.size) 0 8) (tkF (s.extract 8 s.size) 0 8) 8) (tkF (tkS (s.extract 8 s.size) 0 8) (tkF (s.extract 8 s.size) 0 8) 8) 8) (tkF (tkS (tkS (s.extract 8 s.size) 0 8) (tkF (s.extract 8 s.size) 0 8) 8) (tkF (tkS (s.extract 8 s.size) 0 8) (tkF (s.extract 8 s.size) 0 8) 8) 8) 8).size : Int))) (ls [.bool true, .int .u64 (bnv (tkV (s.extract 8 s.size) 0 8)), .int .u64 (bnv (tkV (tkS (s.extract 8 s.size) 0 8) (tkF (s.extract 8 s.size) 0 8) 8)), .bool true, .int .u64 (bnv (tkV (tkS (tkS (s.extract 8 s.size) 0 8) (tkF (s.extract 8 s.size) 0 8) 8) (tkF (tkS (s.extract 8 s.size) 0 8) (tkF (s.extract 8 s.size) 0 8) 8) 8)), .int .u64 (bnv (tkV (tkS (tkS (tkS (s.extract 8 s.size) 0 8) (tkF (s.extract 8 s.size) 0 8) 8) (tkF (tkS (s.extract 8 s.size) 0 8) (tkF (s.extract 8 s.size) 0 8) 8) 8) (tkF (tkS (tkS (s.extract 8 s.size) 0 8) (tkF (s.extract 8 s.size) 0 8) 8) (tkF (tkS (s.extract 8 s.size) 0 8) (tkF (s.extract 8 s.size) 0 8) 8) 8) 8)), .int .u8 (bt s 6), .int .u8 (bt s 7), .string (tkV (tkS (tkS (tkS (tkS (s.extract 8 s.size) 0 8) (tkF (s.extract 8 s.size) 0 8) 8) (tkF (tkS (s.extract 8 s.size) 0 8) (tkF (s.extract 8 s.size) 0 8) 8) 8) (tkF (tkS (tkS (s.extract 8 s.size) 0 8) (tkF (s.extract 8 s.size) 0 8) 8) (tkF (tkS (s.extract 8 s.size) 0 8) (tkF (s.extract 8 s.size) 0 8) 8) 8) 8) (tkF (tkS (tkS (tkS (s.extract 8 s.size) 0 8) (tkF (s.extract 8 s.size) 0 8) 8) (tkF (tkS (s.extract 8 s.size) 0 8) (tkF (s.extract 8 s.size) 0 8) 8) 8) (tkF (tkS (tkS (s.extract 8 s.size) 0 8) (tkF (s.extract 8 s.size) 0 8) 8) (tkF (tkS (s.extract 8 s.size) 0 8) (tkF (s.extract 8 s.size) 0 8) 8) 8) 8) ((tkS (tkS (tkS (tkS (s.extract 8 s.size) 0 8) (tkF (s.extract 8 s.size) 0 8) 8) (tkF (tkS (s.extract 8 s.size) 0 8) (tkF (s.extract 8 s.size) 0 8) 8) 8) (tkF (tkS (tkS (s.extract 8 s.size) 0 8) (tkF (s.extract 8 s.size) 0 8) 8) (tkF (tkS (s.extract 8 s.size) 0 8) (tkF (s.extract 8 s.size) 0 8) 8) 8) 8).size : Int))]) (by kernel_rfl) inz9 (by decide) rfl rfl (put_ls _ 8 _ _ rfl) ?_
  intro u16 M
  replace M : Mem ⟨w, []⟩ [⟨g1, .cells (av 9 (ls [.bool false, .int .u64 0, .int .u64 0, .bool false, .int .u64 0, .int .u64 0, .int .u8 0, .int .u8 0, .string ⟨#[]⟩])) 26⟩, ⟨g2, .cells (av 7 (ls [.int .u8 96, .int .i64 40, .int .i64 4, .int .i64 7, .int .i64 6, .int .i64 8, .int .i64 40])) 60⟩, ⟨g3, .cells (av 3 (ls [.bool true, .string (tkS (tkS (tkS (tkS (tkS (s.extract 8 s.size) 0 8) (tkF (s.extract 8 s.size) 0 8) 8) (tkF (tkS (s.extract 8 s.size) 0 8) (tkF (s.extract 8 s.size) 0 8) 8) 8) (tkF (tkS (tkS (s.extract 8 s.size) 0 8) (tkF (s.extract 8 s.size) 0 8) 8) (tkF (tkS (s.extract 8 s.size) 0 8) (tkF (s.extract 8 s.size) 0 8) 8) 8) 8) (tkF (tkS (tkS (tkS (s.extract 8 s.size) 0 8) (tkF (s.extract 8 s.size) 0 8) 8) (tkF (tkS (s.extract 8 s.size) 0 8) (tkF (s.extract 8 s.size) 0 8) 8) 8) (tkF (tkS (tkS (s.extract 8 s.size) 0 8) (tkF (s.extract 8 s.size) 0 8) 8) (tkF (tkS (s.extract 8 s.size) 0 8) (tkF (s.extract 8 s.size) 0 8) 8) 8) 8) ((tkS (tkS (tkS (tkS (s.extract 8 s.size) 0 8) (tkF (s.extract 8 s.size) 0 8) 8) (tkF (tkS (s.extract 8 s.size) 0 8) (tkF (s.extract 8 s.size) 0 8) 8) 8) (tkF (tkS (tkS (s.extract 8 s.size) 0 8) (tkF (s.extract 8 s.size) 0 8) 8) (tkF (tkS (s.extract 8 s.size) 0 8) (tkF (s.extract 8 s.size) 0 8) 8) 8) 8).size : Int)), .int .i64 (tkF (tkS (tkS (tkS (tkS (s.extract 8 s.size) 0 8) (tkF (s.extract 8 s.size) 0 8) 8) (tkF (tkS (s.extract 8 s.size) 0 8) (tkF (s.extract 8 s.size) 0 8) 8) 8) (tkF (tkS (tkS (s.extract 8 s.size) 0 8) (tkF (s.extract 8 s.size) 0 8) 8) (tkF (tkS (s.extract 8 s.size) 0 8) (tkF (s.extract 8 s.size) 0 8) 8) 8) 8) (tkF (tkS (tkS (tkS (s.extract 8 s.size) 0 8) (tkF (s.extract 8 s.size) 0 8) 8) (tkF (tkS (s.extract 8 s.size) 0 8) (tkF (s.extract 8 s.size) 0 8) 8) 8) (tkF (tkS (tkS (s.extract 8 s.size) 0 8) (tkF (s.extract 8 s.size) 0 8) 8) (tkF (tkS (s.extract 8 s.size) 0 8) (tkF (s.extract 8 s.size) 0 8) 8) 8) 8) ((tkS (tkS (tkS (tkS (s.extract 8 s.size) 0 8) (tkF (s.extract 8 s.size) 0 8) 8) (tkF (tkS (s.extract 8 s.size) 0 8) (tkF (s.extract 8 s.size) 0 8) 8) 8) (tkF (tkS (tkS (s.extract 8 s.size) 0 8) (tkF (s.extract 8 s.size) 0 8) 8) (tkF (tkS (s.extract 8 s.size) 0 8) (tkF (s.extract 8 s.size) 0 8) 8) 8) 8).size : Int))])) 108⟩, ⟨g4, .cells (av 9 (ls [.bool true, .int .u64 (bnv (tkV (s.extract 8 s.size) 0 8)), .int .u64 (bnv (tkV (tkS (s.extract 8 s.size) 0 8) (tkF (s.extract 8 s.size) 0 8) 8)), .bool true, .int .u64 (bnv (tkV (tkS (tkS (s.extract 8 s.size) 0 8) (tkF (s.extract 8 s.size) 0 8) 8) (tkF (tkS (s.extract 8 s.size) 0 8) (tkF (s.extract 8 s.size) 0 8) 8) 8)), .int .u64 (bnv (tkV (tkS (tkS (tkS (s.extract 8 s.size) 0 8) (tkF (s.extract 8 s.size) 0 8) 8) (tkF (tkS (s.extract 8 s.size) 0 8) (tkF (s.extract 8 s.size) 0 8) 8) 8) (tkF (tkS (tkS (s.extract 8 s.size) 0 8) (tkF (s.extract 8 s.size) 0 8) 8) (tkF (tkS (s.extract 8 s.size) 0 8) (tkF (s.extract 8 s.size) 0 8) 8) 8) 8)), .int .u8 (bt s 6), .int .u8 (bt s 7), .string (tkV (tkS (tkS (tkS (tkS (s.extract 8 s.size) 0 8) (tkF (s.extract 8 s.size) 0 8) 8) (tkF (tkS (s.extract 8 s.size) 0 8) (tkF (s.extract 8 s.size) 0 8) 8) 8) (tkF (tkS (tkS (s.extract 8 s.size) 0 8) (tkF (s.extract 8 s.size) 0 8) 8) (tkF (tkS (s.extract 8 s.size) 0 8) (tkF (s.extract 8 s.size) 0 8) 8) 8) 8) (tkF (tkS (tkS (tkS (s.extract 8 s.size) 0 8) (tkF (s.extract 8 s.size) 0 8) 8) (tkF (tkS (s.extract 8 s.size) 0 8) (tkF (s.extract 8 s.size) 0 8) 8) 8) (tkF (tkS (tkS (s.extract 8 s.size) 0 8) (tkF (s.extract 8 s.size) 0 8) 8) (tkF (tkS (s.extract 8 s.size) 0 8) (tkF (s.extract 8 s.size) 0 8) 8) 8) 8) ((tkS (tkS (tkS (tkS (s.extract 8 s.size) 0 8) (tkF (s.extract 8 s.size) 0 8) 8) (tkF (tkS (s.extract 8 s.size) 0 8) (tkF (s.extract 8 s.size) 0 8) 8) 8) (tkF (tkS (tkS (s.extract 8 s.size) 0 8) (tkF (s.extract 8 s.size) 0 8) 8) (tkF (tkS (s.extract 8 s.size) 0 8) (tkF (s.extract 8 s.size) 0 8) 8) 8) 8).size : Int))])) 26⟩] u16 := M
  refine pl_nil ?_
  refine au_then ?_
  refine wp_seq ?_
  refine rg_lit ?_
  refine pl_load M (want_no rfl) (some 38) rfl 26 _ rfl 3 g4 0 (by kernel_rfl) 9 26 (ls [.bool true, .int .u64 (bnv (tkV (s.extract 8 s.size) 0 8)), .int .u64 (bnv (tkV (tkS (s.extract 8 s.size) 0 8) (tkF (s.extract 8 s.size) 0 8) 8)), .bool true, .int .u64 (bnv (tkV (tkS (tkS (s.extract 8 s.size) 0 8) (tkF (s.extract 8 s.size) 0 8) 8) (tkF (tkS (s.extract 8 s.size) 0 8) (tkF (s.extract 8 s.size) 0 8) 8) 8)), .int .u64 (bnv (tkV (tkS (tkS (tkS (s.extract 8 s.size) 0 8) (tkF (s.extract 8 s.size) 0 8) 8) (tkF (tkS (s.extract 8 s.size) 0 8) (tkF (s.extract 8 s.size) 0 8) 8) 8) (tkF (tkS (tkS (s.extract 8 s.size) 0 8) (tkF (s.extract 8 s.size) 0 8) 8) (tkF (tkS (s.extract 8 s.size) 0 8) (tkF (s.extract 8 s.size) 0 8) 8) 8) 8)), .int .u8 (bt s 6), .int .u8 (bt s 7), .string (tkV (tkS (tkS (tkS (tkS (s.extract 8 s.size) 0 8) (tkF (s.extract 8 s.size) 0 8) 8) (tkF (tkS (s.extract 8 s.size) 0 8) (tkF (s.extract 8 s.size) 0 8) 8) 8) (tkF (tkS (tkS (s.extract 8 s.size) 0 8) (tkF (s.extract 8 s.size) 0 8) 8) (tkF (tkS (s.extract 8 s.size) 0 8) (tkF (s.extract 8 s.size) 0 8) 8) 8) 8) (tkF (tkS (tkS (tkS (s.extract 8 s.size) 0 8) (tkF (s.extract 8 s.size) 0 8) 8) (tkF (tkS (s.extract 8 s.size) 0 8) (tkF (s.extract 8 s.size) 0 8) 8) 8) (tkF (tkS (tkS (s.extract 8 s.size) 0 8) (tkF (s.extract 8 s.size) 0 8) 8) (tkF (tkS (s.extract 8 s.size) 0 8) (tkF (s.extract 8 s.size) 0 8) 8) 8) 8) ((tkS (tkS (tkS (tkS (s.extract 8 s.size) 0 8) (tkF (s.extract 8 s.size) 0 8) 8) (tkF (tkS (s.extract 8 s.size) 0 8) (tkF (s.extract 8 s.size) 0 8) 8) 8) (tkF (tkS (tkS (s.extract 8 s.size) 0 8) (tkF (s.extract 8 s.size) 0 8) 8) (tkF (tkS (s.extract 8 s.size) 0 8) (tkF (s.extract 8 s.size) 0 8) 8) 8) 8).size : Int))]) rfl 9 (ls [.bool true, .int .u64 (bnv (tkV (s.extract 8 s.size) 0 8)), .int .u64 (bnv (tkV (tkS (s.extract 8 s.size) 0 8) (tkF (s.extract 8 s.size) 0 8) 8)), .bool true, .int .u64 (bnv (tkV (tkS (tkS (s.extract 8 s.size) 0 8) (tkF (s.extract 8 s.size) 0 8) 8) (tkF (tkS (s.extract 8 s.size) 0 8) (tkF (s.extract 8 s.size) 0 8) 8) 8)), .int .u64 (bnv (tkV (tkS (tkS (tkS (s.extract 8 s.size) 0 8) (tkF (s.extract 8 s.size) 0 8) 8) (tkF (tkS (s.extract 8 s.size) 0 8) (tkF (s.extract 8 s.size) 0 8) 8) 8) (tkF (tkS (tkS (s.extract 8 s.size) 0 8) (tkF (s.extract 8 s.size) 0 8) 8) (tkF (tkS (s.extract 8 s.size) 0 8) (tkF (s.extract 8 s.size) 0 8) 8) 8) 8)), .int .u8 (bt s 6), .int .u8 (bt s 7), .string (tkV (tkS (tkS (tkS (tkS (s.extract 8 s.size) 0 8) (tkF (s.extract 8 s.size) 0 8) 8) (tkF (tkS (s.extract 8 s.size) 0 8) (tkF (s.extract 8 s.size) 0 8) 8) 8) (tkF (tkS (tkS (s.extract 8 s.size) 0 8) (tkF (s.extract 8 s.size) 0 8) 8) (tkF (tkS (s.extract 8 s.size) 0 8) (tkF (s.extract 8 s.size) 0 8) 8) 8) 8) (tkF (tkS (tkS (tkS (s.extract 8 s.size) 0 8) (tkF (s.extract 8 s.size) 0 8) 8) (tkF (tkS (s.extract 8 s.size) 0 8) (tkF (s.extract 8 s.size) 0 8) 8) 8) (tkF (tkS (tkS (s.extract 8 s.size) 0 8) (tkF (s.extract 8 s.size) 0 8) 8) (tkF (tkS (s.extract 8 s.size) 0 8) (tkF (s.extract 8 s.size) 0 8) 8) 8) 8) ((tkS (tkS (tkS (tkS (s.extract 8 s.size) 0 8) (tkF (s.extract 8 s.size) 0 8) 8) (tkF (tkS (s.extract 8 s.size) 0 8) (tkF (s.extract 8 s.size) 0 8) 8) 8) (tkF (tkS (tkS (s.extract 8 s.size) 0 8) (tkF (s.extract 8 s.size) 0 8) 8) (tkF (tkS (s.extract 8 s.size) 0 8) (tkF (s.extract 8 s.size) 0 8) 8) 8) 8).size : Int))]) (fun j _ => by rw [Nat.zero_add]) (by decide) _ Tryz.underlying26 rfl inz26 ?_
  refine pl_put M (want_no rfl) rfl 26 _ _ rfl 0 g1 0 (by kernel_rfl) 9 26 (ls [.bool false, .int .u64 0, .int .u64 0, .bool false, .int .u64 0, .int .u64 0, .int .u8 0, .int .u8 0, .string ⟨#[]⟩]) rfl 9 (ls [.bool true, .int .u64 (bnv (tkV (s.extract 8 s.size) 0 8)), .int .u64 (bnv (tkV (tkS (s.extract 8 s.size) 0 8) (tkF (s.extract 8 s.size) 0 8) 8)), .bool true, .int .u64 (bnv (tkV (tkS (tkS (s.extract 8 s.size) 0 8) (tkF (s.extract 8 s.size) 0 8) 8) (tkF (tkS (s.extract 8 s.size) 0 8) (tkF (s.extract 8 s.size) 0 8) 8) 8)), .int .u64 (bnv (tkV (tkS (tkS (tkS (s.extract 8 s.size) 0 8) (tkF (s.extract 8 s.size) 0 8) 8) (tkF (tkS (s.extract 8 s.size) 0 8) (tkF (s.extract 8 s.size) 0 8) 8) 8) (tkF (tkS (tkS (s.extract 8 s.size) 0 8) (tkF (s.extract 8 s.size) 0 8) 8) (tkF (tkS (s.extract 8 s.size) 0 8) (tkF (s.extract 8 s.size) 0 8) 8) 8) 8)), .int .u8 (bt s 6), .int .u8 (bt s 7), .string (tkV (tkS (tkS (tkS (tkS (s.extract 8 s.size) 0 8) (tkF (s.extract 8 s.size) 0 8) 8) (tkF (tkS (s.extract 8 s.size) 0 8) (tkF (s.extract 8 s.size) 0 8) 8) 8) (tkF (tkS (tkS (s.extract 8 s.size) 0 8) (tkF (s.extract 8 s.size) 0 8) 8) (tkF (tkS (s.extract 8 s.size) 0 8) (tkF (s.extract 8 s.size) 0 8) 8) 8) 8) (tkF (tkS (tkS (tkS (s.extract 8 s.size) 0 8) (tkF (s.extract 8 s.size) 0 8) 8) (tkF (tkS (s.extract 8 s.size) 0 8) (tkF (s.extract 8 s.size) 0 8) 8) 8) (tkF (tkS (tkS (s.extract 8 s.size) 0 8) (tkF (s.extract 8 s.size) 0 8) 8) (tkF (tkS (s.extract 8 s.size) 0 8) (tkF (s.extract 8 s.size) 0 8) 8) 8) 8) ((tkS (tkS (tkS (tkS (s.extract 8 s.size) 0 8) (tkF (s.extract 8 s.size) 0 8) 8) (tkF (tkS (s.extract 8 s.size) 0 8) (tkF (s.extract 8 s.size) 0 8) 8) 8) (tkF (tkS (tkS (s.extract 8 s.size) 0 8) (tkF (s.extract 8 s.size) 0 8) 8) (tkF (tkS (s.extract 8 s.size) 0 8) (tkF (s.extract 8 s.size) 0 8) 8) 8) 8).size : Int))]) (ls [.bool true, .int .u64 (bnv (tkV (s.extract 8 s.size) 0 8)), .int .u64 (bnv (tkV (tkS (s.extract 8 s.size) 0 8) (tkF (s.extract 8 s.size) 0 8) 8)), .bool true, .int .u64 (bnv (tkV (tkS (tkS (s.extract 8 s.size) 0 8) (tkF (s.extract 8 s.size) 0 8) 8) (tkF (tkS (s.extract 8 s.size) 0 8) (tkF (s.extract 8 s.size) 0 8) 8) 8)), .int .u64 (bnv (tkV (tkS (tkS (tkS (s.extract 8 s.size) 0 8) (tkF (s.extract 8 s.size) 0 8) 8) (tkF (tkS (s.extract 8 s.size) 0 8) (tkF (s.extract 8 s.size) 0 8) 8) 8) (tkF (tkS (tkS (s.extract 8 s.size) 0 8) (tkF (s.extract 8 s.size) 0 8) 8) (tkF (tkS (s.extract 8 s.size) 0 8) (tkF (s.extract 8 s.size) 0 8) 8) 8) 8)), .int .u8 (bt s 6), .int .u8 (bt s 7), .string (tkV (tkS (tkS (tkS (tkS (s.extract 8 s.size) 0 8) (tkF (s.extract 8 s.size) 0 8) 8) (tkF (tkS (s.extract 8 s.size) 0 8) (tkF (s.extract 8 s.size) 0 8) 8) 8) (tkF (tkS (tkS (s.extract 8 s.size) 0 8) (tkF (s.extract 8 s.size) 0 8) 8) (tkF (tkS (s.extract 8 s.size) 0 8) (tkF (s.extract 8 s.size) 0 8) 8) 8) 8) (tkF (tkS (tkS (tkS (s.extract 8 s.size) 0 8) (tkF (s.extract 8 s.size) 0 8) 8) (tkF (tkS (s.extract 8 s.size) 0 8) (tkF (s.extract 8 s.size) 0 8) 8) 8) (tkF (tkS (tkS (s.extract 8 s.size) 0 8) (tkF (s.extract 8 s.size) 0 8) 8) (tkF (tkS (s.extract 8 s.size) 0 8) (tkF (s.extract 8 s.size) 0 8) 8) 8) 8) ((tkS (tkS (tkS (tkS (s.extract 8 s.size) 0 8) (tkF (s.extract 8 s.size) 0 8) 8) (tkF (tkS (s.extract 8 s.size) 0 8) (tkF (s.extract 8 s.size) 0 8) 8) 8) (tkF (tkS (tkS (s.extract 8 s.size) 0 8) (tkF (s.extract 8 s.size) 0 8) 8) (tkF (tkS (s.extract 8 s.size) 0 8) (tkF (s.extract 8 s.size) 0 8) 8) 8) 8).size : Int))]) (by kernel_rfl) inz26 (by decide) (one_ls _ rfl) (fun j hj => by rw [if_pos (by omega), Nat.sub_zero]) ?_
  intro u17 M
  replace M : Mem ⟨w, []⟩ [⟨g1, .cells (av 9 (ls [.bool true, .int .u64 (bnv (tkV (s.extract 8 s.size) 0 8)), .int .u64 (bnv (tkV (tkS (s.extract 8 s.size) 0 8) (tkF (s.extract 8 s.size) 0 8) 8)), .bool true, .int .u64 (bnv (tkV (tkS (tkS (s.extract 8 s.size) 0 8) (tkF (s.extract 8 s.size) 0 8) 8) (tkF (tkS (s.extract 8 s.size) 0 8) (tkF (s.extract 8 s.size) 0 8) 8) 8)), .int .u64 (bnv (tkV (tkS (tkS (tkS (s.extract 8 s.size) 0 8) (tkF (s.extract 8 s.size) 0 8) 8) (tkF (tkS (s.extract 8 s.size) 0 8) (tkF (s.extract 8 s.size) 0 8) 8) 8) (tkF (tkS (tkS (s.extract 8 s.size) 0 8) (tkF (s.extract 8 s.size) 0 8) 8) (tkF (tkS (s.extract 8 s.size) 0 8) (tkF (s.extract 8 s.size) 0 8) 8) 8) 8)), .int .u8 (bt s 6), .int .u8 (bt s 7), .string (tkV (tkS (tkS (tkS (tkS (s.extract 8 s.size) 0 8) (tkF (s.extract 8 s.size) 0 8) 8) (tkF (tkS (s.extract 8 s.size) 0 8) (tkF (s.extract 8 s.size) 0 8) 8) 8) (tkF (tkS (tkS (s.extract 8 s.size) 0 8) (tkF (s.extract 8 s.size) 0 8) 8) (tkF (tkS (s.extract 8 s.size) 0 8) (tkF (s.extract 8 s.size) 0 8) 8) 8) 8) (tkF (tkS (tkS (tkS (s.extract 8 s.size) 0 8) (tkF (s.extract 8 s.size) 0 8) 8) (tkF (tkS (s.extract 8 s.size) 0 8) (tkF (s.extract 8 s.size) 0 8) 8) 8) (tkF (tkS (tkS (s.extract 8 s.size) 0 8) (tkF (s.extract 8 s.size) 0 8) 8) (tkF (tkS (s.extract 8 s.size) 0 8) (tkF (s.extract 8 s.size) 0 8) 8) 8) 8) ((tkS (tkS (tkS (tkS (s.extract 8 s.size) 0 8) (tkF (s.extract 8 s.size) 0 8) 8) (tkF (tkS (s.extract 8 s.size) 0 8) (tkF (s.extract 8 s.size) 0 8) 8) 8) (tkF (tkS (tkS (s.extract 8 s.size) 0 8) (tkF (s.extract 8 s.size) 0 8) 8) (tkF (tkS (s.extract 8 s.size) 0 8) (tkF (s.extract 8 s.size) 0 8) 8) 8) 8).size : Int))])) 26⟩, ⟨g2, .cells (av 7 (ls [.int .u8 96, .int .i64 40, .int .i64 4, .int .i64 7, .int .i64 6, .int .i64 8, .int .i64 40])) 60⟩, ⟨g3, .cells (av 3 (ls [.bool true, .string (tkS (tkS (tkS (tkS (tkS (s.extract 8 s.size) 0 8) (tkF (s.extract 8 s.size) 0 8) 8) (tkF (tkS (s.extract 8 s.size) 0 8) (tkF (s.extract 8 s.size) 0 8) 8) 8) (tkF (tkS (tkS (s.extract 8 s.size) 0 8) (tkF (s.extract 8 s.size) 0 8) 8) (tkF (tkS (s.extract 8 s.size) 0 8) (tkF (s.extract 8 s.size) 0 8) 8) 8) 8) (tkF (tkS (tkS (tkS (s.extract 8 s.size) 0 8) (tkF (s.extract 8 s.size) 0 8) 8) (tkF (tkS (s.extract 8 s.size) 0 8) (tkF (s.extract 8 s.size) 0 8) 8) 8) (tkF (tkS (tkS (s.extract 8 s.size) 0 8) (tkF (s.extract 8 s.size) 0 8) 8) (tkF (tkS (s.extract 8 s.size) 0 8) (tkF (s.extract 8 s.size) 0 8) 8) 8) 8) ((tkS (tkS (tkS (tkS (s.extract 8 s.size) 0 8) (tkF (s.extract 8 s.size) 0 8) 8) (tkF (tkS (s.extract 8 s.size) 0 8) (tkF (s.extract 8 s.size) 0 8) 8) 8) (tkF (tkS (tkS (s.extract 8 s.size) 0 8) (tkF (s.extract 8 s.size) 0 8) 8) (tkF (tkS (s.extract 8 s.size) 0 8) (tkF (s.extract 8 s.size) 0 8) 8) 8) 8).size : Int)), .int .i64 (tkF (tkS (tkS (tkS (tkS (s.extract 8 s.size) 0 8) (tkF (s.extract 8 s.size) 0 8) 8) (tkF (tkS (s.extract 8 s.size) 0 8) (tkF (s.extract 8 s.size) 0 8) 8) 8) (tkF (tkS (tkS (s.extract 8 s.size) 0 8) (tkF (s.extract 8 s.size) 0 8) 8) (tkF (tkS (s.extract 8 s.size) 0 8) (tkF (s.extract 8 s.size) 0 8) 8) 8) 8) (tkF (tkS (tkS (tkS (s.extract 8 s.size) 0 8) (tkF (s.extract 8 s.size) 0 8) 8) (tkF (tkS (s.extract 8 s.size) 0 8) (tkF (s.extract 8 s.size) 0 8) 8) 8) (tkF (tkS (tkS (s.extract 8 s.size) 0 8) (tkF (s.extract 8 s.size) 0 8) 8) (tkF (tkS (s.extract 8 s.size) 0 8) (tkF (s.extract 8 s.size) 0 8) 8) 8) 8) ((tkS (tkS (tkS (tkS (s.extract 8 s.size) 0 8) (tkF (s.extract 8 s.size) 0 8) 8) (tkF (tkS (s.extract 8 s.size) 0 8) (tkF (s.extract 8 s.size) 0 8) 8) 8) (tkF (tkS (tkS (s.extract 8 s.size) 0 8) (tkF (s.extract 8 s.size) 0 8) 8) (tkF (tkS (s.extract 8 s.size) 0 8) (tkF (s.extract 8 s.size) 0 8) 8) 8) 8).size : Int))])) 108⟩, ⟨g4, .cells (av 9 (ls [.bool true, .int .u64 (bnv (tkV (s.extract 8 s.size) 0 8)), .int .u64 (bnv (tkV (tkS (s.extract 8 s.size) 0 8) (tkF (s.extract 8 s.size) 0 8) 8)), .bool true, .int .u64 (bnv (tkV (tkS (tkS (s.extract 8 s.size) 0 8) (tkF (s.extract 8 s.size) 0 8) 8) (tkF (tkS (s.extract 8 s.size) 0 8) (tkF (s.extract 8 s.size) 0 8) 8) 8)), .int .u64 (bnv (tkV (tkS (tkS (tkS (s.extract 8 s.size) 0 8) (tkF (s.extract 8 s.size) 0 8) 8) (tkF (tkS (s.extract 8 s.size) 0 8) (tkF (s.extract 8 s.size) 0 8) 8) 8) (tkF (tkS (tkS (s.extract 8 s.size) 0 8) (tkF (s.extract 8 s.size) 0 8) 8) (tkF (tkS (s.extract 8 s.size) 0 8) (tkF (s.extract 8 s.size) 0 8) 8) 8) 8)), .int .u8 (bt s 6), .int .u8 (bt s 7), .string (tkV (tkS (tkS (tkS (tkS (s.extract 8 s.size) 0 8) (tkF (s.extract 8 s.size) 0 8) 8) (tkF (tkS (s.extract 8 s.size) 0 8) (tkF (s.extract 8 s.size) 0 8) 8) 8) (tkF (tkS (tkS (s.extract 8 s.size) 0 8) (tkF (s.extract 8 s.size) 0 8) 8) (tkF (tkS (s.extract 8 s.size) 0 8) (tkF (s.extract 8 s.size) 0 8) 8) 8) 8) (tkF (tkS (tkS (tkS (s.extract 8 s.size) 0 8) (tkF (s.extract 8 s.size) 0 8) 8) (tkF (tkS (s.extract 8 s.size) 0 8) (tkF (s.extract 8 s.size) 0 8) 8) 8) (tkF (tkS (tkS (s.extract 8 s.size) 0 8) (tkF (s.extract 8 s.size) 0 8) 8) (tkF (tkS (s.extract 8 s.size) 0 8) (tkF (s.extract 8 s.size) 0 8) 8) 8) 8) ((tkS (tkS (tkS (tkS (s.extract 8 s.size) 0 8) (tkF (s.extract 8 s.size) 0 8) 8) (tkF (tkS (s.extract 8 s.size) 0 8) (tkF (s.extract 8 s.size) 0 8) 8) 8) (tkF (tkS (tkS (s.extract 8 s.size) 0 8) (tkF (s.extract 8 s.size) 0 8) 8) (tkF (tkS (s.extract 8 s.size) 0 8) (tkF (s.extract 8 s.size) 0 8) 8) 8) 8).size : Int))])) 26⟩] u17 := M
  refine pl_nil ?_
  refine au_then ?_
  refine wp_ret ?_
  have e0 : (q6H0 s) = (bnv (tkV (s.extract 8 s.size) 0 8)) := rfl
  have e1 : (q6L0 s) = (bnv (tkV (tkS (s.extract 8 s.size) 0 8) (tkF (s.extract 8 s.size) 0 8) 8)) := rfl
  have e2 : (q6H1 s) = (bnv (tkV (tkS (tkS (s.extract 8 s.size) 0 8) (tkF (s.extract 8 s.size) 0 8) 8) (tkF (tkS (s.extract 8 s.size) 0 8) (tkF (s.extract 8 s.size) 0 8) 8) 8)) := rfl
  have e3 : (q6L1 s) = (bnv (tkV (tkS (tkS (tkS (s.extract 8 s.size) 0 8) (tkF (s.extract 8 s.size) 0 8) 8) (tkF (tkS (s.extract 8 s.size) 0 8) (tkF (s.extract 8 s.size) 0 8) 8) 8) (tkF (tkS (tkS (s.extract 8 s.size) 0 8) (tkF (s.extract 8 s.size) 0 8) 8) (tkF (tkS (s.extract 8 s.size) 0 8) (tkF (s.extract 8 s.size) 0 8) 8) 8) 8)) := rfl
  have e4 : (q6D s) = (tkV (tkS (tkS (tkS (tkS (s.extract 8 s.size) 0 8) (tkF (s.extract 8 s.size) 0 8) 8) (tkF (tkS (s.extract 8 s.size) 0 8) (tkF (s.extract 8 s.size) 0 8) 8) 8) (tkF (tkS (tkS (s.extract 8 s.size) 0 8) (tkF (s.extract 8 s.size) 0 8) 8) (tkF (tkS (s.extract 8 s.size) 0 8) (tkF (s.extract 8 s.size) 0 8) 8) 8) 8) (tkF (tkS (tkS (tkS (s.extract 8 s.size) 0 8) (tkF (s.extract 8 s.size) 0 8) 8) (tkF (tkS (s.extract 8 s.size) 0 8) (tkF (s.extract 8 s.size) 0 8) 8) 8) (tkF (tkS (tkS (s.extract 8 s.size) 0 8) (tkF (s.extract 8 s.size) 0 8) 8) (tkF (tkS (s.extract 8 s.size) 0 8) (tkF (s.extract 8 s.size) 0 8) 8) 8) 8) ((tkS (tkS (tkS (tkS (s.extract 8 s.size) 0 8) (tkF (s.extract 8 s.size) 0 8) 8) (tkF (tkS (s.extract 8 s.size) 0 8) (tkF (s.extract 8 s.size) 0 8) 8) 8) (tkF (tkS (tkS (s.extract 8 s.size) 0 8) (tkF (s.extract 8 s.size) 0 8) 8) (tkF (tkS (s.extract 8 s.size) 0 8) (tkF (s.extract 8 s.size) 0 8) 8) 8) 8).size : Int)) := rfl
  exact bodyPost_ret (v := .agg (av 9 (ls [.bool true, .int .u64 (bnv (tkV (s.extract 8 s.size) 0 8)), .int .u64 (bnv (tkV (tkS (s.extract 8 s.size) 0 8) (tkF (s.extract 8 s.size) 0 8) 8)), .bool true, .int .u64 (bnv (tkV (tkS (tkS (s.extract 8 s.size) 0 8) (tkF (s.extract 8 s.size) 0 8) 8) (tkF (tkS (s.extract 8 s.size) 0 8) (tkF (s.extract 8 s.size) 0 8) 8) 8)), .int .u64 (bnv (tkV (tkS (tkS (tkS (s.extract 8 s.size) 0 8) (tkF (s.extract 8 s.size) 0 8) 8) (tkF (tkS (s.extract 8 s.size) 0 8) (tkF (s.extract 8 s.size) 0 8) 8) 8) (tkF (tkS (tkS (s.extract 8 s.size) 0 8) (tkF (s.extract 8 s.size) 0 8) 8) (tkF (tkS (s.extract 8 s.size) 0 8) (tkF (s.extract 8 s.size) 0 8) 8) 8) 8)), .int .u8 (bt s 6), .int .u8 (bt s 7), .string (tkV (tkS (tkS (tkS (tkS (s.extract 8 s.size) 0 8) (tkF (s.extract 8 s.size) 0 8) 8) (tkF (tkS (s.extract 8 s.size) 0 8) (tkF (s.extract 8 s.size) 0 8) 8) 8) (tkF (tkS (tkS (s.extract 8 s.size) 0 8) (tkF (s.extract 8 s.size) 0 8) 8) (tkF (tkS (s.extract 8 s.size) 0 8) (tkF (s.extract 8 s.size) 0 8) 8) 8) 8) (tkF (tkS (tkS (tkS (s.extract 8 s.size) 0 8) (tkF (s.extract 8 s.size) 0 8) 8) (tkF (tkS (s.extract 8 s.size) 0 8) (tkF (s.extract 8 s.size) 0 8) 8) 8) (tkF (tkS (tkS (s.extract 8 s.size) 0 8) (tkF (s.extract 8 s.size) 0 8) 8) (tkF (tkS (s.extract 8 s.size) 0 8) (tkF (s.extract 8 s.size) 0 8) 8) 8) 8) ((tkS (tkS (tkS (tkS (s.extract 8 s.size) 0 8) (tkF (s.extract 8 s.size) 0 8) 8) (tkF (tkS (s.extract 8 s.size) 0 8) (tkF (s.extract 8 s.size) 0 8) 8) 8) (tkF (tkS (tkS (s.extract 8 s.size) 0 8) (tkF (s.extract 8 s.size) 0 8) 8) (tkF (tkS (s.extract 8 s.size) 0 8) (tkF (s.extract 8 s.size) 0 8) 8) 8) 8).size : Int))]))) (results_cell_row Tryz.results41 _ _ g1 26 (av 9 (ls [.bool true, .int .u64 (bnv (tkV (s.extract 8 s.size) 0 8)), .int .u64 (bnv (tkV (tkS (s.extract 8 s.size) 0 8) (tkF (s.extract 8 s.size) 0 8) 8)), .bool true, .int .u64 (bnv (tkV (tkS (tkS (s.extract 8 s.size) 0 8) (tkF (s.extract 8 s.size) 0 8) 8) (tkF (tkS (s.extract 8 s.size) 0 8) (tkF (s.extract 8 s.size) 0 8) 8) 8)), .int .u64 (bnv (tkV (tkS (tkS (tkS (s.extract 8 s.size) 0 8) (tkF (s.extract 8 s.size) 0 8) 8) (tkF (tkS (s.extract 8 s.size) 0 8) (tkF (s.extract 8 s.size) 0 8) 8) 8) (tkF (tkS (tkS (s.extract 8 s.size) 0 8) (tkF (s.extract 8 s.size) 0 8) 8) (tkF (tkS (s.extract 8 s.size) 0 8) (tkF (s.extract 8 s.size) 0 8) 8) 8) 8)), .int .u8 (bt s 6), .int .u8 (bt s 7), .string (tkV (tkS (tkS (tkS (tkS (s.extract 8 s.size) 0 8) (tkF (s.extract 8 s.size) 0 8) 8) (tkF (tkS (s.extract 8 s.size) 0 8) (tkF (s.extract 8 s.size) 0 8) 8) 8) (tkF (tkS (tkS (s.extract 8 s.size) 0 8) (tkF (s.extract 8 s.size) 0 8) 8) (tkF (tkS (s.extract 8 s.size) 0 8) (tkF (s.extract 8 s.size) 0 8) 8) 8) 8) (tkF (tkS (tkS (tkS (s.extract 8 s.size) 0 8) (tkF (s.extract 8 s.size) 0 8) 8) (tkF (tkS (s.extract 8 s.size) 0 8) (tkF (s.extract 8 s.size) 0 8) 8) 8) (tkF (tkS (tkS (s.extract 8 s.size) 0 8) (tkF (s.extract 8 s.size) 0 8) 8) (tkF (tkS (s.extract 8 s.size) 0 8) (tkF (s.extract 8 s.size) 0 8) 8) 8) 8) ((tkS (tkS (tkS (tkS (s.extract 8 s.size) 0 8) (tkF (s.extract 8 s.size) 0 8) 8) (tkF (tkS (s.extract 8 s.size) 0 8) (tkF (s.extract 8 s.size) 0 8) 8) 8) (tkF (tkS (tkS (s.extract 8 s.size) 0 8) (tkF (s.extract 8 s.size) 0 8) 8) (tkF (tkS (s.extract 8 s.size) 0 8) (tkF (s.extract 8 s.size) 0 8) 8) 8) 8).size : Int))])) (0, 0) _ (by kernel_rfl) (M.get 0 rfl) Tryz.underlying26 rfl (by rw [av_size]; exact inz26)) (by kernel_rfl) ⟨by rw [e0, e1, e2, e3, e4], below_grown M.old⟩

set_option maxRecDepth 100000 in
set_option maxHeartbeats 4000000 in
set_option linter.unusedSimpArgs false in
theorem c_packF (s : ByteArray) (h6 : ¬ (sr (bt s 0) 4) = 6) (hz : 20 ≤ s.size) (w : World) (hL : Laid w)  :
    Calls Tryz.prog 41 #[.string s] w fun r w' => r = .returned (.agg (av 9 (ls [.bool false, .int .u64 0, .int .u64 (q4L0 s), .bool false, .int .u64 0, .int .u64 (q4L1 s), .int .u8 (bt s 9), .int .u8 (bt s 8), .string (q4D s)]))) ∧ Below w.heap.size w w' := by
  go_enter Tryz.func41, Tryz.ntmps41
  have M := Mem.start hL
  refine wp_seq ?_
  refine rg_lit ?_
  refine pl_new M (want_no rfl) (some 2) rfl (.cells (av 9 (ls [.bool false, .int .u64 0, .int .u64 0, .bool false, .int .u64 0, .int .u64 0, .int .u8 0, .int .u8 0, .string ⟨#[]⟩])) 26) (fun _ => by kernel_rfl) ?_
  intro g1 u1 M
  replace M : Mem ⟨w, []⟩ [⟨g1, .cells (av 9 (ls [.bool false, .int .u64 0, .int .u64 0, .bool false, .int .u64 0, .int .u64 0, .int .u8 0, .int .u8 0, .string ⟨#[]⟩])) 26⟩] u1 := M
  refine pl_nil ?_
  refine au_then ?_
  refine wp_seq ?_
  refine rg_lit ?_
  refine pl_val (want_no rfl) (some 7) rfl (.string s) (fun _ => by kernel_rfl) ?_
  refine pl_call M (want_no rfl) (some 8) rfl 60 #[.string s] (.bool false) (fun _ => by kernel_rfl) (fun w M => call_val (c_isSix s (by omega) w M.laid) (congrArg Value.bool (decide_eq_false (h6)))) ?_
  intro u2 M
  refine pl_val (want_no rfl) (some 3) rfl (.bool false) (fun _ => by kernel_rfl) ?_
  refine pl_nil ?_
  refine au_then ?_
  refine wp_seq ?_
  refine rg_lit ?_
  refine pl_val (want_no rfl) (some 9) rfl (.bool false) (fun _ => by kernel_rfl) ?_
  refine pl_call M (want_no rfl) (some 10) rfl 37 #[.bool false] (.agg (av 7 (ls [.int .u8 69, .int .i64 20, .int .i64 2, .int .i64 8, .int .i64 9, .int .i64 12, .int .i64 0]))) (fun _ => by kernel_rfl) (fun w M => c_layF w M.laid) ?_
  intro u3 M
  refine pl_new M (want_no rfl) (some 4) rfl (.cells (av 7 (ls [.int .u8 0, .int .i64 0, .int .i64 0, .int .i64 0, .int .i64 0, .int .i64 0, .int .i64 0])) 60) (fun _ => by kernel_rfl) ?_
  intro g2 u4 M
  replace M : Mem ⟨w, []⟩ [⟨g1, .cells (av 9 (ls [.bool false, .int .u64 0, .int .u64 0, .bool false, .int .u64 0, .int .u64 0, .int .u8 0, .int .u8 0, .string ⟨#[]⟩])) 26⟩, ⟨g2, .cells (av 7 (ls [.int .u8 0, .int .i64 0, .int .i64 0, .int .i64 0, .int .i64 0, .int .i64 0, .int .i64 0])) 60⟩] u4 := M
  refine pl_put M (want_no rfl) rfl 60 _ _ rfl 1 g2 0 (by kernel_rfl) 7 60 (ls [.int .u8 0, .int .i64 0, .int .i64 0, .int .i64 0, .int .i64 0, .int .i64 0, .int .i64 0]) rfl 7 (ls [.int .u8 69, .int .i64 20, .int .i64 2, .int .i64 8, .int .i64 9, .int .i64 12, .int .i64 0]) (ls [.int .u8 69, .int .i64 20, .int .i64 2, .int .i64 8, .int .i64 9, .int .i64 12, .int .i64 0]) (by kernel_rfl) inz60 (by decide) (one_ls _ rfl) (fun j hj => by rw [if_pos (by omega), Nat.sub_zero]) ?_
  intro u5 M
  replace M : Mem ⟨w, []⟩ [⟨g1, .cells (av 9 (ls [.bool false, .int .u64 0, .int .u64 0, .bool false, .int .u64 0, .int .u64 0, .int .u8 0, .int .u8 0, .string ⟨#[]⟩])) 26⟩, ⟨g2, .cells (av 7 (ls [.int .u8 69, .int .i64 20, .int .i64 2, .int .i64 8, .int .i64 9, .int .i64 12, .int .i64 0])) 60⟩] u5 := M
  refine pl_nil ?_
  refine au_then ?_
  refine wp_seq ?_
  refine rg_lit ?_
  refine pl_val (want_no rfl) (some 11) rfl (.string s) (fun _ => by kernel_rfl) ?_
  refine pl_val (want_no rfl) (some 12) rfl (.pointer (some ⟨g2, 5, none⟩)) (fun _ => by kernel_rfl) ?_
  refine pl_cell M (want_no rfl) (some 13) rfl 3 _ rfl g2 5 (by kernel_rfl) (.int .i64 12) (fun _ => by kernel_rfl) (fun w M => M.cell 1 rfl (by decide) rfl) ?_
  refine pl_val (want_no rfl) (some 14) rfl (.string (s.extract 12 s.size)) (run_strl 9 Tryz.underlying9 _ _ rfl s (by kernel_rfl) .i64 12 (by kernel_rfl) (by omega) _ rfl) ?_
  refine pl_calln M (want_no rfl) (some 15) rfl 63 #[.string (s.extract 12 s.size)] (fun g3 => .pointer (some ⟨g3, 0, none⟩)) (.cells (av 3 (ls [.bool true, .string (s.extract 12 s.size), .int .i64 0])) 108) (fun _ => by kernel_rfl) (fun w M => c_New (s.extract 12 s.size) w M.laid) ?_
  intro g3 u6 M
  replace M : Mem ⟨w, []⟩ [⟨g1, .cells (av 9 (ls [.bool false, .int .u64 0, .int .u64 0, .bool false, .int .u64 0, .int .u64 0, .int .u8 0, .int .u8 0, .string ⟨#[]⟩])) 26⟩, ⟨g2, .cells (av 7 (ls [.int .u8 69, .int .i64 20, .int .i64 2, .int .i64 8, .int .i64 9, .int .i64 12, .int .i64 0])) 60⟩, ⟨g3, .cells (av 3 (ls [.bool true, .string (s.extract 12 s.size), .int .i64 0])) 108⟩] u6 := M
  refine pl_val (want_no rfl) (some 5) rfl (.pointer (some ⟨g3, 0, none⟩)) (fun _ => by kernel_rfl) ?_
  refine pl_nil ?_
  refine au_then ?_
  refine wp_seq ?_
  refine rg_held M [⟨g1, .cells (av 9 (ls [.bool false, .int .u64 0, .int .u64 0, .bool false, .int .u64 0, .int .u64 0, .int .u8 0, .int .u8 0, .string ⟨#[]⟩])) 26⟩, ⟨g2, .cells (av 7 (ls [.int .u8 69, .int .i64 20, .int .i64 2, .int .i64 8, .int .i64 9, .int .i64 12, .int .i64 0])) 60⟩, ⟨g3, .cells (av 3 (ls [.bool true, .string (s.extract 12 s.size), .int .i64 0])) 108⟩] 10 rfl (by kernel_rfl) (by kernel_rfl) (fun _ _ d _ _ h => by cases d <;> exact h) ?_
  intro u7 M
  replace M : Mem ⟨w, []⟩ [⟨g1, .cells (av 9 (ls [.bool false, .int .u64 0, .int .u64 0, .bool false, .int .u64 0, .int .u64 0, .int .u8 0, .int .u8 0, .string ⟨#[]⟩])) 26⟩, ⟨g2, .cells (av 7 (ls [.int .u8 69, .int .i64 20, .int .i64 2, .int .i64 8, .int .i64 9, .int .i64 12, .int .i64 0])) 60⟩, ⟨g3, .cells (av 3 (ls [.bool true, .string (s.extract 12 s.size), .int .i64 0])) 108⟩] u7 := M
  refine hl_val M 0 rfl (by decide) (by kernel_rfl) (by kernel_rfl) (want_no rfl) (some 16) rfl (.string s) (fun _ _ => by kernel_rfl) ?_
  refine hl_val M 1 rfl (by decide) (by kernel_rfl) (by kernel_rfl) (want_no rfl) (some 17) rfl (.pointer (some ⟨g2, 4, none⟩)) (fun _ _ => by kernel_rfl) ?_
  refine hl_cell M 2 rfl (by decide) (by kernel_rfl) (by kernel_rfl) (want_no rfl) (some 18) rfl 3 _ rfl g2 4 (by kernel_rfl) (.int .i64 9) (fun _ => by kernel_rfl) (fun w M => M.cell 1 rfl (by decide) rfl) ?_
  refine hl_val M 3 rfl (by decide) (by kernel_rfl) (by kernel_rfl) (want_no rfl) (some 19) rfl (.int .u8 (bt s 9)) (fun w _ => (run_ixS 9 Tryz.underlying9 _ _ rfl s (by kernel_rfl) .i64 9 (by kernel_rfl) (by omega)) w) ?_
  refine hl_val M 4 rfl (by decide) (by kernel_rfl) (by kernel_rfl) (want_no rfl) (some 20) rfl (.string s) (fun _ _ => by kernel_rfl) ?_
  refine hl_val M 5 rfl (by decide) (by kernel_rfl) (by kernel_rfl) (want_no rfl) (some 21) rfl (.pointer (some ⟨g2, 3, none⟩)) (fun _ _ => by kernel_rfl) ?_
  refine hl_cell M 6 rfl (by decide) (by kernel_rfl) (by kernel_rfl) (want_no rfl) (some 22) rfl 3 _ rfl g2 3 (by kernel_rfl) (.int .i64 8) (fun _ => by kernel_rfl) (fun w M => M.cell 1 rfl (by decide) rfl) ?_
  refine hl_val M 7 rfl (by decide) (by kernel_rfl) (by kernel_rfl) (want_no rfl) (some 23) rfl (.int .u8 (bt s 8)) (fun w _ => (run_ixS 9 Tryz.underlying9 _ _ rfl s (by kernel_rfl) .i64 8 (by kernel_rfl) (by omega)) w) ?_
  refine hl_val M 8 rfl (by decide) (by kernel_rfl) (by kernel_rfl) (want_no rfl) (some 24) rfl (.agg (av 9 (ls [.bool false, .int .u64 0, .int .u64 0, .bool false, .int .u64 0, .int .u64 0, .int .u8 (bt s 9), .int .u8 (bt s 8), .string ⟨#[]⟩]))) (fun _ _ => by kernel_rfl) ?_
  refine hl_one 9 (by decide) (by kernel_rfl) rfl ?_
  refine pl_new M (want_no rfl) (some 6) rfl (.cells (av 9 (ls [.bool false, .int .u64 0, .int .u64 0, .bool false, .int .u64 0, .int .u64 0, .int .u8 0, .int .u8 0, .string ⟨#[]⟩])) 26) (fun _ => by kernel_rfl) ?_
  intro g4 u8 M
  replace M : Mem ⟨w, []⟩ [⟨g1, .cells (av 9 (ls [.bool false, .int .u64 0, .int .u64 0, .bool false, .int .u64 0, .int .u64 0, .int .u8 0, .int .u8 0, .string ⟨#[]⟩])) 26⟩, ⟨g2, .cells (av 7 (ls [.int .u8 69, .int .i64 20, .int .i64 2, .int .i64 8, .int .i64 9, .int .i64 12, .int .i64 0])) 60⟩, ⟨g3, .cells (av 3 (ls [.bool true, .string (s.extract 12 s.size), .int .i64 0])) 108⟩, ⟨g4, .cells (av 9 (ls [.bool false, .int .u64 0, .int .u64 0, .bool false, .int .u64 0, .int .u64 0, .int .u8 0, .int .u8 0, .string ⟨#[]⟩])) 26⟩] u8 := M
  refine pl_nil ?_
  refine au_then ?_
  refine ⟨(M.drop (.cons_cons _ (.cons_cons _ (.cons_cons _ (.cons _ (.slnil)))))), ?_⟩
  refine hl_end (by kernel_rfl) (by kernel_rfl) rfl ?_
  refine pl_put M (want_no rfl) rfl 26 _ _ rfl 3 g4 0 (by kernel_rfl) 9 26 (ls [.bool false, .int .u64 0, .int .u64 0, .bool false, .int .u64 0, .int .u64 0, .int .u8 0, .int .u8 0, .string ⟨#[]⟩]) rfl 9 (ls [.bool false, .int .u64 0, .int .u64 0, .bool false, .int .u64 0, .int .u64 0, .int .u8 (bt s 9), .int .u8 (bt s 8), .string ⟨#[]⟩]) (ls [.bool false, .int .u64 0, .int .u64 0, .bool false, .int .u64 0, .int .u64 0, .int .u8 (bt s 9), .int .u8 (bt s 8), .string ⟨#[]⟩]) (by kernel_rfl) inz26 (by decide) (one_ls _ rfl) (fun j hj => by rw [if_pos (by omega), Nat.sub_zero]) ?_
  intro u9 M
  replace M : Mem ⟨w, []⟩ [⟨g1, .cells (av 9 (ls [.bool false, .int .u64 0, .int .u64 0, .bool false, .int .u64 0, .int .u64 0, .int .u8 0, .int .u8 0, .string ⟨#[]⟩])) 26⟩, ⟨g2, .cells (av 7 (ls [.int .u8 69, .int .i64 20, .int .i64 2, .int .i64 8, .int .i64 9, .int .i64 12, .int .i64 0])) 60⟩, ⟨g3, .cells (av 3 (ls [.bool true, .string (s.extract 12 s.size), .int .i64 0])) 108⟩, ⟨g4, .cells (av 9 (ls [.bool false, .int .u64 0, .int .u64 0, .bool false, .int .u64 0, .int .u64 0, .int .u8 (bt s 9), .int .u8 (bt s 8), .string ⟨#[]⟩])) 26⟩] u9 := M
  refine pl_nil ?_
  refine au_then ?_
  refine au_then ?_
  refine wp_seq ?_
  refine rg_lit ?_
  refine pl_val (want_no rfl) (some 25) rfl (.pointer (some ⟨g3, 0, none⟩)) (fun _ => by kernel_rfl) ?_
  refine pl_val (want_no rfl) (some 26) rfl (.bool false) (fun _ => by kernel_rfl) ?_
  refine pl_callp M (want_no rfl) (some 27) rfl 64 #[.pointer (some ⟨g3, 0, none⟩), .bool false] (.agg (av 3 (ls [.bool false, .int .u64 0, .int .u64 (cv .u64 (cv .u32 (bnv (tkV (s.extract 12 s.size) 0 4))))]))) 2 g3 (.cells (av 3 (ls [.bool true, .string (s.extract 12 s.size), .int .i64 0])) 108) (.cells (av 3 (ls [.bool true, .string (tkS (s.extract 12 s.size) 0 4), .int .i64 (tkF (s.extract 12 s.size) 0 4)])) 108) rfl (fun _ => by kernel_rfl) (fun w M => c_readF g3 (s.extract 12 s.size) 0 w M.laid (M.get 2 rfl) (M.ne0 2 rfl)) ?_
  intro u10 M
  replace M : Mem ⟨w, []⟩ [⟨g1, .cells (av 9 (ls [.bool false, .int .u64 0, .int .u64 0, .bool false, .int .u64 0, .int .u64 0, .int .u8 0, .int .u8 0, .string ⟨#[]⟩])) 26⟩, ⟨g2, .cells (av 7 (ls [.int .u8 69, .int .i64 20, .int .i64 2, .int .i64 8, .int .i64 9, .int .i64 12, .int .i64 0])) 60⟩, ⟨g3, .cells (av 3 (ls [.bool true, .string (tkS (s.extract 12 s.size) 0 4), .int .i64 (tkF (s.extract 12 s.size) 0 4)])) 108⟩, ⟨g4, .cells (av 9 (ls [.bool false, .int .u64 0, .int .u64 0, .bool false, .int .u64 0, .int .u64 0, .int .u8 (bt s 9), .int .u8 (bt s 8), .string ⟨#[]⟩])) 26⟩] u10 := M
  refine pl_val (want_no rfl) (some 28) rfl (.pointer (some ⟨g4, 0, none⟩)) (fun _ => by kernel_rfl) ?_
  refine pl_put M (want_no rfl) rfl 24 _ _ rfl 3 g4 0 (by kernel_rfl) 9 26 (ls [.bool false, .int .u64 0, .int .u64 0, .bool false, .int .u64 0, .int .u64 0, .int .u8 (bt s 9), .int .u8 (bt s 8), .string ⟨#[]⟩]) rfl 3 (ls [.bool false, .int .u64 0, .int .u64 (cv .u64 (cv .u32 (bnv (tkV (s.extract 12 s.size) 0 4))))]) (ls [.bool false, .int .u64 0, .int .u64 (cv .u64 (cv .u32 (bnv (tkV (s.extract 12 s.size) 0 4)))), .bool false, .int .u64 0, .int .u64 0, .int .u8 (bt s 9), .int .u8 (bt s 8), .string ⟨#[]⟩]) (by kernel_rfl) inz24 (by decide) (one_ls _ rfl) (putp_ls ([.bool false, .int .u64 0, .int .u64 0, .bool false, .int .u64 0, .int .u64 0, .int .u8 (bt s 9), .int .u8 (bt s 8), .string ⟨#[]⟩] : List Value) ([.bool false, .int .u64 0, .int .u64 (cv .u64 (cv .u32 (bnv (tkV (s.extract 12 s.size) 0 4))))] : List Value) 0 _ rfl ⟨Nat.le_of_ble_eq_true rfl, Nat.le_of_ble_eq_true rfl⟩) ?_
  intro u11 M
  replace M : Mem ⟨w, []⟩ [⟨g1, .cells (av 9 (ls [.bool false, .int .u64 0, .int .u64 0, .bool false, .int .u64 0, .int .u64 0, .int .u8 0, .int .u8 0, .string ⟨#[]⟩])) 26⟩, ⟨g2, .cells (av 7 (ls [.int .u8 69, .int .i64 20, .int .i64 2, .int .i64 8, .int .i64 9, .int .i64 12, .int .i64 0])) 60⟩, ⟨g3, .cells (av 3 (ls [.bool true, .string (tkS (s.extract 12 s.size) 0 4), .int .i64 (tkF (s.extract 12 s.size) 0 4)])) 108⟩, ⟨g4, .cells (av 9 (ls [.bool false, .int .u64 0, .int .u64 (cv .u64 (cv .u32 (bnv (tkV (s.extract 12 s.size) 0 4)))), .bool false, .int .u64 0, .int .u64 0, .int .u8 (bt s 9), .int .u8 (bt s 8), .string ⟨#[]⟩])) 26⟩] u11 := M
  refine pl_nil ?_
  refine au_then ?_
  refine wp_seq ?_
  refine rg_lit ?_
  refine pl_val (want_no rfl) (some 29) rfl (.pointer (some ⟨g3, 0, none⟩)) (fun _ => by kernel_rfl) ?_
  refine pl_val (want_no rfl) (some 30) rfl (.bool false) (fun _ => by kernel_rfl) ?_
  refine pl_callp M (want_no rfl) (some 31) rfl 64 #[.pointer (some ⟨g3, 0, none⟩), .bool false] (.agg (av 3 (ls [.bool false, .int .u64 0, .int .u64 (cv .u64 (cv .u32 (bnv (tkV (tkS (s.extract 12 s.size) 0 4) (tkF (s.extract 12 s.size) 0 4) 4))))]))) 2 g3 (.cells (av 3 (ls [.bool true, .string (tkS (s.extract 12 s.size) 0 4), .int .i64 (tkF (s.extract 12 s.size) 0 4)])) 108) (.cells (av 3 (ls [.bool true, .string (tkS (tkS (s.extract 12 s.size) 0 4) (tkF (s.extract 12 s.size) 0 4) 4), .int .i64 (tkF (tkS (s.extract 12 s.size) 0 4) (tkF (s.extract 12 s.size) 0 4) 4)])) 108) rfl (fun _ => by kernel_rfl) (fun w M => c_readF g3 (tkS (s.extract 12 s.size) 0 4) (tkF (s.extract 12 s.size) 0 4) w M.laid (M.get 2 rfl) (M.ne0 2 rfl)) ?_
  intro u12 M
  replace M : Mem ⟨w, []⟩ [⟨g1, .cells (av 9 (ls [.bool false, .int .u64 0, .int .u64 0, .bool false, .int .u64 0, .int .u64 0, .int .u8 0, .int .u8 0, .string ⟨#[]⟩])) 26⟩, ⟨g2, .cells (av 7 (ls [.int .u8 69, .int .i64 20, .int .i64 2, .int .i64 8, .int .i64 9, .int .i64 12, .int .i64 0])) 60⟩, ⟨g3, .cells (av 3 (ls [.bool true, .string (tkS (tkS (s.extract 12 s.size) 0 4) (tkF (s.extract 12 s.size) 0 4) 4), .int .i64 (tkF (tkS (s.extract 12 s.size) 0 4) (tkF (s.extract 12 s.size) 0 4) 4)])) 108⟩, ⟨g4, .cells (av 9 (ls [.bool false, .int .u64 0, .int .u64 (cv .u64 (cv .u32 (bnv (tkV (s.extract 12 s.size) 0 4)))), .bool false, .int .u64 0, .int .u64 0, .int .u8 (bt s 9), .int .u8 (bt s 8), .string ⟨#[]⟩])) 26⟩] u12 := M
  refine pl_val (want_no rfl) (some 32) rfl (.pointer (some ⟨g4, 3, none⟩)) (fun _ => by kernel_rfl) ?_
  refine pl_put M (want_no rfl) rfl 24 _ _ rfl 3 g4 3 (by kernel_rfl) 9 26 (ls [.bool false, .int .u64 0, .int .u64 (cv .u64 (cv .u32 (bnv (tkV (s.extract 12 s.size) 0 4)))), .bool false, .int .u64 0, .int .u64 0, .int .u8 (bt s 9), .int .u8 (bt s 8), .string ⟨#[]⟩]) rfl 3 (ls [.bool false, .int .u64 0, .int .u64 (cv .u64 (cv .u32 (bnv (tkV (tkS (s.extract 12 s.size) 0 4) (tkF (s.extract 12 s.size) 0 4) 4))))]) (ls [.bool false, .int .u64 0, .int .u64 (cv .u64 (cv .u32 (bnv (tkV (s.extract 12 s.size) 0 4)))), .bool false, .int .u64 0, .int .u64 (cv .u64 (cv .u32 (bnv (tkV (tkS (s.extract 12 s.size) 0 4) (tkF (s.extract 12 s.size) 0 4) 4)))), .int .u8 (bt s 9), .int .u8 (bt s 8), .string ⟨#[]⟩]) (by kernel_rfl) inz24 (by decide) (one_ls _ rfl) (putp_ls ([.bool false, .int .u64 0, .int .u64 (cv .u64 (cv .u32 (bnv (tkV (s.extract 12 s.size) 0 4)))), .bool false, .int .u64 0, .int .u64 0, .int .u8 (bt s 9), .int .u8 (bt s 8), .string ⟨#[]⟩] : List Value) ([.bool false, .int .u64 0, .int .u64 (cv .u64 (cv .u32 (bnv (tkV (tkS (s.extract 12 s.size) 0 4) (tkF (s.extract 12 s.size) 0 4) 4))))] : List Value) 3 _ rfl ⟨Nat.le_of_ble_eq_true rfl, Nat.le_of_ble_eq_true rfl⟩) ?_
  intro u13 M
  replace M : Mem ⟨w, []⟩ [⟨g1, .cells (av 9 (ls [.bool false, .int .u64 0, .int .u64 0, .bool false, .int .u64 0, .int .u64 0, .int .u8 0, .int .u8 0, .string ⟨#[]⟩])) 26⟩, ⟨g2, .cells (av 7 (ls [.int .u8 69, .int .i64 20, .int .i64 2, .int .i64 8, .int .i64 9, .int .i64 12, .int .i64 0])) 60⟩, ⟨g3, .cells (av 3 (ls [.bool true, .string (tkS (tkS (s.extract 12 s.size) 0 4) (tkF (s.extract 12 s.size) 0 4) 4), .int .i64 (tkF (tkS (s.extract 12 s.size) 0 4) (tkF (s.extract 12 s.size) 0 4) 4)])) 108⟩, ⟨g4, .cells (av 9 (ls [.bool false, .int .u64 0, .int .u64 (cv .u64 (cv .u32 (bnv (tkV (s.extract 12 s.size) 0 4)))), .bool false, .int .u64 0, .int .u64 (cv .u64 (cv .u32 (bnv (tkV (tkS (s.extract 12 s.size) 0 4) (tkF (s.extract 12 s.size) 0 4) 4)))), .int .u8 (bt s 9), .int .u8 (bt s 8), .string ⟨#[]⟩])) 26⟩] u13 := M
  refine pl_nil ?_
  refine au_then ?_
  refine wp_seq ?_
  refine rg_lit ?_
  refine pl_val (want_no rfl) (some 33) rfl (.pointer (some ⟨g3, 0, none⟩)) (fun _ => by kernel_rfl) ?_
  refine pl_val (want_no rfl) (some 34) rfl (.pointer (some ⟨g3, 0, none⟩)) (fun _ => by kernel_rfl) ?_
  refine pl_call M (want_no rfl) (some 35) rfl 66 #[.pointer (some ⟨g3, 0, none⟩)] (.int .i64 ((tkS (tkS (s.extract 12 s.size) 0 4) (tkF (s.extract 12 s.size) 0 4) 4).size : Int)) (fun _ => by kernel_rfl) (fun w M => c_Left g3 (tkS (tkS (s.extract 12 s.size) 0 4) (tkF (s.extract 12 s.size) 0 4) 4) (tkF (tkS (s.extract 12 s.size) 0 4) (tkF (s.extract 12 s.size) 0 4) 4) w M.laid (M.get 2 rfl) (M.ne0 2 rfl)) ?_
  intro u14 M
  refine pl_callp M (want_no rfl) (some 36) rfl 65 #[.pointer (some ⟨g3, 0, none⟩), .int .i64 ((tkS (tkS (s.extract 12 s.size) 0 4) (tkF (s.extract 12 s.size) 0 4) 4).size : Int)] (.string (tkV (tkS (tkS (s.extract 12 s.size) 0 4) (tkF (s.extract 12 s.size) 0 4) 4) (tkF (tkS (s.extract 12 s.size) 0 4) (tkF (s.extract 12 s.size) 0 4) 4) ((tkS (tkS (s.extract 12 s.size) 0 4) (tkF (s.extract 12 s.size) 0 4) 4).size : Int))) 2 g3 (.cells (av 3 (ls [.bool true, .string (tkS (tkS (s.extract 12 s.size) 0 4) (tkF (s.extract 12 s.size) 0 4) 4), .int .i64 (tkF (tkS (s.extract 12 s.size) 0 4) (tkF (s.extract 12 s.size) 0 4) 4)])) 108) (.cells (av 3 (ls [.bool true, .string (tkS (tkS (tkS (s.extract 12 s.size) 0 4) (tkF (s.extract 12 s.size) 0 4) 4) (tkF (tkS (s.extract 12 s.size) 0 4) (tkF (s.extract 12 s.size) 0 4) 4) ((tkS (tkS (s.extract 12 s.size) 0 4) (tkF (s.extract 12 s.size) 0 4) 4).size : Int)), .int .i64 (tkF (tkS (tkS (s.extract 12 s.size) 0 4) (tkF (s.extract 12 s.size) 0 4) 4) (tkF (tkS (s.extract 12 s.size) 0 4) (tkF (s.extract 12 s.size) 0 4) 4) ((tkS (tkS (s.extract 12 s.size) 0 4) (tkF (s.extract 12 s.size) 0 4) 4).size : Int))])) 108) rfl (fun _ => by kernel_rfl) (fun w M => c_Take g3 (tkS (tkS (s.extract 12 s.size) 0 4) (tkF (s.extract 12 s.size) 0 4) 4) (tkF (tkS (s.extract 12 s.size) 0 4) (tkF (s.extract 12 s.size) 0 4) 4) ((tkS (tkS (s.extract 12 s.size) 0 4) (tkF (s.extract 12 s.size) 0 4) 4).size : Int) w M.laid (M.get 2 rfl) (M.ne0 2 rfl)) ?_
  intro u15 M
  replace M : Mem ⟨w, []⟩ [⟨g1, .cells (av 9 (ls [.bool false, .int .u64 0, .int .u64 0, .bool false, .int .u64 0, .int .u64 0, .int .u8 0, .int .u8 0, .string ⟨#[]⟩])) 26⟩, ⟨g2, .cells (av 7 (ls [.int .u8 69, .int .i64 20, .int .i64 2, .int .i64 8, .int .i64 9, .int .i64 12, .int .i64 0])) 60⟩, ⟨g3, .cells (av 3 (ls [.bool true, .string (tkS (tkS (tkS (s.extract 12 s.size) 0 4) (tkF (s.extract 12 s.size) 0 4) 4) (tkF (tkS (s.extract 12 s.size) 0 4) (tkF (s.extract 12 s.size) 0 4) 4) ((tkS (tkS (s.extract 12 s.size) 0 4) (tkF (s.extract 12 s.size) 0 4) 4).size : Int)), .int .i64 (tkF (tkS (tkS (s.extract 12 s.size) 0 4) (tkF (s.extract 12 s.size) 0 4) 4) (tkF (tkS (s.extract 12 s.size) 0 4) (tkF (s.extract 12 s.size) 0 4) 4) ((tkS (tkS (s.extract 12 s.size) 0 4) (tkF (s.extract 12 s.size) 0 4) 4).size : Int))])) 108⟩, ⟨g4, .cells (av 9 (ls [.bool false, .int .u64 0, .int .u64 (cv .u64 (cv .u32 (bnv (tkV (s.extract 12 s.size) 0 4)))), .bool false, .int .u64 0, .int .u64 (cv .u64 (cv .u32 (bnv (tkV (tkS (s.extract 12 s.size) 0 4) (tkF (s.extract 12 s.size) 0 4) 4)))), .int .u8 (bt s 9), .int .u8 (bt s 8), .string ⟨#[]⟩])) 26⟩] u15 := M
  refine pl_val (want_no rfl) (some 37) rfl (.pointer (some ⟨g4, 8, none⟩)) (fun _ => by kernel_rfl) ?_
  refine pl_put1 M (want_no rfl) rfl 9 _ _ rfl 3 g4 8 (by kernel_rfl) 9 26 (ls [.bool false, .int .u64 0, .int .u64 (cv .u64 (cv .u32 (bnv (tkV (s.extract 12 s.size) 0 4)))), .bool false, .int .u64 0, .int .u64 (cv .u64 (cv .u32 (bnv (tkV (tkS (s.extract 12 s.size) 0 4) (tkF (s.extract 12 s.size) 0 4) 4)))), .int .u8 (bt s 9), .int .u8 (bt s 8), .string ⟨#[]⟩]) rfl (.string (tkV (tkS (tkS (s.extract 12 s.size) 0 4) (tkF (s.extract 12 s.size) 0 4) 4) (tkF (tkS (s.extract 12 s.size) 0 4) (tkF (s.extract 12 s.size) 0 4) 4) ((tkS (tkS (s.extract 12 s.size) 0 4) (tkF (s.extract 12 s.size) 0 4) 4).size : Int))) (ls [.bool false, .int .u64 0, .int .u64 (cv .u64 (cv .u32 (bnv (tkV (s.extract 12 s.size) 0 4)))), .bool false, .int .u64 0, .int .u64 (cv .u64 (cv .u32 (bnv (tkV (tkS (s.extract 12 s.size) 0 4) (tkF (s.extract 12 s.size) 0 4) 4)))), .int .u8 (bt s 9), .int .u8 (bt s 8), .string (tkV (tkS (tkS (s.extract 12 s.size) 0 4) (tkF (s.extract 12 s.size) 0 4) 4) (tkF (tkS (s.extract 12 s.size) 0 4) (tkF (s.extract 12 s.size) 0 4) 4) ((tkS (tkS (s.extract 12 s.size) 0 4) (tkF (s.extract 12 s.size) 0 4) 4).size : Int))]) (by kernel_rfl) inz9 (by decide) rfl rfl (put_ls _ 8 _ _ rfl) ?_
  intro u16 M
  replace M : Mem ⟨w, []⟩ [⟨g1, .cells (av 9 (ls [.bool false, .int .u64 0, .int .u64 0, .bool false, .int .u64 0, .int .u64 0, .int .u8 0, .int .u8 0, .string ⟨#[]⟩])) 26⟩, ⟨g2, .cells (av 7 (ls [.int .u8 69, .int .i64 20, .int .i64 2, .int .i64 8, .int .i64 9, .int .i64 12, .int .i64 0])) 60⟩, ⟨g3, .cells (av 3 (ls [.bool true, .string (tkS (tkS (tkS (s.extract 12 s.size) 0 4) (tkF (s.extract 12 s.size) 0 4) 4) (tkF (tkS (s.extract 12 s.size) 0 4) (tkF (s.extract 12 s.size) 0 4) 4) ((tkS (tkS (s.extract 12 s.size) 0 4) (tkF (s.extract 12 s.size) 0 4) 4).size : Int)), .int .i64 (tkF (tkS (tkS (s.extract 12 s.size) 0 4) (tkF (s.extract 12 s.size) 0 4) 4) (tkF (tkS (s.extract 12 s.size) 0 4) (tkF (s.extract 12 s.size) 0 4) 4) ((tkS (tkS (s.extract 12 s.size) 0 4) (tkF (s.extract 12 s.size) 0 4) 4).size : Int))])) 108⟩, ⟨g4, .cells (av 9 (ls [.bool false, .int .u64 0, .int .u64 (cv .u64 (cv .u32 (bnv (tkV (s.extract 12 s.size) 0 4)))), .bool false, .int .u64 0, .int .u64 (cv .u64 (cv .u32 (bnv (tkV (tkS (s.extract 12 s.size) 0 4) (tkF (s.extract 12 s.size) 0 4) 4)))), .int .u8 (bt s 9), .int .u8 (bt s 8), .string (tkV (tkS (tkS (s.extract 12 s.size) 0 4) (tkF (s.extract 12 s.size) 0 4) 4) (tkF (tkS (s.extract 12 s.size) 0 4) (tkF (s.extract 12 s.size) 0 4) 4) ((tkS (tkS (s.extract 12 s.size) 0 4) (tkF (s.extract 12 s.size) 0 4) 4).size : Int))])) 26⟩] u16 := M
  refine pl_nil ?_
  refine au_then ?_
  refine wp_seq ?_
  refine rg_lit ?_
  refine pl_load M (want_no rfl) (some 38) rfl 26 _ rfl 3 g4 0 (by kernel_rfl) 9 26 (ls [.bool false, .int .u64 0, .int .u64 (cv .u64 (cv .u32 (bnv (tkV (s.extract 12 s.size) 0 4)))), .bool false, .int .u64 0, .int .u64 (cv .u64 (cv .u32 (bnv (tkV (tkS (s.extract 12 s.size) 0 4) (tkF (s.extract 12 s.size) 0 4) 4)))), .int .u8 (bt s 9), .int .u8 (bt s 8), .string (tkV (tkS (tkS (s.extract 12 s.size) 0 4) (tkF (s.extract 12 s.size) 0 4) 4) (tkF (tkS (s.extract 12 s.size) 0 4) (tkF (s.extract 12 s.size) 0 4) 4) ((tkS (tkS (s.extract 12 s.size) 0 4) (tkF (s.extract 12 s.size) 0 4) 4).size : Int))]) rfl 9 (ls [.bool false, .int .u64 0, .int .u64 (cv .u64 (cv .u32 (bnv (tkV (s.extract 12 s.size) 0 4)))), .bool false, .int .u64 0, .int .u64 (cv .u64 (cv .u32 (bnv (tkV (tkS (s.extract 12 s.size) 0 4) (tkF (s.extract 12 s.size) 0 4) 4)))), .int .u8 (bt s 9), .int .u8 (bt s 8), .string (tkV (tkS (tkS (s.extract 12 s.size) 0 4) (tkF (s.extract 12 s.size) 0 4) 4) (tkF (tkS (s.extract 12 s.size) 0 4) (tkF (s.extract 12 s.size) 0 4) 4) ((tkS (tkS (s.extract 12 s.size) 0 4) (tkF (s.extract 12 s.size) 0 4) 4).size : Int))]) (fun j _ => by rw [Nat.zero_add]) (by decide) _ Tryz.underlying26 rfl inz26 ?_
  refine pl_put M (want_no rfl) rfl 26 _ _ rfl 0 g1 0 (by kernel_rfl) 9 26 (ls [.bool false, .int .u64 0, .int .u64 0, .bool false, .int .u64 0, .int .u64 0, .int .u8 0, .int .u8 0, .string ⟨#[]⟩]) rfl 9 (ls [.bool false, .int .u64 0, .int .u64 (cv .u64 (cv .u32 (bnv (tkV (s.extract 12 s.size) 0 4)))), .bool false, .int .u64 0, .int .u64 (cv .u64 (cv .u32 (bnv (tkV (tkS (s.extract 12 s.size) 0 4) (tkF (s.extract 12 s.size) 0 4) 4)))), .int .u8 (bt s 9), .int .u8 (bt s 8), .string (tkV (tkS (tkS (s.extract 12 s.size) 0 4) (tkF (s.extract 12 s.size) 0 4) 4) (tkF (tkS (s.extract 12 s.size) 0 4) (tkF (s.extract 12 s.size) 0 4) 4) ((tkS (tkS (s.extract 12 s.size) 0 4) (tkF (s.extract 12 s.size) 0 4) 4).size : Int))]) (ls [.bool false, .int .u64 0, .int .u64 (cv .u64 (cv .u32 (bnv (tkV (s.extract 12 s.size) 0 4)))), .bool false, .int .u64 0, .int .u64 (cv .u64 (cv .u32 (bnv (tkV (tkS (s.extract 12 s.size) 0 4) (tkF (s.extract 12 s.size) 0 4) 4)))), .int .u8 (bt s 9), .int .u8 (bt s 8), .string (tkV (tkS (tkS (s.extract 12 s.size) 0 4) (tkF (s.extract 12 s.size) 0 4) 4) (tkF (tkS (s.extract 12 s.size) 0 4) (tkF (s.extract 12 s.size) 0 4) 4) ((tkS (tkS (s.extract 12 s.size) 0 4) (tkF (s.extract 12 s.size) 0 4) 4).size : Int))]) (by kernel_rfl) inz26 (by decide) (one_ls _ rfl) (fun j hj => by rw [if_pos (by omega), Nat.sub_zero]) ?_
  intro u17 M
  replace M : Mem ⟨w, []⟩ [⟨g1, .cells (av 9 (ls [.bool false, .int .u64 0, .int .u64 (cv .u64 (cv .u32 (bnv (tkV (s.extract 12 s.size) 0 4)))), .bool false, .int .u64 0, .int .u64 (cv .u64 (cv .u32 (bnv (tkV (tkS (s.extract 12 s.size) 0 4) (tkF (s.extract 12 s.size) 0 4) 4)))), .int .u8 (bt s 9), .int .u8 (bt s 8), .string (tkV (tkS (tkS (s.extract 12 s.size) 0 4) (tkF (s.extract 12 s.size) 0 4) 4) (tkF (tkS (s.extract 12 s.size) 0 4) (tkF (s.extract 12 s.size) 0 4) 4) ((tkS (tkS (s.extract 12 s.size) 0 4) (tkF (s.extract 12 s.size) 0 4) 4).size : Int))])) 26⟩, ⟨g2, .cells (av 7 (ls [.int .u8 69, .int .i64 20, .int .i64 2, .int .i64 8, .int .i64 9, .int .i64 12, .int .i64 0])) 60⟩, ⟨g3, .cells (av 3 (ls [.bool true, .string (tkS (tkS (tkS (s.extract 12 s.size) 0 4) (tkF (s.extract 12 s.size) 0 4) 4) (tkF (tkS (s.extract 12 s.size) 0 4) (tkF (s.extract 12 s.size) 0 4) 4) ((tkS (tkS (s.extract 12 s.size) 0 4) (tkF (s.extract 12 s.size) 0 4) 4).size : Int)), .int .i64 (tkF (tkS (tkS (s.extract 12 s.size) 0 4) (tkF (s.extract 12 s.size) 0 4) 4) (tkF (tkS (s.extract 12 s.size) 0 4) (tkF (s.extract 12 s.size) 0 4) 4) ((tkS (tkS (s.extract 12 s.size) 0 4) (tkF (s.extract 12 s.size) 0 4) 4).size : Int))])) 108⟩, ⟨g4, .cells (av 9 (ls [.bool false, .int .u64 0, .int .u64 (cv .u64 (cv .u32 (bnv (tkV (s.extract 12 s.size) 0 4)))), .bool false, .int .u64 0, .int .u64 (cv .u64 (cv .u32 (bnv (tkV (tkS (s.extract 12 s.size) 0 4) (tkF (s.extract 12 s.size) 0 4) 4)))), .int .u8 (bt s 9), .int .u8 (bt s 8), .string (tkV (tkS (tkS (s.extract 12 s.size) 0 4) (tkF (s.extract 12 s.size) 0 4) 4) (tkF (tkS (s.extract 12 s.size) 0 4) (tkF (s.extract 12 s.size) 0 4) 4) ((tkS (tkS (s.extract 12 s.size) 0 4) (tkF (s.extract 12 s.size) 0 4) 4).size : Int))])) 26⟩] u17 := M
  refine pl_nil ?_
  refine au_then ?_
  refine wp_ret ?_
  have e0 : (q4L0 s) = (cv .u64 (cv .u32 (bnv (tkV (s.extract 12 s.size) 0 4)))) := rfl
  have e1 : (q4L1 s) = (cv .u64 (cv .u32 (bnv (tkV (tkS (s.extract 12 s.size) 0 4) (tkF (s.extract 12 s.size) 0 4) 4)))) := rfl
  have e2 : (q4D s) = (tkV (tkS (tkS (s.extract 12 s.size) 0 4) (tkF (s.extract 12 s.size) 0 4) 4) (tkF (tkS (s.extract 12 s.size) 0 4) (tkF (s.extract 12 s.size) 0 4) 4) ((tkS (tkS (s.extract 12 s.size) 0 4) (tkF (s.extract 12 s.size) 0 4) 4).size : Int)) := rfl
  exact bodyPost_ret (v := .agg (av 9 (ls [.bool false, .int .u64 0, .int .u64 (cv .u64 (cv .u32 (bnv (tkV (s.extract 12 s.size) 0 4)))), .bool false, .int .u64 0, .int .u64 (cv .u64 (cv .u32 (bnv (tkV (tkS (s.extract 12 s.size) 0 4) (tkF (s.extract 12 s.size) 0 4) 4)))), .int .u8 (bt s 9), .int .u8 (bt s 8), .string (tkV (tkS (tkS (s.extract 12 s.size) 0 4) (tkF (s.extract 12 s.size) 0 4) 4) (tkF (tkS (s.extract 12 s.size) 0 4) (tkF (s.extract 12 s.size) 0 4) 4) ((tkS (tkS (s.extract 12 s.size) 0 4) (tkF (s.extract 12 s.size) 0 4) 4).size : Int))]))) (results_cell_row Tryz.results41 _ _ g1 26 (av 9 (ls [.bool false, .int .u64 0, .int .u64 (cv .u64 (cv .u32 (bnv (tkV (s.extract 12 s.size) 0 4)))), .bool false, .int .u64 0, .int .u64 (cv .u64 (cv .u32 (bnv (tkV (tkS (s.extract 12 s.size) 0 4) (tkF (s.extract 12 s.size) 0 4) 4)))), .int .u8 (bt s 9), .int .u8 (bt s 8), .string (tkV (tkS (tkS (s.extract 12 s.size) 0 4) (tkF (s.extract 12 s.size) 0 4) 4) (tkF (tkS (s.extract 12 s.size) 0 4) (tkF (s.extract 12 s.size) 0 4) 4) ((tkS (tkS (s.extract 12 s.size) 0 4) (tkF (s.extract 12 s.size) 0 4) 4).size : Int))])) (0, 0) _ (by kernel_rfl) (M.get 0 rfl) Tryz.underlying26 rfl (by rw [av_size]; exact inz26)) (by kernel_rfl) ⟨by rw [e0, e1, e2], below_grown M.old⟩

section
variable {a : Act} {w : World} {Q : Exit → Act → World → Prop} {K : Act → World → Prop} {J : Act → World → Prop}
theorem au_then_goto {i : Nat} (h : Q (.goto i) a w) : Exit.then K Q (.goto i) a w := h
theorem au_scope_ret {i : Nat} (h : Q .ret a w) : Exit.jump i J Q .ret a w := h
theorem au_jump {i : Nat} (h : J a w) : Exit.jump i J Q (.goto i) a w := ⟨rfl, h⟩
end
theorem fF_lt {s : ByteArray} (h : fF s = 0) : 0 < s.size ∧ s.size ≤ 1500 := by
  unfold fF at h
  split at h
  · cases h
  · split at h
    · cases h
    · rename_i h1 h2
      exact ⟨ne_size h2, by omega⟩
theorem fa6_lt {s : ByteArray} (h : fa6 s = 0) : 40 ≤ s.size := by
  unfold fa6 at h
  split at h
  · cases h
  · omega
theorem fa4_lt {s : ByteArray} (h : fa4 s = 0) : 20 ≤ s.size := by
  unfold fa4 at h
  split at h
  · cases h
  · omega
theorem hFa_6 {s : ByteArray} (h : hFa s = 0) (h6 : sr (bt s 0) 4 = 6) : 40 ≤ s.size := by
  unfold hFa at h
  rw [if_pos h6] at h
  exact fa6_lt h
theorem hFa_4 {s : ByteArray} (h : hFa s = 0) (h6 : ¬ sr (bt s 0) 4 = 6) : 20 ≤ s.size := by
  unfold hFa at h
  rw [if_neg h6] at h
  exact fa4_lt h
set_option maxRecDepth 100000 in
set_option maxHeartbeats 4000000 in
set_option linter.unusedSimpArgs false in
theorem c_Decode (s : ByteArray) (hs : s.size ≤ 200000) (w : World) (hL : Laid w)  :
    Calls Tryz.prog 16 #[.string s] w fun r w' => r = .returned (.tuple #[.agg (av 9 (ls [.bool (zB (dcE s) (decide ((sr (bt s 0) 4) = 6))), .int .u64 (zI (dcE s) (if (sr (bt s 0) 4) = 6 then (q6H0 s) else 0)), .int .u64 (zI (dcE s) (if (sr (bt s 0) 4) = 6 then (q6L0 s) else (q4L0 s))), .bool (zB (dcE s) (decide ((sr (bt s 0) 4) = 6))), .int .u64 (zI (dcE s) (if (sr (bt s 0) 4) = 6 then (q6H1 s) else 0)), .int .u64 (zI (dcE s) (if (sr (bt s 0) 4) = 6 then (q6L1 s) else (q4L1 s))), .int .u8 (zI (dcE s) (if (sr (bt s 0) 4) = 6 then (bt s 6) else (bt s 9))), .int .u8 (zI (dcE s) (if (sr (bt s 0) 4) = 6 then (bt s 7) else (bt s 8))), .string (zS (dcE s) (if (sr (bt s 0) 4) = 6 then (q6D s) else (q4D s)))])), .int .i64 (dcE s)]) ∧ Below w.heap.size w w' := by
  go_enter Tryz.func16, Tryz.ntmps16
  have M := Mem.start hL
  refine wp_seq ?_
  refine rg_lit ?_
  refine pl_new M (want_no rfl) (some 2) rfl (.cells (av 9 (ls [.bool false, .int .u64 0, .int .u64 0, .bool false, .int .u64 0, .int .u64 0, .int .u8 0, .int .u8 0, .string ⟨#[]⟩])) 26) (fun _ => by kernel_rfl) ?_
  intro g1 u1 M
  replace M : Mem ⟨w, []⟩ [⟨g1, .cells (av 9 (ls [.bool false, .int .u64 0, .int .u64 0, .bool false, .int .u64 0, .int .u64 0, .int .u8 0, .int .u8 0, .string ⟨#[]⟩])) 26⟩] u1 := M
  refine pl_val (want_no rfl) (some 3) rfl (.int .i64 0) (fun _ => by kernel_rfl) ?_
  refine pl_nil ?_
  refine au_then ?_
  refine wp_scope_jumps 0 (fun a u => ∃ (v : Nat → Value) (e : Int), a = ⟨#[.string s, undef, .pointer (some ⟨g1, 0, none⟩), v 3, .int .i64 e, v 5, v 6, v 7, v 8, v 9, v 10, v 11, v 12, v 13, v 14, v 15, v 16], []⟩ ∧ Mem ⟨w, []⟩ [⟨g1, .cells (av 9 (ls [.bool false, .int .u64 0, .int .u64 0, .bool false, .int .u64 0, .int .u64 0, .int .u8 0, .int .u8 0, .string ⟨#[]⟩])) 26⟩] u ∧ e = dcE s ∧ e ≠ 0) (fun _ _ => 0) rfl ?_ ?_
  · skip
    refine wp_seq ?_
    refine rg_lit ?_
    refine pl_val (want_no rfl) (some 5) rfl (.string s) (fun _ => by kernel_rfl) ?_
    refine pl_call M (want_no rfl) (some 6) rfl 39 #[.string s] (.int .i64 (fF s)) (fun _ => by kernel_rfl) (fun w M => c_firstFault s w M.laid) ?_
    intro u2 M
    refine pl_val (want_no rfl) (some 4) rfl (.int .i64 (fF s)) (fun _ => by kernel_rfl) ?_
    refine pl_nil ?_
    refine au_then ?_
    refine wp_seq ?_
    refine wp_seq ?_
    refine rg_lit ?_
    refine pl_val (want_no rfl) (some 7) rfl (.int .i64 (fF s)) (fun _ => by kernel_rfl) ?_
    by_cases c0 : (fF s) = 0
    · skip
      refine pl_val (want_no rfl) (some 8) rfl (.bool false) (fun w => Eq.trans (b := .ok (.value (.bool (!(decide ((fF s) = 0))))) w) (by kernel_rfl) (by rw [decide_eq_true (c0)]; rfl)) ?_
      refine pl_nil ?_
      refine au_then ?_
      refine wp_cond_false (by kernel_rfl) ?_
      refine wp_skip ?_
      refine au_then ?_
      refine wp_seq ?_
      refine wp_seq ?_
      refine rg_lit ?_
      refine pl_val (want_no rfl) (some 9) rfl (.string s) (fun _ => by kernel_rfl) ?_
      refine pl_call M (want_no rfl) (some 10) rfl 40 #[.string s] (.int .i64 (hFa s)) (fun _ => by kernel_rfl) (fun w M => c_header s (fF_lt c0).1 hs w M.laid) ?_
      intro u3 M
      refine pl_val (want_no rfl) (some 4) rfl (.int .i64 (hFa s)) (fun _ => by kernel_rfl) ?_
      refine pl_nil ?_
      refine au_then ?_
      refine wp_seq ?_
      refine rg_lit ?_
      refine pl_val (want_no rfl) (some 11) rfl (.int .i64 (hFa s)) (fun _ => by kernel_rfl) ?_
      by_cases c1 : (hFa s) = 0
      · skip
        refine pl_val (want_no rfl) (some 12) rfl (.bool false) (fun w => Eq.trans (b := .ok (.value (.bool (!(decide ((hFa s) = 0))))) w) (by kernel_rfl) (by rw [decide_eq_true (c1)]; rfl)) ?_
        refine pl_nil ?_
        refine au_then ?_
        refine wp_cond_false (by kernel_rfl) ?_
        refine wp_skip ?_
        refine au_then ?_
        refine wp_seq ?_
        refine wp_seq ?_
        refine rg_lit ?_
        refine pl_val (want_no rfl) (some 13) rfl (.string s) (fun _ => by kernel_rfl) ?_
        by_cases c2 : (sr (bt s 0) 4) = 6
        · skip
          refine pl_call M (want_no rfl) (some 14) rfl 41 #[.string s] (.agg (av 9 (ls [.bool true, .int .u64 (q6H0 s), .int .u64 (q6L0 s), .bool true, .int .u64 (q6H1 s), .int .u64 (q6L1 s), .int .u8 (bt s 6), .int .u8 (bt s 7), .string (q6D s)]))) (fun _ => by kernel_rfl) (fun w M => c_packT s c2 (hFa_6 c1 c2) w M.laid) ?_
          intro u4 M
          refine pl_put M (want_no rfl) rfl 26 _ _ rfl 0 g1 0 (by kernel_rfl) 9 26 (ls [.bool false, .int .u64 0, .int .u64 0, .bool false, .int .u64 0, .int .u64 0, .int .u8 0, .int .u8 0, .string ⟨#[]⟩]) rfl 9 (ls [.bool true, .int .u64 (q6H0 s), .int .u64 (q6L0 s), .bool true, .int .u64 (q6H1 s), .int .u64 (q6L1 s), .int .u8 (bt s 6), .int .u8 (bt s 7), .string (q6D s)]) (ls [.bool true, .int .u64 (q6H0 s), .int .u64 (q6L0 s), .bool true, .int .u64 (q6H1 s), .int .u64 (q6L1 s), .int .u8 (bt s 6), .int .u8 (bt s 7), .string (q6D s)]) (by kernel_rfl) inz26 (by decide) (one_ls _ rfl) (fun j hj => by rw [if_pos (by omega), Nat.sub_zero]) ?_
          intro u5 M
          replace M : Mem ⟨w, []⟩ [⟨g1, .cells (av 9 (ls [.bool true, .int .u64 (q6H0 s), .int .u64 (q6L0 s), .bool true, .int .u64 (q6H1 s), .int .u64 (q6L1 s), .int .u8 (bt s 6), .int .u8 (bt s 7), .string (q6D s)])) 26⟩] u5 := M
          refine pl_val (want_no rfl) (some 3) rfl (.int .i64 0) (fun _ => by kernel_rfl) ?_
          refine pl_nil ?_
          refine au_then ?_
          refine wp_ret ?_
          refine au_then_ret ?_
          refine au_scope_ret ?_
          have e0 : zB (dcE s) (decide ((sr (bt s 0) 4) = 6)) = true := by rw [(show dcE s = 0 by unfold dcE; rw [if_pos c0]; exact c1)]; exact decide_eq_true c2
          have e1 : (zI (dcE s) (if (sr (bt s 0) 4) = 6 then (q6H0 s) else 0)) = (q6H0 s) := by rw [(show dcE s = 0 by unfold dcE; rw [if_pos c0]; exact c1)]; exact if_pos c2
          have e2 : (zI (dcE s) (if (sr (bt s 0) 4) = 6 then (q6L0 s) else (q4L0 s))) = (q6L0 s) := by rw [(show dcE s = 0 by unfold dcE; rw [if_pos c0]; exact c1)]; exact if_pos c2
          have e3 : (zI (dcE s) (if (sr (bt s 0) 4) = 6 then (q6H1 s) else 0)) = (q6H1 s) := by rw [(show dcE s = 0 by unfold dcE; rw [if_pos c0]; exact c1)]; exact if_pos c2
          have e4 : (zI (dcE s) (if (sr (bt s 0) 4) = 6 then (q6L1 s) else (q4L1 s))) = (q6L1 s) := by rw [(show dcE s = 0 by unfold dcE; rw [if_pos c0]; exact c1)]; exact if_pos c2
          have e5 : (zI (dcE s) (if (sr (bt s 0) 4) = 6 then (bt s 6) else (bt s 9))) = (bt s 6) := by rw [(show dcE s = 0 by unfold dcE; rw [if_pos c0]; exact c1)]; exact if_pos c2
          have e6 : (zI (dcE s) (if (sr (bt s 0) 4) = 6 then (bt s 7) else (bt s 8))) = (bt s 7) := by rw [(show dcE s = 0 by unfold dcE; rw [if_pos c0]; exact c1)]; exact if_pos c2
          have e7 : (zS (dcE s) (if (sr (bt s 0) 4) = 6 then (q6D s) else (q4D s))) = (q6D s) := by rw [(show dcE s = 0 by unfold dcE; rw [if_pos c0]; exact c1)]; exact if_pos c2
          have e8 : (dcE s) = 0 := (show dcE s = 0 by unfold dcE; rw [if_pos c0]; exact c1)
          exact bodyPost_ret (v := .tuple #[.agg (av 9 (ls [.bool true, .int .u64 (q6H0 s), .int .u64 (q6L0 s), .bool true, .int .u64 (q6H1 s), .int .u64 (q6L1 s), .int .u8 (bt s 6), .int .u8 (bt s 7), .string (q6D s)])), .int .i64 0]) (results_cell_tmp Tryz.results16 _ _ g1 26 (av 9 (ls [.bool true, .int .u64 (q6H0 s), .int .u64 (q6L0 s), .bool true, .int .u64 (q6H1 s), .int .u64 (q6L1 s), .int .u8 (bt s 6), .int .u8 (bt s 7), .string (q6D s)])) (0, 0) _ _ (by kernel_rfl) (by kernel_rfl) (M.get 0 rfl) Tryz.underlying26 rfl (by rw [av_size]; exact inz26)) (by kernel_rfl) ⟨by rw [e0, e1, e2, e3, e4, e5, e6, e7, e8], below_grown M.old⟩
        · skip
          refine pl_call M (want_no rfl) (some 14) rfl 41 #[.string s] (.agg (av 9 (ls [.bool false, .int .u64 0, .int .u64 (q4L0 s), .bool false, .int .u64 0, .int .u64 (q4L1 s), .int .u8 (bt s 9), .int .u8 (bt s 8), .string (q4D s)]))) (fun _ => by kernel_rfl) (fun w M => c_packF s c2 (hFa_4 c1 c2) w M.laid) ?_
          intro u4 M
          refine pl_put M (want_no rfl) rfl 26 _ _ rfl 0 g1 0 (by kernel_rfl) 9 26 (ls [.bool false, .int .u64 0, .int .u64 0, .bool false, .int .u64 0, .int .u64 0, .int .u8 0, .int .u8 0, .string ⟨#[]⟩]) rfl 9 (ls [.bool false, .int .u64 0, .int .u64 (q4L0 s), .bool false, .int .u64 0, .int .u64 (q4L1 s), .int .u8 (bt s 9), .int .u8 (bt s 8), .string (q4D s)]) (ls [.bool false, .int .u64 0, .int .u64 (q4L0 s), .bool false, .int .u64 0, .int .u64 (q4L1 s), .int .u8 (bt s 9), .int .u8 (bt s 8), .string (q4D s)]) (by kernel_rfl) inz26 (by decide) (one_ls _ rfl) (fun j hj => by rw [if_pos (by omega), Nat.sub_zero]) ?_
          intro u5 M
          replace M : Mem ⟨w, []⟩ [⟨g1, .cells (av 9 (ls [.bool false, .int .u64 0, .int .u64 (q4L0 s), .bool false, .int .u64 0, .int .u64 (q4L1 s), .int .u8 (bt s 9), .int .u8 (bt s 8), .string (q4D s)])) 26⟩] u5 := M
          refine pl_val (want_no rfl) (some 3) rfl (.int .i64 0) (fun _ => by kernel_rfl) ?_
          refine pl_nil ?_
          refine au_then ?_
          refine wp_ret ?_
          refine au_then_ret ?_
          refine au_scope_ret ?_
          have e0 : zB (dcE s) (decide ((sr (bt s 0) 4) = 6)) = false := by rw [(show dcE s = 0 by unfold dcE; rw [if_pos c0]; exact c1)]; exact decide_eq_false c2
          have e1 : (zI (dcE s) (if (sr (bt s 0) 4) = 6 then (q6H0 s) else 0)) = 0 := by rw [(show dcE s = 0 by unfold dcE; rw [if_pos c0]; exact c1)]; exact if_neg c2
          have e2 : (zI (dcE s) (if (sr (bt s 0) 4) = 6 then (q6L0 s) else (q4L0 s))) = (q4L0 s) := by rw [(show dcE s = 0 by unfold dcE; rw [if_pos c0]; exact c1)]; exact if_neg c2
          have e3 : (zI (dcE s) (if (sr (bt s 0) 4) = 6 then (q6H1 s) else 0)) = 0 := by rw [(show dcE s = 0 by unfold dcE; rw [if_pos c0]; exact c1)]; exact if_neg c2
          have e4 : (zI (dcE s) (if (sr (bt s 0) 4) = 6 then (q6L1 s) else (q4L1 s))) = (q4L1 s) := by rw [(show dcE s = 0 by unfold dcE; rw [if_pos c0]; exact c1)]; exact if_neg c2
          have e5 : (zI (dcE s) (if (sr (bt s 0) 4) = 6 then (bt s 6) else (bt s 9))) = (bt s 9) := by rw [(show dcE s = 0 by unfold dcE; rw [if_pos c0]; exact c1)]; exact if_neg c2
          have e6 : (zI (dcE s) (if (sr (bt s 0) 4) = 6 then (bt s 7) else (bt s 8))) = (bt s 8) := by rw [(show dcE s = 0 by unfold dcE; rw [if_pos c0]; exact c1)]; exact if_neg c2
          have e7 : (zS (dcE s) (if (sr (bt s 0) 4) = 6 then (q6D s) else (q4D s))) = (q4D s) := by rw [(show dcE s = 0 by unfold dcE; rw [if_pos c0]; exact c1)]; exact if_neg c2
          have e8 : (dcE s) = 0 := (show dcE s = 0 by unfold dcE; rw [if_pos c0]; exact c1)
          exact bodyPost_ret (v := .tuple #[.agg (av 9 (ls [.bool false, .int .u64 0, .int .u64 (q4L0 s), .bool false, .int .u64 0, .int .u64 (q4L1 s), .int .u8 (bt s 9), .int .u8 (bt s 8), .string (q4D s)])), .int .i64 0]) (results_cell_tmp Tryz.results16 _ _ g1 26 (av 9 (ls [.bool false, .int .u64 0, .int .u64 (q4L0 s), .bool false, .int .u64 0, .int .u64 (q4L1 s), .int .u8 (bt s 9), .int .u8 (bt s 8), .string (q4D s)])) (0, 0) _ _ (by kernel_rfl) (by kernel_rfl) (M.get 0 rfl) Tryz.underlying26 rfl (by rw [av_size]; exact inz26)) (by kernel_rfl) ⟨by rw [e0, e1, e2, e3, e4, e5, e6, e7, e8], below_grown M.old⟩
      · skip
        refine pl_val (want_no rfl) (some 12) rfl (.bool true) (fun w => Eq.trans (b := .ok (.value (.bool (!(decide ((hFa s) = 0))))) w) (by kernel_rfl) (by rw [decide_eq_false (c1)]; rfl)) ?_
        refine pl_nil ?_
        refine au_then ?_
        refine wp_cond_true (by kernel_rfl) ?_
        refine wp_goto ?_
        refine au_then_goto ?_
        exact au_jump ⟨fun k_ => ([.int .i64 0, undef, .string s, .int .i64 (fF s), .int .i64 (fF s), .bool false, .string s, .int .i64 (hFa s), .int .i64 (hFa s), .bool true, undef, undef, undef, undef] : List Value).getD (k_ - 3) undef, (hFa s), by kernel_rfl, M, by unfold dcE; rw [if_pos c0], c1⟩
    · skip
      refine pl_val (want_no rfl) (some 8) rfl (.bool true) (fun w => Eq.trans (b := .ok (.value (.bool (!(decide ((fF s) = 0))))) w) (by kernel_rfl) (by rw [decide_eq_false (c0)]; rfl)) ?_
      refine pl_nil ?_
      refine au_then ?_
      refine wp_cond_true (by kernel_rfl) ?_
      refine wp_goto ?_
      refine au_then_goto ?_
      exact au_jump ⟨fun k_ => ([.int .i64 0, undef, .string s, .int .i64 (fF s), .int .i64 (fF s), .bool true, undef, undef, undef, undef, undef, undef, undef, undef] : List Value).getD (k_ - 3) undef, (fF s), by kernel_rfl, M, by unfold dcE; rw [if_neg c0], c0⟩
  · intro a u0 hJ
    obtain ⟨v, e, rfl, M, he, hn⟩ := hJ
    refine wp_seq ?_
    refine wp_skip ?_
    refine au_then ?_
    refine wp_seq ?_
    refine rg_lit ?_
    refine pl_val (want_no rfl) (some 15) rfl (.agg (av 9 (ls [.bool false, .int .u64 0, .int .u64 0, .bool false, .int .u64 0, .int .u64 0, .int .u8 0, .int .u8 0, .string ⟨#[]⟩]))) (fun _ => by kernel_rfl) ?_
    refine pl_val (want_no rfl) (some 16) rfl (.int .i64 e) (fun _ => by kernel_rfl) ?_
    refine pl_put M (want_no rfl) rfl 26 _ _ rfl 0 g1 0 (by kernel_rfl) 9 26 (ls [.bool false, .int .u64 0, .int .u64 0, .bool false, .int .u64 0, .int .u64 0, .int .u8 0, .int .u8 0, .string ⟨#[]⟩]) rfl 9 (ls [.bool false, .int .u64 0, .int .u64 0, .bool false, .int .u64 0, .int .u64 0, .int .u8 0, .int .u8 0, .string ⟨#[]⟩]) (ls [.bool false, .int .u64 0, .int .u64 0, .bool false, .int .u64 0, .int .u64 0, .int .u8 0, .int .u8 0, .string ⟨#[]⟩]) (by kernel_rfl) inz26 (by decide) (one_ls _ rfl) (fun j hj => by rw [if_pos (by omega), Nat.sub_zero]) ?_
    intro u2 M
    replace M : Mem ⟨w, []⟩ [⟨g1, .cells (av 9 (ls [.bool false, .int .u64 0, .int .u64 0, .bool false, .int .u64 0, .int .u64 0, .int .u8 0, .int .u8 0, .string ⟨#[]⟩])) 26⟩] u2 := M
    refine pl_val (want_no rfl) (some 3) rfl (.int .i64 e) (fun _ => by kernel_rfl) ?_
    refine pl_nil ?_
    refine au_then ?_
    refine wp_ret ?_
    refine au_scope_ret ?_
    have e0 : zB (dcE s) (decide ((sr (bt s 0) 4) = 6)) = false := if_neg (by rw [← he]; exact hn)
    have e1 : (zI (dcE s) (if (sr (bt s 0) 4) = 6 then (q6H0 s) else 0)) = 0 := if_neg (by rw [← he]; exact hn)
    have e2 : (zI (dcE s) (if (sr (bt s 0) 4) = 6 then (q6L0 s) else (q4L0 s))) = 0 := if_neg (by rw [← he]; exact hn)
    have e3 : (zI (dcE s) (if (sr (bt s 0) 4) = 6 then (q6H1 s) else 0)) = 0 := if_neg (by rw [← he]; exact hn)
    have e4 : (zI (dcE s) (if (sr (bt s 0) 4) = 6 then (q6L1 s) else (q4L1 s))) = 0 := if_neg (by rw [← he]; exact hn)
    have e5 : (zI (dcE s) (if (sr (bt s 0) 4) = 6 then (bt s 6) else (bt s 9))) = 0 := if_neg (by rw [← he]; exact hn)
    have e6 : (zI (dcE s) (if (sr (bt s 0) 4) = 6 then (bt s 7) else (bt s 8))) = 0 := if_neg (by rw [← he]; exact hn)
    have e7 : (zS (dcE s) (if (sr (bt s 0) 4) = 6 then (q6D s) else (q4D s))) = ⟨#[]⟩ := if_neg (by rw [← he]; exact hn)
    have e8 : (dcE s) = e := he.symm
    exact bodyPost_ret (v := .tuple #[.agg (av 9 (ls [.bool false, .int .u64 0, .int .u64 0, .bool false, .int .u64 0, .int .u64 0, .int .u8 0, .int .u8 0, .string ⟨#[]⟩])), .int .i64 e]) (results_cell_tmp Tryz.results16 _ _ g1 26 (av 9 (ls [.bool false, .int .u64 0, .int .u64 0, .bool false, .int .u64 0, .int .u64 0, .int .u8 0, .int .u8 0, .string ⟨#[]⟩])) (0, 0) _ _ (by kernel_rfl) (by kernel_rfl) (M.get 0 rfl) Tryz.underlying26 rfl (by rw [av_size]; exact inz26)) (by kernel_rfl) ⟨by rw [e0, e1, e2, e3, e4, e5, e6, e7, e8], below_grown M.old⟩


end Go.Proofs.YtndonmdgplojnaaGreatDoor

/- Numbers of bytes. -/
namespace Go.Proofs.YtndonmdgplojnaaGreatDoor
open Go.RowKit

theorem u8_cv64 (s : ByteArray) (j : Nat) : cv .u64 (bt s j) = bt s j := by
  have := bt_nn s j
  rw [cv_u64]
  omega
theorem uo_ua (x b : Int) (h0 : 0 ≤ b) (h1 : b < 256) : uo (sl x 8) b = ua (sl x 8) b := by
  rw [sl_8]
  have hm : (x * 256) % 18446744073709551616 = 256 * (x % 72057594037927936) := by omega
  have hk0 : 0 ≤ x % 72057594037927936 := by omega
  have hk1 : x % 72057594037927936 < 72057594037927936 := by omega
  rw [hm]
  generalize x % 72057594037927936 = m at *
  obtain ⟨k, rfl⟩ := Int.eq_ofNat_of_zero_le hk0
  obtain ⟨c, rfl⟩ := Int.eq_ofNat_of_zero_le h0
  have e := Nat.two_pow_add_eq_or_of_lt (i := 8) (b := c) (by omega) k
  have e1 : BitVec.ofInt 64 (256 * (k : Int)) = BitVec.ofNat 64 (256 * k) := by
    have : (256 * (k : Int)) = ((256 * k : Nat) : Int) := by omega
    rw [this]
    rfl
  have e2 : BitVec.ofInt 64 (c : Int) = BitVec.ofNat 64 c := rfl
  unfold uo ua
  rw [e1, e2, BitVec.toNat_or, BitVec.toNat_ofNat, BitVec.toNat_ofNat, Nat.mod_eq_of_lt (by omega), Nat.mod_eq_of_lt (by omega)]
  have e3 : 256 * k ||| c = 256 * k + c := e.symm
  rw [e3]
  congr 1
theorem bn_bd (s : ByteArray) (j : Nat) : bn s j = bd s j := by
  induction j with
  | zero => rfl
  | succ j ih =>
    have := bt_nn s j
    unfold bn bd
    rw [ih, u8_cv64, uo_ua _ _ this.1 this.2]
theorem bnv_bdv (s : ByteArray) : bnv s = bdv s := bn_bd s _
theorem ipow_le {j k : Nat} (h : j ≤ k) : (256 : Int) ^ j ≤ 256 ^ k := by
  have h1 := Nat.pow_le_pow_right (n := 256) (by decide) h
  have e : ∀ m : Nat, (256 : Int) ^ m = ((256 ^ m : Nat) : Int) := fun m => by
    induction m with
    | zero => rfl
    | succ m ih => rw [Int.pow_succ, ih, Nat.pow_succ]; rfl
  rw [e, e]
  exact Int.ofNat_le.2 h1
theorem bd_lt (s : ByteArray) (j : Nat) (h : j ≤ 8) : 0 ≤ bd s j ∧ bd s j < 256 ^ j := by
  induction j with
  | zero => unfold bd; simp
  | succ j ih =>
    obtain ⟨i0, i1⟩ := ih (by omega)
    have hb := bt_nn s j
    have hp : (256 : Int) ^ j ≤ 256 ^ 7 := ipow_le (by omega)
    have hs : (256 : Int) ^ (j + 1) = 256 ^ j * 256 := Int.pow_succ _ _
    unfold bd
    rw [u8_cv64, ua_eq, sl_8, hs]
    generalize (256 : Int) ^ j = p at *
    omega
theorem bdv_lt (s : ByteArray) (k : Nat) (hk : k ≤ 8) (h : s.size ≤ k) : 0 ≤ bdv s ∧ bdv s < 256 ^ k := by
  have h1 := bd_lt s s.size (by omega)
  have hp : (256 : Int) ^ s.size ≤ 256 ^ k := ipow_le h
  unfold bdv
  omega
end Go.Proofs.YtndonmdgplojnaaGreatDoor
