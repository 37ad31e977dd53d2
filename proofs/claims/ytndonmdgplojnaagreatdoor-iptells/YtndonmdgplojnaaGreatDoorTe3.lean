/- Part 3 of the walks and facts behind ipTells_holds. -/
import Derived.Test.YtndonmdgplojnaaGreatDoorTe2
import Derived.ScopeJumps
import Derived.Shelf.Strconv.Itoa3
import Derived.Shelf.Strconv.Lower
import Derived.Shelf.Strconv.ToError
import Derived.Shelf.Strconv.ToErrorRange
import Derived.Shelf.Strings.Cut
import Derived.Shelf.Strings.OnBuilder
import Derived.Shelf.Strings.Split
import Derived.Test.YtndonmdgplojnaaGreatDoorProg
namespace Go.Proofs.YtndonmdgplojnaaGreatDoor
open Go.RowKit
theorem ne_size {s : ByteArray} (h : ¬ s = ⟨#[]⟩) : 0 < s.size := by
 rcases Nat.eq_zero_or_pos s.size with e | e
 ·exact absurd (ByteArray.ext (Array.eq_empty_of_size_eq_zero e)) h
 ·exact e
def fF (s : ByteArray) : Int := if (1500 : Int) < (s.size : Int) then 4 else if s = (⟨#[]⟩ : ByteArray) then 7 else if sr (bt s 0) 4 = 4 then 0 else if sr (bt s 0) 4 = 6 then 0 else 130
def exB (p : Int) : Bool := decide (p = 0 ∨ p = 43 ∨ p = 44 ∨ p = 50 ∨ p = 51 ∨ p = 60)
def pA (s : ByteArray) (k : Nat) : Int := cv .u16 (bnv (tkV (s.extract k s.size) 0 2))
theorem pA_nn (s : ByteArray) (k : Nat) : 0 ≤ pA s k ∧ pA s k < 65536 := by
 unfold pA
 rw [cv_u16]
 omega
def fa4 (s : ByteArray) : Int := if (s.size : Int) < 20 then 7 else if bt s 0 = 69 then (if 0 + pA s 2 = (s.size : Int) then (if sumS (s.extract 0 20) = 0 then (if yd (pA s 6) 16384 = 0 then 0 else 132) else 131) else 8) else 133
def fa6 (s : ByteArray) : Int := if (s.size : Int) < 40 then 7 else if 40 + pA s 4 = (s.size : Int) then (if exB (bt s 6) = true then 133 else 0) else 8
def hFa (s : ByteArray) : Int := if sr (bt s 0) 4 = 6 then fa6 s else fa4 s
def dcE (s : ByteArray) : Int := if fF s = 0 then hFa s else fF s
def zI (e x : Int) : Int := if e = 0 then x else 0
def zB (e : Int) (x : Bool) : Bool := if e = 0 then x else false
def zS (e : Int) (x : ByteArray) : ByteArray := if e = 0 then x else ⟨#[]⟩
set_option maxRecDepth 100000 in
set_option maxHeartbeats 4000000 in
set_option linter.unusedSimpArgs false in
theorem c_isSix (s : ByteArray) (hz : 0 < s.size) (w : World) (hL : Laid w)  :
  Calls Tryz.prog 60 #[.string s] w fun r w' => r = .returned (.bool (decide ((sr (bt s 0) 4) = 6))) ∧ Below w.heap.size w w' := by
 go_enter Tryz.func60, Tryz.ntmps60
 have M := Mem.start hL
 refine sR ?_
 refine pV 2 (.bool false) ?_
 refine nT ?_
 refine sR ?_
 refine pV 3 (.string s) ?_
 refine pH 4 (.int .u8 (bt s 0)) (run_ixS 9 Tryz.underlying9 _ _ rfl s (by kernel_rfl) .i64 0 (by kernel_rfl) (by omega)) ?_
 refine pV 5 (.int .u8 (sr (bt s 0) 4)) ?_
 by_cases c0 : (sr (bt s 0) 4) = 6
 ·skip
  refine pH 6 (.bool true) (dTz ((sr (bt s 0) 4) = 6) (c0)) ?_
  refine pV 2 (.bool true) ?_
  refine nT ?_
  refine wp_ret ?_
  have e0 : decide ((sr (bt s 0) 4) = 6) = true := by first | (simp only [if_pos c0]; done) | simp [c0]
  exact bodyPost_ret (v := .bool true) (results_tmp1 Tryz.results60 _ _ _ (by kernel_rfl)) (by kernel_rfl) ⟨by rw [e0], below_grown M.old⟩
 ·skip
  refine pH 6 (.bool false) (dF ((sr (bt s 0) 4) = 6) (c0)) ?_
  refine pV 2 (.bool false) ?_
  refine nT ?_
  refine wp_ret ?_
  have e0 : decide ((sr (bt s 0) 4) = 6) = false := by first | (simp only [if_neg c0]; done) | simp [c0]
  exact bodyPost_ret (v := .bool false) (results_tmp1 Tryz.results60 _ _ _ (by kernel_rfl)) (by kernel_rfl) ⟨by rw [e0], below_grown M.old⟩
set_option maxRecDepth 100000 in
set_option maxHeartbeats 4000000 in
set_option linter.unusedSimpArgs false in
theorem c_firstFault (s : ByteArray) (w : World) (hL : Laid w)  :
  Calls Tryz.prog 39 #[.string s] w fun r w' => r = .returned (.int .i64 (fF s)) ∧ Below w.heap.size w w' := by
 go_enter Tryz.func39, Tryz.ntmps39
 have M := Mem.start hL
 refine sR ?_
 refine pV 2 (.int .i64 0) ?_
 refine nT ?_
 refine wp_seq ?_
 refine wp_block ?_
 refine sR ?_
 refine pV 4 (.string s) ?_
 refine pV 5 (.int .i64 (s.size : Int)) ?_
 by_cases c0 : 1500 < (s.size : Int)
 ·skip
  refine pH 6 (.bool true) (dTz (1500 < (s.size : Int)) (c0)) ?_
  refine pV 3 (.bool true) ?_
  refine nT ?_
  refine wp_cond_true (by kernel_rfl) ?_
  refine sR ?_
  refine pV 2 (.int .i64 4) ?_
  refine nT ?_
  refine wp_ret ?_
  refine au_block_ret ?_
  refine au_then_ret ?_
  have e0 : (fF s) = 4 := by first | (simp only [fF, if_pos c0]; done) | simp [fF, c0]
  exact bodyPost_ret (v := .int .i64 4) (results_tmp1 Tryz.results39 _ _ _ (by kernel_rfl)) (by kernel_rfl) ⟨by rw [e0], below_grown M.old⟩
 ·skip
  refine pH 6 (.bool false) (dF (1500 < (s.size : Int)) (c0)) ?_
  refine pV 3 (.bool false) ?_
  refine nT ?_
  refine wp_cond_false (by kernel_rfl) ?_
  refine sR ?_
  refine pV 8 (.string s) ?_
  by_cases c1 : s = (⟨#[]⟩ : ByteArray)
  ·skip
   refine pH 9 (.bool true) (fun w => Eq.trans (b := .ok (.value (.bool (s.toList == (⟨#[]⟩ : ByteArray).toList))) w) (by kernel_rfl) (by rw [seq_pos c1])) ?_
   refine pV 7 (.bool true) ?_
   refine nT ?_
   refine wp_cond_true (by kernel_rfl) ?_
   refine sR ?_
   refine pV 2 (.int .i64 7) ?_
   refine nT ?_
   refine wp_ret ?_
   refine au_block_ret ?_
   refine au_then_ret ?_
   have e0 : (fF s) = 7 := by first | (simp only [fF, if_neg c0, if_pos c1]; done) | simp [fF, c0, c1]
   exact bodyPost_ret (v := .int .i64 7) (results_tmp1 Tryz.results39 _ _ _ (by kernel_rfl)) (by kernel_rfl) ⟨by rw [e0], below_grown M.old⟩
  ·skip
   refine pH 9 (.bool false) (fun w => Eq.trans (b := .ok (.value (.bool (s.toList == (⟨#[]⟩ : ByteArray).toList))) w) (by kernel_rfl) (by rw [seq_neg c1])) ?_
   refine pV 7 (.bool false) ?_
   refine nT ?_
   refine wp_cond_false (by kernel_rfl) ?_
   refine sR ?_
   refine pV 11 (.string s) ?_
   refine pH 12 (.int .u8 (bt s 0)) (run_ixS 9 Tryz.underlying9 _ _ rfl s (by kernel_rfl) .i64 0 (by kernel_rfl) (ne_size c1)) ?_
   refine pV 13 (.int .u8 (sr (bt s 0) 4)) ?_
   by_cases c2 : (sr (bt s 0) 4) = 4
   ·skip
    refine pH 14 (.bool false) (nF ((sr (bt s 0) 4) = 4) (c2)) ?_
    refine pV 15 (.bool false) ?_
    refine pl_skip (want_off 4 true rfl 15 rfl (by kernel_rfl)) (some 16) rfl ?_
    refine pl_skip (want_off 4 true rfl 15 rfl (by kernel_rfl)) (some 17) rfl ?_
    refine pl_skip (want_off 4 true rfl 15 rfl (by kernel_rfl)) (some 18) rfl ?_
    refine pl_skip (want_off 4 true rfl 15 rfl (by kernel_rfl)) (some 19) rfl ?_
    refine pV 20 (.bool false) ?_
    refine pV 10 (.bool false) ?_
    refine nT ?_
    refine wp_cond_false (by kernel_rfl) ?_
    refine wp_skip ?_
    refine au_block ?_
    refine au_then ?_
    refine sR ?_
    refine pV 2 (.int .i64 0) ?_
    refine nT ?_
    refine wp_ret ?_
    have e0 : (fF s) = 0 := by first | (simp only [fF, if_neg c0, if_neg c1, if_pos c2]; done) | simp [fF, c0, c1, c2]
    exact bodyPost_ret (v := .int .i64 0) (results_tmp1 Tryz.results39 _ _ _ (by kernel_rfl)) (by kernel_rfl) ⟨by rw [e0], below_grown M.old⟩
   ·skip
    refine pH 14 (.bool true) (nU ((sr (bt s 0) 4) = 4) (c2)) ?_
    refine pV 15 (.bool true) ?_
    refine pl_val (want_on 4 true rfl 15 rfl (by kernel_rfl)) (some 16) rfl (.string s) (fun _ => by kernel_rfl) ?_
    refine pl_val (want_on 4 true rfl 15 rfl (by kernel_rfl)) (some 17) rfl (.int .u8 (bt s 0)) (run_ixS 9 Tryz.underlying9 _ _ rfl s (by kernel_rfl) .i64 0 (by kernel_rfl) (ne_size c1)) ?_
    refine pl_val (want_on 4 true rfl 15 rfl (by kernel_rfl)) (some 18) rfl (.int .u8 (sr (bt s 0) 4)) (fun _ => by kernel_rfl) ?_
    by_cases c3 : (sr (bt s 0) 4) = 6
    ·skip
     refine pl_val (want_on 4 true rfl 15 rfl (by kernel_rfl)) (some 19) rfl (.bool false) (fun w => Eq.trans (b := .ok (.value (.bool (!(decide ((sr (bt s 0) 4) = 6))))) w) (by kernel_rfl) (by rw [decide_eq_true (c3)]; rfl)) ?_
     refine pV 20 (.bool false) ?_
     refine pV 10 (.bool false) ?_
     refine nT ?_
     refine wp_cond_false (by kernel_rfl) ?_
     refine wp_skip ?_
     refine au_block ?_
     refine au_then ?_
     refine sR ?_
     refine pV 2 (.int .i64 0) ?_
     refine nT ?_
     refine wp_ret ?_
     have e0 : (fF s) = 0 := by first | (simp only [fF, if_neg c0, if_neg c1, if_neg c2, if_pos c3]; done) | simp [fF, c0, c1, c2, c3]
     exact bodyPost_ret (v := .int .i64 0) (results_tmp1 Tryz.results39 _ _ _ (by kernel_rfl)) (by kernel_rfl) ⟨by rw [e0], below_grown M.old⟩
    ·skip
     refine pl_val (want_on 4 true rfl 15 rfl (by kernel_rfl)) (some 19) rfl (.bool true) (fun w => Eq.trans (b := .ok (.value (.bool (!(decide ((sr (bt s 0) 4) = 6))))) w) (by kernel_rfl) (by rw [decide_eq_false (c3)]; rfl)) ?_
     refine pV 20 (.bool true) ?_
     refine pV 10 (.bool true) ?_
     refine nT ?_
     refine wp_cond_true (by kernel_rfl) ?_
     refine sR ?_
     refine pV 2 (.int .i64 130) ?_
     refine nT ?_
     refine wp_ret ?_
     refine au_block_ret ?_
     refine au_then_ret ?_
     have e0 : (fF s) = 130 := by first | (simp only [fF, if_neg c0, if_neg c1, if_neg c2, if_neg c3]; done) | simp [fF, c0, c1, c2, c3]
     exact bodyPost_ret (v := .int .i64 130) (results_tmp1 Tryz.results39 _ _ _ (by kernel_rfl)) (by kernel_rfl) ⟨by rw [e0], below_grown M.old⟩
set_option maxRecDepth 100000 in
set_option maxHeartbeats 4000000 in
set_option linter.unusedSimpArgs false in
theorem c_isExtra (p : Int) (w : World) (hL : Laid w)  :
  Calls Tryz.prog 83 #[.int .u8 p] w fun r w' => r = .returned (.bool (exB p)) ∧ Below w.heap.size w w' := by
 go_enter Tryz.func83, Tryz.ntmps83
 have M := Mem.start hL
 refine sR ?_
 refine pV 2 (.bool false) ?_
 refine nT ?_
 refine wp_seq ?_
 refine sR ?_
 refine pV 3 (.int .u8 p) ?_
 refine nT ?_
 refine wp_block ?_
 refine wp_seq ?_
 refine sR ?_
 by_cases c0 : p = 0
 ·skip
  refine pH 5 (.bool true) (dTz (p = 0) (c0)) ?_
  refine pV 4 (.bool true) ?_
  refine nT ?_
  refine wp_cond_true (by kernel_rfl) ?_
  refine wp_skip ?_
  refine au_then ?_
  refine wp_cond_true (by kernel_rfl) ?_
  refine sR ?_
  refine pV 2 (.bool true) ?_
  refine nT ?_
  refine wp_ret ?_
  refine au_block_ret ?_
  refine au_then_ret ?_
  have e0 : exB p = true := by simp [exB, c0]
  exact bodyPost_ret (v := .bool true) (results_tmp1 Tryz.results83 _ _ _ (by kernel_rfl)) (by kernel_rfl) ⟨by rw [e0], below_grown M.old⟩
 ·skip
  refine pH 5 (.bool false) (dF (p = 0) (c0)) ?_
  refine pV 4 (.bool false) ?_
  refine nT ?_
  refine wp_cond_false (by kernel_rfl) ?_
  refine sR ?_
  by_cases c1 : p = 43
  ·skip
   refine pH 6 (.bool true) (dTz (p = 43) (c1)) ?_
   refine pV 4 (.bool true) ?_
   refine nT ?_
   refine wp_cond_true (by kernel_rfl) ?_
   refine wp_skip ?_
   refine au_then ?_
   refine wp_cond_true (by kernel_rfl) ?_
   refine sR ?_
   refine pV 2 (.bool true) ?_
   refine nT ?_
   refine wp_ret ?_
   refine au_block_ret ?_
   refine au_then_ret ?_
   have e0 : exB p = true := by simp [exB, c0, c1]
   exact bodyPost_ret (v := .bool true) (results_tmp1 Tryz.results83 _ _ _ (by kernel_rfl)) (by kernel_rfl) ⟨by rw [e0], below_grown M.old⟩
  ·skip
   refine pH 6 (.bool false) (dF (p = 43) (c1)) ?_
   refine pV 4 (.bool false) ?_
   refine nT ?_
   refine wp_cond_false (by kernel_rfl) ?_
   refine sR ?_
   by_cases c2 : p = 44
   ·skip
    refine pH 7 (.bool true) (dTz (p = 44) (c2)) ?_
    refine pV 4 (.bool true) ?_
    refine nT ?_
    refine wp_cond_true (by kernel_rfl) ?_
    refine wp_skip ?_
    refine au_then ?_
    refine wp_cond_true (by kernel_rfl) ?_
    refine sR ?_
    refine pV 2 (.bool true) ?_
    refine nT ?_
    refine wp_ret ?_
    refine au_block_ret ?_
    refine au_then_ret ?_
    have e0 : exB p = true := by simp [exB, c0, c1, c2]
    exact bodyPost_ret (v := .bool true) (results_tmp1 Tryz.results83 _ _ _ (by kernel_rfl)) (by kernel_rfl) ⟨by rw [e0], below_grown M.old⟩
   ·skip
    refine pH 7 (.bool false) (dF (p = 44) (c2)) ?_
    refine pV 4 (.bool false) ?_
    refine nT ?_
    refine wp_cond_false (by kernel_rfl) ?_
    refine sR ?_
    by_cases c3 : p = 50
    ·skip
     refine pH 8 (.bool true) (dTz (p = 50) (c3)) ?_
     refine pV 4 (.bool true) ?_
     refine nT ?_
     refine wp_cond_true (by kernel_rfl) ?_
     refine wp_skip ?_
     refine au_then ?_
     refine wp_cond_true (by kernel_rfl) ?_
     refine sR ?_
     refine pV 2 (.bool true) ?_
     refine nT ?_
     refine wp_ret ?_
     refine au_block_ret ?_
     refine au_then_ret ?_
     have e0 : exB p = true := by simp [exB, c0, c1, c2, c3]
     exact bodyPost_ret (v := .bool true) (results_tmp1 Tryz.results83 _ _ _ (by kernel_rfl)) (by kernel_rfl) ⟨by rw [e0], below_grown M.old⟩
    ·skip
     refine pH 8 (.bool false) (dF (p = 50) (c3)) ?_
     refine pV 4 (.bool false) ?_
     refine nT ?_
     refine wp_cond_false (by kernel_rfl) ?_
     refine sR ?_
     by_cases c4 : p = 51
     ·skip
      refine pH 9 (.bool true) (dTz (p = 51) (c4)) ?_
      refine pV 4 (.bool true) ?_
      refine nT ?_
      refine wp_cond_true (by kernel_rfl) ?_
      refine wp_skip ?_
      refine au_then ?_
      refine wp_cond_true (by kernel_rfl) ?_
      refine sR ?_
      refine pV 2 (.bool true) ?_
      refine nT ?_
      refine wp_ret ?_
      refine au_block_ret ?_
      refine au_then_ret ?_
      have e0 : exB p = true := by simp [exB, c0, c1, c2, c3, c4]
      exact bodyPost_ret (v := .bool true) (results_tmp1 Tryz.results83 _ _ _ (by kernel_rfl)) (by kernel_rfl) ⟨by rw [e0], below_grown M.old⟩
     ·skip
      refine pH 9 (.bool false) (dF (p = 51) (c4)) ?_
      refine pV 4 (.bool false) ?_
      refine nT ?_
      refine wp_cond_false (by kernel_rfl) ?_
      refine rg_lit ?_
      by_cases c5 : p = 60
      ·skip
       refine pH 10 (.bool true) (dTz (p = 60) (c5)) ?_
       refine pV 4 (.bool true) ?_
       refine nT ?_
       refine wp_cond_true (by kernel_rfl) ?_
       refine sR ?_
       refine pV 2 (.bool true) ?_
       refine nT ?_
       refine wp_ret ?_
       refine au_block_ret ?_
       refine au_then_ret ?_
       have e0 : exB p = true := by simp [exB, c0, c1, c2, c3, c4, c5]
       exact bodyPost_ret (v := .bool true) (results_tmp1 Tryz.results83 _ _ _ (by kernel_rfl)) (by kernel_rfl) ⟨by rw [e0], below_grown M.old⟩
      ·skip
       refine pH 10 (.bool false) (dF (p = 60) (c5)) ?_
       refine pV 4 (.bool false) ?_
       refine nT ?_
       refine wp_cond_false (by kernel_rfl) ?_
       refine wp_skip ?_
       refine au_block ?_
       refine au_then ?_
       refine sR ?_
       refine pV 2 (.bool false) ?_
       refine nT ?_
       refine wp_ret ?_
       have e0 : exB p = false := by simp [exB, c0, c1, c2, c3, c4, c5]
       exact bodyPost_ret (v := .bool false) (results_tmp1 Tryz.results83 _ _ _ (by kernel_rfl)) (by kernel_rfl) ⟨by rw [e0], below_grown M.old⟩
set_option maxRecDepth 100000 in
set_option maxHeartbeats 4000000 in
set_option linter.unusedSimpArgs false in
theorem c_pairAt (s : ByteArray) (k : Nat) (hk : k ≤ s.size) (w : World) (hL : Laid w)  :
  Calls Tryz.prog 84 #[.string s, .int .i64 (k : Int)] w fun r w' => r = .returned (.int .u16 (pA s k)) ∧ Below w.heap.size w w' := by
 go_enter Tryz.func84, Tryz.ntmps84
 have M := Mem.start hL
 refine sR ?_
 refine pV 4 (.int .u16 0) ?_
 refine nT ?_
 refine sR ?_
 refine pV 5 (.string s) ?_
 refine pV 6 (.int .i64 (k : Int)) ?_
 refine pH 7 (.string (s.extract k s.size)) (run_strl 9 Tryz.underlying9 _ _ rfl s (by kernel_rfl) .i64 k (by kernel_rfl) (by omega) _ rfl) ?_
 refine pl_calln M (want_no rfl) (some 8) rfl 63 #[.string (s.extract k s.size)] (fun g1 => .pointer (some ⟨g1, 0, none⟩)) (.cells (av 3 (ls [.bool true, .string (s.extract k s.size), .int .i64 0])) 108) (fun _ => by kernel_rfl) (fun w M => c_New (s.extract k s.size) w M.laid) fun g1 u1 M => ?_
 refine pl_callp M (want_no rfl) (some 9) rfl 103 #[.pointer (some ⟨g1, 0, none⟩)] (.int .u16 (cv .u16 (bnv (tkV (s.extract k s.size) 0 2)))) 0 g1 (.cells (av 3 (ls [.bool true, .string (s.extract k s.size), .int .i64 0])) 108) (.cells (av 3 (ls [.bool true, .string (tkS (s.extract k s.size) 0 2), .int .i64 (tkF (s.extract k s.size) 0 2)])) 108) rfl (fun _ => by kernel_rfl) (fun w M => r_U16 g1 (s.extract k s.size) 0 w M.laid (M.get 0 rfl) (M.ne0 0 rfl)) fun u2 M => ?_
 refine pV 4 (.int .u16 (cv .u16 (bnv (tkV (s.extract k s.size) 0 2)))) ?_
 refine nT ?_
 refine wp_ret ?_
 have e0 : (pA s k) = (cv .u16 (bnv (tkV (s.extract k s.size) 0 2))) := rfl
 exact bodyPost_ret (v := .int .u16 (cv .u16 (bnv (tkV (s.extract k s.size) 0 2)))) (results_tmp1 Tryz.results84 _ _ _ (by kernel_rfl)) (by kernel_rfl) ⟨by rw [e0], below_grown M.old⟩
set_option maxRecDepth 100000 in
set_option maxHeartbeats 4000000 in
set_option linter.unusedSimpArgs false in
theorem c_tellsT (s : ByteArray) (hz : 20 ≤ s.size) (hs : s.size ≤ 200000) (w : World) (hL : Laid w)  :
  Calls Tryz.prog 82 #[.string s, .agg (av 7 (ls [.int .u8 96, .int .i64 40, .int .i64 4, .int .i64 7, .int .i64 6, .int .i64 8, .int .i64 40]))] w fun r w' => r = .returned (.bool (decide ((40 + pA s 4) = (s.size : Int)))) ∧ Below w.heap.size w w' := by
 go_enter Tryz.func82, Tryz.ntmps82
 have M := Mem.start hL
 have hp := pA_nn s 4
 refine sR ?_
 refine pN M 3 (.cells (av 7 (ls [.int .u8 96, .int .i64 40, .int .i64 4, .int .i64 7, .int .i64 6, .int .i64 8, .int .i64 40])) 60) fun g1 u1 M => ?_
 refine pV 4 (.bool false) ?_
 refine nT ?_
 refine wp_seq ?_
 refine rg_tail M 11 (by kernel_rfl) (by kernel_rfl) ?_
 simp only [List.take_succ_cons, List.take_zero]
 refine kV 5 (.pointer (some ⟨g1, 6, none⟩)) ?_
 refine kE M 6 g1 6 (.int .i64 40) (fun w M => M.cell 0 rfl (by decide) rfl) ?_
 refine kV 7 (.string s) ?_
 refine kV 8 (.pointer (some ⟨g1, 2, none⟩)) ?_
 refine kE M 9 g1 2 (.int .i64 4) (fun w M => M.cell 0 rfl (by decide) rfl) ?_
 refine kC M 10 84 #[.string s, .int .i64 4] (.int .u16 (pA s 4)) (fun w M => c_pairAt s 4 (by omega) w M.laid) ?_
 refine kH 11 (.int .i64 (pA s 4)) (fun w => Eq.trans (b := .ok (.value (.int .i64 (cv .i64 (pA s 4)))) w) (by kernel_rfl) (by rw [cv_i64 (by omega) (by omega)])) ?_
 refine kH 12 (.int .i64 (40 + (pA s 4))) (fun w => Eq.trans (b := .ok (.value (.int .i64 (IntKind.wrap .i64 (40 + (pA s 4))))) w) (by kernel_rfl) (by rw [wrap64 (by omega) (by omega)])) ?_
 refine kV 13 (.string s) ?_
 refine kV 14 (.int .i64 (s.size : Int)) ?_
 by_cases c0 : (40 + (pA s 4)) = (s.size : Int)
 ·skip
  refine kH 15 (.bool true) (dTz ((40 + (pA s 4)) = (s.size : Int)) (c0)) ?_
  refine kl_nil fun u2 M => ?_
  refine pV 4 (.bool true) ?_
  refine nT ?_
  refine wp_ret ?_
  have e0 : decide ((40 + pA s 4) = (s.size : Int)) = true := decide_eq_true c0
  exact bodyPost_ret (v := .bool true) (results_tmp1 Tryz.results82 _ _ _ (by kernel_rfl)) (by kernel_rfl) ⟨by rw [e0], below_grown M.old⟩
 ·skip
  refine kH 15 (.bool false) (dF ((40 + (pA s 4)) = (s.size : Int)) (c0)) ?_
  refine kl_nil fun u2 M => ?_
  refine pV 4 (.bool false) ?_
  refine nT ?_
  refine wp_ret ?_
  have e0 : decide ((40 + pA s 4) = (s.size : Int)) = false := decide_eq_false c0
  exact bodyPost_ret (v := .bool false) (results_tmp1 Tryz.results82 _ _ _ (by kernel_rfl)) (by kernel_rfl) ⟨by rw [e0], below_grown M.old⟩
set_option maxRecDepth 100000 in
set_option maxHeartbeats 4000000 in
set_option linter.unusedSimpArgs false in
theorem c_tellsF (s : ByteArray) (hz : 20 ≤ s.size) (hs : s.size ≤ 200000) (w : World) (hL : Laid w)  :
  Calls Tryz.prog 82 #[.string s, .agg (av 7 (ls [.int .u8 69, .int .i64 20, .int .i64 2, .int .i64 8, .int .i64 9, .int .i64 12, .int .i64 0]))] w fun r w' => r = .returned (.bool (decide ((0 + pA s 2) = (s.size : Int)))) ∧ Below w.heap.size w w' := by
 go_enter Tryz.func82, Tryz.ntmps82
 have M := Mem.start hL
 have hp := pA_nn s 2
 refine sR ?_
 refine pN M 3 (.cells (av 7 (ls [.int .u8 69, .int .i64 20, .int .i64 2, .int .i64 8, .int .i64 9, .int .i64 12, .int .i64 0])) 60) fun g1 u1 M => ?_
 refine pV 4 (.bool false) ?_
 refine nT ?_
 refine wp_seq ?_
 refine rg_tail M 11 (by kernel_rfl) (by kernel_rfl) ?_
 simp only [List.take_succ_cons, List.take_zero]
 refine kV 5 (.pointer (some ⟨g1, 6, none⟩)) ?_
 refine kE M 6 g1 6 (.int .i64 0) (fun w M => M.cell 0 rfl (by decide) rfl) ?_
 refine kV 7 (.string s) ?_
 refine kV 8 (.pointer (some ⟨g1, 2, none⟩)) ?_
 refine kE M 9 g1 2 (.int .i64 2) (fun w M => M.cell 0 rfl (by decide) rfl) ?_
 refine kC M 10 84 #[.string s, .int .i64 2] (.int .u16 (pA s 2)) (fun w M => c_pairAt s 2 (by omega) w M.laid) ?_
 refine kH 11 (.int .i64 (pA s 2)) (fun w => Eq.trans (b := .ok (.value (.int .i64 (cv .i64 (pA s 2)))) w) (by kernel_rfl) (by rw [cv_i64 (by omega) (by omega)])) ?_
 refine kH 12 (.int .i64 (0 + (pA s 2))) (fun w => Eq.trans (b := .ok (.value (.int .i64 (IntKind.wrap .i64 (0 + (pA s 2))))) w) (by kernel_rfl) (by rw [wrap64 (by omega) (by omega)])) ?_
 refine kV 13 (.string s) ?_
 refine kV 14 (.int .i64 (s.size : Int)) ?_
 by_cases c0 : (0 + (pA s 2)) = (s.size : Int)
 ·skip
  refine kH 15 (.bool true) (dTz ((0 + (pA s 2)) = (s.size : Int)) (c0)) ?_
  refine kl_nil fun u2 M => ?_
  refine pV 4 (.bool true) ?_
  refine nT ?_
  refine wp_ret ?_
  have e0 : decide ((0 + pA s 2) = (s.size : Int)) = true := decide_eq_true c0
  exact bodyPost_ret (v := .bool true) (results_tmp1 Tryz.results82 _ _ _ (by kernel_rfl)) (by kernel_rfl) ⟨by rw [e0], below_grown M.old⟩
 ·skip
  refine kH 15 (.bool false) (dF ((0 + (pA s 2)) = (s.size : Int)) (c0)) ?_
  refine kl_nil fun u2 M => ?_
  refine pV 4 (.bool false) ?_
  refine nT ?_
  refine wp_ret ?_
  have e0 : decide ((0 + pA s 2) = (s.size : Int)) = false := decide_eq_false c0
  exact bodyPost_ret (v := .bool false) (results_tmp1 Tryz.results82 _ _ _ (by kernel_rfl)) (by kernel_rfl) ⟨by rw [e0], below_grown M.old⟩
set_option maxRecDepth 100000 in
set_option maxHeartbeats 4000000 in
set_option linter.unusedSimpArgs false in
theorem c_fault4 (s : ByteArray) (hs : s.size ≤ 200000) (w : World) (hL : Laid w)  :
  Calls Tryz.prog 62 #[.string s] w fun r w' => r = .returned (.int .i64 (fa4 s)) ∧ Below w.heap.size w w' := by
 go_enter Tryz.func62, Tryz.ntmps62
 have M := Mem.start hL
 refine sR ?_
 refine pV 2 (.int .i64 0) ?_
 refine nT ?_
 refine sR ?_
 refine pC M 4 37 #[.bool false] (.agg (av 7 (ls [.int .u8 69, .int .i64 20, .int .i64 2, .int .i64 8, .int .i64 9, .int .i64 12, .int .i64 0]))) (fun w M => c_layF w M.laid) fun u1 M => ?_
 refine pN M 3 (.cells (av 7 (ls [.int .u8 0, .int .i64 0, .int .i64 0, .int .i64 0, .int .i64 0, .int .i64 0, .int .i64 0])) 60) fun g1 u2 M => ?_
 refine pl_put M (want_no rfl) rfl 60 _ _ rfl 0 g1 0 (by kernel_rfl) 7 60 (ls [.int .u8 0, .int .i64 0, .int .i64 0, .int .i64 0, .int .i64 0, .int .i64 0, .int .i64 0]) rfl 7 (ls [.int .u8 69, .int .i64 20, .int .i64 2, .int .i64 8, .int .i64 9, .int .i64 12, .int .i64 0]) (ls [.int .u8 69, .int .i64 20, .int .i64 2, .int .i64 8, .int .i64 9, .int .i64 12, .int .i64 0]) (by kernel_rfl) inz60 (by decide) (one_ls _ rfl) (fun j hj => by rw [if_pos (by omega), Nat.sub_zero]) fun u3 M => ?_
 refine nT ?_
 refine wp_seq ?_
 refine wp_block ?_
 refine sR ?_
 refine pV 6 (.string s) ?_
 refine pV 7 (.int .i64 (s.size : Int)) ?_
 refine pV 8 (.pointer (some ⟨g1, 1, none⟩)) ?_
 refine pEz M 9 g1 1 (.int .i64 20) (fun w M => M.cell 0 rfl (by decide) rfl) ?_
 by_cases c0 : (s.size : Int) < 20
 ·skip
  refine pH 10 (.bool true) (dTz ((s.size : Int) < 20) (c0)) ?_
  refine pV 5 (.bool true) ?_
  refine nT ?_
  refine wp_cond_true (by kernel_rfl) ?_
  refine sR ?_
  refine pV 2 (.int .i64 7) ?_
  refine nT ?_
  refine wp_ret ?_
  refine au_block_ret ?_
  refine au_then_ret ?_
  have e0 : (fa4 s) = 7 := by first | (simp only [fa4, if_pos c0]; done) | simp [fa4, c0]
  exact bodyPost_ret (v := .int .i64 7) (results_tmp1 Tryz.results62 _ _ _ (by kernel_rfl)) (by kernel_rfl) ⟨by rw [e0], below_grown M.old⟩
 ·skip
  refine pH 10 (.bool false) (dF ((s.size : Int) < 20) (c0)) ?_
  refine pV 5 (.bool false) ?_
  refine nT ?_
  refine wp_cond_false (by kernel_rfl) ?_
  refine wp_seq ?_
  refine rg_tail M 5 (by kernel_rfl) (by kernel_rfl) ?_
  simp only [List.take_succ_cons, List.take_zero]
  refine kV 12 (.string s) ?_
  refine kH 13 (.int .u8 (bt s 0)) (run_ixS 9 Tryz.underlying9 _ _ rfl s (by kernel_rfl) .i64 0 (by kernel_rfl) (by omega)) ?_
  refine kV 14 (.pointer (some ⟨g1, 0, none⟩)) ?_
  refine kE M 15 g1 0 (.int .u8 69) (fun w M => M.cell 0 rfl (by decide) rfl) ?_
  by_cases c1 : (bt s 0) = 69
  ·skip
   refine kH 16 (.bool false) (nF ((bt s 0) = 69) (c1)) ?_
   refine kl_nil fun u4 M => ?_
   refine pV 11 (.bool false) ?_
   refine nT ?_
   refine wp_cond_false (by kernel_rfl) ?_
   refine sR ?_
   refine pV 18 (.string s) ?_
   refine pAz M 19 0 7 (ls [.int .u8 69, .int .i64 20, .int .i64 2, .int .i64 8, .int .i64 9, .int .i64 12, .int .i64 0]) ?_
   by_cases c2 : (0 + pA s 2) = (s.size : Int)
   ·skip
    refine pC M 20 82 #[.string s, .agg (av 7 (ls [.int .u8 69, .int .i64 20, .int .i64 2, .int .i64 8, .int .i64 9, .int .i64 12, .int .i64 0]))] (.bool true) (fun w M => call_val (c_tellsF s (by omega) (by omega) w M.laid) (congrArg Value.bool (decide_eq_true (c2)))) fun u5 M => ?_
    refine pV 21 (.bool false) ?_
    refine pV 17 (.bool false) ?_
    refine nT ?_
    refine wp_cond_false (by kernel_rfl) ?_
    refine sR ?_
    refine pV 23 (.string s) ?_
    refine pV 24 (.pointer (some ⟨g1, 1, none⟩)) ?_
    refine pEz M 25 g1 1 (.int .i64 20) (fun w M => M.cell 0 rfl (by decide) rfl) ?_
    refine pH 26 (.string (s.extract 0 20)) (run_strh 9 Tryz.underlying9 _ _ rfl s (by kernel_rfl) .i64 20 (by kernel_rfl) (by omega) _ rfl) ?_
    refine pC M 27 14 #[.string (s.extract 0 20)] (.int .u16 (sumS (s.extract 0 20))) (fun w M => c_Sum (s.extract 0 20) (by rw [ByteArray.size_extract]; omega) w M.laid) fun u6 M => ?_
    by_cases c3 : (sumS (s.extract 0 20)) = 0
    ·skip
     refine pH 28 (.bool false) (nF ((sumS (s.extract 0 20)) = 0) (c3)) ?_
     refine pV 22 (.bool false) ?_
     refine nT ?_
     refine wp_cond_false (by kernel_rfl) ?_
     refine sR ?_
     refine pV 30 (.string s) ?_
     refine pC M 31 84 #[.string s, .int .i64 6] (.int .u16 (pA s 6)) (fun w M => c_pairAt s 6 (by omega) w M.laid) fun u7 M => ?_
     refine pV 32 (.int .u16 (yd (pA s 6) 16384)) ?_
     by_cases c4 : (yd (pA s 6) 16384) = 0
     ·skip
      refine pH 33 (.bool false) (nF ((yd (pA s 6) 16384) = 0) (c4)) ?_
      refine pV 29 (.bool false) ?_
      refine nT ?_
      refine wp_cond_false (by kernel_rfl) ?_
      refine wp_skip ?_
      refine au_block ?_
      refine au_then ?_
      refine sR ?_
      refine pV 2 (.int .i64 0) ?_
      refine nT ?_
      refine wp_ret ?_
      have e0 : (fa4 s) = 0 := by first | (simp only [fa4, if_neg c0, if_pos c1, if_pos c2, if_pos c3, if_pos c4]; done) | simp [fa4, c0, c1, c2, c3, c4]
      exact bodyPost_ret (v := .int .i64 0) (results_tmp1 Tryz.results62 _ _ _ (by kernel_rfl)) (by kernel_rfl) ⟨by rw [e0], below_grown M.old⟩
     ·skip
      refine pH 33 (.bool true) (nU ((yd (pA s 6) 16384) = 0) (c4)) ?_
      refine pV 29 (.bool true) ?_
      refine nT ?_
      refine wp_cond_true (by kernel_rfl) ?_
      refine sR ?_
      refine pV 2 (.int .i64 132) ?_
      refine nT ?_
      refine wp_ret ?_
      refine au_block_ret ?_
      refine au_then_ret ?_
      have e0 : (fa4 s) = 132 := by first | (simp only [fa4, if_neg c0, if_pos c1, if_pos c2, if_pos c3, if_neg c4]; done) | simp [fa4, c0, c1, c2, c3, c4]
      exact bodyPost_ret (v := .int .i64 132) (results_tmp1 Tryz.results62 _ _ _ (by kernel_rfl)) (by kernel_rfl) ⟨by rw [e0], below_grown M.old⟩
    ·skip
     refine pH 28 (.bool true) (nU ((sumS (s.extract 0 20)) = 0) (c3)) ?_
     refine pV 22 (.bool true) ?_
     refine nT ?_
     refine wp_cond_true (by kernel_rfl) ?_
     refine sR ?_
     refine pV 2 (.int .i64 131) ?_
     refine nT ?_
     refine wp_ret ?_
     refine au_block_ret ?_
     refine au_then_ret ?_
     have e0 : (fa4 s) = 131 := by first | (simp only [fa4, if_neg c0, if_pos c1, if_pos c2, if_neg c3]; done) | simp [fa4, c0, c1, c2, c3]
     exact bodyPost_ret (v := .int .i64 131) (results_tmp1 Tryz.results62 _ _ _ (by kernel_rfl)) (by kernel_rfl) ⟨by rw [e0], below_grown M.old⟩
   ·skip
    refine pC M 20 82 #[.string s, .agg (av 7 (ls [.int .u8 69, .int .i64 20, .int .i64 2, .int .i64 8, .int .i64 9, .int .i64 12, .int .i64 0]))] (.bool false) (fun w M => call_val (c_tellsF s (by omega) (by omega) w M.laid) (congrArg Value.bool (decide_eq_false (c2)))) fun u5 M => ?_
    refine pV 21 (.bool true) ?_
    refine pV 17 (.bool true) ?_
    refine nT ?_
    refine wp_cond_true (by kernel_rfl) ?_
    refine sR ?_
    refine pV 2 (.int .i64 8) ?_
    refine nT ?_
    refine wp_ret ?_
    refine au_block_ret ?_
    refine au_then_ret ?_
    have e0 : (fa4 s) = 8 := by first | (simp only [fa4, if_neg c0, if_pos c1, if_neg c2]; done) | simp [fa4, c0, c1, c2]
    exact bodyPost_ret (v := .int .i64 8) (results_tmp1 Tryz.results62 _ _ _ (by kernel_rfl)) (by kernel_rfl) ⟨by rw [e0], below_grown M.old⟩
  ·skip
   refine kH 16 (.bool true) (nU ((bt s 0) = 69) (c1)) ?_
   refine kl_nil fun u4 M => ?_
   refine pV 11 (.bool true) ?_
   refine nT ?_
   refine wp_cond_true (by kernel_rfl) ?_
   refine sR ?_
   refine pV 2 (.int .i64 133) ?_
   refine nT ?_
   refine wp_ret ?_
   refine au_block_ret ?_
   refine au_then_ret ?_
   have e0 : (fa4 s) = 133 := by first | (simp only [fa4, if_neg c0, if_neg c1]; done) | simp [fa4, c0, c1]
   exact bodyPost_ret (v := .int .i64 133) (results_tmp1 Tryz.results62 _ _ _ (by kernel_rfl)) (by kernel_rfl) ⟨by rw [e0], below_grown M.old⟩
set_option maxRecDepth 100000 in
set_option maxHeartbeats 4000000 in
set_option linter.unusedSimpArgs false in
theorem c_fault6 (s : ByteArray) (hs : s.size ≤ 200000) (w : World) (hL : Laid w)  :
  Calls Tryz.prog 61 #[.string s] w fun r w' => r = .returned (.int .i64 (fa6 s)) ∧ Below w.heap.size w w' := by
 go_enter Tryz.func61, Tryz.ntmps61
 have M := Mem.start hL
 refine sR ?_
 refine pV 2 (.int .i64 0) ?_
 refine nT ?_
 refine sR ?_
 refine pC M 4 37 #[.bool true] (.agg (av 7 (ls [.int .u8 96, .int .i64 40, .int .i64 4, .int .i64 7, .int .i64 6, .int .i64 8, .int .i64 40]))) (fun w M => c_layT w M.laid) fun u1 M => ?_
 refine pN M 3 (.cells (av 7 (ls [.int .u8 0, .int .i64 0, .int .i64 0, .int .i64 0, .int .i64 0, .int .i64 0, .int .i64 0])) 60) fun g1 u2 M => ?_
 refine pl_put M (want_no rfl) rfl 60 _ _ rfl 0 g1 0 (by kernel_rfl) 7 60 (ls [.int .u8 0, .int .i64 0, .int .i64 0, .int .i64 0, .int .i64 0, .int .i64 0, .int .i64 0]) rfl 7 (ls [.int .u8 96, .int .i64 40, .int .i64 4, .int .i64 7, .int .i64 6, .int .i64 8, .int .i64 40]) (ls [.int .u8 96, .int .i64 40, .int .i64 4, .int .i64 7, .int .i64 6, .int .i64 8, .int .i64 40]) (by kernel_rfl) inz60 (by decide) (one_ls _ rfl) (fun j hj => by rw [if_pos (by omega), Nat.sub_zero]) fun u3 M => ?_
 refine nT ?_
 refine wp_seq ?_
 refine wp_block ?_
 refine sR ?_
 refine pV 6 (.string s) ?_
 refine pV 7 (.int .i64 (s.size : Int)) ?_
 refine pV 8 (.pointer (some ⟨g1, 1, none⟩)) ?_
 refine pEz M 9 g1 1 (.int .i64 40) (fun w M => M.cell 0 rfl (by decide) rfl) ?_
 by_cases c0 : (s.size : Int) < 40
 ·skip
  refine pH 10 (.bool true) (dTz ((s.size : Int) < 40) (c0)) ?_
  refine pV 5 (.bool true) ?_
  refine nT ?_
  refine wp_cond_true (by kernel_rfl) ?_
  refine sR ?_
  refine pV 2 (.int .i64 7) ?_
  refine nT ?_
  refine wp_ret ?_
  refine au_block_ret ?_
  refine au_then_ret ?_
  have e0 : (fa6 s) = 7 := by unfold fa6; rw [if_pos c0]
  exact bodyPost_ret (v := .int .i64 7) (results_tmp1 Tryz.results61 _ _ _ (by kernel_rfl)) (by kernel_rfl) ⟨by rw [e0], below_grown M.old⟩
 ·skip
  refine pH 10 (.bool false) (dF ((s.size : Int) < 40) (c0)) ?_
  refine pV 5 (.bool false) ?_
  refine nT ?_
  refine wp_cond_false (by kernel_rfl) ?_
  refine sR ?_
  refine pV 12 (.string s) ?_
  refine pAz M 13 0 7 (ls [.int .u8 96, .int .i64 40, .int .i64 4, .int .i64 7, .int .i64 6, .int .i64 8, .int .i64 40]) ?_
  by_cases c1 : (40 + pA s 4) = (s.size : Int)
  ·skip
   refine pC M 14 82 #[.string s, .agg (av 7 (ls [.int .u8 96, .int .i64 40, .int .i64 4, .int .i64 7, .int .i64 6, .int .i64 8, .int .i64 40]))] (.bool true) (fun w M => call_val (c_tellsT s (by omega) (by omega) w M.laid) (congrArg Value.bool (decide_eq_true (c1)))) fun u4 M => ?_
   refine pV 15 (.bool false) ?_
   refine pV 11 (.bool false) ?_
   refine nT ?_
   refine wp_cond_false (by kernel_rfl) ?_
   refine sR ?_
   refine pV 17 (.string s) ?_
   refine pV 18 (.pointer (some ⟨g1, 4, none⟩)) ?_
   refine pEz M 19 g1 4 (.int .i64 6) (fun w M => M.cell 0 rfl (by decide) rfl) ?_
   refine pH 20 (.int .u8 (bt s 6)) (run_ixS 9 Tryz.underlying9 _ _ rfl s (by kernel_rfl) .i64 6 (by kernel_rfl) (by omega)) ?_
   rcases Bool.eq_false_or_eq_true (exB (bt s 6)) with c2 | c2
   ·skip
    refine pC M 21 83 #[.int .u8 (bt s 6)] (.bool true) (fun w M => call_val (c_isExtra (bt s 6) w M.laid) (congrArg Value.bool c2)) fun u5 M => ?_
    refine pV 16 (.bool true) ?_
    refine nT ?_
    refine wp_cond_true (by kernel_rfl) ?_
    refine sR ?_
    refine pV 2 (.int .i64 133) ?_
    refine nT ?_
    refine wp_ret ?_
    refine au_block_ret ?_
    refine au_then_ret ?_
    have e0 : (fa6 s) = 133 := by unfold fa6; rw [if_neg c0, if_pos c1, if_pos c2]
    exact bodyPost_ret (v := .int .i64 133) (results_tmp1 Tryz.results61 _ _ _ (by kernel_rfl)) (by kernel_rfl) ⟨by rw [e0], below_grown M.old⟩
   ·skip
    refine pC M 21 83 #[.int .u8 (bt s 6)] (.bool false) (fun w M => call_val (c_isExtra (bt s 6) w M.laid) (congrArg Value.bool c2)) fun u5 M => ?_
    refine pV 16 (.bool false) ?_
    refine nT ?_
    refine wp_cond_false (by kernel_rfl) ?_
    refine wp_skip ?_
    refine au_block ?_
    refine au_then ?_
    refine sR ?_
    refine pV 2 (.int .i64 0) ?_
    refine nT ?_
    refine wp_ret ?_
    have e0 : (fa6 s) = 0 := by unfold fa6; rw [if_neg c0, if_pos c1, if_neg (by rw [c2]; decide)]
    exact bodyPost_ret (v := .int .i64 0) (results_tmp1 Tryz.results61 _ _ _ (by kernel_rfl)) (by kernel_rfl) ⟨by rw [e0], below_grown M.old⟩
  ·skip
   refine pC M 14 82 #[.string s, .agg (av 7 (ls [.int .u8 96, .int .i64 40, .int .i64 4, .int .i64 7, .int .i64 6, .int .i64 8, .int .i64 40]))] (.bool false) (fun w M => call_val (c_tellsT s (by omega) (by omega) w M.laid) (congrArg Value.bool (decide_eq_false (c1)))) fun u4 M => ?_
   refine pV 15 (.bool true) ?_
   refine pV 11 (.bool true) ?_
   refine nT ?_
   refine wp_cond_true (by kernel_rfl) ?_
   refine sR ?_
   refine pV 2 (.int .i64 8) ?_
   refine nT ?_
   refine wp_ret ?_
   refine au_block_ret ?_
   refine au_then_ret ?_
   have e0 : (fa6 s) = 8 := by unfold fa6; rw [if_neg c0, if_neg c1]
   exact bodyPost_ret (v := .int .i64 8) (results_tmp1 Tryz.results61 _ _ _ (by kernel_rfl)) (by kernel_rfl) ⟨by rw [e0], below_grown M.old⟩
set_option maxRecDepth 100000 in
set_option maxHeartbeats 4000000 in
set_option linter.unusedSimpArgs false in
theorem c_header (s : ByteArray) (hz : 0 < s.size) (hs : s.size ≤ 200000) (w : World) (hL : Laid w)  :
  Calls Tryz.prog 40 #[.string s] w fun r w' => r = .returned (.int .i64 (hFa s)) ∧ Below w.heap.size w w' := by
 go_enter Tryz.func40, Tryz.ntmps40
 have M := Mem.start hL
 refine sR ?_
 refine pV 2 (.int .i64 0) ?_
 refine nT ?_
 refine wp_seq ?_
 refine sR ?_
 refine pV 3 (.string s) ?_
 by_cases c0 : (sr (bt s 0) 4) = 6
 ·skip
  refine pC M 4 60 #[.string s] (.bool true) (fun w M => call_val (c_isSix s (by omega) w M.laid) (congrArg Value.bool (decide_eq_true (c0)))) fun u1 M => ?_
  refine nT ?_
  refine wp_cond_true (by kernel_rfl) ?_
  refine sR ?_
  refine pV 5 (.string s) ?_
  refine pC M 6 61 #[.string s] (.int .i64 (fa6 s)) (fun w M => c_fault6 s hs w M.laid) fun u2 M => ?_
  refine pV 2 (.int .i64 (fa6 s)) ?_
  refine nT ?_
  refine wp_ret ?_
  refine au_then_ret ?_
  have e0 : (hFa s) = (fa6 s) := by first | (simp only [hFa, if_pos c0]; done) | simp [hFa, c0]
  exact bodyPost_ret (v := .int .i64 (fa6 s)) (results_tmp1 Tryz.results40 _ _ _ (by kernel_rfl)) (by kernel_rfl) ⟨by rw [e0], below_grown M.old⟩
 ·skip
  refine pC M 4 60 #[.string s] (.bool false) (fun w M => call_val (c_isSix s (by omega) w M.laid) (congrArg Value.bool (decide_eq_false (c0)))) fun u1 M => ?_
  refine nT ?_
  refine wp_cond_false (by kernel_rfl) ?_
  refine wp_skip ?_
  refine au_then ?_
  refine sR ?_
  refine pV 7 (.string s) ?_
  refine pC M 8 62 #[.string s] (.int .i64 (fa4 s)) (fun w M => c_fault4 s hs w M.laid) fun u2 M => ?_
  refine pV 2 (.int .i64 (fa4 s)) ?_
  refine nT ?_
  refine wp_ret ?_
  have e0 : (hFa s) = (fa4 s) := by first | (simp only [hFa, if_neg c0]; done) | simp [hFa, c0]
  exact bodyPost_ret (v := .int .i64 (fa4 s)) (results_tmp1 Tryz.results40 _ _ _ (by kernel_rfl)) (by kernel_rfl) ⟨by rw [e0], below_grown M.old⟩
set_option maxRecDepth 100000 in
set_option maxHeartbeats 4000000 in
set_option linter.unusedSimpArgs false in
theorem c_readT (g : Nat) (s : ByteArray) (f : Int) (w : World) (hL : Laid w)  (hg : w.heap[g]? = some (.cells (av 3 (ls [.bool true, .string s, .int .i64 f])) 108)) (h0 : 8 ≤ g) :
  Calls Tryz.prog 64 #[.pointer (some ⟨g, 0, none⟩), .bool true] w fun r w' => r = .returned (.agg (av 3 (ls [.bool true, .int .u64 (bnv (tkV s f 8)), .int .u64 (bnv (tkV (tkS s f 8) (tkF s f 8) 8))]))) ∧ Grw w w' [g] ∧ w'.heap[g]? = some (.cells (av 3 (ls [.bool true, .string (tkS (tkS s f 8) (tkF s f 8) 8), .int .i64 (tkF (tkS s f 8) (tkF s f 8) 8)])) 108) := by
 go_enter Tryz.func64, Tryz.ntmps64
 have M := Mem.startp hL hg h0
 refine sR ?_
 refine pN M 4 (.cells (av 3 (ls [.bool false, .int .u64 0, .int .u64 0])) 24) fun g1 u1 M => ?_
 refine nT ?_
 refine wp_seq ?_
 refine sR ?_
 refine pV 6 (.bool true) ?_
 refine pV 7 (.bool false) ?_
 refine nT ?_
 refine wp_cond_false (by kernel_rfl) ?_
 refine wp_skip ?_
 refine au_then ?_
 refine sR ?_
 refine pV 12 (.pointer (some ⟨g, 0, none⟩)) ?_
 refine pl_callp M (want_no rfl) (some 13) rfl 86 #[.pointer (some ⟨g, 0, none⟩)] (.int .u64 (bnv (tkV s f 8))) 0 g (.cells (av 3 (ls [.bool true, .string s, .int .i64 f])) 108) (.cells (av 3 (ls [.bool true, .string (tkS s f 8), .int .i64 (tkF s f 8)])) 108) rfl (fun _ => by kernel_rfl) (fun w M => r_U64 g s f w M.laid (M.get 0 rfl) (M.ne0 0 rfl)) fun u2 M => ?_
 refine pV 5 (.int .u64 (bnv (tkV s f 8))) ?_
 refine nT ?_
 refine sR ?_
 refine pV 14 (.int .u64 (bnv (tkV s f 8))) ?_
 refine pV 15 (.pointer (some ⟨g, 0, none⟩)) ?_
 refine pl_callp M (want_no rfl) (some 16) rfl 86 #[.pointer (some ⟨g, 0, none⟩)] (.int .u64 (bnv (tkV (tkS s f 8) (tkF s f 8) 8))) 0 g (.cells (av 3 (ls [.bool true, .string (tkS s f 8), .int .i64 (tkF s f 8)])) 108) (.cells (av 3 (ls [.bool true, .string (tkS (tkS s f 8) (tkF s f 8) 8), .int .i64 (tkF (tkS s f 8) (tkF s f 8) 8)])) 108) rfl (fun _ => by kernel_rfl) (fun w M => r_U64 g (tkS s f 8) (tkF s f 8) w M.laid (M.get 0 rfl) (M.ne0 0 rfl)) fun u3 M => ?_
 refine pV 17 (.agg (av 3 (ls [.bool true, .int .u64 (bnv (tkV s f 8)), .int .u64 (bnv (tkV (tkS s f 8) (tkF s f 8) 8))]))) ?_
 refine pl_put M (want_no rfl) rfl 24 _ _ rfl 1 g1 0 (by kernel_rfl) 3 24 (ls [.bool false, .int .u64 0, .int .u64 0]) rfl 3 (ls [.bool true, .int .u64 (bnv (tkV s f 8)), .int .u64 (bnv (tkV (tkS s f 8) (tkF s f 8) 8))]) (ls [.bool true, .int .u64 (bnv (tkV s f 8)), .int .u64 (bnv (tkV (tkS s f 8) (tkF s f 8) 8))]) (by kernel_rfl) inz24 (by decide) (one_ls _ rfl) (fun j hj => by rw [if_pos (by omega), Nat.sub_zero]) fun u4 M => ?_
 refine nT ?_
 refine wp_ret ?_
 exact bodyPost_ret (v := .agg (av 3 (ls [.bool true, .int .u64 (bnv (tkV s f 8)), .int .u64 (bnv (tkV (tkS s f 8) (tkF s f 8) 8))]))) (results_cell_row Tryz.results64 _ _ g1 24 (av 3 (ls [.bool true, .int .u64 (bnv (tkV s f 8)), .int .u64 (bnv (tkV (tkS s f 8) (tkF s f 8) 8))])) (0, 0) _ (by kernel_rfl) (M.get 1 rfl) Tryz.underlying24 rfl (by rw [av_size]; exact inz24)) (by kernel_rfl) ⟨rfl, M.old, M.get 0 rfl⟩
set_option maxRecDepth 100000 in
set_option maxHeartbeats 4000000 in
set_option linter.unusedSimpArgs false in
theorem c_readF (g : Nat) (s : ByteArray) (f : Int) (w : World) (hL : Laid w)  (hg : w.heap[g]? = some (.cells (av 3 (ls [.bool true, .string s, .int .i64 f])) 108)) (h0 : 8 ≤ g) :
  Calls Tryz.prog 64 #[.pointer (some ⟨g, 0, none⟩), .bool false] w fun r w' => r = .returned (.agg (av 3 (ls [.bool false, .int .u64 0, .int .u64 (cv .u64 (cv .u32 (bnv (tkV s f 4))))]))) ∧ Grw w w' [g] ∧ w'.heap[g]? = some (.cells (av 3 (ls [.bool true, .string (tkS s f 4), .int .i64 (tkF s f 4)])) 108) := by
 go_enter Tryz.func64, Tryz.ntmps64
 have M := Mem.startp hL hg h0
 refine sR ?_
 refine pN M 4 (.cells (av 3 (ls [.bool false, .int .u64 0, .int .u64 0])) 24) fun g1 u1 M => ?_
 refine nT ?_
 refine wp_seq ?_
 refine sR ?_
 refine pV 6 (.bool false) ?_
 refine pV 7 (.bool true) ?_
 refine nT ?_
 refine wp_cond_true (by kernel_rfl) ?_
 refine sR ?_
 refine pV 8 (.pointer (some ⟨g, 0, none⟩)) ?_
 refine pl_callp M (want_no rfl) (some 9) rfl 85 #[.pointer (some ⟨g, 0, none⟩)] (.int .u32 (cv .u32 (bnv (tkV s f 4)))) 0 g (.cells (av 3 (ls [.bool true, .string s, .int .i64 f])) 108) (.cells (av 3 (ls [.bool true, .string (tkS s f 4), .int .i64 (tkF s f 4)])) 108) rfl (fun _ => by kernel_rfl) (fun w M => r_U32 g s f w M.laid (M.get 0 rfl) (M.ne0 0 rfl)) fun u2 M => ?_
 refine pV 10 (.int .u64 (cv .u64 (cv .u32 (bnv (tkV s f 4))))) ?_
 refine pV 11 (.agg (av 3 (ls [.bool false, .int .u64 0, .int .u64 (cv .u64 (cv .u32 (bnv (tkV s f 4))))]))) ?_
 refine pl_put M (want_no rfl) rfl 24 _ _ rfl 1 g1 0 (by kernel_rfl) 3 24 (ls [.bool false, .int .u64 0, .int .u64 0]) rfl 3 (ls [.bool false, .int .u64 0, .int .u64 (cv .u64 (cv .u32 (bnv (tkV s f 4))))]) (ls [.bool false, .int .u64 0, .int .u64 (cv .u64 (cv .u32 (bnv (tkV s f 4))))]) (by kernel_rfl) inz24 (by decide) (one_ls _ rfl) (fun j hj => by rw [if_pos (by omega), Nat.sub_zero]) fun u3 M => ?_
 refine nT ?_
 refine wp_ret ?_
 refine au_then_ret ?_
 exact bodyPost_ret (v := .agg (av 3 (ls [.bool false, .int .u64 0, .int .u64 (cv .u64 (cv .u32 (bnv (tkV s f 4))))]))) (results_cell_row Tryz.results64 _ _ g1 24 (av 3 (ls [.bool false, .int .u64 0, .int .u64 (cv .u64 (cv .u32 (bnv (tkV s f 4))))])) (0, 0) _ (by kernel_rfl) (M.get 1 rfl) Tryz.underlying24 rfl (by rw [av_size]; exact inz24)) (by kernel_rfl) ⟨rfl, M.old, M.get 0 rfl⟩
def q6H0 (s : ByteArray) : Int := bnv (tkV (s.extract 8 s.size) 0 8)
def q6L0 (s : ByteArray) : Int := bnv (tkV (tkS (s.extract 8 s.size) 0 8) (tkF (s.extract 8 s.size) 0 8) 8)
def q6H1 (s : ByteArray) : Int := bnv (tkV (tkS (tkS (s.extract 8 s.size) 0 8) (tkF (s.extract 8 s.size) 0 8) 8) (tkF (tkS (s.extract 8 s.size) 0 8) (tkF (s.extract 8 s.size) 0 8) 8) 8)
def q6L1 (s : ByteArray) : Int := bnv (tkV (tkS (tkS (tkS (s.extract 8 s.size) 0 8) (tkF (s.extract 8 s.size) 0 8) 8) (tkF (tkS (s.extract 8 s.size) 0 8) (tkF (s.extract 8 s.size) 0 8) 8) 8) (tkF (tkS (tkS (s.extract 8 s.size) 0 8) (tkF (s.extract 8 s.size) 0 8) 8) (tkF (tkS (s.extract 8 s.size) 0 8) (tkF (s.extract 8 s.size) 0 8) 8) 8) 8)
def q6D (s : ByteArray) : ByteArray := (tkV (tkS (tkS (tkS (tkS (s.extract 8 s.size) 0 8) (tkF (s.extract 8 s.size) 0 8) 8) (tkF (tkS (s.extract 8 s.size) 0 8) (tkF (s.extract 8 s.size) 0 8) 8) 8) (tkF (tkS (tkS (s.extract 8 s.size) 0 8) (tkF (s.extract 8 s.size) 0 8) 8) (tkF (tkS (s.extract 8 s.size) 0 8) (tkF (s.extract 8 s.size) 0 8) 8) 8) 8) (tkF (tkS (tkS (tkS (s.extract 8 s.size) 0 8) (tkF (s.extract 8 s.size) 0 8) 8) (tkF (tkS (s.extract 8 s.size) 0 8) (tkF (s.extract 8 s.size) 0 8) 8) 8) (tkF (tkS (tkS (s.extract 8 s.size) 0 8) (tkF (s.extract 8 s.size) 0 8) 8) (tkF (tkS (s.extract 8 s.size) 0 8) (tkF (s.extract 8 s.size) 0 8) 8) 8) 8) ((tkS (tkS (tkS (tkS (s.extract 8 s.size) 0 8) (tkF (s.extract 8 s.size) 0 8) 8) (tkF (tkS (s.extract 8 s.size) 0 8) (tkF (s.extract 8 s.size) 0 8) 8) 8) (tkF (tkS (tkS (s.extract 8 s.size) 0 8) (tkF (s.extract 8 s.size) 0 8) 8) (tkF (tkS (s.extract 8 s.size) 0 8) (tkF (s.extract 8 s.size) 0 8) 8) 8) 8).size : Int))
def q4L0 (s : ByteArray) : Int := cv .u64 (cv .u32 (bnv (tkV (s.extract 12 s.size) 0 4)))
def q4L1 (s : ByteArray) : Int := cv .u64 (cv .u32 (bnv (tkV (tkS (s.extract 12 s.size) 0 4) (tkF (s.extract 12 s.size) 0 4) 4)))
def q4D (s : ByteArray) : ByteArray := (tkV (tkS (tkS (s.extract 12 s.size) 0 4) (tkF (s.extract 12 s.size) 0 4) 4) (tkF (tkS (s.extract 12 s.size) 0 4) (tkF (s.extract 12 s.size) 0 4) 4) ((tkS (tkS (s.extract 12 s.size) 0 4) (tkF (s.extract 12 s.size) 0 4) 4).size : Int))
set_option maxRecDepth 100000 in
set_option maxHeartbeats 4000000 in
set_option linter.unusedSimpArgs false in
theorem c_packT (s : ByteArray) (h6 : (sr (bt s 0) 4) = 6) (hz : 40 ≤ s.size) (w : World) (hL : Laid w)  :
  Calls Tryz.prog 41 #[.string s] w fun r w' => r = .returned (.agg (av 9 (ls [.bool true, .int .u64 (q6H0 s), .int .u64 (q6L0 s), .bool true, .int .u64 (q6H1 s), .int .u64 (q6L1 s), .int .u8 (bt s 6), .int .u8 (bt s 7), .string (q6D s)]))) ∧ Below w.heap.size w w' := by
 go_enter Tryz.func41, Tryz.ntmps41
 have M := Mem.start hL
 refine sR ?_
 refine pN M 2 (.cells (av 9 (ls [.bool false, .int .u64 0, .int .u64 0, .bool false, .int .u64 0, .int .u64 0, .int .u8 0, .int .u8 0, .string ⟨#[]⟩])) 26) fun g1 u1 M => ?_
 refine nT ?_
 refine sR ?_
 refine pV 7 (.string s) ?_
 refine pC M 8 60 #[.string s] (.bool true) (fun w M => call_val (c_isSix s (by omega) w M.laid) (congrArg Value.bool (decide_eq_true (h6)))) fun u2 M => ?_
 refine pV 3 (.bool true) ?_
 refine nT ?_
 refine sR ?_
 refine pV 9 (.bool true) ?_
 refine pC M 10 37 #[.bool true] (.agg (av 7 (ls [.int .u8 96, .int .i64 40, .int .i64 4, .int .i64 7, .int .i64 6, .int .i64 8, .int .i64 40]))) (fun w M => c_layT w M.laid) fun u3 M => ?_
 refine pN M 4 (.cells (av 7 (ls [.int .u8 0, .int .i64 0, .int .i64 0, .int .i64 0, .int .i64 0, .int .i64 0, .int .i64 0])) 60) fun g2 u4 M => ?_
 refine pl_put M (want_no rfl) rfl 60 _ _ rfl 1 g2 0 (by kernel_rfl) 7 60 (ls [.int .u8 0, .int .i64 0, .int .i64 0, .int .i64 0, .int .i64 0, .int .i64 0, .int .i64 0]) rfl 7 (ls [.int .u8 96, .int .i64 40, .int .i64 4, .int .i64 7, .int .i64 6, .int .i64 8, .int .i64 40]) (ls [.int .u8 96, .int .i64 40, .int .i64 4, .int .i64 7, .int .i64 6, .int .i64 8, .int .i64 40]) (by kernel_rfl) inz60 (by decide) (one_ls _ rfl) (fun j hj => by rw [if_pos (by omega), Nat.sub_zero]) fun u5 M => ?_
 refine nT ?_
 refine sR ?_
 refine pV 11 (.string s) ?_
 refine pV 12 (.pointer (some ⟨g2, 5, none⟩)) ?_
 refine pEz M 13 g2 5 (.int .i64 8) (fun w M => M.cell 1 rfl (by decide) rfl) ?_
 refine pH 14 (.string (s.extract 8 s.size)) (run_strl 9 Tryz.underlying9 _ _ rfl s (by kernel_rfl) .i64 8 (by kernel_rfl) (by omega) _ rfl) ?_
 refine pl_calln M (want_no rfl) (some 15) rfl 63 #[.string (s.extract 8 s.size)] (fun g3 => .pointer (some ⟨g3, 0, none⟩)) (.cells (av 3 (ls [.bool true, .string (s.extract 8 s.size), .int .i64 0])) 108) (fun _ => by kernel_rfl) (fun w M => c_New (s.extract 8 s.size) w M.laid) fun g3 u6 M => ?_
 refine pV 5 (.pointer (some ⟨g3, 0, none⟩)) ?_
 refine nT ?_
 refine wp_seq ?_
 refine rg_held M [⟨g1, .cells (av 9 (ls [.bool false, .int .u64 0, .int .u64 0, .bool false, .int .u64 0, .int .u64 0, .int .u8 0, .int .u8 0, .string ⟨#[]⟩])) 26⟩, ⟨g2, .cells (av 7 (ls [.int .u8 96, .int .i64 40, .int .i64 4, .int .i64 7, .int .i64 6, .int .i64 8, .int .i64 40])) 60⟩, ⟨g3, .cells (av 3 (ls [.bool true, .string (s.extract 8 s.size), .int .i64 0])) 108⟩] 10 rfl (by kernel_rfl) (by kernel_rfl) (fun _ _ d _ _ h => by cases d <;> exact h) fun u7 M => ?_
 refine qV M 0 16 (.string s) ?_
 refine qV M 1 17 (.pointer (some ⟨g2, 4, none⟩)) ?_
 refine hl_cell M 2 rfl (by decide) (by kernel_rfl) (by kernel_rfl) (want_no rfl) (some 18) rfl 3 _ rfl g2 4 (by kernel_rfl) (.int .i64 6) (fun _ => by kernel_rfl) (fun w M => M.cell 1 rfl (by decide) rfl) ?_
 refine hl_val M 3 rfl (by decide) (by kernel_rfl) (by kernel_rfl) (want_no rfl) (some 19) rfl (.int .u8 (bt s 6)) (fun w _ => (run_ixS 9 Tryz.underlying9 _ _ rfl s (by kernel_rfl) .i64 6 (by kernel_rfl) (by omega)) w) ?_
 refine qV M 4 20 (.string s) ?_
 refine qV M 5 21 (.pointer (some ⟨g2, 3, none⟩)) ?_
 refine hl_cell M 6 rfl (by decide) (by kernel_rfl) (by kernel_rfl) (want_no rfl) (some 22) rfl 3 _ rfl g2 3 (by kernel_rfl) (.int .i64 7) (fun _ => by kernel_rfl) (fun w M => M.cell 1 rfl (by decide) rfl) ?_
 refine hl_val M 7 rfl (by decide) (by kernel_rfl) (by kernel_rfl) (want_no rfl) (some 23) rfl (.int .u8 (bt s 7)) (fun w _ => (run_ixS 9 Tryz.underlying9 _ _ rfl s (by kernel_rfl) .i64 7 (by kernel_rfl) (by omega)) w) ?_
 refine qV M 8 24 (.agg (av 9 (ls [.bool false, .int .u64 0, .int .u64 0, .bool false, .int .u64 0, .int .u64 0, .int .u8 (bt s 6), .int .u8 (bt s 7), .string ⟨#[]⟩]))) ?_
 refine hl_one 9 (by decide) (by kernel_rfl) rfl ?_
 refine pN M 6 (.cells (av 9 (ls [.bool false, .int .u64 0, .int .u64 0, .bool false, .int .u64 0, .int .u64 0, .int .u8 0, .int .u8 0, .string ⟨#[]⟩])) 26) fun g4 u8 M => ?_
 refine nT ?_
 refine ⟨(M.drop (.cons_cons _ (.cons_cons _ (.cons_cons _ (.cons _ (.slnil)))))), ?_⟩
 refine hl_end (by kernel_rfl) (by kernel_rfl) rfl ?_
 refine pl_put M (want_no rfl) rfl 26 _ _ rfl 3 g4 0 (by kernel_rfl) 9 26 (ls [.bool false, .int .u64 0, .int .u64 0, .bool false, .int .u64 0, .int .u64 0, .int .u8 0, .int .u8 0, .string ⟨#[]⟩]) rfl 9 (ls [.bool false, .int .u64 0, .int .u64 0, .bool false, .int .u64 0, .int .u64 0, .int .u8 (bt s 6), .int .u8 (bt s 7), .string ⟨#[]⟩]) (ls [.bool false, .int .u64 0, .int .u64 0, .bool false, .int .u64 0, .int .u64 0, .int .u8 (bt s 6), .int .u8 (bt s 7), .string ⟨#[]⟩]) (by kernel_rfl) inz26 (by decide) (one_ls _ rfl) (fun j hj => by rw [if_pos (by omega), Nat.sub_zero]) fun u9 M => ?_
 refine nT ?_
 refine au_then ?_
 refine sR ?_
 refine pV 25 (.pointer (some ⟨g3, 0, none⟩)) ?_
 refine pV 26 (.bool true) ?_
 refine pl_callp M (want_no rfl) (some 27) rfl 64 #[.pointer (some ⟨g3, 0, none⟩), .bool true] (.agg (av 3 (ls [.bool true, .int .u64 (bnv (tkV (s.extract 8 s.size) 0 8)), .int .u64 (bnv (tkV (tkS (s.extract 8 s.size) 0 8) (tkF (s.extract 8 s.size) 0 8) 8))]))) 2 g3 (.cells (av 3 (ls [.bool true, .string (s.extract 8 s.size), .int .i64 0])) 108) (.cells (av 3 (ls [.bool true, .string (tkS (tkS (s.extract 8 s.size) 0 8) (tkF (s.extract 8 s.size) 0 8) 8), .int .i64 (tkF (tkS (s.extract 8 s.size) 0 8) (tkF (s.extract 8 s.size) 0 8) 8)])) 108) rfl (fun _ => by kernel_rfl) (fun w M => c_readT g3 (s.extract 8 s.size) 0 w M.laid (M.get 2 rfl) (M.ne0 2 rfl)) fun u10 M => ?_
 refine pV 28 (.pointer (some ⟨g4, 0, none⟩)) ?_
 refine pl_put M (want_no rfl) rfl 24 _ _ rfl 3 g4 0 (by kernel_rfl) 9 26 (ls [.bool false, .int .u64 0, .int .u64 0, .bool false, .int .u64 0, .int .u64 0, .int .u8 (bt s 6), .int .u8 (bt s 7), .string ⟨#[]⟩]) rfl 3 (ls [.bool true, .int .u64 (bnv (tkV (s.extract 8 s.size) 0 8)), .int .u64 (bnv (tkV (tkS (s.extract 8 s.size) 0 8) (tkF (s.extract 8 s.size) 0 8) 8))]) (ls [.bool true, .int .u64 (bnv (tkV (s.extract 8 s.size) 0 8)), .int .u64 (bnv (tkV (tkS (s.extract 8 s.size) 0 8) (tkF (s.extract 8 s.size) 0 8) 8)), .bool false, .int .u64 0, .int .u64 0, .int .u8 (bt s 6), .int .u8 (bt s 7), .string ⟨#[]⟩]) (by kernel_rfl) inz24 (by decide) (one_ls _ rfl) (putp_ls ([.bool false, .int .u64 0, .int .u64 0, .bool false, .int .u64 0, .int .u64 0, .int .u8 (bt s 6), .int .u8 (bt s 7), .string ⟨#[]⟩] : List Value) ([.bool true, .int .u64 (bnv (tkV (s.extract 8 s.size) 0 8)), .int .u64 (bnv (tkV (tkS (s.extract 8 s.size) 0 8) (tkF (s.extract 8 s.size) 0 8) 8))] : List Value) 0 _ rfl ⟨Nat.le_of_ble_eq_true rfl, Nat.le_of_ble_eq_true rfl⟩) fun u11 M => ?_
 refine nT ?_
 refine sR ?_
 refine pV 29 (.pointer (some ⟨g3, 0, none⟩)) ?_
 refine pV 30 (.bool true) ?_
 refine pl_callp M (want_no rfl) (some 31) rfl 64 #[.pointer (some ⟨g3, 0, none⟩), .bool true] (.agg (av 3 (ls [.bool true, .int .u64 (bnv (tkV (tkS (tkS (s.extract 8 s.size) 0 8) (tkF (s.extract 8 s.size) 0 8) 8) (tkF (tkS (s.extract 8 s.size) 0 8) (tkF (s.extract 8 s.size) 0 8) 8) 8)), .int .u64 (bnv (tkV (tkS (tkS (tkS (s.extract 8 s.size) 0 8) (tkF (s.extract 8 s.size) 0 8) 8) (tkF (tkS (s.extract 8 s.size) 0 8) (tkF (s.extract 8 s.size) 0 8) 8) 8) (tkF (tkS (tkS (s.extract 8 s.size) 0 8) (tkF (s.extract 8 s.size) 0 8) 8) (tkF (tkS (s.extract 8 s.size) 0 8) (tkF (s.extract 8 s.size) 0 8) 8) 8) 8))]))) 2 g3 (.cells (av 3 (ls [.bool true, .string (tkS (tkS (s.extract 8 s.size) 0 8) (tkF (s.extract 8 s.size) 0 8) 8), .int .i64 (tkF (tkS (s.extract 8 s.size) 0 8) (tkF (s.extract 8 s.size) 0 8) 8)])) 108) (.cells (av 3 (ls [.bool true, .string (tkS (tkS (tkS (tkS (s.extract 8 s.size) 0 8) (tkF (s.extract 8 s.size) 0 8) 8) (tkF (tkS (s.extract 8 s.size) 0 8) (tkF (s.extract 8 s.size) 0 8) 8) 8) (tkF (tkS (tkS (s.extract 8 s.size) 0 8) (tkF (s.extract 8 s.size) 0 8) 8) (tkF (tkS (s.extract 8 s.size) 0 8) (tkF (s.extract 8 s.size) 0 8) 8) 8) 8), .int .i64 (tkF (tkS (tkS (tkS (s.extract 8 s.size) 0 8) (tkF (s.extract 8 s.size) 0 8) 8) (tkF (tkS (s.extract 8 s.size) 0 8) (tkF (s.extract 8 s.size) 0 8) 8) 8) (tkF (tkS (tkS (s.extract 8 s.size) 0 8) (tkF (s.extract 8 s.size) 0 8) 8) (tkF (tkS (s.extract 8 s.size) 0 8) (tkF (s.extract 8 s.size) 0 8) 8) 8) 8)])) 108) rfl (fun _ => by kernel_rfl) (fun w M => c_readT g3 (tkS (tkS (s.extract 8 s.size) 0 8) (tkF (s.extract 8 s.size) 0 8) 8) (tkF (tkS (s.extract 8 s.size) 0 8) (tkF (s.extract 8 s.size) 0 8) 8) w M.laid (M.get 2 rfl) (M.ne0 2 rfl)) fun u12 M => ?_
 refine pV 32 (.pointer (some ⟨g4, 3, none⟩)) ?_
 refine pl_put M (want_no rfl) rfl 24 _ _ rfl 3 g4 3 (by kernel_rfl) 9 26 (ls [.bool true, .int .u64 (bnv (tkV (s.extract 8 s.size) 0 8)), .int .u64 (bnv (tkV (tkS (s.extract 8 s.size) 0 8) (tkF (s.extract 8 s.size) 0 8) 8)), .bool false, .int .u64 0, .int .u64 0, .int .u8 (bt s 6), .int .u8 (bt s 7), .string ⟨#[]⟩]) rfl 3 (ls [.bool true, .int .u64 (bnv (tkV (tkS (tkS (s.extract 8 s.size) 0 8) (tkF (s.extract 8 s.size) 0 8) 8) (tkF (tkS (s.extract 8 s.size) 0 8) (tkF (s.extract 8 s.size) 0 8) 8) 8)), .int .u64 (bnv (tkV (tkS (tkS (tkS (s.extract 8 s.size) 0 8) (tkF (s.extract 8 s.size) 0 8) 8) (tkF (tkS (s.extract 8 s.size) 0 8) (tkF (s.extract 8 s.size) 0 8) 8) 8) (tkF (tkS (tkS (s.extract 8 s.size) 0 8) (tkF (s.extract 8 s.size) 0 8) 8) (tkF (tkS (s.extract 8 s.size) 0 8) (tkF (s.extract 8 s.size) 0 8) 8) 8) 8))]) (ls [.bool true, .int .u64 (bnv (tkV (s.extract 8 s.size) 0 8)), .int .u64 (bnv (tkV (tkS (s.extract 8 s.size) 0 8) (tkF (s.extract 8 s.size) 0 8) 8)), .bool true, .int .u64 (bnv (tkV (tkS (tkS (s.extract 8 s.size) 0 8) (tkF (s.extract 8 s.size) 0 8) 8) (tkF (tkS (s.extract 8 s.size) 0 8) (tkF (s.extract 8 s.size) 0 8) 8) 8)), .int .u64 (bnv (tkV (tkS (tkS (tkS (s.extract 8 s.size) 0 8) (tkF (s.extract 8 s.size) 0 8) 8) (tkF (tkS (s.extract 8 s.size) 0 8) (tkF (s.extract 8 s.size) 0 8) 8) 8) (tkF (tkS (tkS (s.extract 8 s.size) 0 8) (tkF (s.extract 8 s.size) 0 8) 8) (tkF (tkS (s.extract 8 s.size) 0 8) (tkF (s.extract 8 s.size) 0 8) 8) 8) 8)), .int .u8 (bt s 6), .int .u8 (bt s 7), .string ⟨#[]⟩]) (by kernel_rfl) inz24 (by decide) (one_ls _ rfl) (putp_ls ([.bool true, .int .u64 (bnv (tkV (s.extract 8 s.size) 0 8)), .int .u64 (bnv (tkV (tkS (s.extract 8 s.size) 0 8) (tkF (s.extract 8 s.size) 0 8) 8)), .bool false, .int .u64 0, .int .u64 0, .int .u8 (bt s 6), .int .u8 (bt s 7), .string ⟨#[]⟩] : List Value) ([.bool true, .int .u64 (bnv (tkV (tkS (tkS (s.extract 8 s.size) 0 8) (tkF (s.extract 8 s.size) 0 8) 8) (tkF (tkS (s.extract 8 s.size) 0 8) (tkF (s.extract 8 s.size) 0 8) 8) 8)), .int .u64 (bnv (tkV (tkS (tkS (tkS (s.extract 8 s.size) 0 8) (tkF (s.extract 8 s.size) 0 8) 8) (tkF (tkS (s.extract 8 s.size) 0 8) (tkF (s.extract 8 s.size) 0 8) 8) 8) (tkF (tkS (tkS (s.extract 8 s.size) 0 8) (tkF (s.extract 8 s.size) 0 8) 8) (tkF (tkS (s.extract 8 s.size) 0 8) (tkF (s.extract 8 s.size) 0 8) 8) 8) 8))] : List Value) 3 _ rfl ⟨Nat.le_of_ble_eq_true rfl, Nat.le_of_ble_eq_true rfl⟩) fun u13 M => ?_
 refine nT ?_
 refine sR ?_
 refine pV 33 (.pointer (some ⟨g3, 0, none⟩)) ?_
 refine pV 34 (.pointer (some ⟨g3, 0, none⟩)) ?_
 refine pC M 35 66 #[.pointer (some ⟨g3, 0, none⟩)] (.int .i64 ((tkS (tkS (tkS (tkS (s.extract 8 s.size) 0 8) (tkF (s.extract 8 s.size) 0 8) 8) (tkF (tkS (s.extract 8 s.size) 0 8) (tkF (s.extract 8 s.size) 0 8) 8) 8) (tkF (tkS (tkS (s.extract 8 s.size) 0 8) (tkF (s.extract 8 s.size) 0 8) 8) (tkF (tkS (s.extract 8 s.size) 0 8) (tkF (s.extract 8 s.size) 0 8) 8) 8) 8).size : Int)) (fun w M => c_Left g3 (tkS (tkS (tkS (tkS (s.extract 8 s.size) 0 8) (tkF (s.extract 8 s.size) 0 8) 8) (tkF (tkS (s.extract 8 s.size) 0 8) (tkF (s.extract 8 s.size) 0 8) 8) 8) (tkF (tkS (tkS (s.extract 8 s.size) 0 8) (tkF (s.extract 8 s.size) 0 8) 8) (tkF (tkS (s.extract 8 s.size) 0 8) (tkF (s.extract 8 s.size) 0 8) 8) 8) 8) (tkF (tkS (tkS (tkS (s.extract 8 s.size) 0 8) (tkF (s.extract 8 s.size) 0 8) 8) (tkF (tkS (s.extract 8 s.size) 0 8) (tkF (s.extract 8 s.size) 0 8) 8) 8) (tkF (tkS (tkS (s.extract 8 s.size) 0 8) (tkF (s.extract 8 s.size) 0 8) 8) (tkF (tkS (s.extract 8 s.size) 0 8) (tkF (s.extract 8 s.size) 0 8) 8) 8) 8) w M.laid (M.get 2 rfl) (M.ne0 2 rfl)) fun u14 M => ?_
 refine pl_callp M (want_no rfl) (some 36) rfl 65 #[.pointer (some ⟨g3, 0, none⟩), .int .i64 ((tkS (tkS (tkS (tkS (s.extract 8 s.size) 0 8) (tkF (s.extract 8 s.size) 0 8) 8) (tkF (tkS (s.extract 8 s.size) 0 8) (tkF (s.extract 8 s.size) 0 8) 8) 8) (tkF (tkS (tkS (s.extract 8 s.size) 0 8) (tkF (s.extract 8 s.size) 0 8) 8) (tkF (tkS (s.extract 8 s.size) 0 8) (tkF (s.extract 8 s.size) 0 8) 8) 8) 8).size : Int)] (.string (tkV (tkS (tkS (tkS (tkS (s.extract 8 s.size) 0 8) (tkF (s.extract 8 s.size) 0 8) 8) (tkF (tkS (s.extract 8 s.size) 0 8) (tkF (s.extract 8 s.size) 0 8) 8) 8) (tkF (tkS (tkS (s.extract 8 s.size) 0 8) (tkF (s.extract 8 s.size) 0 8) 8) (tkF (tkS (s.extract 8 s.size) 0 8) (tkF (s.extract 8 s.size) 0 8) 8) 8) 8) (tkF (tkS (tkS (tkS (s.extract 8 s.size) 0 8) (tkF (s.extract 8 s.size) 0 8) 8) (tkF (tkS (s.extract 8 s.size) 0 8) (tkF (s.extract 8 s.size) 0 8) 8) 8) (tkF (tkS (tkS (s.extract 8 s.size) 0 8) (tkF (s.extract 8 s.size) 0 8) 8) (tkF (tkS (s.extract 8 s.size) 0 8) (tkF (s.extract 8 s.size) 0 8) 8) 8) 8) ((tkS (tkS (tkS (tkS (s.extract 8 s.size) 0 8) (tkF (s.extract 8 s.size) 0 8) 8) (tkF (tkS (s.extract 8 s.size) 0 8) (tkF (s.extract 8 s.size) 0 8) 8) 8) (tkF (tkS (tkS (s.extract 8 s.size) 0 8) (tkF (s.extract 8 s.size) 0 8) 8) (tkF (tkS (s.extract 8 s.size) 0 8) (tkF (s.extract 8 s.size) 0 8) 8) 8) 8).size : Int))) 2 g3 (.cells (av 3 (ls [.bool true, .string (tkS (tkS (tkS (tkS (s.extract 8 s.size) 0 8) (tkF (s.extract 8 s.size) 0 8) 8) (tkF (tkS (s.extract 8 s.size) 0 8) (tkF (s.extract 8 s.size) 0 8) 8) 8) (tkF (tkS (tkS (s.extract 8 s.size) 0 8) (tkF (s.extract 8 s.size) 0 8) 8) (tkF (tkS (s.extract 8 s.size) 0 8) (tkF (s.extract 8 s.size) 0 8) 8) 8) 8), .int .i64 (tkF (tkS (tkS (tkS (s.extract 8 s.size) 0 8) (tkF (s.extract 8 s.size) 0 8) 8) (tkF (tkS (s.extract 8 s.size) 0 8) (tkF (s.extract 8 s.size) 0 8) 8) 8) (tkF (tkS (tkS (s.extract 8 s.size) 0 8) (tkF (s.extract 8 s.size) 0 8) 8) (tkF (tkS (s.extract 8 s.size) 0 8) (tkF (s.extract 8 s.size) 0 8) 8) 8) 8)])) 108) (.cells (av 3 (ls [.bool true, .string (tkS (tkS (tkS (tkS (tkS (s.extract 8 s.size) 0 8) (tkF (s.extract 8 s.size) 0 8) 8) (tkF (tkS (s.extract 8 s.size) 0 8) (tkF (s.extract 8 s.size) 0 8) 8) 8) (tkF (tkS (tkS (s.extract 8 s.size) 0 8) (tkF (s.extract 8 s.size) 0 8) 8) (tkF (tkS (s.extract 8 s.size) 0 8) (tkF (s.extract 8 s.size) 0 8) 8) 8) 8) (tkF (tkS (tkS (tkS (s.extract 8 s.size) 0 8) (tkF (s.extract 8 s.size) 0 8) 8) (tkF (tkS (s.extract 8 s.size) 0 8) (tkF (s.extract 8 s.size) 0 8) 8) 8) (tkF (tkS (tkS (s.extract 8 s.size) 0 8) (tkF (s.extract 8 s.size) 0 8) 8) (tkF (tkS (s.extract 8 s.size) 0 8) (tkF (s.extract 8 s.size) 0 8) 8) 8) 8) ((tkS (tkS (tkS (tkS (s.extract 8 s.size) 0 8) (tkF (s.extract 8 s.size) 0 8) 8) (tkF (tkS (s.extract 8 s.size) 0 8) (tkF (s.extract 8 s.size) 0 8) 8) 8) (tkF (tkS (tkS (s.extract 8 s.size) 0 8) (tkF (s.extract 8 s.size) 0 8) 8) (tkF (tkS (s.extract 8 s.size) 0 8) (tkF (s.extract 8 s.size) 0 8) 8) 8) 8).size : Int)), .int .i64 (tkF (tkS (tkS (tkS (tkS (s.extract 8 s.size) 0 8) (tkF (s.extract 8 s.size) 0 8) 8) (tkF (tkS (s.extract 8 s.size) 0 8) (tkF (s.extract 8 s.size) 0 8) 8) 8) (tkF (tkS (tkS (s.extract 8 s.size) 0 8) (tkF (s.extract 8 s.size) 0 8) 8) (tkF (tkS (s.extract 8 s.size) 0 8) (tkF (s.extract 8 s.size) 0 8) 8) 8) 8) (tkF (tkS (tkS (tkS (s.extract 8 s.size) 0 8) (tkF (s.extract 8 s.size) 0 8) 8) (tkF (tkS (s.extract 8 s.size) 0 8) (tkF (s.extract 8 s.size) 0 8) 8) 8) (tkF (tkS (tkS (s.extract 8 s.size) 0 8) (tkF (s.extract 8 s.size) 0 8) 8) (tkF (tkS (s.extract 8 s.size) 0 8) (tkF (s.extract 8 s.size) 0 8) 8) 8) 8) ((tkS (tkS (tkS (tkS (s.extract 8 s.size) 0 8) (tkF (s.extract 8 s.size) 0 8) 8) (tkF (tkS (s.extract 8 s.size) 0 8) (tkF (s.extract 8 s.size) 0 8) 8) 8) (tkF (tkS (tkS (s.extract 8 s.size) 0 8) (tkF (s.extract 8 s.size) 0 8) 8) (tkF (tkS (s.extract 8 s.size) 0 8) (tkF (s.extract 8 s.size) 0 8) 8) 8) 8).size : Int))])) 108) rfl (fun _ => by kernel_rfl) (fun w M => c_Take g3 (tkS (tkS (tkS (tkS (s.extract 8 s.size) 0 8) (tkF (s.extract 8 s.size) 0 8) 8) (tkF (tkS (s.extract 8 s.size) 0 8) (tkF (s.extract 8 s.size) 0 8) 8) 8) (tkF (tkS (tkS (s.extract 8 s.size) 0 8) (tkF (s.extract 8 s.size) 0 8) 8) (tkF (tkS (s.extract 8 s.size) 0 8) (tkF (s.extract 8 s.size) 0 8) 8) 8) 8) (tkF (tkS (tkS (tkS (s.extract 8 s.size) 0 8) (tkF (s.extract 8 s.size) 0 8) 8) (tkF (tkS (s.extract 8 s.size) 0 8) (tkF (s.extract 8 s.size) 0 8) 8) 8) (tkF (tkS (tkS (s.extract 8 s.size) 0 8) (tkF (s.extract 8 s.size) 0 8) 8) (tkF (tkS (s.extract 8 s.size) 0 8) (tkF (s.extract 8 s.size) 0 8) 8) 8) 8) ((tkS (tkS (tkS (tkS (s.extract 8 s.size) 0 8) (tkF (s.extract 8 s.size) 0 8) 8) (tkF (tkS (s.extract 8 s.size) 0 8) (tkF (s.extract 8 s.size) 0 8) 8) 8) (tkF (tkS (tkS (s.extract 8 s.size) 0 8) (tkF (s.extract 8 s.size) 0 8) 8) (tkF (tkS (s.extract 8 s.size) 0 8) (tkF (s.extract 8 s.size) 0 8) 8) 8) 8).size : Int) w M.laid (M.get 2 rfl) (M.ne0 2 rfl)) fun u15 M => ?_
 refine pV 37 (.pointer (some ⟨g4, 8, none⟩)) ?_
 refine pP M 3 rfl 8 (.string (tkV (tkS (tkS (tkS (tkS (s.extract 8 s.size) 0 8) (tkF (s.extract 8 s.size) 0 8) 8) (tkF (tkS (s.extract 8 s.size) 0 8) (tkF (s.extract 8 s.size) 0 8) 8) 8) (tkF (tkS (tkS (s.extract 8 s.size) 0 8) (tkF (s.extract 8 s.size) 0 8) 8) (tkF (tkS (s.extract 8 s.size) 0 8) (tkF (s.extract 8 s.size) 0 8) 8) 8) 8) (tkF (tkS (tkS (tkS (s.extract 8 s.size) 0 8) (tkF (s.extract 8 s.size) 0 8) 8) (tkF (tkS (s.extract 8 s.size) 0 8) (tkF (s.extract 8 s.size) 0 8) 8) 8) (tkF (tkS (tkS (s.extract 8 s.size) 0 8) (tkF (s.extract 8 s.size) 0 8) 8) (tkF (tkS (s.extract 8 s.size) 0 8) (tkF (s.extract 8 s.size) 0 8) 8) 8) 8) ((tkS (tkS (tkS (tkS (s.extract 8 s.size) 0 8) (tkF (s.extract 8 s.size) 0 8) 8) (tkF (tkS (s.extract 8 s.size) 0 8) (tkF (s.extract 8 s.size) 0 8) 8) 8) (tkF (tkS (tkS (s.extract 8 s.size) 0 8) (tkF (s.extract 8 s.size) 0 8) 8) (tkF (tkS (s.extract 8 s.size) 0 8) (tkF (s.extract 8 s.size) 0 8) 8) 8) 8).size : Int))) (ls [.bool true, .int .u64 (bnv (tkV (s.extract 8 s.size) 0 8)), .int .u64 (bnv (tkV (tkS (s.extract 8 s.size) 0 8) (tkF (s.extract 8 s.size) 0 8) 8)), .bool true, .int .u64 (bnv (tkV (tkS (tkS (s.extract 8 s.size) 0 8) (tkF (s.extract 8 s.size) 0 8) 8) (tkF (tkS (s.extract 8 s.size) 0 8) (tkF (s.extract 8 s.size) 0 8) 8) 8)), .int .u64 (bnv (tkV (tkS (tkS (tkS (s.extract 8 s.size) 0 8) (tkF (s.extract 8 s.size) 0 8) 8) (tkF (tkS (s.extract 8 s.size) 0 8) (tkF (s.extract 8 s.size) 0 8) 8) 8) (tkF (tkS (tkS (s.extract 8 s.size) 0 8) (tkF (s.extract 8 s.size) 0 8) 8) (tkF (tkS (s.extract 8 s.size) 0 8) (tkF (s.extract 8 s.size) 0 8) 8) 8) 8)), .int .u8 (bt s 6), .int .u8 (bt s 7), .string (tkV (tkS (tkS (tkS (tkS (s.extract 8 s.size) 0 8) (tkF (s.extract 8 s.size) 0 8) 8) (tkF (tkS (s.extract 8 s.size) 0 8) (tkF (s.extract 8 s.size) 0 8) 8) 8) (tkF (tkS (tkS (s.extract 8 s.size) 0 8) (tkF (s.extract 8 s.size) 0 8) 8) (tkF (tkS (s.extract 8 s.size) 0 8) (tkF (s.extract 8 s.size) 0 8) 8) 8) 8) (tkF (tkS (tkS (tkS (s.extract 8 s.size) 0 8) (tkF (s.extract 8 s.size) 0 8) 8) (tkF (tkS (s.extract 8 s.size) 0 8) (tkF (s.extract 8 s.size) 0 8) 8) 8) (tkF (tkS (tkS (s.extract 8 s.size) 0 8) (tkF (s.extract 8 s.size) 0 8) 8) (tkF (tkS (s.extract 8 s.size) 0 8) (tkF (s.extract 8 s.size) 0 8) 8) 8) 8) ((tkS (tkS (tkS (tkS (s.extract 8 s.size) 0 8) (tkF (s.extract 8 s.size) 0 8) 8) (tkF (tkS (s.extract 8 s.size) 0 8) (tkF (s.extract 8 s.size) 0 8) 8) 8) (tkF (tkS (tkS (s.extract 8 s.size) 0 8) (tkF (s.extract 8 s.size) 0 8) 8) (tkF (tkS (s.extract 8 s.size) 0 8) (tkF (s.extract 8 s.size) 0 8) 8) 8) 8).size : Int))]) (by decide) (put_ls _ 8 _ _ rfl) fun u16 M => ?_
 refine nT ?_
 refine sR ?_
 refine pAz M 38 3 9 (ls [.bool true, .int .u64 (bnv (tkV (s.extract 8 s.size) 0 8)), .int .u64 (bnv (tkV (tkS (s.extract 8 s.size) 0 8) (tkF (s.extract 8 s.size) 0 8) 8)), .bool true, .int .u64 (bnv (tkV (tkS (tkS (s.extract 8 s.size) 0 8) (tkF (s.extract 8 s.size) 0 8) 8) (tkF (tkS (s.extract 8 s.size) 0 8) (tkF (s.extract 8 s.size) 0 8) 8) 8)), .int .u64 (bnv (tkV (tkS (tkS (tkS (s.extract 8 s.size) 0 8) (tkF (s.extract 8 s.size) 0 8) 8) (tkF (tkS (s.extract 8 s.size) 0 8) (tkF (s.extract 8 s.size) 0 8) 8) 8) (tkF (tkS (tkS (s.extract 8 s.size) 0 8) (tkF (s.extract 8 s.size) 0 8) 8) (tkF (tkS (s.extract 8 s.size) 0 8) (tkF (s.extract 8 s.size) 0 8) 8) 8) 8)), .int .u8 (bt s 6), .int .u8 (bt s 7), .string (tkV (tkS (tkS (tkS (tkS (s.extract 8 s.size) 0 8) (tkF (s.extract 8 s.size) 0 8) 8) (tkF (tkS (s.extract 8 s.size) 0 8) (tkF (s.extract 8 s.size) 0 8) 8) 8) (tkF (tkS (tkS (s.extract 8 s.size) 0 8) (tkF (s.extract 8 s.size) 0 8) 8) (tkF (tkS (s.extract 8 s.size) 0 8) (tkF (s.extract 8 s.size) 0 8) 8) 8) 8) (tkF (tkS (tkS (tkS (s.extract 8 s.size) 0 8) (tkF (s.extract 8 s.size) 0 8) 8) (tkF (tkS (s.extract 8 s.size) 0 8) (tkF (s.extract 8 s.size) 0 8) 8) 8) (tkF (tkS (tkS (s.extract 8 s.size) 0 8) (tkF (s.extract 8 s.size) 0 8) 8) (tkF (tkS (s.extract 8 s.size) 0 8) (tkF (s.extract 8 s.size) 0 8) 8) 8) 8) ((tkS (tkS (tkS (tkS (s.extract 8 s.size) 0 8) (tkF (s.extract 8 s.size) 0 8) 8) (tkF (tkS (s.extract 8 s.size) 0 8) (tkF (s.extract 8 s.size) 0 8) 8) 8) (tkF (tkS (tkS (s.extract 8 s.size) 0 8) (tkF (s.extract 8 s.size) 0 8) 8) (tkF (tkS (s.extract 8 s.size) 0 8) (tkF (s.extract 8 s.size) 0 8) 8) 8) 8).size : Int))]) ?_
 refine pl_put M (want_no rfl) rfl 26 _ _ rfl 0 g1 0 (by kernel_rfl) 9 26 (ls [.bool false, .int .u64 0, .int .u64 0, .bool false, .int .u64 0, .int .u64 0, .int .u8 0, .int .u8 0, .string ⟨#[]⟩]) rfl 9 (ls [.bool true, .int .u64 (bnv (tkV (s.extract 8 s.size) 0 8)), .int .u64 (bnv (tkV (tkS (s.extract 8 s.size) 0 8) (tkF (s.extract 8 s.size) 0 8) 8)), .bool true, .int .u64 (bnv (tkV (tkS (tkS (s.extract 8 s.size) 0 8) (tkF (s.extract 8 s.size) 0 8) 8) (tkF (tkS (s.extract 8 s.size) 0 8) (tkF (s.extract 8 s.size) 0 8) 8) 8)), .int .u64 (bnv (tkV (tkS (tkS (tkS (s.extract 8 s.size) 0 8) (tkF (s.extract 8 s.size) 0 8) 8) (tkF (tkS (s.extract 8 s.size) 0 8) (tkF (s.extract 8 s.size) 0 8) 8) 8) (tkF (tkS (tkS (s.extract 8 s.size) 0 8) (tkF (s.extract 8 s.size) 0 8) 8) (tkF (tkS (s.extract 8 s.size) 0 8) (tkF (s.extract 8 s.size) 0 8) 8) 8) 8)), .int .u8 (bt s 6), .int .u8 (bt s 7), .string (tkV (tkS (tkS (tkS (tkS (s.extract 8 s.size) 0 8) (tkF (s.extract 8 s.size) 0 8) 8) (tkF (tkS (s.extract 8 s.size) 0 8) (tkF (s.extract 8 s.size) 0 8) 8) 8) (tkF (tkS (tkS (s.extract 8 s.size) 0 8) (tkF (s.extract 8 s.size) 0 8) 8) (tkF (tkS (s.extract 8 s.size) 0 8) (tkF (s.extract 8 s.size) 0 8) 8) 8) 8) (tkF (tkS (tkS (tkS (s.extract 8 s.size) 0 8) (tkF (s.extract 8 s.size) 0 8) 8) (tkF (tkS (s.extract 8 s.size) 0 8) (tkF (s.extract 8 s.size) 0 8) 8) 8) (tkF (tkS (tkS (s.extract 8 s.size) 0 8) (tkF (s.extract 8 s.size) 0 8) 8) (tkF (tkS (s.extract 8 s.size) 0 8) (tkF (s.extract 8 s.size) 0 8) 8) 8) 8) ((tkS (tkS (tkS (tkS (s.extract 8 s.size) 0 8) (tkF (s.extract 8 s.size) 0 8) 8) (tkF (tkS (s.extract 8 s.size) 0 8) (tkF (s.extract 8 s.size) 0 8) 8) 8) (tkF (tkS (tkS (s.extract 8 s.size) 0 8) (tkF (s.extract 8 s.size) 0 8) 8) (tkF (tkS (s.extract 8 s.size) 0 8) (tkF (s.extract 8 s.size) 0 8) 8) 8) 8).size : Int))]) (ls [.bool true, .int .u64 (bnv (tkV (s.extract 8 s.size) 0 8)), .int .u64 (bnv (tkV (tkS (s.extract 8 s.size) 0 8) (tkF (s.extract 8 s.size) 0 8) 8)), .bool true, .int .u64 (bnv (tkV (tkS (tkS (s.extract 8 s.size) 0 8) (tkF (s.extract 8 s.size) 0 8) 8) (tkF (tkS (s.extract 8 s.size) 0 8) (tkF (s.extract 8 s.size) 0 8) 8) 8)), .int .u64 (bnv (tkV (tkS (tkS (tkS (s.extract 8 s.size) 0 8) (tkF (s.extract 8 s.size) 0 8) 8) (tkF (tkS (s.extract 8 s.size) 0 8) (tkF (s.extract 8 s.size) 0 8) 8) 8) (tkF (tkS (tkS (s.extract 8 s.size) 0 8) (tkF (s.extract 8 s.size) 0 8) 8) (tkF (tkS (s.extract 8 s.size) 0 8) (tkF (s.extract 8 s.size) 0 8) 8) 8) 8)), .int .u8 (bt s 6), .int .u8 (bt s 7), .string (tkV (tkS (tkS (tkS (tkS (s.extract 8 s.size) 0 8) (tkF (s.extract 8 s.size) 0 8) 8) (tkF (tkS (s.extract 8 s.size) 0 8) (tkF (s.extract 8 s.size) 0 8) 8) 8) (tkF (tkS (tkS (s.extract 8 s.size) 0 8) (tkF (s.extract 8 s.size) 0 8) 8) (tkF (tkS (s.extract 8 s.size) 0 8) (tkF (s.extract 8 s.size) 0 8) 8) 8) 8) (tkF (tkS (tkS (tkS (s.extract 8 s.size) 0 8) (tkF (s.extract 8 s.size) 0 8) 8) (tkF (tkS (s.extract 8 s.size) 0 8) (tkF (s.extract 8 s.size) 0 8) 8) 8) (tkF (tkS (tkS (s.extract 8 s.size) 0 8) (tkF (s.extract 8 s.size) 0 8) 8) (tkF (tkS (s.extract 8 s.size) 0 8) (tkF (s.extract 8 s.size) 0 8) 8) 8) 8) ((tkS (tkS (tkS (tkS (s.extract 8 s.size) 0 8) (tkF (s.extract 8 s.size) 0 8) 8) (tkF (tkS (s.extract 8 s.size) 0 8) (tkF (s.extract 8 s.size) 0 8) 8) 8) (tkF (tkS (tkS (s.extract 8 s.size) 0 8) (tkF (s.extract 8 s.size) 0 8) 8) (tkF (tkS (s.extract 8 s.size) 0 8) (tkF (s.extract 8 s.size) 0 8) 8) 8) 8).size : Int))]) (by kernel_rfl) inz26 (by decide) (one_ls _ rfl) (fun j hj => by rw [if_pos (by omega), Nat.sub_zero]) fun u17 M => ?_
 refine nT ?_
 refine wp_ret ?_
 have e0 : (q6H0 s) = (bnv (tkV (s.extract 8 s.size) 0 8)) := rfl
 have e1 : (q6L0 s) = (bnv (tkV (tkS (s.extract 8 s.size) 0 8) (tkF (s.extract 8 s.size) 0 8) 8)) := rfl
 have e2 : (q6H1 s) = (bnv (tkV (tkS (tkS (s.extract 8 s.size) 0 8) (tkF (s.extract 8 s.size) 0 8) 8) (tkF (tkS (s.extract 8 s.size) 0 8) (tkF (s.extract 8 s.size) 0 8) 8) 8)) := rfl
 have e3 : (q6L1 s) = (bnv (tkV (tkS (tkS (tkS (s.extract 8 s.size) 0 8) (tkF (s.extract 8 s.size) 0 8) 8) (tkF (tkS (s.extract 8 s.size) 0 8) (tkF (s.extract 8 s.size) 0 8) 8) 8) (tkF (tkS (tkS (s.extract 8 s.size) 0 8) (tkF (s.extract 8 s.size) 0 8) 8) (tkF (tkS (s.extract 8 s.size) 0 8) (tkF (s.extract 8 s.size) 0 8) 8) 8) 8)) := rfl
 have e4 : (q6D s) = (tkV (tkS (tkS (tkS (tkS (s.extract 8 s.size) 0 8) (tkF (s.extract 8 s.size) 0 8) 8) (tkF (tkS (s.extract 8 s.size) 0 8) (tkF (s.extract 8 s.size) 0 8) 8) 8) (tkF (tkS (tkS (s.extract 8 s.size) 0 8) (tkF (s.extract 8 s.size) 0 8) 8) (tkF (tkS (s.extract 8 s.size) 0 8) (tkF (s.extract 8 s.size) 0 8) 8) 8) 8) (tkF (tkS (tkS (tkS (s.extract 8 s.size) 0 8) (tkF (s.extract 8 s.size) 0 8) 8) (tkF (tkS (s.extract 8 s.size) 0 8) (tkF (s.extract 8 s.size) 0 8) 8) 8) (tkF (tkS (tkS (s.extract 8 s.size) 0 8) (tkF (s.extract 8 s.size) 0 8) 8) (tkF (tkS (s.extract 8 s.size) 0 8) (tkF (s.extract 8 s.size) 0 8) 8) 8) 8) ((tkS (tkS (tkS (tkS (s.extract 8 s.size) 0 8) (tkF (s.extract 8 s.size) 0 8) 8) (tkF (tkS (s.extract 8 s.size) 0 8) (tkF (s.extract 8 s.size) 0 8) 8) 8) (tkF (tkS (tkS (s.extract 8 s.size) 0 8) (tkF (s.extract 8 s.size) 0 8) 8) (tkF (tkS (s.extract 8 s.size) 0 8) (tkF (s.extract 8 s.size) 0 8) 8) 8) 8).size : Int)) := rfl
 exact bodyPost_ret (v := .agg (av 9 (ls [.bool true, .int .u64 (bnv (tkV (s.extract 8 s.size) 0 8)), .int .u64 (bnv (tkV (tkS (s.extract 8 s.size) 0 8) (tkF (s.extract 8 s.size) 0 8) 8)), .bool true, .int .u64 (bnv (tkV (tkS (tkS (s.extract 8 s.size) 0 8) (tkF (s.extract 8 s.size) 0 8) 8) (tkF (tkS (s.extract 8 s.size) 0 8) (tkF (s.extract 8 s.size) 0 8) 8) 8)), .int .u64 (bnv (tkV (tkS (tkS (tkS (s.extract 8 s.size) 0 8) (tkF (s.extract 8 s.size) 0 8) 8) (tkF (tkS (s.extract 8 s.size) 0 8) (tkF (s.extract 8 s.size) 0 8) 8) 8) (tkF (tkS (tkS (s.extract 8 s.size) 0 8) (tkF (s.extract 8 s.size) 0 8) 8) (tkF (tkS (s.extract 8 s.size) 0 8) (tkF (s.extract 8 s.size) 0 8) 8) 8) 8)), .int .u8 (bt s 6), .int .u8 (bt s 7), .string (tkV (tkS (tkS (tkS (tkS (s.extract 8 s.size) 0 8) (tkF (s.extract 8 s.size) 0 8) 8) (tkF (tkS (s.extract 8 s.size) 0 8) (tkF (s.extract 8 s.size) 0 8) 8) 8) (tkF (tkS (tkS (s.extract 8 s.size) 0 8) (tkF (s.extract 8 s.size) 0 8) 8) (tkF (tkS (s.extract 8 s.size) 0 8) (tkF (s.extract 8 s.size) 0 8) 8) 8) 8) (tkF (tkS (tkS (tkS (s.extract 8 s.size) 0 8) (tkF (s.extract 8 s.size) 0 8) 8) (tkF (tkS (s.extract 8 s.size) 0 8) (tkF (s.extract 8 s.size) 0 8) 8) 8) (tkF (tkS (tkS (s.extract 8 s.size) 0 8) (tkF (s.extract 8 s.size) 0 8) 8) (tkF (tkS (s.extract 8 s.size) 0 8) (tkF (s.extract 8 s.size) 0 8) 8) 8) 8) ((tkS (tkS (tkS (tkS (s.extract 8 s.size) 0 8) (tkF (s.extract 8 s.size) 0 8) 8) (tkF (tkS (s.extract 8 s.size) 0 8) (tkF (s.extract 8 s.size) 0 8) 8) 8) (tkF (tkS (tkS (s.extract 8 s.size) 0 8) (tkF (s.extract 8 s.size) 0 8) 8) (tkF (tkS (s.extract 8 s.size) 0 8) (tkF (s.extract 8 s.size) 0 8) 8) 8) 8).size : Int))]))) (results_cell_row Tryz.results41 _ _ g1 26 (av 9 (ls [.bool true, .int .u64 (bnv (tkV (s.extract 8 s.size) 0 8)), .int .u64 (bnv (tkV (tkS (s.extract 8 s.size) 0 8) (tkF (s.extract 8 s.size) 0 8) 8)), .bool true, .int .u64 (bnv (tkV (tkS (tkS (s.extract 8 s.size) 0 8) (tkF (s.extract 8 s.size) 0 8) 8) (tkF (tkS (s.extract 8 s.size) 0 8) (tkF (s.extract 8 s.size) 0 8) 8) 8)), .int .u64 (bnv (tkV (tkS (tkS (tkS (s.extract 8 s.size) 0 8) (tkF (s.extract 8 s.size) 0 8) 8) (tkF (tkS (s.extract 8 s.size) 0 8) (tkF (s.extract 8 s.size) 0 8) 8) 8) (tkF (tkS (tkS (s.extract 8 s.size) 0 8) (tkF (s.extract 8 s.size) 0 8) 8) (tkF (tkS (s.extract 8 s.size) 0 8) (tkF (s.extract 8 s.size) 0 8) 8) 8) 8)), .int .u8 (bt s 6), .int .u8 (bt s 7), .string (tkV (tkS (tkS (tkS (tkS (s.extract 8 s.size) 0 8) (tkF (s.extract 8 s.size) 0 8) 8) (tkF (tkS (s.extract 8 s.size) 0 8) (tkF (s.extract 8 s.size) 0 8) 8) 8) (tkF (tkS (tkS (s.extract 8 s.size) 0 8) (tkF (s.extract 8 s.size) 0 8) 8) (tkF (tkS (s.extract 8 s.size) 0 8) (tkF (s.extract 8 s.size) 0 8) 8) 8) 8) (tkF (tkS (tkS (tkS (s.extract 8 s.size) 0 8) (tkF (s.extract 8 s.size) 0 8) 8) (tkF (tkS (s.extract 8 s.size) 0 8) (tkF (s.extract 8 s.size) 0 8) 8) 8) (tkF (tkS (tkS (s.extract 8 s.size) 0 8) (tkF (s.extract 8 s.size) 0 8) 8) (tkF (tkS (s.extract 8 s.size) 0 8) (tkF (s.extract 8 s.size) 0 8) 8) 8) 8) ((tkS (tkS (tkS (tkS (s.extract 8 s.size) 0 8) (tkF (s.extract 8 s.size) 0 8) 8) (tkF (tkS (s.extract 8 s.size) 0 8) (tkF (s.extract 8 s.size) 0 8) 8) 8) (tkF (tkS (tkS (s.extract 8 s.size) 0 8) (tkF (s.extract 8 s.size) 0 8) 8) (tkF (tkS (s.extract 8 s.size) 0 8) (tkF (s.extract 8 s.size) 0 8) 8) 8) 8).size : Int))])) (0, 0) _ (by kernel_rfl) (M.get 0 rfl) Tryz.underlying26 rfl (by rw [av_size]; exact inz26)) (by kernel_rfl) ⟨by rw [e0, e1, e2, e3, e4], below_grown M.old⟩
set_option maxRecDepth 100000 in
set_option maxHeartbeats 4000000 in
set_option linter.unusedSimpArgs false in
theorem c_packF (s : ByteArray) (h6 : ¬ (sr (bt s 0) 4) = 6) (hz : 20 ≤ s.size) (w : World) (hL : Laid w)  :
  Calls Tryz.prog 41 #[.string s] w fun r w' => r = .returned (.agg (av 9 (ls [.bool false, .int .u64 0, .int .u64 (q4L0 s), .bool false, .int .u64 0, .int .u64 (q4L1 s), .int .u8 (bt s 9), .int .u8 (bt s 8), .string (q4D s)]))) ∧ Below w.heap.size w w' := by
 go_enter Tryz.func41, Tryz.ntmps41
 have M := Mem.start hL
 refine sR ?_
 refine pN M 2 (.cells (av 9 (ls [.bool false, .int .u64 0, .int .u64 0, .bool false, .int .u64 0, .int .u64 0, .int .u8 0, .int .u8 0, .string ⟨#[]⟩])) 26) fun g1 u1 M => ?_
 refine nT ?_
 refine sR ?_
 refine pV 7 (.string s) ?_
 refine pC M 8 60 #[.string s] (.bool false) (fun w M => call_val (c_isSix s (by omega) w M.laid) (congrArg Value.bool (decide_eq_false (h6)))) fun u2 M => ?_
 refine pV 3 (.bool false) ?_
 refine nT ?_
 refine sR ?_
 refine pV 9 (.bool false) ?_
 refine pC M 10 37 #[.bool false] (.agg (av 7 (ls [.int .u8 69, .int .i64 20, .int .i64 2, .int .i64 8, .int .i64 9, .int .i64 12, .int .i64 0]))) (fun w M => c_layF w M.laid) fun u3 M => ?_
 refine pN M 4 (.cells (av 7 (ls [.int .u8 0, .int .i64 0, .int .i64 0, .int .i64 0, .int .i64 0, .int .i64 0, .int .i64 0])) 60) fun g2 u4 M => ?_
 refine pl_put M (want_no rfl) rfl 60 _ _ rfl 1 g2 0 (by kernel_rfl) 7 60 (ls [.int .u8 0, .int .i64 0, .int .i64 0, .int .i64 0, .int .i64 0, .int .i64 0, .int .i64 0]) rfl 7 (ls [.int .u8 69, .int .i64 20, .int .i64 2, .int .i64 8, .int .i64 9, .int .i64 12, .int .i64 0]) (ls [.int .u8 69, .int .i64 20, .int .i64 2, .int .i64 8, .int .i64 9, .int .i64 12, .int .i64 0]) (by kernel_rfl) inz60 (by decide) (one_ls _ rfl) (fun j hj => by rw [if_pos (by omega), Nat.sub_zero]) fun u5 M => ?_
 refine nT ?_
 refine sR ?_
 refine pV 11 (.string s) ?_
 refine pV 12 (.pointer (some ⟨g2, 5, none⟩)) ?_
 refine pEz M 13 g2 5 (.int .i64 12) (fun w M => M.cell 1 rfl (by decide) rfl) ?_
 refine pH 14 (.string (s.extract 12 s.size)) (run_strl 9 Tryz.underlying9 _ _ rfl s (by kernel_rfl) .i64 12 (by kernel_rfl) (by omega) _ rfl) ?_
 refine pl_calln M (want_no rfl) (some 15) rfl 63 #[.string (s.extract 12 s.size)] (fun g3 => .pointer (some ⟨g3, 0, none⟩)) (.cells (av 3 (ls [.bool true, .string (s.extract 12 s.size), .int .i64 0])) 108) (fun _ => by kernel_rfl) (fun w M => c_New (s.extract 12 s.size) w M.laid) fun g3 u6 M => ?_
 refine pV 5 (.pointer (some ⟨g3, 0, none⟩)) ?_
 refine nT ?_
 refine wp_seq ?_
 refine rg_held M [⟨g1, .cells (av 9 (ls [.bool false, .int .u64 0, .int .u64 0, .bool false, .int .u64 0, .int .u64 0, .int .u8 0, .int .u8 0, .string ⟨#[]⟩])) 26⟩, ⟨g2, .cells (av 7 (ls [.int .u8 69, .int .i64 20, .int .i64 2, .int .i64 8, .int .i64 9, .int .i64 12, .int .i64 0])) 60⟩, ⟨g3, .cells (av 3 (ls [.bool true, .string (s.extract 12 s.size), .int .i64 0])) 108⟩] 10 rfl (by kernel_rfl) (by kernel_rfl) (fun _ _ d _ _ h => by cases d <;> exact h) fun u7 M => ?_
 refine qV M 0 16 (.string s) ?_
 refine qV M 1 17 (.pointer (some ⟨g2, 4, none⟩)) ?_
 refine hl_cell M 2 rfl (by decide) (by kernel_rfl) (by kernel_rfl) (want_no rfl) (some 18) rfl 3 _ rfl g2 4 (by kernel_rfl) (.int .i64 9) (fun _ => by kernel_rfl) (fun w M => M.cell 1 rfl (by decide) rfl) ?_
 refine hl_val M 3 rfl (by decide) (by kernel_rfl) (by kernel_rfl) (want_no rfl) (some 19) rfl (.int .u8 (bt s 9)) (fun w _ => (run_ixS 9 Tryz.underlying9 _ _ rfl s (by kernel_rfl) .i64 9 (by kernel_rfl) (by omega)) w) ?_
 refine qV M 4 20 (.string s) ?_
 refine qV M 5 21 (.pointer (some ⟨g2, 3, none⟩)) ?_
 refine hl_cell M 6 rfl (by decide) (by kernel_rfl) (by kernel_rfl) (want_no rfl) (some 22) rfl 3 _ rfl g2 3 (by kernel_rfl) (.int .i64 8) (fun _ => by kernel_rfl) (fun w M => M.cell 1 rfl (by decide) rfl) ?_
 refine hl_val M 7 rfl (by decide) (by kernel_rfl) (by kernel_rfl) (want_no rfl) (some 23) rfl (.int .u8 (bt s 8)) (fun w _ => (run_ixS 9 Tryz.underlying9 _ _ rfl s (by kernel_rfl) .i64 8 (by kernel_rfl) (by omega)) w) ?_
 refine qV M 8 24 (.agg (av 9 (ls [.bool false, .int .u64 0, .int .u64 0, .bool false, .int .u64 0, .int .u64 0, .int .u8 (bt s 9), .int .u8 (bt s 8), .string ⟨#[]⟩]))) ?_
 refine hl_one 9 (by decide) (by kernel_rfl) rfl ?_
 refine pN M 6 (.cells (av 9 (ls [.bool false, .int .u64 0, .int .u64 0, .bool false, .int .u64 0, .int .u64 0, .int .u8 0, .int .u8 0, .string ⟨#[]⟩])) 26) fun g4 u8 M => ?_
 refine nT ?_
 refine ⟨(M.drop (.cons_cons _ (.cons_cons _ (.cons_cons _ (.cons _ (.slnil)))))), ?_⟩
 refine hl_end (by kernel_rfl) (by kernel_rfl) rfl ?_
 refine pl_put M (want_no rfl) rfl 26 _ _ rfl 3 g4 0 (by kernel_rfl) 9 26 (ls [.bool false, .int .u64 0, .int .u64 0, .bool false, .int .u64 0, .int .u64 0, .int .u8 0, .int .u8 0, .string ⟨#[]⟩]) rfl 9 (ls [.bool false, .int .u64 0, .int .u64 0, .bool false, .int .u64 0, .int .u64 0, .int .u8 (bt s 9), .int .u8 (bt s 8), .string ⟨#[]⟩]) (ls [.bool false, .int .u64 0, .int .u64 0, .bool false, .int .u64 0, .int .u64 0, .int .u8 (bt s 9), .int .u8 (bt s 8), .string ⟨#[]⟩]) (by kernel_rfl) inz26 (by decide) (one_ls _ rfl) (fun j hj => by rw [if_pos (by omega), Nat.sub_zero]) fun u9 M => ?_
 refine nT ?_
 refine au_then ?_
 refine sR ?_
 refine pV 25 (.pointer (some ⟨g3, 0, none⟩)) ?_
 refine pV 26 (.bool false) ?_
 refine pl_callp M (want_no rfl) (some 27) rfl 64 #[.pointer (some ⟨g3, 0, none⟩), .bool false] (.agg (av 3 (ls [.bool false, .int .u64 0, .int .u64 (cv .u64 (cv .u32 (bnv (tkV (s.extract 12 s.size) 0 4))))]))) 2 g3 (.cells (av 3 (ls [.bool true, .string (s.extract 12 s.size), .int .i64 0])) 108) (.cells (av 3 (ls [.bool true, .string (tkS (s.extract 12 s.size) 0 4), .int .i64 (tkF (s.extract 12 s.size) 0 4)])) 108) rfl (fun _ => by kernel_rfl) (fun w M => c_readF g3 (s.extract 12 s.size) 0 w M.laid (M.get 2 rfl) (M.ne0 2 rfl)) fun u10 M => ?_
 refine pV 28 (.pointer (some ⟨g4, 0, none⟩)) ?_
 refine pl_put M (want_no rfl) rfl 24 _ _ rfl 3 g4 0 (by kernel_rfl) 9 26 (ls [.bool false, .int .u64 0, .int .u64 0, .bool false, .int .u64 0, .int .u64 0, .int .u8 (bt s 9), .int .u8 (bt s 8), .string ⟨#[]⟩]) rfl 3 (ls [.bool false, .int .u64 0, .int .u64 (cv .u64 (cv .u32 (bnv (tkV (s.extract 12 s.size) 0 4))))]) (ls [.bool false, .int .u64 0, .int .u64 (cv .u64 (cv .u32 (bnv (tkV (s.extract 12 s.size) 0 4)))), .bool false, .int .u64 0, .int .u64 0, .int .u8 (bt s 9), .int .u8 (bt s 8), .string ⟨#[]⟩]) (by kernel_rfl) inz24 (by decide) (one_ls _ rfl) (putp_ls ([.bool false, .int .u64 0, .int .u64 0, .bool false, .int .u64 0, .int .u64 0, .int .u8 (bt s 9), .int .u8 (bt s 8), .string ⟨#[]⟩] : List Value) ([.bool false, .int .u64 0, .int .u64 (cv .u64 (cv .u32 (bnv (tkV (s.extract 12 s.size) 0 4))))] : List Value) 0 _ rfl ⟨Nat.le_of_ble_eq_true rfl, Nat.le_of_ble_eq_true rfl⟩) fun u11 M => ?_
 refine nT ?_
 refine sR ?_
 refine pV 29 (.pointer (some ⟨g3, 0, none⟩)) ?_
 refine pV 30 (.bool false) ?_
 refine pl_callp M (want_no rfl) (some 31) rfl 64 #[.pointer (some ⟨g3, 0, none⟩), .bool false] (.agg (av 3 (ls [.bool false, .int .u64 0, .int .u64 (cv .u64 (cv .u32 (bnv (tkV (tkS (s.extract 12 s.size) 0 4) (tkF (s.extract 12 s.size) 0 4) 4))))]))) 2 g3 (.cells (av 3 (ls [.bool true, .string (tkS (s.extract 12 s.size) 0 4), .int .i64 (tkF (s.extract 12 s.size) 0 4)])) 108) (.cells (av 3 (ls [.bool true, .string (tkS (tkS (s.extract 12 s.size) 0 4) (tkF (s.extract 12 s.size) 0 4) 4), .int .i64 (tkF (tkS (s.extract 12 s.size) 0 4) (tkF (s.extract 12 s.size) 0 4) 4)])) 108) rfl (fun _ => by kernel_rfl) (fun w M => c_readF g3 (tkS (s.extract 12 s.size) 0 4) (tkF (s.extract 12 s.size) 0 4) w M.laid (M.get 2 rfl) (M.ne0 2 rfl)) fun u12 M => ?_
 refine pV 32 (.pointer (some ⟨g4, 3, none⟩)) ?_
 refine pl_put M (want_no rfl) rfl 24 _ _ rfl 3 g4 3 (by kernel_rfl) 9 26 (ls [.bool false, .int .u64 0, .int .u64 (cv .u64 (cv .u32 (bnv (tkV (s.extract 12 s.size) 0 4)))), .bool false, .int .u64 0, .int .u64 0, .int .u8 (bt s 9), .int .u8 (bt s 8), .string ⟨#[]⟩]) rfl 3 (ls [.bool false, .int .u64 0, .int .u64 (cv .u64 (cv .u32 (bnv (tkV (tkS (s.extract 12 s.size) 0 4) (tkF (s.extract 12 s.size) 0 4) 4))))]) (ls [.bool false, .int .u64 0, .int .u64 (cv .u64 (cv .u32 (bnv (tkV (s.extract 12 s.size) 0 4)))), .bool false, .int .u64 0, .int .u64 (cv .u64 (cv .u32 (bnv (tkV (tkS (s.extract 12 s.size) 0 4) (tkF (s.extract 12 s.size) 0 4) 4)))), .int .u8 (bt s 9), .int .u8 (bt s 8), .string ⟨#[]⟩]) (by kernel_rfl) inz24 (by decide) (one_ls _ rfl) (putp_ls ([.bool false, .int .u64 0, .int .u64 (cv .u64 (cv .u32 (bnv (tkV (s.extract 12 s.size) 0 4)))), .bool false, .int .u64 0, .int .u64 0, .int .u8 (bt s 9), .int .u8 (bt s 8), .string ⟨#[]⟩] : List Value) ([.bool false, .int .u64 0, .int .u64 (cv .u64 (cv .u32 (bnv (tkV (tkS (s.extract 12 s.size) 0 4) (tkF (s.extract 12 s.size) 0 4) 4))))] : List Value) 3 _ rfl ⟨Nat.le_of_ble_eq_true rfl, Nat.le_of_ble_eq_true rfl⟩) fun u13 M => ?_
 refine nT ?_
 refine sR ?_
 refine pV 33 (.pointer (some ⟨g3, 0, none⟩)) ?_
 refine pV 34 (.pointer (some ⟨g3, 0, none⟩)) ?_
 refine pC M 35 66 #[.pointer (some ⟨g3, 0, none⟩)] (.int .i64 ((tkS (tkS (s.extract 12 s.size) 0 4) (tkF (s.extract 12 s.size) 0 4) 4).size : Int)) (fun w M => c_Left g3 (tkS (tkS (s.extract 12 s.size) 0 4) (tkF (s.extract 12 s.size) 0 4) 4) (tkF (tkS (s.extract 12 s.size) 0 4) (tkF (s.extract 12 s.size) 0 4) 4) w M.laid (M.get 2 rfl) (M.ne0 2 rfl)) fun u14 M => ?_
 refine pl_callp M (want_no rfl) (some 36) rfl 65 #[.pointer (some ⟨g3, 0, none⟩), .int .i64 ((tkS (tkS (s.extract 12 s.size) 0 4) (tkF (s.extract 12 s.size) 0 4) 4).size : Int)] (.string (tkV (tkS (tkS (s.extract 12 s.size) 0 4) (tkF (s.extract 12 s.size) 0 4) 4) (tkF (tkS (s.extract 12 s.size) 0 4) (tkF (s.extract 12 s.size) 0 4) 4) ((tkS (tkS (s.extract 12 s.size) 0 4) (tkF (s.extract 12 s.size) 0 4) 4).size : Int))) 2 g3 (.cells (av 3 (ls [.bool true, .string (tkS (tkS (s.extract 12 s.size) 0 4) (tkF (s.extract 12 s.size) 0 4) 4), .int .i64 (tkF (tkS (s.extract 12 s.size) 0 4) (tkF (s.extract 12 s.size) 0 4) 4)])) 108) (.cells (av 3 (ls [.bool true, .string (tkS (tkS (tkS (s.extract 12 s.size) 0 4) (tkF (s.extract 12 s.size) 0 4) 4) (tkF (tkS (s.extract 12 s.size) 0 4) (tkF (s.extract 12 s.size) 0 4) 4) ((tkS (tkS (s.extract 12 s.size) 0 4) (tkF (s.extract 12 s.size) 0 4) 4).size : Int)), .int .i64 (tkF (tkS (tkS (s.extract 12 s.size) 0 4) (tkF (s.extract 12 s.size) 0 4) 4) (tkF (tkS (s.extract 12 s.size) 0 4) (tkF (s.extract 12 s.size) 0 4) 4) ((tkS (tkS (s.extract 12 s.size) 0 4) (tkF (s.extract 12 s.size) 0 4) 4).size : Int))])) 108) rfl (fun _ => by kernel_rfl) (fun w M => c_Take g3 (tkS (tkS (s.extract 12 s.size) 0 4) (tkF (s.extract 12 s.size) 0 4) 4) (tkF (tkS (s.extract 12 s.size) 0 4) (tkF (s.extract 12 s.size) 0 4) 4) ((tkS (tkS (s.extract 12 s.size) 0 4) (tkF (s.extract 12 s.size) 0 4) 4).size : Int) w M.laid (M.get 2 rfl) (M.ne0 2 rfl)) fun u15 M => ?_
 refine pV 37 (.pointer (some ⟨g4, 8, none⟩)) ?_
 refine pP M 3 rfl 8 (.string (tkV (tkS (tkS (s.extract 12 s.size) 0 4) (tkF (s.extract 12 s.size) 0 4) 4) (tkF (tkS (s.extract 12 s.size) 0 4) (tkF (s.extract 12 s.size) 0 4) 4) ((tkS (tkS (s.extract 12 s.size) 0 4) (tkF (s.extract 12 s.size) 0 4) 4).size : Int))) (ls [.bool false, .int .u64 0, .int .u64 (cv .u64 (cv .u32 (bnv (tkV (s.extract 12 s.size) 0 4)))), .bool false, .int .u64 0, .int .u64 (cv .u64 (cv .u32 (bnv (tkV (tkS (s.extract 12 s.size) 0 4) (tkF (s.extract 12 s.size) 0 4) 4)))), .int .u8 (bt s 9), .int .u8 (bt s 8), .string (tkV (tkS (tkS (s.extract 12 s.size) 0 4) (tkF (s.extract 12 s.size) 0 4) 4) (tkF (tkS (s.extract 12 s.size) 0 4) (tkF (s.extract 12 s.size) 0 4) 4) ((tkS (tkS (s.extract 12 s.size) 0 4) (tkF (s.extract 12 s.size) 0 4) 4).size : Int))]) (by decide) (put_ls _ 8 _ _ rfl) fun u16 M => ?_
 refine nT ?_
 refine sR ?_
 refine pAz M 38 3 9 (ls [.bool false, .int .u64 0, .int .u64 (cv .u64 (cv .u32 (bnv (tkV (s.extract 12 s.size) 0 4)))), .bool false, .int .u64 0, .int .u64 (cv .u64 (cv .u32 (bnv (tkV (tkS (s.extract 12 s.size) 0 4) (tkF (s.extract 12 s.size) 0 4) 4)))), .int .u8 (bt s 9), .int .u8 (bt s 8), .string (tkV (tkS (tkS (s.extract 12 s.size) 0 4) (tkF (s.extract 12 s.size) 0 4) 4) (tkF (tkS (s.extract 12 s.size) 0 4) (tkF (s.extract 12 s.size) 0 4) 4) ((tkS (tkS (s.extract 12 s.size) 0 4) (tkF (s.extract 12 s.size) 0 4) 4).size : Int))]) ?_
 refine pl_put M (want_no rfl) rfl 26 _ _ rfl 0 g1 0 (by kernel_rfl) 9 26 (ls [.bool false, .int .u64 0, .int .u64 0, .bool false, .int .u64 0, .int .u64 0, .int .u8 0, .int .u8 0, .string ⟨#[]⟩]) rfl 9 (ls [.bool false, .int .u64 0, .int .u64 (cv .u64 (cv .u32 (bnv (tkV (s.extract 12 s.size) 0 4)))), .bool false, .int .u64 0, .int .u64 (cv .u64 (cv .u32 (bnv (tkV (tkS (s.extract 12 s.size) 0 4) (tkF (s.extract 12 s.size) 0 4) 4)))), .int .u8 (bt s 9), .int .u8 (bt s 8), .string (tkV (tkS (tkS (s.extract 12 s.size) 0 4) (tkF (s.extract 12 s.size) 0 4) 4) (tkF (tkS (s.extract 12 s.size) 0 4) (tkF (s.extract 12 s.size) 0 4) 4) ((tkS (tkS (s.extract 12 s.size) 0 4) (tkF (s.extract 12 s.size) 0 4) 4).size : Int))]) (ls [.bool false, .int .u64 0, .int .u64 (cv .u64 (cv .u32 (bnv (tkV (s.extract 12 s.size) 0 4)))), .bool false, .int .u64 0, .int .u64 (cv .u64 (cv .u32 (bnv (tkV (tkS (s.extract 12 s.size) 0 4) (tkF (s.extract 12 s.size) 0 4) 4)))), .int .u8 (bt s 9), .int .u8 (bt s 8), .string (tkV (tkS (tkS (s.extract 12 s.size) 0 4) (tkF (s.extract 12 s.size) 0 4) 4) (tkF (tkS (s.extract 12 s.size) 0 4) (tkF (s.extract 12 s.size) 0 4) 4) ((tkS (tkS (s.extract 12 s.size) 0 4) (tkF (s.extract 12 s.size) 0 4) 4).size : Int))]) (by kernel_rfl) inz26 (by decide) (one_ls _ rfl) (fun j hj => by rw [if_pos (by omega), Nat.sub_zero]) fun u17 M => ?_
 refine nT ?_
 refine wp_ret ?_
 have e0 : (q4L0 s) = (cv .u64 (cv .u32 (bnv (tkV (s.extract 12 s.size) 0 4)))) := rfl
 have e1 : (q4L1 s) = (cv .u64 (cv .u32 (bnv (tkV (tkS (s.extract 12 s.size) 0 4) (tkF (s.extract 12 s.size) 0 4) 4)))) := rfl
 have e2 : (q4D s) = (tkV (tkS (tkS (s.extract 12 s.size) 0 4) (tkF (s.extract 12 s.size) 0 4) 4) (tkF (tkS (s.extract 12 s.size) 0 4) (tkF (s.extract 12 s.size) 0 4) 4) ((tkS (tkS (s.extract 12 s.size) 0 4) (tkF (s.extract 12 s.size) 0 4) 4).size : Int)) := rfl
 exact bodyPost_ret (v := .agg (av 9 (ls [.bool false, .int .u64 0, .int .u64 (cv .u64 (cv .u32 (bnv (tkV (s.extract 12 s.size) 0 4)))), .bool false, .int .u64 0, .int .u64 (cv .u64 (cv .u32 (bnv (tkV (tkS (s.extract 12 s.size) 0 4) (tkF (s.extract 12 s.size) 0 4) 4)))), .int .u8 (bt s 9), .int .u8 (bt s 8), .string (tkV (tkS (tkS (s.extract 12 s.size) 0 4) (tkF (s.extract 12 s.size) 0 4) 4) (tkF (tkS (s.extract 12 s.size) 0 4) (tkF (s.extract 12 s.size) 0 4) 4) ((tkS (tkS (s.extract 12 s.size) 0 4) (tkF (s.extract 12 s.size) 0 4) 4).size : Int))]))) (results_cell_row Tryz.results41 _ _ g1 26 (av 9 (ls [.bool false, .int .u64 0, .int .u64 (cv .u64 (cv .u32 (bnv (tkV (s.extract 12 s.size) 0 4)))), .bool false, .int .u64 0, .int .u64 (cv .u64 (cv .u32 (bnv (tkV (tkS (s.extract 12 s.size) 0 4) (tkF (s.extract 12 s.size) 0 4) 4)))), .int .u8 (bt s 9), .int .u8 (bt s 8), .string (tkV (tkS (tkS (s.extract 12 s.size) 0 4) (tkF (s.extract 12 s.size) 0 4) 4) (tkF (tkS (s.extract 12 s.size) 0 4) (tkF (s.extract 12 s.size) 0 4) 4) ((tkS (tkS (s.extract 12 s.size) 0 4) (tkF (s.extract 12 s.size) 0 4) 4).size : Int))])) (0, 0) _ (by kernel_rfl) (M.get 0 rfl) Tryz.underlying26 rfl (by rw [av_size]; exact inz26)) (by kernel_rfl) ⟨by rw [e0, e1, e2], below_grown M.old⟩
section
variable {a : Act} {w : World} {Q : Exit → Act → World → Prop} {K : Act → World → Prop} {J : Act → World → Prop}
theorem au_then_goto {i : Nat} (h : Q (.goto i) a w) : Exit.then K Q (.goto i) a w := h
theorem au_scope_ret {i : Nat} (h : Q .ret a w) : Exit.jump i J Q .ret a w := h
theorem au_jump {i : Nat} (h : J a w) : Exit.jump i J Q (.goto i) a w := ⟨rfl, h⟩
end
theorem fF_lt {s : ByteArray} (h : fF s = 0) : 0 < s.size ∧ s.size ≤ 1500 := by
 unfold fF at h
 split at h
 ·cases h
 ·split at h
  ·cases h
  ·rename_i h1 h2
   exact ⟨ne_size h2, by omega⟩
theorem fa6_lt {s : ByteArray} (h : fa6 s = 0) : 40 ≤ s.size := by
 unfold fa6 at h
 split at h
 ·cases h
 ·omega
theorem fa4_lt {s : ByteArray} (h : fa4 s = 0) : 20 ≤ s.size := by
 unfold fa4 at h
 split at h
 ·cases h
 ·omega
theorem hFa_6 {s : ByteArray} (h : hFa s = 0) (h6 : sr (bt s 0) 4 = 6) : 40 ≤ s.size := by
 unfold hFa at h
 rw [if_pos h6] at h
 exact fa6_lt h
theorem hFa_4 {s : ByteArray} (h : hFa s = 0) (h6 : ¬ sr (bt s 0) 4 = 6) : 20 ≤ s.size := by
 unfold hFa at h
 rw [if_neg h6] at h
 exact fa4_lt h
set_option maxRecDepth 100000 in
set_option maxHeartbeats 4000000 in
set_option linter.unusedSimpArgs false in
theorem c_Decode (s : ByteArray) (hs : s.size ≤ 200000) (w : World) (hL : Laid w)  :
  Calls Tryz.prog 16 #[.string s] w fun r w' => r = .returned (.tuple #[.agg (av 9 (ls [.bool (zB (dcE s) (decide ((sr (bt s 0) 4) = 6))), .int .u64 (zI (dcE s) (if (sr (bt s 0) 4) = 6 then (q6H0 s) else 0)), .int .u64 (zI (dcE s) (if (sr (bt s 0) 4) = 6 then (q6L0 s) else (q4L0 s))), .bool (zB (dcE s) (decide ((sr (bt s 0) 4) = 6))), .int .u64 (zI (dcE s) (if (sr (bt s 0) 4) = 6 then (q6H1 s) else 0)), .int .u64 (zI (dcE s) (if (sr (bt s 0) 4) = 6 then (q6L1 s) else (q4L1 s))), .int .u8 (zI (dcE s) (if (sr (bt s 0) 4) = 6 then (bt s 6) else (bt s 9))), .int .u8 (zI (dcE s) (if (sr (bt s 0) 4) = 6 then (bt s 7) else (bt s 8))), .string (zS (dcE s) (if (sr (bt s 0) 4) = 6 then (q6D s) else (q4D s)))])), .int .i64 (dcE s)]) ∧ Below w.heap.size w w' := by
 go_enter Tryz.func16, Tryz.ntmps16
 have M := Mem.start hL
 refine sR ?_
 refine pN M 2 (.cells (av 9 (ls [.bool false, .int .u64 0, .int .u64 0, .bool false, .int .u64 0, .int .u64 0, .int .u8 0, .int .u8 0, .string ⟨#[]⟩])) 26) fun g1 u1 M => ?_
 refine pV 3 (.int .i64 0) ?_
 refine nT ?_
 refine wp_scope_jumps 0 (fun a u => ∃ (v : Nat → Value) (e : Int), a = ⟨#[.string s, undef, .pointer (some ⟨g1, 0, none⟩), v 3, .int .i64 e, v 5, v 6, v 7, v 8, v 9, v 10, v 11, v 12, v 13, v 14, v 15, v 16], []⟩ ∧ Mem ⟨w, []⟩ [⟨g1, .cells (av 9 (ls [.bool false, .int .u64 0, .int .u64 0, .bool false, .int .u64 0, .int .u64 0, .int .u8 0, .int .u8 0, .string ⟨#[]⟩])) 26⟩] u ∧ e = dcE s ∧ e ≠ 0) (fun _ _ => 0) rfl ?_ ?_
 ·skip
  refine sR ?_
  refine pV 5 (.string s) ?_
  refine pC M 6 39 #[.string s] (.int .i64 (fF s)) (fun w M => c_firstFault s w M.laid) fun u2 M => ?_
  refine pV 4 (.int .i64 (fF s)) ?_
  refine nT ?_
  refine wp_seq ?_
  refine sR ?_
  refine pV 7 (.int .i64 (fF s)) ?_
  by_cases c0 : (fF s) = 0
  ·skip
   refine pH 8 (.bool false) (nF ((fF s) = 0) (c0)) ?_
   refine nT ?_
   refine wp_cond_false (by kernel_rfl) ?_
   refine wp_skip ?_
   refine au_then ?_
   refine wp_seq ?_
   refine sR ?_
   refine pV 9 (.string s) ?_
   refine pC M 10 40 #[.string s] (.int .i64 (hFa s)) (fun w M => c_header s (fF_lt c0).1 hs w M.laid) fun u3 M => ?_
   refine pV 4 (.int .i64 (hFa s)) ?_
   refine nT ?_
   refine sR ?_
   refine pV 11 (.int .i64 (hFa s)) ?_
   by_cases c1 : (hFa s) = 0
   ·skip
    refine pH 12 (.bool false) (nF ((hFa s) = 0) (c1)) ?_
    refine nT ?_
    refine wp_cond_false (by kernel_rfl) ?_
    refine wp_skip ?_
    refine au_then ?_
    refine wp_seq ?_
    refine sR ?_
    refine pV 13 (.string s) ?_
    by_cases c2 : (sr (bt s 0) 4) = 6
    ·skip
     refine pC M 14 41 #[.string s] (.agg (av 9 (ls [.bool true, .int .u64 (q6H0 s), .int .u64 (q6L0 s), .bool true, .int .u64 (q6H1 s), .int .u64 (q6L1 s), .int .u8 (bt s 6), .int .u8 (bt s 7), .string (q6D s)]))) (fun w M => c_packT s c2 (hFa_6 c1 c2) w M.laid) fun u4 M => ?_
     refine pl_put M (want_no rfl) rfl 26 _ _ rfl 0 g1 0 (by kernel_rfl) 9 26 (ls [.bool false, .int .u64 0, .int .u64 0, .bool false, .int .u64 0, .int .u64 0, .int .u8 0, .int .u8 0, .string ⟨#[]⟩]) rfl 9 (ls [.bool true, .int .u64 (q6H0 s), .int .u64 (q6L0 s), .bool true, .int .u64 (q6H1 s), .int .u64 (q6L1 s), .int .u8 (bt s 6), .int .u8 (bt s 7), .string (q6D s)]) (ls [.bool true, .int .u64 (q6H0 s), .int .u64 (q6L0 s), .bool true, .int .u64 (q6H1 s), .int .u64 (q6L1 s), .int .u8 (bt s 6), .int .u8 (bt s 7), .string (q6D s)]) (by kernel_rfl) inz26 (by decide) (one_ls _ rfl) (fun j hj => by rw [if_pos (by omega), Nat.sub_zero]) fun u5 M => ?_
     refine pV 3 (.int .i64 0) ?_
     refine nT ?_
     refine wp_ret ?_
     refine au_then_ret ?_
     refine au_scope_ret ?_
     have e0 : zB (dcE s) (decide ((sr (bt s 0) 4) = 6)) = true := by rw [(show dcE s = 0 by unfold dcE; rw [if_pos c0]; exact c1)]; exact decide_eq_true c2
     have e1 : (zI (dcE s) (if (sr (bt s 0) 4) = 6 then (q6H0 s) else 0)) = (q6H0 s) := by rw [(show dcE s = 0 by unfold dcE; rw [if_pos c0]; exact c1)]; exact if_pos c2
     have e2 : (zI (dcE s) (if (sr (bt s 0) 4) = 6 then (q6L0 s) else (q4L0 s))) = (q6L0 s) := by rw [(show dcE s = 0 by unfold dcE; rw [if_pos c0]; exact c1)]; exact if_pos c2
     have e3 : (zI (dcE s) (if (sr (bt s 0) 4) = 6 then (q6H1 s) else 0)) = (q6H1 s) := by rw [(show dcE s = 0 by unfold dcE; rw [if_pos c0]; exact c1)]; exact if_pos c2
     have e4 : (zI (dcE s) (if (sr (bt s 0) 4) = 6 then (q6L1 s) else (q4L1 s))) = (q6L1 s) := by rw [(show dcE s = 0 by unfold dcE; rw [if_pos c0]; exact c1)]; exact if_pos c2
     have e5 : (zI (dcE s) (if (sr (bt s 0) 4) = 6 then (bt s 6) else (bt s 9))) = (bt s 6) := by rw [(show dcE s = 0 by unfold dcE; rw [if_pos c0]; exact c1)]; exact if_pos c2
     have e6 : (zI (dcE s) (if (sr (bt s 0) 4) = 6 then (bt s 7) else (bt s 8))) = (bt s 7) := by rw [(show dcE s = 0 by unfold dcE; rw [if_pos c0]; exact c1)]; exact if_pos c2
     have e7 : (zS (dcE s) (if (sr (bt s 0) 4) = 6 then (q6D s) else (q4D s))) = (q6D s) := by rw [(show dcE s = 0 by unfold dcE; rw [if_pos c0]; exact c1)]; exact if_pos c2
     have e8 : (dcE s) = 0 := (show dcE s = 0 by unfold dcE; rw [if_pos c0]; exact c1)
     exact bodyPost_ret (v := .tuple #[.agg (av 9 (ls [.bool true, .int .u64 (q6H0 s), .int .u64 (q6L0 s), .bool true, .int .u64 (q6H1 s), .int .u64 (q6L1 s), .int .u8 (bt s 6), .int .u8 (bt s 7), .string (q6D s)])), .int .i64 0]) (results_cell_tmp Tryz.results16 _ _ g1 26 (av 9 (ls [.bool true, .int .u64 (q6H0 s), .int .u64 (q6L0 s), .bool true, .int .u64 (q6H1 s), .int .u64 (q6L1 s), .int .u8 (bt s 6), .int .u8 (bt s 7), .string (q6D s)])) (0, 0) _ _ (by kernel_rfl) (by kernel_rfl) (M.get 0 rfl) Tryz.underlying26 rfl (by rw [av_size]; exact inz26)) (by kernel_rfl) ⟨by rw [e0, e1, e2, e3, e4, e5, e6, e7, e8], below_grown M.old⟩
    ·skip
     refine pC M 14 41 #[.string s] (.agg (av 9 (ls [.bool false, .int .u64 0, .int .u64 (q4L0 s), .bool false, .int .u64 0, .int .u64 (q4L1 s), .int .u8 (bt s 9), .int .u8 (bt s 8), .string (q4D s)]))) (fun w M => c_packF s c2 (hFa_4 c1 c2) w M.laid) fun u4 M => ?_
     refine pl_put M (want_no rfl) rfl 26 _ _ rfl 0 g1 0 (by kernel_rfl) 9 26 (ls [.bool false, .int .u64 0, .int .u64 0, .bool false, .int .u64 0, .int .u64 0, .int .u8 0, .int .u8 0, .string ⟨#[]⟩]) rfl 9 (ls [.bool false, .int .u64 0, .int .u64 (q4L0 s), .bool false, .int .u64 0, .int .u64 (q4L1 s), .int .u8 (bt s 9), .int .u8 (bt s 8), .string (q4D s)]) (ls [.bool false, .int .u64 0, .int .u64 (q4L0 s), .bool false, .int .u64 0, .int .u64 (q4L1 s), .int .u8 (bt s 9), .int .u8 (bt s 8), .string (q4D s)]) (by kernel_rfl) inz26 (by decide) (one_ls _ rfl) (fun j hj => by rw [if_pos (by omega), Nat.sub_zero]) fun u5 M => ?_
     refine pV 3 (.int .i64 0) ?_
     refine nT ?_
     refine wp_ret ?_
     refine au_then_ret ?_
     refine au_scope_ret ?_
     have e0 : zB (dcE s) (decide ((sr (bt s 0) 4) = 6)) = false := by rw [(show dcE s = 0 by unfold dcE; rw [if_pos c0]; exact c1)]; exact decide_eq_false c2
     have e1 : (zI (dcE s) (if (sr (bt s 0) 4) = 6 then (q6H0 s) else 0)) = 0 := by rw [(show dcE s = 0 by unfold dcE; rw [if_pos c0]; exact c1)]; exact if_neg c2
     have e2 : (zI (dcE s) (if (sr (bt s 0) 4) = 6 then (q6L0 s) else (q4L0 s))) = (q4L0 s) := by rw [(show dcE s = 0 by unfold dcE; rw [if_pos c0]; exact c1)]; exact if_neg c2
     have e3 : (zI (dcE s) (if (sr (bt s 0) 4) = 6 then (q6H1 s) else 0)) = 0 := by rw [(show dcE s = 0 by unfold dcE; rw [if_pos c0]; exact c1)]; exact if_neg c2
     have e4 : (zI (dcE s) (if (sr (bt s 0) 4) = 6 then (q6L1 s) else (q4L1 s))) = (q4L1 s) := by rw [(show dcE s = 0 by unfold dcE; rw [if_pos c0]; exact c1)]; exact if_neg c2
     have e5 : (zI (dcE s) (if (sr (bt s 0) 4) = 6 then (bt s 6) else (bt s 9))) = (bt s 9) := by rw [(show dcE s = 0 by unfold dcE; rw [if_pos c0]; exact c1)]; exact if_neg c2
     have e6 : (zI (dcE s) (if (sr (bt s 0) 4) = 6 then (bt s 7) else (bt s 8))) = (bt s 8) := by rw [(show dcE s = 0 by unfold dcE; rw [if_pos c0]; exact c1)]; exact if_neg c2
     have e7 : (zS (dcE s) (if (sr (bt s 0) 4) = 6 then (q6D s) else (q4D s))) = (q4D s) := by rw [(show dcE s = 0 by unfold dcE; rw [if_pos c0]; exact c1)]; exact if_neg c2
     have e8 : (dcE s) = 0 := (show dcE s = 0 by unfold dcE; rw [if_pos c0]; exact c1)
     exact bodyPost_ret (v := .tuple #[.agg (av 9 (ls [.bool false, .int .u64 0, .int .u64 (q4L0 s), .bool false, .int .u64 0, .int .u64 (q4L1 s), .int .u8 (bt s 9), .int .u8 (bt s 8), .string (q4D s)])), .int .i64 0]) (results_cell_tmp Tryz.results16 _ _ g1 26 (av 9 (ls [.bool false, .int .u64 0, .int .u64 (q4L0 s), .bool false, .int .u64 0, .int .u64 (q4L1 s), .int .u8 (bt s 9), .int .u8 (bt s 8), .string (q4D s)])) (0, 0) _ _ (by kernel_rfl) (by kernel_rfl) (M.get 0 rfl) Tryz.underlying26 rfl (by rw [av_size]; exact inz26)) (by kernel_rfl) ⟨by rw [e0, e1, e2, e3, e4, e5, e6, e7, e8], below_grown M.old⟩
   ·skip
    refine pH 12 (.bool true) (nU ((hFa s) = 0) (c1)) ?_
    refine nT ?_
    refine wp_cond_true (by kernel_rfl) ?_
    refine wp_goto ?_
    refine au_then_goto ?_
    exact au_jump ⟨fun k_ => ([.int .i64 0, undef, .string s, .int .i64 (fF s), .int .i64 (fF s), .bool false, .string s, .int .i64 (hFa s), .int .i64 (hFa s), .bool true, undef, undef, undef, undef] : List Value).getD (k_ - 3) undef, (hFa s), by kernel_rfl, M, by unfold dcE; rw [if_pos c0], c1⟩
  ·skip
   refine pH 8 (.bool true) (nU ((fF s) = 0) (c0)) ?_
   refine nT ?_
   refine wp_cond_true (by kernel_rfl) ?_
   refine wp_goto ?_
   refine au_then_goto ?_
   exact au_jump ⟨fun k_ => ([.int .i64 0, undef, .string s, .int .i64 (fF s), .int .i64 (fF s), .bool true, undef, undef, undef, undef, undef, undef, undef, undef] : List Value).getD (k_ - 3) undef, (fF s), by kernel_rfl, M, by unfold dcE; rw [if_neg c0], c0⟩
 ·intro a u0 hJ
  obtain ⟨v, e, rfl, M, he, hn⟩ := hJ
  refine wp_seq ?_
  refine wp_skip ?_
  refine au_then ?_
  refine sR ?_
  refine pV 15 (.agg (av 9 (ls [.bool false, .int .u64 0, .int .u64 0, .bool false, .int .u64 0, .int .u64 0, .int .u8 0, .int .u8 0, .string ⟨#[]⟩]))) ?_
  refine pV 16 (.int .i64 e) ?_
  refine pl_put M (want_no rfl) rfl 26 _ _ rfl 0 g1 0 (by kernel_rfl) 9 26 (ls [.bool false, .int .u64 0, .int .u64 0, .bool false, .int .u64 0, .int .u64 0, .int .u8 0, .int .u8 0, .string ⟨#[]⟩]) rfl 9 (ls [.bool false, .int .u64 0, .int .u64 0, .bool false, .int .u64 0, .int .u64 0, .int .u8 0, .int .u8 0, .string ⟨#[]⟩]) (ls [.bool false, .int .u64 0, .int .u64 0, .bool false, .int .u64 0, .int .u64 0, .int .u8 0, .int .u8 0, .string ⟨#[]⟩]) (by kernel_rfl) inz26 (by decide) (one_ls _ rfl) (fun j hj => by rw [if_pos (by omega), Nat.sub_zero]) fun u2 M => ?_
  refine pV 3 (.int .i64 e) ?_
  refine nT ?_
  refine wp_ret ?_
  refine au_scope_ret ?_
  have e0 : zB (dcE s) (decide ((sr (bt s 0) 4) = 6)) = false := if_neg (by rw [← he]; exact hn)
  have e1 : (zI (dcE s) (if (sr (bt s 0) 4) = 6 then (q6H0 s) else 0)) = 0 := if_neg (by rw [← he]; exact hn)
  have e2 : (zI (dcE s) (if (sr (bt s 0) 4) = 6 then (q6L0 s) else (q4L0 s))) = 0 := if_neg (by rw [← he]; exact hn)
  have e3 : (zI (dcE s) (if (sr (bt s 0) 4) = 6 then (q6H1 s) else 0)) = 0 := if_neg (by rw [← he]; exact hn)
  have e4 : (zI (dcE s) (if (sr (bt s 0) 4) = 6 then (q6L1 s) else (q4L1 s))) = 0 := if_neg (by rw [← he]; exact hn)
  have e5 : (zI (dcE s) (if (sr (bt s 0) 4) = 6 then (bt s 6) else (bt s 9))) = 0 := if_neg (by rw [← he]; exact hn)
  have e6 : (zI (dcE s) (if (sr (bt s 0) 4) = 6 then (bt s 7) else (bt s 8))) = 0 := if_neg (by rw [← he]; exact hn)
  have e7 : (zS (dcE s) (if (sr (bt s 0) 4) = 6 then (q6D s) else (q4D s))) = ⟨#[]⟩ := if_neg (by rw [← he]; exact hn)
  have e8 : (dcE s) = e := he.symm
  exact bodyPost_ret (v := .tuple #[.agg (av 9 (ls [.bool false, .int .u64 0, .int .u64 0, .bool false, .int .u64 0, .int .u64 0, .int .u8 0, .int .u8 0, .string ⟨#[]⟩])), .int .i64 e]) (results_cell_tmp Tryz.results16 _ _ g1 26 (av 9 (ls [.bool false, .int .u64 0, .int .u64 0, .bool false, .int .u64 0, .int .u64 0, .int .u8 0, .int .u8 0, .string ⟨#[]⟩])) (0, 0) _ _ (by kernel_rfl) (by kernel_rfl) (M.get 0 rfl) Tryz.underlying26 rfl (by rw [av_size]; exact inz26)) (by kernel_rfl) ⟨by rw [e0, e1, e2, e3, e4, e5, e6, e7, e8], below_grown M.old⟩
end Go.Proofs.YtndonmdgplojnaaGreatDoor

namespace Go.Proofs.YtndonmdgplojnaaGreatDoor
open Go.RowKit
theorem bt_bs (l : List Int) (h : ∀ x ∈ l, 0 ≤ x ∧ x < 256) (i : Nat) : bt (bs l) i = l.getD i 0 := by rw [bt_of_sb, sb_bs l h]
end Go.Proofs.YtndonmdgplojnaaGreatDoor

namespace Go.Proofs.YtndonmdgplojnaaGreatDoor
open Go.Shelf Go.RowKit
set_option maxRecDepth 100000
def repRen : Go.Shelf.Ren := ⟨fun | 129 => 122 | 138 => 139 | 143 => 88 | 144 => 68 | 145 => 46 | 146 => 107 | 156 => 94 | 165 => 118 | 166 => 119 | 169 => 120 | 171 => 52 | 195 => 142 | 197 => 143 | 205 => 133 | 217 => 108 | 218 => 144 | 219 => 91 | 220 => 71 | 221 => 129 | 224 => 110 | 225 => 109 | 240 => 134 | 241 => 135 | 243 => 76 | 245 => 93 | 246 => 95 | 260 => 145 | 266 => 130 | 267 => 111 | 268 => 138 | 276 => 140 | 277 => 141 | 279 => 114 | 280 => 115 | 281 => 116 | 282 => 117 | 283 => 96 | 284 => 97 | 285 => 98 | 286 => 99 | 314 => 131 | 316 => 132 | 317 => 121 | 318 => 123 | 319 => 124 | 320 => 125 | 321 => 112 | 337 => 136 | 338 => 137 | n => n, fun | 0 => 0 | 2 => 2 | 3 => 3 | 4 => 4 | 5 => 5 | 9 => 9 | 20 => 20 | 21 => 21 | 31 => 72 | 37 => 54 | 46 => 53 | 51 => 62 | 53 => 22 | 59 => 68 | 70 => 136 | 72 => 138 | 75 => 90 | 76 => 140 | 80 => 142 | 105 => 168 | 119 => 170 | 127 => 156 | 138 => 172 | 139 => 173 | 143 => 159 | 145 => 161 | 146 => 150 | 164 => 162 | 167 => 131 | 168 => 133 | 171 => 119 | 173 => 122 | 210 => 154 | 212 => 144 | 213 => 145 | 232 => 165 | 233 => 166 | n => n, fun | 1 => 0 | 3 => 6 | 4 => 7 | 15 => 2 | 16 => 3 | 17 => 1 | 18 => 4 | 19 => 5 | n => n⟩
theorem bd129 : Tryz.prog.funcs[repRen.f 129]? = some (Body.n129 repRen) := Tryz.func122.trans (congrArg some (by kernel_rfl))
theorem bd138 : Tryz.prog.funcs[repRen.f 138]? = some (Body.n138 repRen) := Tryz.func139.trans (congrArg some (by kernel_rfl))
theorem bd143 : Tryz.prog.funcs[repRen.f 143]? = some (Body.n143 repRen) := Tryz.func88.trans (congrArg some (by kernel_rfl))
theorem bd144 : Tryz.prog.funcs[repRen.f 144]? = some (Body.n144 repRen) := Tryz.func68.trans (congrArg some (by kernel_rfl))
theorem bd145 : Tryz.prog.funcs[repRen.f 145]? = some (Body.n145 repRen) := Tryz.func46.trans (congrArg some (by kernel_rfl))
theorem bd146 : Tryz.prog.funcs[repRen.f 146]? = some (Body.n146 repRen) := Tryz.func107.trans (congrArg some (by kernel_rfl))
theorem bd156 : Tryz.prog.funcs[repRen.f 156]? = some (Body.n156 repRen) := Tryz.func94.trans (congrArg some (by kernel_rfl))
theorem bd165 : Tryz.prog.funcs[repRen.f 165]? = some (Body.n165 repRen) := Tryz.func118.trans (congrArg some (by kernel_rfl))
theorem bd166 : Tryz.prog.funcs[repRen.f 166]? = some (Body.n166 repRen) := Tryz.func119.trans (congrArg some (by kernel_rfl))
theorem bd169 : Tryz.prog.funcs[repRen.f 169]? = some (Body.n169 repRen) := Tryz.func120.trans (congrArg some (by kernel_rfl))
theorem bd171 : Tryz.prog.funcs[repRen.f 171]? = some (Body.n171 repRen) := Tryz.func52.trans (congrArg some (by kernel_rfl))
theorem bd195 : Tryz.prog.funcs[repRen.f 195]? = some (Body.n195 repRen) := Tryz.func142.trans (congrArg some (by kernel_rfl))
theorem bd197 : Tryz.prog.funcs[repRen.f 197]? = some (Body.n197 repRen) := Tryz.func143.trans (congrArg some (by kernel_rfl))
theorem bd205 : Tryz.prog.funcs[repRen.f 205]? = some (Body.n205 repRen) := Tryz.func133.trans (congrArg some (by kernel_rfl))
theorem bd217 : Tryz.prog.funcs[repRen.f 217]? = some (Body.n217 repRen) := Tryz.func108.trans (congrArg some (by kernel_rfl))
theorem bd218 : Tryz.prog.funcs[repRen.f 218]? = some (Body.n218 repRen) := Tryz.func144.trans (congrArg some (by kernel_rfl))
theorem bd219 : Tryz.prog.funcs[repRen.f 219]? = some (Body.n219 repRen) := Tryz.func91.trans (congrArg some (by kernel_rfl))
theorem bd220 : Tryz.prog.funcs[repRen.f 220]? = some (Body.n220 repRen) := Tryz.func71.trans (congrArg some (by kernel_rfl))
theorem bd221 : Tryz.prog.funcs[repRen.f 221]? = some (Body.n221 repRen) := Tryz.func129.trans (congrArg some (by kernel_rfl))
theorem bd224 : Tryz.prog.funcs[repRen.f 224]? = some (Body.n224 repRen) := Tryz.func110.trans (congrArg some (by kernel_rfl))
theorem bd225 : Tryz.prog.funcs[repRen.f 225]? = some (Body.n225 repRen) := Tryz.func109.trans (congrArg some (by kernel_rfl))
theorem bd240 : Tryz.prog.funcs[repRen.f 240]? = some (Body.n240 repRen) := Tryz.func134.trans (congrArg some (by kernel_rfl))
theorem bd241 : Tryz.prog.funcs[repRen.f 241]? = some (Body.n241 repRen) := Tryz.func135.trans (congrArg some (by kernel_rfl))
theorem bd243 : Tryz.prog.funcs[repRen.f 243]? = some (Body.n243 repRen) := Tryz.func76.trans (congrArg some (by kernel_rfl))
theorem bd245 : Tryz.prog.funcs[repRen.f 245]? = some (Body.n245 repRen) := Tryz.func93.trans (congrArg some (by kernel_rfl))
theorem bd246 : Tryz.prog.funcs[repRen.f 246]? = some (Body.n246 repRen) := Tryz.func95.trans (congrArg some (by kernel_rfl))
theorem bd260 : Tryz.prog.funcs[repRen.f 260]? = some (Body.n260 repRen) := Tryz.func145.trans (congrArg some (by kernel_rfl))
theorem bd266 : Tryz.prog.funcs[repRen.f 266]? = some (Body.n266 repRen) := Tryz.func130.trans (congrArg some (by kernel_rfl))
theorem bd267 : Tryz.prog.funcs[repRen.f 267]? = some (Body.n267 repRen) := Tryz.func111.trans (congrArg some (by kernel_rfl))
theorem bd268 : Tryz.prog.funcs[repRen.f 268]? = some (Body.n268 repRen) := Tryz.func138.trans (congrArg some (by kernel_rfl))
theorem bd276 : Tryz.prog.funcs[repRen.f 276]? = some (Body.n276 repRen) := Tryz.func140.trans (congrArg some (by kernel_rfl))
theorem bd277 : Tryz.prog.funcs[repRen.f 277]? = some (Body.n277 repRen) := Tryz.func141.trans (congrArg some (by kernel_rfl))
theorem bd279 : Tryz.prog.funcs[repRen.f 279]? = some (Body.n279 repRen) := Tryz.func114.trans (congrArg some (by kernel_rfl))
theorem bd280 : Tryz.prog.funcs[repRen.f 280]? = some (Body.n280 repRen) := Tryz.func115.trans (congrArg some (by kernel_rfl))
theorem bd281 : Tryz.prog.funcs[repRen.f 281]? = some (Body.n281 repRen) := Tryz.func116.trans (congrArg some (by kernel_rfl))
theorem bd282 : Tryz.prog.funcs[repRen.f 282]? = some (Body.n282 repRen) := Tryz.func117.trans (congrArg some (by kernel_rfl))
theorem bd283 : Tryz.prog.funcs[repRen.f 283]? = some (Body.n283 repRen) := Tryz.func96.trans (congrArg some (by kernel_rfl))
theorem bd284 : Tryz.prog.funcs[repRen.f 284]? = some (Body.n284 repRen) := Tryz.func97.trans (congrArg some (by kernel_rfl))
theorem bd285 : Tryz.prog.funcs[repRen.f 285]? = some (Body.n285 repRen) := Tryz.func98.trans (congrArg some (by kernel_rfl))
theorem bd286 : Tryz.prog.funcs[repRen.f 286]? = some (Body.n286 repRen) := Tryz.func99.trans (congrArg some (by kernel_rfl))
theorem bd314 : Tryz.prog.funcs[repRen.f 314]? = some (Body.n314 repRen) := Tryz.func131.trans (congrArg some (by kernel_rfl))
theorem bd316 : Tryz.prog.funcs[repRen.f 316]? = some (Body.n316 repRen) := Tryz.func132.trans (congrArg some (by kernel_rfl))
theorem bd317 : Tryz.prog.funcs[repRen.f 317]? = some (Body.n317 repRen) := Tryz.func121.trans (congrArg some (by kernel_rfl))
theorem bd318 : Tryz.prog.funcs[repRen.f 318]? = some (Body.n318 repRen) := Tryz.func123.trans (congrArg some (by kernel_rfl))
theorem bd319 : Tryz.prog.funcs[repRen.f 319]? = some (Body.n319 repRen) := Tryz.func124.trans (congrArg some (by kernel_rfl))
theorem bd320 : Tryz.prog.funcs[repRen.f 320]? = some (Body.n320 repRen) := Tryz.func125.trans (congrArg some (by kernel_rfl))
theorem bd321 : Tryz.prog.funcs[repRen.f 321]? = some (Body.n321 repRen) := Tryz.func112.trans (congrArg some (by kernel_rfl))
theorem bd337 : Tryz.prog.funcs[repRen.f 337]? = some (Body.n337 repRen) := Tryz.func136.trans (congrArg some (by kernel_rfl))
theorem bd338 : Tryz.prog.funcs[repRen.f 338]? = some (Body.n338 repRen) := Tryz.func137.trans (congrArg some (by kernel_rfl))
theorem lays145 : Go.Proofs.Lays.n145 Tryz.prog repRen := {
 mixed := by kernel_rfl
 f145 := bd145
 f217 := bd217
 f219 := bd219
 f220 := bd220
 f224 := bd224
 f225 := bd225
 f266 := bd266
 f267 := bd267
 f314 := bd314
 t3 := Tryz.underlying3
 a3 := Tryz.isAgg3
 z3 := Tryz.sizeOf3
 v3 := Tryz.zeroValue3
 t4 := Tryz.underlying4
 a4 := Tryz.isAgg4
 z4 := Tryz.sizeOf4
 v4 := Tryz.zeroValue4
 t5 := Tryz.underlying5
 a5 := Tryz.isAgg5
 z5 := Tryz.sizeOf5
 v5 := Tryz.zeroValue5
 t9 := Tryz.underlying9
 a9 := Tryz.isAgg9
 z9 := Tryz.sizeOf9
 v9 := Tryz.zeroValue9
 t46 := Tryz.underlying53
 a46 := Tryz.isAgg53
 z46 := Tryz.sizeOf53
 v46 := Tryz.zeroValue53
 t51 := Tryz.underlying62
 a51 := Tryz.isAgg62
 z51 := Tryz.sizeOf62
 v51 := Tryz.zeroValue62
 t59 := Tryz.underlying68
 a59 := Tryz.isAgg68
 z59 := Tryz.sizeOf68
 v59 := Tryz.zeroValue68
 t146 := Tryz.underlying150
 a146 := Tryz.isAgg150
 z146 := Tryz.sizeOf150
 v146 := Tryz.zeroValue150
 g1 := by kernel_rfl }
theorem lays144 : Go.Proofs.Lays.n144 Tryz.prog repRen := {
 mixed := by kernel_rfl
 f143 := bd143
 f144 := bd144
 f217 := bd217
 f219 := bd219
 f224 := bd224
 f225 := bd225
 f266 := bd266
 f267 := bd267
 f314 := bd314
 t3 := Tryz.underlying3
 a3 := Tryz.isAgg3
 z3 := Tryz.sizeOf3
 v3 := Tryz.zeroValue3
 t4 := Tryz.underlying4
 a4 := Tryz.isAgg4
 z4 := Tryz.sizeOf4
 v4 := Tryz.zeroValue4
 t5 := Tryz.underlying5
 a5 := Tryz.isAgg5
 z5 := Tryz.sizeOf5
 v5 := Tryz.zeroValue5
 t9 := Tryz.underlying9
 a9 := Tryz.isAgg9
 z9 := Tryz.sizeOf9
 v9 := Tryz.zeroValue9
 t46 := Tryz.underlying53
 a46 := Tryz.isAgg53
 z46 := Tryz.sizeOf53
 v46 := Tryz.zeroValue53
 t51 := Tryz.underlying62
 a51 := Tryz.isAgg62
 z51 := Tryz.sizeOf62
 v51 := Tryz.zeroValue62
 t146 := Tryz.underlying150
 a146 := Tryz.isAgg150
 z146 := Tryz.sizeOf150
 v146 := Tryz.zeroValue150
 g1 := by kernel_rfl }
theorem lays146 : Go.Proofs.Lays.n146 Tryz.prog repRen := {
 mixed := by kernel_rfl
 f138 := bd138
 f143 := bd143
 f146 := bd146
 f195 := bd195
 f197 := bd197
 f217 := bd217
 f218 := bd218
 f219 := bd219
 f221 := bd221
 f224 := bd224
 f225 := bd225
 f260 := bd260
 f266 := bd266
 f267 := bd267
 f268 := bd268
 f314 := bd314
 t0 := Tryz.underlying0
 a0 := Tryz.isAgg0
 z0 := Tryz.sizeOf0
 v0 := Tryz.zeroValue0
 t3 := Tryz.underlying3
 a3 := Tryz.isAgg3
 z3 := Tryz.sizeOf3
 v3 := Tryz.zeroValue3
 t4 := Tryz.underlying4
 a4 := Tryz.isAgg4
 z4 := Tryz.sizeOf4
 v4 := Tryz.zeroValue4
 t5 := Tryz.underlying5
 a5 := Tryz.isAgg5
 z5 := Tryz.sizeOf5
 v5 := Tryz.zeroValue5
 t9 := Tryz.underlying9
 a9 := Tryz.isAgg9
 z9 := Tryz.sizeOf9
 v9 := Tryz.zeroValue9
 t21 := Tryz.underlying21
 a21 := Tryz.isAgg21
 z21 := Tryz.sizeOf21
 v21 := Tryz.zeroValue21
 t31 := Tryz.underlying72
 a31 := Tryz.isAgg72
 z31 := Tryz.sizeOf72
 v31 := Tryz.zeroValue72
 t46 := Tryz.underlying53
 a46 := Tryz.isAgg53
 z46 := Tryz.sizeOf53
 v46 := Tryz.zeroValue53
 t51 := Tryz.underlying62
 a51 := Tryz.isAgg62
 z51 := Tryz.sizeOf62
 v51 := Tryz.zeroValue62
 t105 := Tryz.underlying168
 a105 := Tryz.isAgg168
 z105 := Tryz.sizeOf168
 v105 := Tryz.zeroValue168
 t119 := Tryz.underlying170
 a119 := Tryz.isAgg170
 z119 := Tryz.sizeOf170
 t138 := Tryz.underlying172
 a138 := Tryz.isAgg172
 z138 := Tryz.sizeOf172
 v138 := Tryz.zeroValue172
 t139 := Tryz.underlying173
 a139 := Tryz.isAgg173
 z139 := Tryz.sizeOf173
 v139 := Tryz.zeroValue173
 t146 := Tryz.underlying150
 a146 := Tryz.isAgg150
 z146 := Tryz.sizeOf150
 v146 := Tryz.zeroValue150
 g1 := by kernel_rfl
 g3 := by kernel_rfl
 g4 := by kernel_rfl }
theorem lays156 : Go.Proofs.Lays.n156 Tryz.prog repRen := {
 mixed := by kernel_rfl
 f156 := bd156
 f165 := bd165
 f166 := bd166
 f169 := bd169
 f240 := bd240
 f241 := bd241
 f276 := bd276
 f277 := bd277
 t0 := Tryz.underlying0
 a0 := Tryz.isAgg0
 z0 := Tryz.sizeOf0
 v0 := Tryz.zeroValue0
 t3 := Tryz.underlying3
 a3 := Tryz.isAgg3
 z3 := Tryz.sizeOf3
 v3 := Tryz.zeroValue3
 t4 := Tryz.underlying4
 a4 := Tryz.isAgg4
 z4 := Tryz.sizeOf4
 v4 := Tryz.zeroValue4
 t9 := Tryz.underlying9
 a9 := Tryz.isAgg9
 z9 := Tryz.sizeOf9
 v9 := Tryz.zeroValue9
 t20 := Tryz.underlying20
 a20 := Tryz.isAgg20
 z20 := Tryz.sizeOf20
 v20 := Tryz.zeroValue20
 t31 := Tryz.underlying72
 a31 := Tryz.isAgg72
 z31 := Tryz.sizeOf72
 v31 := Tryz.zeroValue72
 t37 := Tryz.underlying54
 a37 := Tryz.isAgg54
 z37 := Tryz.sizeOf54
 v37 := Tryz.zeroValue54
 t70 := Tryz.underlying136
 a70 := Tryz.isAgg136
 z70 := Tryz.sizeOf136
 v70 := Tryz.zeroValue136
 t72 := Tryz.underlying138
 a72 := Tryz.isAgg138
 z72 := Tryz.sizeOf138
 v72 := Tryz.zeroValue138
 t75 := Tryz.underlying90
 a75 := Tryz.isAgg90
 z75 := Tryz.sizeOf90
 v75 := Tryz.zeroValue90
 t76 := Tryz.underlying140
 a76 := Tryz.isAgg140
 z76 := Tryz.sizeOf140
 v76 := Tryz.zeroValue140
 t127 := Tryz.underlying156
 a127 := Tryz.isAgg156
 z127 := Tryz.sizeOf156
 v127 := Tryz.zeroValue156
 t164 := Tryz.underlying162
 a164 := Tryz.isAgg162
 z164 := Tryz.sizeOf162
 v164 := Tryz.zeroValue162 }
theorem laysM171 : Go.Proofs.LaysM.n171 Tryz.prog repRen := {
 mixed := by kernel_rfl
 f129 := bd129
 f171 := bd171
 f243 := bd243
 f246 := bd246
 f283 := bd283
 f284 := bd284
 f285 := bd285
 f286 := bd286
 f317 := bd317
 f318 := bd318
 f319 := bd319
 f320 := bd320
 f337 := bd337
 f338 := bd338
 t0 := Tryz.underlying0
 a0 := Tryz.isAgg0
 z0 := Tryz.sizeOf0
 v0 := Tryz.zeroValue0
 t2 := Tryz.underlying2
 a2 := Tryz.isAgg2
 z2 := Tryz.sizeOf2
 v2 := Tryz.zeroValue2
 t3 := Tryz.underlying3
 a3 := Tryz.isAgg3
 z3 := Tryz.sizeOf3
 v3 := Tryz.zeroValue3
 t4 := Tryz.underlying4
 a4 := Tryz.isAgg4
 z4 := Tryz.sizeOf4
 v4 := Tryz.zeroValue4
 t5 := Tryz.underlying5
 a5 := Tryz.isAgg5
 z5 := Tryz.sizeOf5
 v5 := Tryz.zeroValue5
 t9 := Tryz.underlying9
 a9 := Tryz.isAgg9
 z9 := Tryz.sizeOf9
 v9 := Tryz.zeroValue9
 t20 := Tryz.underlying20
 a20 := Tryz.isAgg20
 z20 := Tryz.sizeOf20
 v20 := Tryz.zeroValue20
 t37 := Tryz.underlying54
 a37 := Tryz.isAgg54
 z37 := Tryz.sizeOf54
 v37 := Tryz.zeroValue54
 t46 := Tryz.underlying53
 a46 := Tryz.isAgg53
 z46 := Tryz.sizeOf53
 v46 := Tryz.zeroValue53
 t51 := Tryz.underlying62
 a51 := Tryz.isAgg62
 z51 := Tryz.sizeOf62
 v51 := Tryz.zeroValue62
 t53 := Tryz.underlying22
 a53 := Tryz.isAgg22
 z53 := Tryz.sizeOf22
 v53 := Tryz.zeroValue22
 t171 := Tryz.underlying119
 a171 := Tryz.isAgg119
 z171 := Tryz.sizeOf119
 v171 := Tryz.zeroValue119
 t173 := Tryz.underlying122
 a173 := Tryz.isAgg122
 z173 := Tryz.sizeOf122
 v173 := Tryz.zeroValue122
 t212 := Tryz.underlying144
 a212 := Tryz.isAgg144
 z212 := Tryz.sizeOf144
 v212 := Tryz.zeroValue144
 t213 := Tryz.underlying145
 a213 := Tryz.isAgg145
 z213 := Tryz.sizeOf145
 t232 := Tryz.underlying165
 a232 := Tryz.isAgg165
 z232 := Tryz.sizeOf165
 v232 := Tryz.zeroValue165
 t233 := Tryz.underlying166
 a233 := Tryz.isAgg166
 z233 := Tryz.sizeOf166
 v233 := Tryz.zeroValue166
 g17 := by kernel_rfl
 g18 := by kernel_rfl
 g19 := by kernel_rfl
 i0 := by kernel_rfl
 i2 := by kernel_rfl
 i3 := by kernel_rfl
 i4 := by kernel_rfl
 i5 := by kernel_rfl
 i9 := by kernel_rfl
 i20 := by kernel_rfl
 i37 := by kernel_rfl
 i46 := by kernel_rfl
 i51 := by kernel_rfl
 i53 := by kernel_rfl
 i171 := by kernel_rfl
 i173 := by kernel_rfl
 i212 := by kernel_rfl
 i232 := by kernel_rfl
 i233 := by kernel_rfl
 m17 := by kernel_rfl
 m18 := by kernel_rfl
 m19 := by kernel_rfl }
theorem laysM284 : Go.Proofs.LaysM.n284 Tryz.prog repRen := {
 mixed := by kernel_rfl
 f129 := bd129
 f284 := bd284
 f317 := bd317
 f318 := bd318
 t0 := Tryz.underlying0
 a0 := Tryz.isAgg0
 z0 := Tryz.sizeOf0
 v0 := Tryz.zeroValue0
 t3 := Tryz.underlying3
 a3 := Tryz.isAgg3
 z3 := Tryz.sizeOf3
 v3 := Tryz.zeroValue3
 t4 := Tryz.underlying4
 a4 := Tryz.isAgg4
 z4 := Tryz.sizeOf4
 v4 := Tryz.zeroValue4
 t5 := Tryz.underlying5
 a5 := Tryz.isAgg5
 z5 := Tryz.sizeOf5
 v5 := Tryz.zeroValue5
 t9 := Tryz.underlying9
 a9 := Tryz.isAgg9
 z9 := Tryz.sizeOf9
 v9 := Tryz.zeroValue9
 t46 := Tryz.underlying53
 a46 := Tryz.isAgg53
 z46 := Tryz.sizeOf53
 v46 := Tryz.zeroValue53
 t53 := Tryz.underlying22
 a53 := Tryz.isAgg22
 z53 := Tryz.sizeOf22
 v53 := Tryz.zeroValue22
 t212 := Tryz.underlying144
 a212 := Tryz.isAgg144
 z212 := Tryz.sizeOf144
 v212 := Tryz.zeroValue144
 g17 := by kernel_rfl
 i0 := by kernel_rfl
 i3 := by kernel_rfl
 i4 := by kernel_rfl
 i5 := by kernel_rfl
 i9 := by kernel_rfl
 i46 := by kernel_rfl
 i53 := by kernel_rfl
 i212 := by kernel_rfl
 m17 := by kernel_rfl }
theorem lays283 : Go.Proofs.Lays.n283 Tryz.prog repRen := {
 mixed := by kernel_rfl
 f283 := bd283
 t3 := Tryz.underlying3
 a3 := Tryz.isAgg3
 z3 := Tryz.sizeOf3
 v3 := Tryz.zeroValue3
 t4 := Tryz.underlying4
 a4 := Tryz.isAgg4
 z4 := Tryz.sizeOf4
 v4 := Tryz.zeroValue4
 t9 := Tryz.underlying9
 a9 := Tryz.isAgg9
 z9 := Tryz.sizeOf9
 v9 := Tryz.zeroValue9 }
theorem lays285 : Go.Proofs.Lays.n285 Tryz.prog repRen := {
 mixed := by kernel_rfl
 f285 := bd285
 t0 := Tryz.underlying0
 a0 := Tryz.isAgg0
 z0 := Tryz.sizeOf0
 v0 := Tryz.zeroValue0
 t3 := Tryz.underlying3
 a3 := Tryz.isAgg3
 z3 := Tryz.sizeOf3
 v3 := Tryz.zeroValue3
 t4 := Tryz.underlying4
 a4 := Tryz.isAgg4
 z4 := Tryz.sizeOf4
 v4 := Tryz.zeroValue4
 t5 := Tryz.underlying5
 a5 := Tryz.isAgg5
 z5 := Tryz.sizeOf5
 v5 := Tryz.zeroValue5
 t9 := Tryz.underlying9
 a9 := Tryz.isAgg9
 z9 := Tryz.sizeOf9
 v9 := Tryz.zeroValue9
 t37 := Tryz.underlying54
 a37 := Tryz.isAgg54
 z37 := Tryz.sizeOf54
 v37 := Tryz.zeroValue54
 t51 := Tryz.underlying62
 a51 := Tryz.isAgg62
 z51 := Tryz.sizeOf62
 v51 := Tryz.zeroValue62
 t53 := Tryz.underlying22
 a53 := Tryz.isAgg22
 z53 := Tryz.sizeOf22
 v53 := Tryz.zeroValue22 }
theorem laysC245 : Go.Proofs.LaysC.n245 Tryz.prog repRen := {
 mixed := by kernel_rfl
 f129 := bd129
 f171 := bd171
 f205 := bd205
 f243 := bd243
 f245 := bd245
 f246 := bd246
 f279 := bd279
 f280 := bd280
 f281 := bd281
 f282 := bd282
 f283 := bd283
 f284 := bd284
 f285 := bd285
 f286 := bd286
 f316 := bd316
 f317 := bd317
 f318 := bd318
 f319 := bd319
 f320 := bd320
 f337 := bd337
 f338 := bd338
 t0 := Tryz.underlying0
 a0 := Tryz.isAgg0
 z0 := Tryz.sizeOf0
 v0 := Tryz.zeroValue0
 t2 := Tryz.underlying2
 a2 := Tryz.isAgg2
 z2 := Tryz.sizeOf2
 v2 := Tryz.zeroValue2
 t3 := Tryz.underlying3
 a3 := Tryz.isAgg3
 z3 := Tryz.sizeOf3
 v3 := Tryz.zeroValue3
 t4 := Tryz.underlying4
 a4 := Tryz.isAgg4
 z4 := Tryz.sizeOf4
 v4 := Tryz.zeroValue4
 t5 := Tryz.underlying5
 a5 := Tryz.isAgg5
 z5 := Tryz.sizeOf5
 v5 := Tryz.zeroValue5
 t9 := Tryz.underlying9
 a9 := Tryz.isAgg9
 z9 := Tryz.sizeOf9
 v9 := Tryz.zeroValue9
 t20 := Tryz.underlying20
 a20 := Tryz.isAgg20
 z20 := Tryz.sizeOf20
 v20 := Tryz.zeroValue20
 t37 := Tryz.underlying54
 a37 := Tryz.isAgg54
 z37 := Tryz.sizeOf54
 v37 := Tryz.zeroValue54
 t46 := Tryz.underlying53
 a46 := Tryz.isAgg53
 z46 := Tryz.sizeOf53
 v46 := Tryz.zeroValue53
 t51 := Tryz.underlying62
 a51 := Tryz.isAgg62
 z51 := Tryz.sizeOf62
 v51 := Tryz.zeroValue62
 t53 := Tryz.underlying22
 a53 := Tryz.isAgg22
 z53 := Tryz.sizeOf22
 v53 := Tryz.zeroValue22
 t75 := Tryz.underlying90
 a75 := Tryz.isAgg90
 z75 := Tryz.sizeOf90
 v75 := Tryz.zeroValue90
 t127 := Tryz.underlying156
 a127 := Tryz.isAgg156
 z127 := Tryz.sizeOf156
 v127 := Tryz.zeroValue156
 t143 := Tryz.underlying159
 a143 := Tryz.isAgg159
 z143 := Tryz.sizeOf159
 v143 := Tryz.zeroValue159
 t145 := Tryz.underlying161
 a145 := Tryz.isAgg161
 z145 := Tryz.sizeOf161
 v145 := Tryz.zeroValue161
 t167 := Tryz.underlying131
 a167 := Tryz.isAgg131
 z167 := Tryz.sizeOf131
 v167 := Tryz.zeroValue131
 t168 := Tryz.underlying133
 a168 := Tryz.isAgg133
 z168 := Tryz.sizeOf133
 v168 := Tryz.zeroValue133
 t171 := Tryz.underlying119
 a171 := Tryz.isAgg119
 z171 := Tryz.sizeOf119
 v171 := Tryz.zeroValue119
 t173 := Tryz.underlying122
 a173 := Tryz.isAgg122
 z173 := Tryz.sizeOf122
 v173 := Tryz.zeroValue122
 t210 := Tryz.underlying154
 a210 := Tryz.isAgg154
 z210 := Tryz.sizeOf154
 v210 := Tryz.zeroValue154
 t212 := Tryz.underlying144
 a212 := Tryz.isAgg144
 z212 := Tryz.sizeOf144
 v212 := Tryz.zeroValue144
 t213 := Tryz.underlying145
 a213 := Tryz.isAgg145
 z213 := Tryz.sizeOf145
 t232 := Tryz.underlying165
 a232 := Tryz.isAgg165
 z232 := Tryz.sizeOf165
 v232 := Tryz.zeroValue165
 t233 := Tryz.underlying166
 a233 := Tryz.isAgg166
 z233 := Tryz.sizeOf166
 v233 := Tryz.zeroValue166
 g15 := by kernel_rfl
 g16 := by kernel_rfl
 g17 := by kernel_rfl
 g18 := by kernel_rfl
 g19 := by kernel_rfl
 t80 := Tryz.underlying142
 a80 := Tryz.isAgg142
 z80 := Tryz.sizeOf142
 v80 := Tryz.zeroValue142
 i0 := by kernel_rfl
 i2 := by kernel_rfl
 i3 := by kernel_rfl
 i4 := by kernel_rfl
 i5 := by kernel_rfl
 i9 := by kernel_rfl
 i20 := by kernel_rfl
 i37 := by kernel_rfl
 i46 := by kernel_rfl
 i51 := by kernel_rfl
 i53 := by kernel_rfl
 i75 := by kernel_rfl
 i80 := by kernel_rfl
 i127 := by kernel_rfl
 i143 := by kernel_rfl
 i145 := by kernel_rfl
 i167 := by kernel_rfl
 i168 := by kernel_rfl
 i171 := by kernel_rfl
 i173 := by kernel_rfl
 i210 := by kernel_rfl
 i212 := by kernel_rfl
 i232 := by kernel_rfl
 i233 := by kernel_rfl
 m15 := by kernel_rfl
 m16 := by kernel_rfl
 m17 := by kernel_rfl
 m18 := by kernel_rfl
 m19 := by kernel_rfl
 c0 := by kernel_rfl
 c2 := by kernel_rfl
 c3 := by kernel_rfl
 c4 := by kernel_rfl
 c5 := by kernel_rfl
 c9 := by kernel_rfl
 c20 := by kernel_rfl
 c37 := by kernel_rfl
 c46 := by kernel_rfl
 c51 := by kernel_rfl
 c53 := by kernel_rfl
 c75 := by kernel_rfl
 c80 := by kernel_rfl
 c127 := by kernel_rfl
 c143 := by kernel_rfl
 c145 := by kernel_rfl
 c167 := by kernel_rfl
 c168 := by kernel_rfl
 c171 := by kernel_rfl
 c173 := by kernel_rfl
 c210 := by kernel_rfl
 c212 := by kernel_rfl
 c213 := by kernel_rfl
 c232 := by kernel_rfl
 c233 := by kernel_rfl }
theorem lays321 : Go.Proofs.Lays.n321 Tryz.prog repRen := {
 mixed := by kernel_rfl
 f321 := bd321
 t5 := Tryz.underlying5
 a5 := Tryz.isAgg5
 z5 := Tryz.sizeOf5
 v5 := Tryz.zeroValue5 }
theorem repExtra : Builder.Extra Tryz.prog repRen := {
 sizeBuilder := by kernel_rfl
 liesBuilder := by kernel_rfl
 t5 := Tryz.underlying5
 a5 := Tryz.isAgg5
 z5 := Tryz.sizeOf5
 v5 := Tryz.zeroValue5
 infoByte := by kernel_rfl
 cellsByte := by kernel_rfl
 sizeByte := by kernel_rfl
 neB5 := by decide }
end Go.Proofs.YtndonmdgplojnaaGreatDoor

namespace Go.Proofs.YtndonmdgplojnaaGreatDoor
open Go.RowKit
open Go.Shelf Go.Lib
theorem below_same {w w' : World} (h : w' = w) : Below w.heap.size w w' := h ▸ Below.refl _ _
theorem below_drewN (w : World) (n : Nat) : Below w.heap.size w (w.drewN n) := ⟨rfl, rfl, rfl, Nat.le_refl _, fun _ _ => rfl⟩
theorem below_grw (w : World) (k : Nat) (os : Array Obj) : Below w.heap.size w (Go.Sort.grow (w.drewN k) os) := ⟨rfl, rfl, rfl, by show w.heap.size ≤ (w.heap ++ os).size; rw [Array.size_append]; omega, fun j hj => by show (w.heap ++ os)[j]? = w.heap[j]?; rw [Array.getElem?_append_left hj]⟩
def cuA (s sep : ByteArray) : ByteArray := ⟨(Lib.cut s.data.toList sep.data.toList).1.toArray⟩
def cuB (s sep : ByteArray) : ByteArray := ⟨(Lib.cut s.data.toList sep.data.toList).2.1.toArray⟩
def cuC (s sep : ByteArray) : Bool := (Lib.cut s.data.toList sep.data.toList).2.2
theorem c_Cut (s sep : ByteArray) (hs : s.size < 4294967281) (w : World) (hL : Laid w) :
  Calls Tryz.prog 46 #[.string s, .string sep] w fun r w' => r = .returned (.tuple #[.string (cuA s sep), .string (cuB s sep), .bool (cuC s sep)]) ∧ Below w.heap.size w w' := by
 obtain ⟨m, hm⟩ := hL.ml
 exact (Any.strings_Cut lays145 s sep m w hs hm).mono fun e w' ⟨he, n, hw⟩ => ⟨he, hw ▸ below_drewN w n⟩
def ctn (s sub : ByteArray) : Bool := Lib.contains s.data.toList sub.data.toList
theorem c_Contains (s sub : ByteArray) (hs : s.size < 4294967281) (w : World) (hL : Laid w) :
  Calls Tryz.prog 68 #[.string s, .string sub] w fun r w' => r = .returned (.bool (ctn s sub)) ∧ Below w.heap.size w w' := by
 obtain ⟨m, hm⟩ := hL.ml
 exact (Any.strings_Contains lays144 s sub m w hs hm).mono fun e w' ⟨he, hw⟩ => ⟨he, below_same hw⟩
def spl (s sep : ByteArray) : List ByteArray := Lib.splitB sep 0 (Lib.countB s sep) s
def tg (l : List ByteArray) (i : Nat) : ByteArray := l.getD i ⟨#[]⟩
theorem tg_at (l : List ByteArray) (i : Nat) (h : i < l.length) : l[i]? = some (tg l i) := by
 unfold tg
 simp [h]
def vS (l : List ByteArray) : List Value := l.map Value.string
def fS (l : List ByteArray) : Nat → Value := fun i => .string (tg l i)
theorem av_fS (l : List ByteArray) : (l.map Value.string).toArray = av l.length (fS l) := by
 apply Array.ext_getElem?
 intro i
 by_cases h : i < l.length
 ·rw [av_get _ _ _ h]
  simp [fS, tg, h]
 ·rw [Array.getElem?_eq_none (by simp; omega), Array.getElem?_eq_none (by rw [av_size]; omega)]
theorem spl_len (s sep : ByteArray) (h1 : 1 ≤ sep.size) : (spl s sep).length = Lib.countB s sep + 1 := Lib.splitB_all sep h1 0 _ s rfl
theorem spl_le (s sep : ByteArray) (h1 : 1 ≤ sep.size) : (spl s sep).length ≤ s.size + 1 := by
 rw [spl_len s sep h1]
 have := Lib.countB_le sep h1 s.size s (Nat.le_refl _)
 omega
theorem c_Split (s sep : ByteArray) (hs : s.size < 4294967281) (h1 : 1 ≤ sep.size) (w : World) (hL : Laid w) :
  Calls Tryz.prog 107 #[.string s, .string sep] w fun r w' => ∃ g, r = .returned (.slice (some ⟨g, 0, none⟩) (spl s sep).length (spl s sep).length) ∧ w.heap.size ≤ g ∧ w'.heap[g]? = some (.cells (av (spl s sep).length (fS (spl s sep))) 9) ∧ Below w.heap.size w w' := by
 obtain ⟨m, hm⟩ := hL.ml
 refine (Any.strings_Split lays146 (by kernel_rfl) s sep m w hs hm h1).mono fun e w' ⟨he, hw⟩ => ⟨w.heap.size, ?_, Nat.le_refl _, ?_, ?_⟩
 ·rw [spl_len s sep h1]
  exact he
 ·rw [hw, ← av_fS]
  exact heap_alloc_new w _
 ·rw [hw]
  exact new_below w _
def jn (xs : List ByteArray) (sep : ByteArray) : ByteArray := ⟨(Lib.join (xs.map (·.data.toList)) sep.data.toList).toArray⟩
theorem c_Join (g cap : Nat) (Z : Obj) (xs : List ByteArray) (sep : ByteArray) (hN : xs.length ≤ 1000) (hlen : (Lib.join (xs.map (·.data.toList)) sep.data.toList).length ≤ 100000) (w : World) (hg : w.heap[g]? = some Z) (hs : SB Z cap (vS xs)) :
  Calls Tryz.prog 94 #[.slice (some ⟨g, 0, none⟩) xs.length cap, .string sep] w fun r w' => r = .returned (.string (jn xs sep)) ∧ Below w.heap.size w w' := by
 have hle := hs.le
 have hl : (vS xs).length = xs.length := by simp [vS]
 exact Any.strings_Join lays156 repExtra g 0 cap xs sep w (fun j x hx => by
  rw [Nat.zero_add]
  exact hs.cell hg (by simp [vS, hx])) (Array.getElem?_eq_some_iff.1 hg).1 (by omega) (by omega) (by omega)
def dcT (x : Int) : ByteArray := if x < 10 then bs [48 + x] else if x < 100 then bs [48 + x / 10, 48 + x % 10] else bs [48 + x / 100, 48 + x / 10 % 10, 48 + x % 10]
theorem of_ba (l : List UInt8) (m : List Int) (h : l = m.map fun n => UInt8.ofNat n.toNat) : (⟨l.toArray⟩ : ByteArray) = bs m := by
 subst h
 rfl
theorem dec_dcT (u : Nat) (h : u < 1000) : (⟨(Lib.decDigits u).toArray⟩ : ByteArray) = dcT (u : Int) := by
 unfold dcT
 by_cases h1 : u < 10
 ·rw [if_pos (by omega), Lib.decDigits, dif_pos h1]
  exact of_ba _ _ (by simp only [List.map_cons, List.map_nil]; congr 2)
 ·rw [if_neg (by omega), Lib.decDigits, dif_neg h1]
  by_cases h2 : u < 100
  ·rw [if_pos (by omega), Lib.decDigits, dif_pos (by omega)]
   refine of_ba _ _ ?_
   simp only [List.map_cons, List.map_nil, List.cons_append, List.nil_append]
   congr 2
  ·rw [if_neg (by omega), Lib.decDigits, dif_neg (by omega), Lib.decDigits, dif_pos (by omega)]
   refine of_ba _ _ ?_
   simp only [List.map_cons, List.map_nil, List.cons_append, List.nil_append]
   congr 2
   ·have : u / 10 / 10 = u / 100 := by omega
    rw [this]
    rfl
theorem c_Itoa (u : Nat) (h : u < 1000) (w : World) (hL : Laid w) :
  Calls Tryz.prog 52 #[.int .i64 (u : Int)] w fun r w' => r = .returned (.string (dcT (u : Int))) ∧ Below w.heap.size w w' := by
 refine (Any.strconv_Itoa laysM171 (u : Int) (by omega) (by omega) w hL.pw).mono fun e w' ⟨he, k, os, hw⟩ => ⟨?_, hw ▸ below_grw w k os⟩
 rw [he, ← dec_dcT u h]
 rfl
theorem c_small (u : Nat) (h : u < 100) (w : World) :
  Calls Tryz.prog 96 #[.int .i64 (u : Int)] w fun r w' => r = .returned (.string (dcT (u : Int))) ∧ Below w.heap.size w w' := by
 refine (Any.internal_strconv_small lays283 u h w).mono fun e w' ⟨he, hw⟩ => ⟨?_, below_same hw⟩
 rw [he, ← dec_dcT u (by omega)]
theorem c_numDigits (u : Nat) (h0 : 100 ≤ u) (h1 : u < 1000) (w : World) (hL : Laid w) :
  Calls Tryz.prog 97 #[.int .u64 (u : Int)] w fun r w' => r = .returned (.int .i64 3) ∧ Below w.heap.size w w' := by
 refine (Any.internal_strconv_numDigits laysM284 u (by omega) (by omega) w hL.pw).mono fun e w' ⟨he, hw⟩ => ⟨?_, below_same hw⟩
 rw [he, Lib.nDigits_unique 2 u (by omega) (by omega)]
 rfl
theorem grw_putRow {α : Type} [Inhabited α] (enc : α → Value) (w : World) (g off : Nat) (d : Array α) (n : Nat) : Grw w ((Sort.putRow enc w g off d).drewN n) [g] :=
 ⟨rfl, rfl, rfl, by show w.heap.size ≤ (Sort.putRow enc w g off d).heap.size; rw [Sort.size_putRow]; exact Nat.le_refl _, fun k _ hk => by
  show (Sort.putRow enc w g off d).heap[k]? = w.heap[k]?
  unfold Sort.putRow Sort.mapBlock
  have : k ≠ g := fun e => hk (by simp [e])
  show (w.heap.modify g _)[k]? = w.heap[k]?
  rw [Array.getElem?_modify, if_neg (Ne.symm this)]⟩
theorem c_base10 (g : Nat) (u : Nat) (h0 : 100 ≤ u) (h1 : u < 1000) (w : World) (hg : w.heap[g]? = some (.cells (av 24 (w8 (fun _ => 0))) 119)) :
  Calls Tryz.prog 98 #[.slice (some ⟨g, 0, none⟩) 3 24, .int .u64 (u : Int)] w fun r w' => r = .returned (.tuple #[]) ∧ Grw w w' [g] ∧ ∃ Z', w'.heap[g]? = some Z' ∧ SB Z' 3 (vs8 [48 + (u : Int) / 100, 48 + (u : Int) / 10 % 10, 48 + (u : Int) % 10]) := by
 have hH : Sort.Holds (fun (b : UInt8) => Value.int .u8 (b.toNat : Int)) w g 0 (Array.replicate 3 (0 : UInt8)) := fun j hj => by
  have hj : j < 3 := by simpa using hj
  refine ⟨?_, free_av hg _⟩
  rw [Nat.zero_add, cell_av hg (by omega)]
  rcases j with _ | _ | _ | j
  ·rfl
  ·rfl
  ·rfl
  ·omega
 refine (Any.internal_strconv_formatBase10 lays285 g 0 24 u (Array.replicate 3 (0 : UInt8)) w hH (by simp; omega) (by omega) (by simp)).mono fun e w' ⟨he, n, v', dk, hw, hF⟩ => ⟨he, hw ▸ grw_putRow _ _ _ _ _ _, ?_⟩
 have hsz : dk.size = 3 := by simpa using hF.size
 have hd : ∀ t, t < 3 → dk[t]! = Lib.dg u (2 - t) := fun t ht => by
  have := hF.done t (Nat.zero_le _) (by simpa using ht)
  simpa using this
 have hK := Sort.holds_putRow (fun (b : UInt8) => Value.int .u8 (b.toNat : Int)) w g 0 _ dk hH (by simpa using hsz)
 have hcell : ∀ j, j < 3 → w'.cell? ⟨g, j, none⟩ = some (.int .u8 ((Lib.dg u (2 - j)).toNat : Int)) ∧ w'.frozen? ⟨g, j, none⟩ = false := fun j hj => by
  have := hK j (by omega)
  rw [Nat.zero_add, hd j hj] at this
  rw [hw]
  exact this
 have hlt : g < w'.heap.size := by
  have h2 := (Array.getElem?_eq_some_iff.1 hg).1
  have h3 := (grw_putRow (fun (b : UInt8) => Value.int .u8 (b.toNat : Int)) w g 0 dk n).size
  rw [hw]
  omega
 obtain ⟨Z, hZ⟩ : ∃ Z, w'.heap[g]? = some Z := ⟨_, Array.getElem?_eq_getElem hlt⟩
 refine ⟨Z, hZ, ?_⟩
 have hc0 := hcell 2 (by decide)
 cases Z with
 | cells cs T fr =>
  have hcs : ∀ j, j < 3 → cs[j]? = some (.int .u8 ((Lib.dg u (2 - j)).toNat : Int)) ∧ (decide (fr.1 ≤ j) && decide (j < fr.2)) = false := fun j hj => by
   have := hcell j hj
   unfold World.cell? World.frozen? at this
   rw [hZ] at this
   exact ⟨by simpa using this.1, by simpa using this.2⟩
  refine ⟨cs, T, fr, rfl, by simp [vs8], ?_, fun i hi => ?_, fun i hi => (hcs i hi).2⟩
  ·have := (Array.getElem?_eq_some_iff.1 (hcs 2 (by decide)).1).1
   omega
  ·have hi : i < 3 := by simpa [vs8] using hi
   rw [(hcs i hi).1]
   rcases i with _ | _ | _ | i
   ·simp [vs8, Lib.dg]
    omega
   ·simp [vs8, Lib.dg]
    omega
   ·simp [vs8, Lib.dg]
    omega
   ·omega
 | _ => simp [World.cell?, hZ] at hc0
end Go.Proofs.YtndonmdgplojnaaGreatDoor

namespace Go.Proofs.YtndonmdgplojnaaGreatDoor
open Go.RowKit
section
variable {P : Program} {ops : Array Oper} {rest : List Oper} {o : Oper} {a : Act} {w : World} {c : Ctx} {L : List Blk} {Q : Exit → Act → World → Prop}
theorem pl_callz (M : Mem c L w) (hw : Region.wanted o (yielded ops a.tmps) = true) (d : Option Tmp) (hd : o.dst = d) (f : FuncId) (args : Array Value) (v : Value) (i g : Nat) (Z : Obj) (K : Obj → Prop) (hi : L[i]? = some ⟨g, Z⟩) (hrun : ∀ w, (execOp a.eval o).run P w = .ok (.enter f args) w)
  (hc : ∀ w, Mem c L w → Calls P f args w fun e w' => e = .returned v ∧ Grw w w' [g] ∧ ∃ Z', w'.heap[g]? = some Z' ∧ K Z') (h : ∀ Z' w', K Z' → Mem c (L.set i ⟨g, Z'⟩) w' → PL P ops Q rest (a.put d v) w') : PL P ops Q (o :: rest) a w :=
 pl_callq hw d hd f args hrun ((hc w M).mono fun _ w' ⟨he, h1, Z', h2, h3⟩ => ⟨v, he, h Z' w' h3 (M.put i ⟨g, Z⟩ hi Z' h1 h2)⟩)
end
section
variable {ops : Array Oper} {rest : List Oper} {o : Oper} {a : Act} {w : World} {c : Ctx} {L : List Blk} {Q : Exit → Act → World → Prop}
theorem pl_backO (M : Mem c L w) (hw : Region.wanted o (yielded ops a.tmps) = true) (d : Option Tmp) (hd : o.dst = d) (x : Operand) (ho : o.op = .convert 54 9 x) (i g off n cap N T : Nat) (F : Nat → Int) (hx : a.eval x = .slice (some ⟨g, off, none⟩) n cap) (hi : L[i]? = some ⟨g, .cells (av N (w8 F)) T⟩) (hn : off + n ≤ N) (hF : ∀ i, 0 ≤ F i ∧ F i < 256)
  (h : PL Tryz.prog ops Q rest (a.put d (.string (bs ((List.range n).map fun j => F (off + j))))) w) : PL Tryz.prog ops Q (o :: rest) a w := by
 refine pl_to hw d hd _ w ?_ h
 have R := M.get i hi
 have hl : (((List.range n).map fun j => F (off + j)).map fun n => UInt8.ofNat n.toNat).length = n := by simp
 have h2 := run_convert_bytes_back (P := Tryz.prog) w 54 9 5 ⟨g, off, none⟩ cap (((List.range n).map fun j => F (off + j)).map fun n => UInt8.ofNat n.toNat) Tryz.underlying54 Tryz.underlying5 Tryz.underlying9 (fun j hj => by
  rw [hl] at hj
  rw [add_at, cell_av R (by omega)]
  have hb := hF (off + j)
  simp [w8]
  omega)
 rw [hl] at h2
 unfold execOp
 simp only [ho, hx, Sem.run_bind, h2, Result.andThen_ok, Sem.run_pure]
 rfl
end
def dgt (k : Nat) : Int := bt (⟨#[48, 49, 50, 51, 52, 53, 54, 55, 56, 57, 97, 98, 99, 100, 101, 102, 103, 104, 105, 106, 107, 108, 109, 110, 111, 112, 113, 114, 115, 116, 117, 118, 119, 120, 121, 122]⟩ : ByteArray) k
def hxT (n : Nat) : ByteArray := if n < 16 then bs [dgt n] else if n < 256 then bs [dgt (n / 16), dgt (n % 16)] else if n < 4096 then bs [dgt (n / 16 / 16), dgt (n / 16 % 16), dgt (n % 16)] else bs [dgt (n / 16 / 16 / 16), dgt (n / 16 / 16 % 16), dgt (n / 16 % 16), dgt (n % 16)]
theorem un_15 (n : Nat) (h : n < 65536) : un (n : Int) 15 = ((n % 16 : Nat) : Int) := by
 have e : BitVec.ofInt 64 15 = BitVec.ofNat 64 15 := by decide
 have e2 : BitVec.ofInt 64 (n : Int) = BitVec.ofNat 64 n := rfl
 unfold un
 rw [e, e2, BitVec.toNat_and, BitVec.toNat_ofNat, BitVec.toNat_ofNat, Nat.mod_eq_of_lt (by omega), Nat.mod_eq_of_lt (by omega)]
 have e3 : n &&& 15 = n % 16 := Nat.and_two_pow_sub_one_eq_mod n 4
 rw [e3, IntKind.wrap_u64]
 omega
theorem sr_4 (n : Nat) : sr (n : Int) 4 = ((n / 16 : Nat) : Int) := by
 unfold sr
 rw [Int.fdiv_eq_ediv_of_nonneg _ (by decide)]
 rfl
set_option maxRecDepth 100000 in
set_option maxHeartbeats 4000000 in
set_option linter.unusedSimpArgs false in
theorem c_fu10 (u : Nat) (hu : u < 1000) (w : World) (hL : Laid w)  :
  Calls Tryz.prog 77 #[.int .u64 (u : Int), .int .i64 10] w fun r w' => r = .returned (.string (dcT (u : Int))) ∧ Below w.heap.size w w' := by
 go_enter Tryz.func77, Tryz.ntmps77
 have M := Mem.start hL
 refine sR ?_
 refine pV 4 (.string ⟨#[]⟩) ?_
 refine nT ?_
 refine wp_seq ?_
 refine sR ?_
 refine pV 9 (.int .i64 10) ?_
 refine pV 10 (.bool true) ?_
 refine nT ?_
 refine wp_cond_true (by kernel_rfl) ?_
 refine wp_seq ?_
 refine sR ?_
 refine pV 11 (.int .u64 (u : Int)) ?_
 by_cases c0 : (u : Int) < 100
 ·skip
  refine pH 12 (.bool true) (dTz ((u : Int) < 100) (c0)) ?_
  refine nT ?_
  refine wp_cond_true (by kernel_rfl) ?_
  refine sR ?_
  refine pV 13 (.int .u64 (u : Int)) ?_
  refine pH 14 (.int .i64 (u : Int)) (fun w => Eq.trans (b := .ok (.value (.int .i64 (cv .i64 (u : Int)))) w) (by kernel_rfl) (by rw [cv_i64 (by omega) (by omega)])) ?_
  refine pC M 15 96 #[.int .i64 (u : Int)] (.string (dcT (u : Int))) (fun w M => c_small u (by omega) w) fun u1 M => ?_
  refine pV 4 (.string (dcT (u : Int))) ?_
  refine nT ?_
  refine wp_ret ?_
  refine au_then_ret ?_
  refine au_then_ret ?_
  exact bodyPost_ret (v := .string (dcT (u : Int))) (results_tmp1 Tryz.results77 _ _ _ (by kernel_rfl)) (by kernel_rfl) ⟨rfl, below_grown M.old⟩
 ·skip
  refine pH 12 (.bool false) (dF ((u : Int) < 100) (c0)) ?_
  refine nT ?_
  refine wp_cond_false (by kernel_rfl) ?_
  refine wp_skip ?_
  refine au_then ?_
  refine sR ?_
  refine pN M 5 (.cells (av 24 (w8 (fun _ => 0))) 119) fun g1 u1 M => ?_
  refine nT ?_
  refine sR ?_
  refine pV 16 (.int .u64 (u : Int)) ?_
  refine pC M 17 97 #[.int .u64 (u : Int)] (.int .i64 3) (fun w M => c_numDigits u (by omega) hu w M.laid) fun u2 M => ?_
  refine pV 6 (.int .i64 3) ?_
  refine nT ?_
  refine sR ?_
  refine pV 18 (.int .i64 3) ?_
  refine pH 19 (.slice (some ⟨g1, 0, none⟩) 3 24) (run_slAH 119 24 5 Tryz.underlying119 inz5 _ _ rfl g1 0 (by kernel_rfl) .i64 3 (by kernel_rfl) (by decide) (by decide)) ?_
  refine pV 20 (.int .u64 (u : Int)) ?_
  refine pl_callz M (want_no rfl) (some 21) rfl 98 #[.slice (some ⟨g1, 0, none⟩) 3 24, .int .u64 (u : Int)] (.tuple #[]) 0 g1 (.cells (av 24 (w8 (fun _ => 0))) 119) (fun Z => SB Z 3 (vs8 [48 + (u : Int) / 100, 48 + (u : Int) / 10 % 10, 48 + (u : Int) % 10])) rfl (fun _ => by kernel_rfl) (fun w M => c_base10 g1 u (by omega) (by omega) w (M.get 0 rfl)) ?_
  intro Z9 u3 hZ9 M
  refine nT ?_
  refine sR ?_
  refine pV 22 (.int .i64 3) ?_
  refine pH 23 (.slice (some ⟨g1, 0, none⟩) 3 24) (run_slAH 119 24 5 Tryz.underlying119 inz5 _ _ rfl g1 0 (by kernel_rfl) .i64 3 (by kernel_rfl) (by decide) (by decide)) ?_
  refine pl_back M (want_no rfl) (some 24) rfl _ rfl 0 g1 3 24 (by kernel_rfl) _ rfl [48 + (u : Int) / 100, 48 + (u : Int) / 10 % 10, 48 + (u : Int) % 10] 3 hZ9 rfl (by intro x hx; simp only [List.mem_cons, List.mem_nil_iff, or_false] at hx; rcases hx with rfl | rfl | rfl <;> omega) ?_
  refine pV 4 (.string (bs [48 + (u : Int) / 100, 48 + (u : Int) / 10 % 10, 48 + (u : Int) % 10])) ?_
  refine nT ?_
  refine wp_ret ?_
  refine au_then_ret ?_
  have e0 : (dcT (u : Int)) = (bs [48 + (u : Int) / 100, 48 + (u : Int) / 10 % 10, 48 + (u : Int) % 10]) := by unfold dcT; rw [if_neg (by omega), if_neg (by omega)]
  exact bodyPost_ret (v := .string (bs [48 + (u : Int) / 100, 48 + (u : Int) / 10 % 10, 48 + (u : Int) % 10])) (results_tmp1 Tryz.results77 _ _ _ (by kernel_rfl)) (by kernel_rfl) ⟨by rw [e0], below_grown M.old⟩
set_option maxRecDepth 100000 in
set_option maxHeartbeats 4000000 in
set_option linter.unusedSimpArgs false in
theorem c_fmt10 (u : Nat) (hu : u < 1000) (w : World) (hL : Laid w)  :
  Calls Tryz.prog 53 #[.int .u64 (u : Int), .int .i64 10] w fun r w' => r = .returned (.string (dcT (u : Int))) ∧ Below w.heap.size w w' := by
 go_enter Tryz.func53, Tryz.ntmps53
 have M := Mem.start hL
 refine sR ?_
 refine pV 4 (.string ⟨#[]⟩) ?_
 refine nT ?_
 refine sR ?_
 refine pV 5 (.int .u64 (u : Int)) ?_
 refine pV 6 (.int .i64 10) ?_
 refine pC M 7 77 #[.int .u64 (u : Int), .int .i64 10] (.string (dcT (u : Int))) (fun w M => c_fu10 u hu w M.laid) fun u1 M => ?_
 refine pV 4 (.string (dcT (u : Int))) ?_
 refine nT ?_
 refine wp_ret ?_
 exact bodyPost_ret (v := .string (dcT (u : Int))) (results_tmp1 Tryz.results53 _ _ _ (by kernel_rfl)) (by kernel_rfl) ⟨rfl, below_grown M.old⟩
set_option maxRecDepth 100000 in
set_option maxHeartbeats 4000000 in
set_option linter.unusedSimpArgs false in
theorem c_pow2  (w : World) (hL : Laid w)  :
  Calls Tryz.prog 124 #[.int .i64 16] w fun r w' => r = .returned (.bool true) ∧ Below w.heap.size w w' := by
 go_enter Tryz.func124, Tryz.ntmps124
 have M := Mem.start hL
 refine sR ?_
 refine pV 2 (.bool false) ?_
 refine nT ?_
 refine sR ?_
 refine pV 3 (.int .i64 16) ?_
 refine pV 4 (.int .i64 16) ?_
 refine pV 5 (.int .i64 15) ?_
 refine pV 6 (.int .i64 0) ?_
 refine pV 7 (.bool true) ?_
 refine pV 2 (.bool true) ?_
 refine nT ?_
 refine wp_ret ?_
 exact bodyPost_ret (v := .bool true) (results_tmp1 Tryz.results124 _ _ _ (by kernel_rfl)) (by kernel_rfl) ⟨rfl, below_grown M.old⟩
set_option maxRecDepth 100000 in
set_option maxHeartbeats 4000000 in
set_option linter.unusedSimpArgs false in
theorem c_tz64  (w : World) (hL : Laid w)  :
  Calls Tryz.prog 137 #[.int .u64 16] w fun r w' => r = .returned (.int .i64 4) ∧ Below w.heap.size w w' := by
 go_enter Tryz.func137, Tryz.ntmps137
 have M := Mem.start hL
 refine sR ?_
 refine pV 2 (.int .i64 0) ?_
 refine nT ?_
 refine wp_seq ?_
 refine sR ?_
 refine pV 3 (.int .u64 16) ?_
 refine pV 4 (.bool false) ?_
 refine nT ?_
 refine wp_cond_false (by kernel_rfl) ?_
 refine wp_skip ?_
 refine au_then ?_
 refine sR ?_
 refine pV 5 (.int .u64 16) ?_
 refine pV 6 (.int .u64 16) ?_
 refine pV 7 (.int .u64 18446744073709551600) ?_
 refine pV 8 (.int .u64 16) ?_
 refine pV 9 (.int .u64 4573923408821661840) ?_
 refine pV 10 (.int .u64 15) ?_
 refine pV 11 (.pointer (some ⟨5, 15, none⟩)) ?_
 refine pEz M 12 5 15 (.int .u8 4) (fun w M => M.laid.db) ?_
 refine pV 13 (.int .i64 4) ?_
 refine pV 2 (.int .i64 4) ?_
 refine nT ?_
 refine wp_ret ?_
 exact bodyPost_ret (v := .int .i64 4) (results_tmp1 Tryz.results137 _ _ _ (by kernel_rfl)) (by kernel_rfl) ⟨rfl, below_grown M.old⟩
set_option maxRecDepth 100000 in
set_option maxHeartbeats 4000000 in
set_option linter.unusedSimpArgs false in
theorem c_tz  (w : World) (hL : Laid w)  :
  Calls Tryz.prog 125 #[.int .u64 16] w fun r w' => r = .returned (.int .i64 4) ∧ Below w.heap.size w w' := by
 go_enter Tryz.func125, Tryz.ntmps125
 have M := Mem.start hL
 refine sR ?_
 refine pV 2 (.int .i64 0) ?_
 refine nT ?_
 refine wp_seq ?_
 refine wp_cond_false (by kernel_rfl) ?_
 refine wp_skip ?_
 refine au_then ?_
 refine sR ?_
 refine pV 6 (.int .u64 16) ?_
 refine pC M 7 137 #[.int .u64 16] (.int .i64 4) (fun w M => c_tz64 w M.laid) fun u1 M => ?_
 refine pV 2 (.int .i64 4) ?_
 refine nT ?_
 refine wp_ret ?_
 exact bodyPost_ret (v := .int .i64 4) (results_tmp1 Tryz.results125 _ _ _ (by kernel_rfl)) (by kernel_rfl) ⟨rfl, below_grown M.old⟩
set_option maxRecDepth 100000 in
set_option maxHeartbeats 4000000 in
set_option linter.unusedSimpArgs false in
theorem c_fbits (n : Nat) (hn : n < 65536) (w : World) (hL : Laid w)  :
  Calls Tryz.prog 99 #[.slice none 0 0, .int .u64 ((n : Nat) : Int), .int .i64 16, .bool false, .bool false] w fun r w' => r = .returned (.tuple #[.slice none 0 0, .string (hxT n)]) ∧ Below w.heap.size w w' := by
 go_enter Tryz.func99, Tryz.ntmps99
 have M := Mem.start hL
 refine sR ?_
 refine pV 10 (.slice none 0 0) ?_
 refine pV 11 (.string ⟨#[]⟩) ?_
 refine nT ?_
 refine wp_seq ?_
 refine sR ?_
 refine pV 19 (.int .i64 16) ?_
 refine pV 20 (.bool false) ?_
 refine pV 21 (.bool false) ?_
 refine pl_val (want_on 2 false rfl 21 rfl (by kernel_rfl)) (some 22) rfl (.int .i64 16) (fun _ => by kernel_rfl) ?_
 refine pl_val (want_on 2 false rfl 21 rfl (by kernel_rfl)) (some 23) rfl (.bool false) (fun _ => by kernel_rfl) ?_
 refine pV 24 (.bool false) ?_
 refine pV 25 (.bool false) ?_
 refine pl_val (want_on 6 false rfl 25 rfl (by kernel_rfl)) (some 26) rfl (.int .i64 16) (fun _ => by kernel_rfl) ?_
 refine pl_val (want_on 6 false rfl 25 rfl (by kernel_rfl)) (some 27) rfl (.bool false) (fun _ => by kernel_rfl) ?_
 refine pV 28 (.bool false) ?_
 refine nT ?_
 refine wp_cond_false (by kernel_rfl) ?_
 refine wp_skip ?_
 refine au_then ?_
 refine sR ?_
 refine pN M 12 (.cells (av 65 (w8 (fun _ => 0))) 145) fun g1 u1 M => ?_
 refine nT ?_
 refine sR ?_
 refine pV 13 (.int .i64 65) ?_
 refine nT ?_
 refine wp_seq ?_
 refine sR ?_
 refine pV 30 (.bool false) ?_
 refine nT ?_
 refine wp_cond_false (by kernel_rfl) ?_
 refine wp_skip ?_
 refine au_then ?_
 refine wp_seq ?_
 refine sR ?_
 refine pV 33 (.int .i64 16) ?_
 refine pC M 34 124 #[.int .i64 16] (.bool true) (fun w M => c_pow2 w M.laid) fun u2 M => ?_
 refine nT ?_
 refine wp_cond_true (by kernel_rfl) ?_
 refine sR ?_
 refine pV 35 (.int .i64 16) ?_
 refine pV 36 (.int .u64 16) ?_
 refine pC M 37 125 #[.int .u64 16] (.int .i64 4) (fun w M => c_tz w M.laid) fun u3 M => ?_
 refine pV 38 (.int .u64 4) ?_
 refine pV 14 (.int .u64 4) ?_
 refine nT ?_
 refine sR ?_
 refine pV 39 (.int .i64 16) ?_
 refine pV 40 (.int .u64 16) ?_
 refine pV 15 (.int .u64 16) ?_
 refine nT ?_
 refine sR ?_
 refine pV 41 (.int .i64 16) ?_
 refine pV 42 (.int .u64 16) ?_
 refine pV 43 (.int .u64 15) ?_
 refine pV 16 (.int .u64 15) ?_
 refine nT ?_
 refine wp_seq ?_
 refine wp_block ?_
 refine wp_loop_rounds 4 ?_
 refine rounds_go ?_
 refine wp_seq ?_
 refine sR ?_
 refine pV 44 (.int .u64 ((n : Nat) : Int)) ?_
 refine pV 45 (.int .u64 16) ?_
 by_cases c0 : n < 16
 ·skip
  refine pH 46 (.bool false) (dF ((16 : Int) ≤ ((n : Nat) : Int)) (by omega)) ?_
  refine nT ?_
  refine wp_cond_false (by kernel_rfl) ?_
  refine wp_exit ?_
  refine au_then_exit ?_
  refine au_then_exit ?_
  refine au_block_exit ?_
  refine au_then ?_
  refine sR ?_
  refine pV 58 (.int .i64 65) ?_
  refine pV 59 (.int .i64 64) ?_
  refine pV 13 (.int .i64 64) ?_
  refine nT ?_
  refine rg_lit ?_
  refine pV 60 (.int .i64 64) ?_
  refine pV 61 (.int .u64 ((n : Nat) : Int)) ?_
  refine pH 62 (.int .u8 (dgt n)) (run_ixS 9 Tryz.underlying9 _ _ rfl ⟨#[48, 49, 50, 51, 52, 53, 54, 55, 56, 57, 97, 98, 99, 100, 101, 102, 103, 104, 105, 106, 107, 108, 109, 110, 111, 112, 113, 114, 115, 116, 117, 118, 119, 120, 121, 122]⟩ (by kernel_rfl) .u64 n (by kernel_rfl) (show n < 36 by omega)) ?_
  refine pV 63 (.pointer (some ⟨g1, 64, none⟩)) ?_
  refine pP M 0 rfl 64 (.int .u8 (dgt n)) (w8 (upd (fun _ => 0) 64 (dgt n))) (by decide) (fun j _ => put_w8 _ _ _ j) fun u4 M => ?_
  refine nT ?_
  refine wp_seq ?_
  refine sR ?_
  refine pV 89 (.bool false) ?_
  refine nT ?_
  refine wp_cond_false (by kernel_rfl) ?_
  refine wp_skip ?_
  refine au_then ?_
  refine wp_seq ?_
  refine sR ?_
  refine pV 94 (.bool false) ?_
  refine nT ?_
  refine wp_cond_false (by kernel_rfl) ?_
  refine wp_skip ?_
  refine au_then ?_
  refine sR ?_
  refine pV 99 (.int .i64 64) ?_
  refine pV 100 (.slice (some ⟨g1, 64, none⟩) 1 1) ?_
  refine pl_backO M (want_no rfl) (some 101) rfl _ rfl 0 g1 64 1 1 65 145 (upd (fun _ => 0) 64 (dgt n)) (by kernel_rfl) rfl (by decide) (NB.z.u _ (bt_nn _ _)) ?_
  refine pV 11 (.string (bs ((List.range 1).map fun j => (upd (fun _ => 0) 64 (dgt n)) (64 + j)))) ?_
  refine nT ?_
  refine wp_ret ?_
  have e0 : (hxT n) = (bs ((List.range 1).map fun j => (upd (fun _ => 0) 64 (dgt n)) (64 + j))) := by unfold hxT; rw [if_pos (by omega)]; rfl
  exact bodyPost_ret (v := .tuple #[.slice none 0 0, .string (bs ((List.range 1).map fun j => (upd (fun _ => 0) 64 (dgt n)) (64 + j)))]) (results_tmp2 Tryz.results99 _ _ _ _ (by kernel_rfl) (by kernel_rfl)) (by kernel_rfl) ⟨by rw [e0], below_grown M.old⟩
 ·skip
  refine pH 46 (.bool true) (dTz ((16 : Int) ≤ ((n : Nat) : Int)) (by omega)) ?_
  refine nT ?_
  refine wp_cond_true (by kernel_rfl) ?_
  refine wp_skip ?_
  refine au_then ?_
  refine wp_block ?_
  refine sR ?_
  refine pV 47 (.int .i64 65) ?_
  refine pV 48 (.int .i64 64) ?_
  refine pV 13 (.int .i64 64) ?_
  refine nT ?_
  refine sR ?_
  refine pV 49 (.int .i64 64) ?_
  refine pV 50 (.int .u64 ((n : Nat) : Int)) ?_
  refine pV 51 (.int .u64 15) ?_
  refine pH 52 (.int .u64 ((n % 16 : Nat) : Int)) (fun w => Eq.trans (b := .ok (.value (.int .u64 (un ((n : Nat) : Int) 15))) w) (by kernel_rfl) (by rw [un_15 _ (by omega)])) ?_
  refine pH 53 (.int .u8 (dgt (n % 16))) (run_ixS 9 Tryz.underlying9 _ _ rfl ⟨#[48, 49, 50, 51, 52, 53, 54, 55, 56, 57, 97, 98, 99, 100, 101, 102, 103, 104, 105, 106, 107, 108, 109, 110, 111, 112, 113, 114, 115, 116, 117, 118, 119, 120, 121, 122]⟩ (by kernel_rfl) .u64 (n % 16) (by kernel_rfl) (show (n % 16) < 36 by omega)) ?_
  refine pV 54 (.pointer (some ⟨g1, 64, none⟩)) ?_
  refine pP M 0 rfl 64 (.int .u8 (dgt (n % 16))) (w8 (upd (fun _ => 0) 64 (dgt (n % 16)))) (by decide) (fun j _ => put_w8 _ _ _ j) fun u4 M => ?_
  refine nT ?_
  refine rg_lit ?_
  refine pV 55 (.int .u64 ((n : Nat) : Int)) ?_
  refine pV 56 (.int .u64 4) ?_
  refine pH 57 (.int .u64 ((n / 16 : Nat) : Int)) (fun w => Eq.trans (b := .ok (.value (.int .u64 (sr ((n : Nat) : Int) 4))) w) (by kernel_rfl) (by rw [sr_4])) ?_
  refine pV 1 (.int .u64 ((n / 16 : Nat) : Int)) ?_
  refine pl_nil ?_
  refine au_block ?_
  refine au_then ?_
  refine rounds_go ?_
  refine wp_seq ?_
  refine sR ?_
  refine pV 44 (.int .u64 ((n / 16 : Nat) : Int)) ?_
  refine pV 45 (.int .u64 16) ?_
  by_cases c1 : (n / 16) < 16
  ·skip
   refine pH 46 (.bool false) (dF ((16 : Int) ≤ (((n / 16) : Nat) : Int)) (by omega)) ?_
   refine nT ?_
   refine wp_cond_false (by kernel_rfl) ?_
   refine wp_exit ?_
   refine au_then_exit ?_
   refine au_then_exit ?_
   refine au_block_exit ?_
   refine au_then ?_
   refine sR ?_
   refine pV 58 (.int .i64 64) ?_
   refine pV 59 (.int .i64 63) ?_
   refine pV 13 (.int .i64 63) ?_
   refine nT ?_
   refine rg_lit ?_
   refine pV 60 (.int .i64 63) ?_
   refine pV 61 (.int .u64 ((n / 16 : Nat) : Int)) ?_
   refine pH 62 (.int .u8 (dgt (n / 16))) (run_ixS 9 Tryz.underlying9 _ _ rfl ⟨#[48, 49, 50, 51, 52, 53, 54, 55, 56, 57, 97, 98, 99, 100, 101, 102, 103, 104, 105, 106, 107, 108, 109, 110, 111, 112, 113, 114, 115, 116, 117, 118, 119, 120, 121, 122]⟩ (by kernel_rfl) .u64 (n / 16) (by kernel_rfl) (show (n / 16) < 36 by omega)) ?_
   refine pV 63 (.pointer (some ⟨g1, 63, none⟩)) ?_
   refine pP M 0 rfl 63 (.int .u8 (dgt (n / 16))) (w8 (upd (upd (fun _ => 0) 64 (dgt (n % 16))) 63 (dgt (n / 16)))) (by decide) (fun j _ => put_w8 _ _ _ j) fun u5 M => ?_
   refine nT ?_
   refine wp_seq ?_
   refine sR ?_
   refine pV 89 (.bool false) ?_
   refine nT ?_
   refine wp_cond_false (by kernel_rfl) ?_
   refine wp_skip ?_
   refine au_then ?_
   refine wp_seq ?_
   refine sR ?_
   refine pV 94 (.bool false) ?_
   refine nT ?_
   refine wp_cond_false (by kernel_rfl) ?_
   refine wp_skip ?_
   refine au_then ?_
   refine sR ?_
   refine pV 99 (.int .i64 63) ?_
   refine pV 100 (.slice (some ⟨g1, 63, none⟩) 2 2) ?_
   refine pl_backO M (want_no rfl) (some 101) rfl _ rfl 0 g1 63 2 2 65 145 (upd (upd (fun _ => 0) 64 (dgt (n % 16))) 63 (dgt (n / 16))) (by kernel_rfl) rfl (by decide) ((NB.z.u _ (bt_nn _ _)).u _ (bt_nn _ _)) ?_
   refine pV 11 (.string (bs ((List.range 2).map fun j => (upd (upd (fun _ => 0) 64 (dgt (n % 16))) 63 (dgt (n / 16))) (63 + j)))) ?_
   refine nT ?_
   refine wp_ret ?_
   have e0 : (hxT n) = (bs ((List.range 2).map fun j => (upd (upd (fun _ => 0) 64 (dgt (n % 16))) 63 (dgt (n / 16))) (63 + j))) := by unfold hxT; rw [if_neg (by omega), if_pos (by omega)]; rfl
   exact bodyPost_ret (v := .tuple #[.slice none 0 0, .string (bs ((List.range 2).map fun j => (upd (upd (fun _ => 0) 64 (dgt (n % 16))) 63 (dgt (n / 16))) (63 + j)))]) (results_tmp2 Tryz.results99 _ _ _ _ (by kernel_rfl) (by kernel_rfl)) (by kernel_rfl) ⟨by rw [e0], below_grown M.old⟩
  ·skip
   refine pH 46 (.bool true) (dTz ((16 : Int) ≤ (((n / 16) : Nat) : Int)) (by omega)) ?_
   refine nT ?_
   refine wp_cond_true (by kernel_rfl) ?_
   refine wp_skip ?_
   refine au_then ?_
   refine wp_block ?_
   refine sR ?_
   refine pV 47 (.int .i64 64) ?_
   refine pV 48 (.int .i64 63) ?_
   refine pV 13 (.int .i64 63) ?_
   refine nT ?_
   refine sR ?_
   refine pV 49 (.int .i64 63) ?_
   refine pV 50 (.int .u64 ((n / 16 : Nat) : Int)) ?_
   refine pV 51 (.int .u64 15) ?_
   refine pH 52 (.int .u64 (((n / 16) % 16 : Nat) : Int)) (fun w => Eq.trans (b := .ok (.value (.int .u64 (un (((n / 16) : Nat) : Int) 15))) w) (by kernel_rfl) (by rw [un_15 _ (by omega)])) ?_
   refine pH 53 (.int .u8 (dgt ((n / 16) % 16))) (run_ixS 9 Tryz.underlying9 _ _ rfl ⟨#[48, 49, 50, 51, 52, 53, 54, 55, 56, 57, 97, 98, 99, 100, 101, 102, 103, 104, 105, 106, 107, 108, 109, 110, 111, 112, 113, 114, 115, 116, 117, 118, 119, 120, 121, 122]⟩ (by kernel_rfl) .u64 ((n / 16) % 16) (by kernel_rfl) (show ((n / 16) % 16) < 36 by omega)) ?_
   refine pV 54 (.pointer (some ⟨g1, 63, none⟩)) ?_
   refine pP M 0 rfl 63 (.int .u8 (dgt ((n / 16) % 16))) (w8 (upd (upd (fun _ => 0) 64 (dgt (n % 16))) 63 (dgt ((n / 16) % 16)))) (by decide) (fun j _ => put_w8 _ _ _ j) fun u5 M => ?_
   refine nT ?_
   refine rg_lit ?_
   refine pV 55 (.int .u64 ((n / 16 : Nat) : Int)) ?_
   refine pV 56 (.int .u64 4) ?_
   refine pH 57 (.int .u64 (((n / 16) / 16 : Nat) : Int)) (fun w => Eq.trans (b := .ok (.value (.int .u64 (sr (((n / 16) : Nat) : Int) 4))) w) (by kernel_rfl) (by rw [sr_4])) ?_
   refine pV 1 (.int .u64 (((n / 16) / 16 : Nat) : Int)) ?_
   refine pl_nil ?_
   refine au_block ?_
   refine au_then ?_
   refine rounds_go ?_
   refine wp_seq ?_
   refine sR ?_
   refine pV 44 (.int .u64 (((n / 16) / 16 : Nat) : Int)) ?_
   refine pV 45 (.int .u64 16) ?_
   by_cases c2 : ((n / 16) / 16) < 16
   ·skip
    refine pH 46 (.bool false) (dF ((16 : Int) ≤ ((((n / 16) / 16) : Nat) : Int)) (by omega)) ?_
    refine nT ?_
    refine wp_cond_false (by kernel_rfl) ?_
    refine wp_exit ?_
    refine au_then_exit ?_
    refine au_then_exit ?_
    refine au_block_exit ?_
    refine au_then ?_
    refine sR ?_
    refine pV 58 (.int .i64 63) ?_
    refine pV 59 (.int .i64 62) ?_
    refine pV 13 (.int .i64 62) ?_
    refine nT ?_
    refine rg_lit ?_
    refine pV 60 (.int .i64 62) ?_
    refine pV 61 (.int .u64 (((n / 16) / 16 : Nat) : Int)) ?_
    refine pH 62 (.int .u8 (dgt ((n / 16) / 16))) (run_ixS 9 Tryz.underlying9 _ _ rfl ⟨#[48, 49, 50, 51, 52, 53, 54, 55, 56, 57, 97, 98, 99, 100, 101, 102, 103, 104, 105, 106, 107, 108, 109, 110, 111, 112, 113, 114, 115, 116, 117, 118, 119, 120, 121, 122]⟩ (by kernel_rfl) .u64 ((n / 16) / 16) (by kernel_rfl) (show ((n / 16) / 16) < 36 by omega)) ?_
    refine pV 63 (.pointer (some ⟨g1, 62, none⟩)) ?_
    refine pP M 0 rfl 62 (.int .u8 (dgt ((n / 16) / 16))) (w8 (upd (upd (upd (fun _ => 0) 64 (dgt (n % 16))) 63 (dgt ((n / 16) % 16))) 62 (dgt ((n / 16) / 16)))) (by decide) (fun j _ => put_w8 _ _ _ j) fun u6 M => ?_
    refine nT ?_
    refine wp_seq ?_
    refine sR ?_
    refine pV 89 (.bool false) ?_
    refine nT ?_
    refine wp_cond_false (by kernel_rfl) ?_
    refine wp_skip ?_
    refine au_then ?_
    refine wp_seq ?_
    refine sR ?_
    refine pV 94 (.bool false) ?_
    refine nT ?_
    refine wp_cond_false (by kernel_rfl) ?_
    refine wp_skip ?_
    refine au_then ?_
    refine sR ?_
    refine pV 99 (.int .i64 62) ?_
    refine pV 100 (.slice (some ⟨g1, 62, none⟩) 3 3) ?_
    refine pl_backO M (want_no rfl) (some 101) rfl _ rfl 0 g1 62 3 3 65 145 (upd (upd (upd (fun _ => 0) 64 (dgt (n % 16))) 63 (dgt ((n / 16) % 16))) 62 (dgt ((n / 16) / 16))) (by kernel_rfl) rfl (by decide) (((NB.z.u _ (bt_nn _ _)).u _ (bt_nn _ _)).u _ (bt_nn _ _)) ?_
    refine pV 11 (.string (bs ((List.range 3).map fun j => (upd (upd (upd (fun _ => 0) 64 (dgt (n % 16))) 63 (dgt ((n / 16) % 16))) 62 (dgt ((n / 16) / 16))) (62 + j)))) ?_
    refine nT ?_
    refine wp_ret ?_
    have e0 : (hxT n) = (bs ((List.range 3).map fun j => (upd (upd (upd (fun _ => 0) 64 (dgt (n % 16))) 63 (dgt ((n / 16) % 16))) 62 (dgt ((n / 16) / 16))) (62 + j))) := by unfold hxT; rw [if_neg (by omega), if_neg (by omega), if_pos (by omega)]; rfl
    exact bodyPost_ret (v := .tuple #[.slice none 0 0, .string (bs ((List.range 3).map fun j => (upd (upd (upd (fun _ => 0) 64 (dgt (n % 16))) 63 (dgt ((n / 16) % 16))) 62 (dgt ((n / 16) / 16))) (62 + j)))]) (results_tmp2 Tryz.results99 _ _ _ _ (by kernel_rfl) (by kernel_rfl)) (by kernel_rfl) ⟨by rw [e0], below_grown M.old⟩
   ·skip
    refine pH 46 (.bool true) (dTz ((16 : Int) ≤ ((((n / 16) / 16) : Nat) : Int)) (by omega)) ?_
    refine nT ?_
    refine wp_cond_true (by kernel_rfl) ?_
    refine wp_skip ?_
    refine au_then ?_
    refine wp_block ?_
    refine sR ?_
    refine pV 47 (.int .i64 63) ?_
    refine pV 48 (.int .i64 62) ?_
    refine pV 13 (.int .i64 62) ?_
    refine nT ?_
    refine sR ?_
    refine pV 49 (.int .i64 62) ?_
    refine pV 50 (.int .u64 (((n / 16) / 16 : Nat) : Int)) ?_
    refine pV 51 (.int .u64 15) ?_
    refine pH 52 (.int .u64 ((((n / 16) / 16) % 16 : Nat) : Int)) (fun w => Eq.trans (b := .ok (.value (.int .u64 (un ((((n / 16) / 16) : Nat) : Int) 15))) w) (by kernel_rfl) (by rw [un_15 _ (by omega)])) ?_
    refine pH 53 (.int .u8 (dgt (((n / 16) / 16) % 16))) (run_ixS 9 Tryz.underlying9 _ _ rfl ⟨#[48, 49, 50, 51, 52, 53, 54, 55, 56, 57, 97, 98, 99, 100, 101, 102, 103, 104, 105, 106, 107, 108, 109, 110, 111, 112, 113, 114, 115, 116, 117, 118, 119, 120, 121, 122]⟩ (by kernel_rfl) .u64 (((n / 16) / 16) % 16) (by kernel_rfl) (show (((n / 16) / 16) % 16) < 36 by omega)) ?_
    refine pV 54 (.pointer (some ⟨g1, 62, none⟩)) ?_
    refine pP M 0 rfl 62 (.int .u8 (dgt (((n / 16) / 16) % 16))) (w8 (upd (upd (upd (fun _ => 0) 64 (dgt (n % 16))) 63 (dgt ((n / 16) % 16))) 62 (dgt (((n / 16) / 16) % 16)))) (by decide) (fun j _ => put_w8 _ _ _ j) fun u6 M => ?_
    refine nT ?_
    refine rg_lit ?_
    refine pV 55 (.int .u64 (((n / 16) / 16 : Nat) : Int)) ?_
    refine pV 56 (.int .u64 4) ?_
    refine pH 57 (.int .u64 ((((n / 16) / 16) / 16 : Nat) : Int)) (fun w => Eq.trans (b := .ok (.value (.int .u64 (sr ((((n / 16) / 16) : Nat) : Int) 4))) w) (by kernel_rfl) (by rw [sr_4])) ?_
    refine pV 1 (.int .u64 ((((n / 16) / 16) / 16 : Nat) : Int)) ?_
    refine pl_nil ?_
    refine au_block ?_
    refine au_then ?_
    refine rounds_go ?_
    refine wp_seq ?_
    refine sR ?_
    refine pV 44 (.int .u64 ((((n / 16) / 16) / 16 : Nat) : Int)) ?_
    refine pV 45 (.int .u64 16) ?_
    by_cases c3 : (((n / 16) / 16) / 16) < 16
    ·skip
     refine pH 46 (.bool false) (dF ((16 : Int) ≤ (((((n / 16) / 16) / 16) : Nat) : Int)) (by omega)) ?_
     refine nT ?_
     refine wp_cond_false (by kernel_rfl) ?_
     refine wp_exit ?_
     refine au_then_exit ?_
     refine au_then_exit ?_
     refine au_block_exit ?_
     refine au_then ?_
     refine sR ?_
     refine pV 58 (.int .i64 62) ?_
     refine pV 59 (.int .i64 61) ?_
     refine pV 13 (.int .i64 61) ?_
     refine nT ?_
     refine rg_lit ?_
     refine pV 60 (.int .i64 61) ?_
     refine pV 61 (.int .u64 ((((n / 16) / 16) / 16 : Nat) : Int)) ?_
     refine pH 62 (.int .u8 (dgt (((n / 16) / 16) / 16))) (run_ixS 9 Tryz.underlying9 _ _ rfl ⟨#[48, 49, 50, 51, 52, 53, 54, 55, 56, 57, 97, 98, 99, 100, 101, 102, 103, 104, 105, 106, 107, 108, 109, 110, 111, 112, 113, 114, 115, 116, 117, 118, 119, 120, 121, 122]⟩ (by kernel_rfl) .u64 (((n / 16) / 16) / 16) (by kernel_rfl) (show (((n / 16) / 16) / 16) < 36 by omega)) ?_
     refine pV 63 (.pointer (some ⟨g1, 61, none⟩)) ?_
     refine pP M 0 rfl 61 (.int .u8 (dgt (((n / 16) / 16) / 16))) (w8 (upd (upd (upd (upd (fun _ => 0) 64 (dgt (n % 16))) 63 (dgt ((n / 16) % 16))) 62 (dgt (((n / 16) / 16) % 16))) 61 (dgt (((n / 16) / 16) / 16)))) (by decide) (fun j _ => put_w8 _ _ _ j) fun u7 M => ?_
     refine nT ?_
     refine wp_seq ?_
     refine sR ?_
     refine pV 89 (.bool false) ?_
     refine nT ?_
     refine wp_cond_false (by kernel_rfl) ?_
     refine wp_skip ?_
     refine au_then ?_
     refine wp_seq ?_
     refine sR ?_
     refine pV 94 (.bool false) ?_
     refine nT ?_
     refine wp_cond_false (by kernel_rfl) ?_
     refine wp_skip ?_
     refine au_then ?_
     refine sR ?_
     refine pV 99 (.int .i64 61) ?_
     refine pV 100 (.slice (some ⟨g1, 61, none⟩) 4 4) ?_
     refine pl_backO M (want_no rfl) (some 101) rfl _ rfl 0 g1 61 4 4 65 145 (upd (upd (upd (upd (fun _ => 0) 64 (dgt (n % 16))) 63 (dgt ((n / 16) % 16))) 62 (dgt (((n / 16) / 16) % 16))) 61 (dgt (((n / 16) / 16) / 16))) (by kernel_rfl) rfl (by decide) ((((NB.z.u _ (bt_nn _ _)).u _ (bt_nn _ _)).u _ (bt_nn _ _)).u _ (bt_nn _ _)) ?_
     refine pV 11 (.string (bs ((List.range 4).map fun j => (upd (upd (upd (upd (fun _ => 0) 64 (dgt (n % 16))) 63 (dgt ((n / 16) % 16))) 62 (dgt (((n / 16) / 16) % 16))) 61 (dgt (((n / 16) / 16) / 16))) (61 + j)))) ?_
     refine nT ?_
     refine wp_ret ?_
     have e0 : (hxT n) = (bs ((List.range 4).map fun j => (upd (upd (upd (upd (fun _ => 0) 64 (dgt (n % 16))) 63 (dgt ((n / 16) % 16))) 62 (dgt (((n / 16) / 16) % 16))) 61 (dgt (((n / 16) / 16) / 16))) (61 + j))) := by unfold hxT; rw [if_neg (by omega), if_neg (by omega), if_neg (by omega)]; rfl
     exact bodyPost_ret (v := .tuple #[.slice none 0 0, .string (bs ((List.range 4).map fun j => (upd (upd (upd (upd (fun _ => 0) 64 (dgt (n % 16))) 63 (dgt ((n / 16) % 16))) 62 (dgt (((n / 16) / 16) % 16))) 61 (dgt (((n / 16) / 16) / 16))) (61 + j)))]) (results_tmp2 Tryz.results99 _ _ _ _ (by kernel_rfl) (by kernel_rfl)) (by kernel_rfl) ⟨by rw [e0], below_grown M.old⟩
    ·exact absurd (by omega) c3
set_option maxRecDepth 100000 in
set_option maxHeartbeats 4000000 in
set_option linter.unusedSimpArgs false in
theorem c_fu16 (n : Nat) (hn : n < 65536) (w : World) (hL : Laid w)  :
  Calls Tryz.prog 77 #[.int .u64 ((n : Nat) : Int), .int .i64 16] w fun r w' => r = .returned (.string (hxT n)) ∧ Below w.heap.size w w' := by
 go_enter Tryz.func77, Tryz.ntmps77
 have M := Mem.start hL
 refine sR ?_
 refine pV 4 (.string ⟨#[]⟩) ?_
 refine nT ?_
 refine wp_seq ?_
 refine sR ?_
 refine pV 9 (.int .i64 16) ?_
 refine pV 10 (.bool false) ?_
 refine nT ?_
 refine wp_cond_false (by kernel_rfl) ?_
 refine wp_skip ?_
 refine au_then ?_
 refine sR ?_
 refine pV 26 (.int .u64 ((n : Nat) : Int)) ?_
 refine pV 27 (.int .i64 16) ?_
 refine pC M 28 99 #[.slice none 0 0, .int .u64 ((n : Nat) : Int), .int .i64 16, .bool false, .bool false] (.tuple #[.slice none 0 0, .string (hxT n)]) (fun w M => c_fbits n hn w M.laid) fun u1 M => ?_
 refine pV 25 (.tuple #[.slice none 0 0, .string (hxT n)]) ?_
 refine pV 29 (.slice none 0 0) ?_
 refine pV 30 (.string (hxT n)) ?_
 refine pV 7 (.slice none 0 0) ?_
 refine pV 8 (.string (hxT n)) ?_
 refine nT ?_
 refine sR ?_
 refine pV 31 (.string (hxT n)) ?_
 refine pV 4 (.string (hxT n)) ?_
 refine nT ?_
 refine wp_ret ?_
 exact bodyPost_ret (v := .string (hxT n)) (results_tmp1 Tryz.results77 _ _ _ (by kernel_rfl)) (by kernel_rfl) ⟨rfl, below_grown M.old⟩
set_option maxRecDepth 100000 in
set_option maxHeartbeats 4000000 in
set_option linter.unusedSimpArgs false in
theorem c_fmt16 (n : Nat) (hn : n < 65536) (w : World) (hL : Laid w)  :
  Calls Tryz.prog 53 #[.int .u64 ((n : Nat) : Int), .int .i64 16] w fun r w' => r = .returned (.string (hxT n)) ∧ Below w.heap.size w w' := by
 go_enter Tryz.func53, Tryz.ntmps53
 have M := Mem.start hL
 refine sR ?_
 refine pV 4 (.string ⟨#[]⟩) ?_
 refine nT ?_
 refine sR ?_
 refine pV 5 (.int .u64 ((n : Nat) : Int)) ?_
 refine pV 6 (.int .i64 16) ?_
 refine pC M 7 77 #[.int .u64 ((n : Nat) : Int), .int .i64 16] (.string (hxT n)) (fun w M => c_fu16 n hn w M.laid) fun u1 M => ?_
 refine pV 4 (.string (hxT n)) ?_
 refine nT ?_
 refine wp_ret ?_
 exact bodyPost_ret (v := .string (hxT n)) (results_tmp1 Tryz.results53 _ _ _ (by kernel_rfl)) (by kernel_rfl) ⟨rfl, below_grown M.old⟩
end Go.Proofs.YtndonmdgplojnaaGreatDoor
