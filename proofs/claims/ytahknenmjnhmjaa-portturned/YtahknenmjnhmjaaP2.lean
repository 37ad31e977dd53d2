/- What is wrong with what a packet carries; Decode and Sum. -/
import Derived.Test.YtahknenmjnhmjaaP1
import Derived.ScopeJumps
namespace Go.Proofs.Ytahknenmjnhmjaa
open Go.RowKit

def fS (v0 : Bool) (h0 l0 : Int) (v1 : Bool) (h1 l1 p : Int) (s : ByteArray) : Int := if sO v0 h0 l0 v1 h1 l1 p s = 0 then 0 else 131
def fU (v0 : Bool) (h0 l0 : Int) (v1 : Bool) (h1 l1 p : Int) (s : ByteArray) : Int := if (s.size : Int) < 8 then 7 else if pr s 4 = (s.size : Int) then (if v0 = true then fS v0 h0 l0 v1 h1 l1 p s else if pr s 6 = 0 then 0 else fS v0 h0 l0 v1 h1 l1 p s) else 8
def fT (v0 : Bool) (h0 l0 : Int) (v1 : Bool) (h1 l1 p : Int) (s : ByteArray) : Int := if (s.size : Int) < 20 then 7 else if hdO p s < 20 then 8 else if (s.size : Int) < hdO p s then 8 else fS v0 h0 l0 v1 h1 l1 p s
def fE (v0 : Bool) (h0 l0 : Int) (v1 : Bool) (h1 l1 p : Int) (s : ByteArray) : Int := if p = eP v0 then (if (s.size : Int) < 8 then 7 else fS v0 h0 l0 v1 h1 l1 p s) else 8
def fO (v0 : Bool) (h0 l0 : Int) (v1 : Bool) (h1 l1 p : Int) (s : ByteArray) : Int := if p = 17 then fU v0 h0 l0 v1 h1 l1 p s else if p = 6 then fT v0 h0 l0 v1 h1 l1 p s else if p = 1 then fE v0 h0 l0 v1 h1 l1 p s else if p = 58 then fE v0 h0 l0 v1 h1 l1 p s else 0
def dE (v0 : Bool) (h0 l0 : Int) (v1 : Bool) (h1 l1 p : Int) (s : ByteArray) : Int := if my v0 h0 l0 v1 h1 l1 (s.size : Int) = 0 then fO v0 h0 l0 v1 h1 l1 p s else my v0 h0 l0 v1 h1 l1 (s.size : Int)
/-- What the head tells: From, To, Flags, Kind, Code, Size. -/
def hFr (p : Int) (s : ByteArray) : Int := if p = 6 then pr s 0 else if p = 17 then pr s 0 else if p = 1 then (if ec p (bt s 0) = true then pr s 4 else 0) else if p = 58 then (if ec p (bt s 0) = true then pr s 4 else 0) else 0
def hTo (p : Int) (s : ByteArray) : Int := if p = 6 then pr s 2 else if p = 17 then pr s 2 else if p = 1 then (if ec p (bt s 0) = true then pr s 4 else 0) else if p = 58 then (if ec p (bt s 0) = true then pr s 4 else 0) else 0
def hFl (p : Int) (s : ByteArray) : Int := if p = 6 then bt s 13 else 0
def hKi (p : Int) (s : ByteArray) : Int := if p = 1 then bt s 0 else if p = 58 then bt s 0 else 0
def hCo (p : Int) (s : ByteArray) : Int := if p = 1 then bt s 1 else if p = 58 then bt s 1 else 0
def hSz (p : Int) (s : ByteArray) : Int := (s.size : Int) - hdO p s
def zI (e x : Int) : Int := if e = 0 then x else 0
def zB (e : Int) (v : Bool) : Bool := if e = 0 then v else false
def zS (e : Int) (s : ByteArray) : ByteArray := if e = 0 then s else ⟨#[]⟩
section
variable {a : Act} {w : World} {Q : Exit → Act → World → Prop} {K : Act → World → Prop} {J : Act → World → Prop}
theorem au_then_goto {i : Nat} (h : Q (.goto i) a w) : Exit.then K Q (.goto i) a w := h
theorem au_scope_ret {i : Nat} (h : Q .ret a w) : Exit.jump i J Q .ret a w := h
theorem au_jump {i : Nat} (h : J a w) : Exit.jump i J Q (.goto i) a w := ⟨rfl, h⟩
end
theorem fO_17 (v0 : Bool) (h0 l0 : Int) (v1 : Bool) (h1 l1 p : Int) (s : ByteArray) (h : fO v0 h0 l0 v1 h1 l1 p s = 0) (hp : p = 17) : 8 ≤ s.size := by
  unfold fO fU at h
  rw [if_pos hp] at h
  split at h
  · cases h
  · omega
theorem fO_6 (v0 : Bool) (h0 l0 : Int) (v1 : Bool) (h1 l1 p : Int) (s : ByteArray) (h : fO v0 h0 l0 v1 h1 l1 p s = 0) (hp : p = 6) : 20 ≤ s.size := by
  unfold fO fT at h
  rw [if_neg (by omega), if_pos hp] at h
  split at h
  · cases h
  · omega
theorem fE_ok (v0 : Bool) (h0 l0 : Int) (v1 : Bool) (h1 l1 p : Int) (s : ByteArray) (h : fE v0 h0 l0 v1 h1 l1 p s = 0) : 8 ≤ s.size ∧ p = eP v0 := by
  unfold fE at h
  split at h
  · split at h
    · cases h
    · exact ⟨by omega, by assumption⟩
  · cases h
theorem fO_1 (v0 : Bool) (h0 l0 : Int) (v1 : Bool) (h1 l1 p : Int) (s : ByteArray) (h : fO v0 h0 l0 v1 h1 l1 p s = 0) (hp : p = 1 ∨ p = 58) : 8 ≤ s.size ∧ p = eP v0 := by
  unfold fO at h
  rw [if_neg (by omega), if_neg (by omega)] at h
  rcases hp with hp | hp
  · rw [if_pos hp] at h
    exact fE_ok _ _ _ _ _ _ _ _ h
  · rw [if_neg (by omega), if_pos hp] at h
    exact fE_ok _ _ _ _ _ _ _ _ h
set_option maxRecDepth 100000 in
set_option maxHeartbeats 4000000 in
set_option linter.unusedSimpArgs false in
theorem c_faultOfSum (v0 : Bool) (h0 l0 : Int) (v1 : Bool) (h1 l1 p t : Int) (s : ByteArray) (hs : s.size ≤ 9000) (hp : 0 ≤ p ∧ p < 256) (w : World) (hL : Laid w)  :
    Calls Try.prog 54 #[.agg (av 9 (ls [.bool (v0), .int .u64 h0, .int .u64 l0, .bool (v1), .int .u64 h1, .int .u64 l1, .int .u8 p, .int .u8 t, .string s]))] w fun r w' => r = .returned (.int .i64 (fS v0 h0 l0 v1 h1 l1 p s)) ∧ Below w.heap.size w w' := by
  go_enter Try.func54, Try.ntmps54
  have M := Mem.start hL
  refine wp_seq ?_
  refine rg_lit ?_
  refine pl_new M (want_no rfl) (some 1) rfl (.cells (av 9 (ls [.bool (v0), .int .u64 h0, .int .u64 l0, .bool (v1), .int .u64 h1, .int .u64 l1, .int .u8 p, .int .u8 t, .string s])) 26) (fun _ => by kernel_rfl) ?_
  intro g1 u1 M
  replace M : Mem ⟨w, []⟩ [⟨g1, .cells (av 9 (ls [.bool (v0), .int .u64 h0, .int .u64 l0, .bool (v1), .int .u64 h1, .int .u64 l1, .int .u8 p, .int .u8 t, .string s])) 26⟩] u1 := M
  refine pl_val (want_no rfl) (some 2) rfl (.int .i64 0) (fun _ => by kernel_rfl) ?_
  refine pl_nil ?_
  refine au_then ?_
  refine wp_seq ?_
  refine wp_seq ?_
  refine rg_lit ?_
  refine pl_load M (want_no rfl) (some 3) rfl 26 _ rfl 0 g1 0 (by kernel_rfl) 9 26 (ls [.bool (v0), .int .u64 h0, .int .u64 l0, .bool (v1), .int .u64 h1, .int .u64 l1, .int .u8 p, .int .u8 t, .string s]) rfl 9 (ls [.bool (v0), .int .u64 h0, .int .u64 l0, .bool (v1), .int .u64 h1, .int .u64 l1, .int .u8 p, .int .u8 t, .string s]) (fun j _ => by rw [Nat.zero_add]) (by decide) _ Try.underlying26 rfl inz26 ?_
  refine pl_call M (want_no rfl) (some 4) rfl 27 #[.agg (av 9 (ls [.bool (v0), .int .u64 h0, .int .u64 l0, .bool (v1), .int .u64 h1, .int .u64 l1, .int .u8 p, .int .u8 t, .string s]))] (.int .u16 (sO v0 h0 l0 v1 h1 l1 p s)) (fun _ => by kernel_rfl) (fun w M => c_sumOf v0 h0 l0 v1 h1 l1 p t s (by omega) (by omega) w M.laid) ?_
  intro u2 M
  by_cases c0 : (sO v0 h0 l0 v1 h1 l1 p s) = 0
  · skip
    refine pl_val (want_no rfl) (some 5) rfl (.bool false) (fun w => Eq.trans (b := .ok (.value (.bool (!(decide ((sO v0 h0 l0 v1 h1 l1 p s) = 0))))) w) (by kernel_rfl) (by rw [decide_eq_true (c0)]; rfl)) ?_
    refine pl_nil ?_
    refine au_then ?_
    refine wp_cond_false (by kernel_rfl) ?_
    refine wp_skip ?_
    refine au_then ?_
    refine wp_seq ?_
    refine rg_lit ?_
    refine pl_val (want_no rfl) (some 2) rfl (.int .i64 0) (fun _ => by kernel_rfl) ?_
    refine pl_nil ?_
    refine au_then ?_
    refine wp_ret ?_
    have e0 : (fS v0 h0 l0 v1 h1 l1 p s) = 0 := by simp only [fS, if_pos c0]
    exact bodyPost_ret (v := .int .i64 0) (results_tmp1 Try.results54 _ _ _ (by kernel_rfl)) (by kernel_rfl) ⟨by rw [e0], below_grown M.old⟩
  · skip
    refine pl_val (want_no rfl) (some 5) rfl (.bool true) (fun w => Eq.trans (b := .ok (.value (.bool (!(decide ((sO v0 h0 l0 v1 h1 l1 p s) = 0))))) w) (by kernel_rfl) (by rw [decide_eq_false (c0)]; rfl)) ?_
    refine pl_nil ?_
    refine au_then ?_
    refine wp_cond_true (by kernel_rfl) ?_
    refine wp_seq ?_
    refine rg_lit ?_
    refine pl_val (want_no rfl) (some 2) rfl (.int .i64 131) (fun _ => by kernel_rfl) ?_
    refine pl_nil ?_
    refine au_then ?_
    refine wp_ret ?_
    refine au_then_ret ?_
    have e0 : (fS v0 h0 l0 v1 h1 l1 p s) = 131 := by simp only [fS, if_neg c0]
    exact bodyPost_ret (v := .int .i64 131) (results_tmp1 Try.results54 _ _ _ (by kernel_rfl)) (by kernel_rfl) ⟨by rw [e0], below_grown M.old⟩

set_option maxRecDepth 100000 in
set_option maxHeartbeats 4000000 in
set_option linter.unusedSimpArgs false in
theorem c_faultOfUdp (v0 : Bool) (h0 l0 : Int) (v1 : Bool) (h1 l1 p t : Int) (s : ByteArray) (hs : s.size ≤ 9000) (hp : 0 ≤ p ∧ p < 256) (w : World) (hL : Laid w)  :
    Calls Try.prog 39 #[.agg (av 9 (ls [.bool (v0), .int .u64 h0, .int .u64 l0, .bool (v1), .int .u64 h1, .int .u64 l1, .int .u8 p, .int .u8 t, .string s]))] w fun r w' => r = .returned (.int .i64 (fU v0 h0 l0 v1 h1 l1 p s)) ∧ Below w.heap.size w w' := by
  go_enter Try.func39, Try.ntmps39
  have M := Mem.start hL
  refine wp_seq ?_
  refine rg_lit ?_
  refine pl_new M (want_no rfl) (some 1) rfl (.cells (av 9 (ls [.bool (v0), .int .u64 h0, .int .u64 l0, .bool (v1), .int .u64 h1, .int .u64 l1, .int .u8 p, .int .u8 t, .string s])) 26) (fun _ => by kernel_rfl) ?_
  intro g1 u1 M
  replace M : Mem ⟨w, []⟩ [⟨g1, .cells (av 9 (ls [.bool (v0), .int .u64 h0, .int .u64 l0, .bool (v1), .int .u64 h1, .int .u64 l1, .int .u8 p, .int .u8 t, .string s])) 26⟩] u1 := M
  refine pl_val (want_no rfl) (some 2) rfl (.int .i64 0) (fun _ => by kernel_rfl) ?_
  refine pl_nil ?_
  refine au_then ?_
  refine wp_seq ?_
  refine wp_block ?_
  refine wp_seq ?_
  refine rg_lit ?_
  refine pl_val (want_no rfl) (some 4) rfl (.pointer (some ⟨g1, 8, none⟩)) (fun _ => by kernel_rfl) ?_
  refine pl_cell M (want_no rfl) (some 5) rfl 9 _ rfl g1 8 (by kernel_rfl) (.string s) (fun _ => by kernel_rfl) (fun w M => M.cell 0 rfl (by decide) rfl) ?_
  refine pl_val (want_no rfl) (some 6) rfl (.int .i64 (s.size : Int)) (fun _ => by kernel_rfl) ?_
  by_cases c0 : (s.size : Int) < 8
  · skip
    refine pl_val (want_no rfl) (some 7) rfl (.bool true) (fun w => Eq.trans (b := .ok (.value (.bool (decide ((s.size : Int) < 8)))) w) (by kernel_rfl) (by rw [decide_eq_true (c0)])) ?_
    refine pl_val (want_no rfl) (some 3) rfl (.bool true) (fun _ => by kernel_rfl) ?_
    refine pl_nil ?_
    refine au_then ?_
    refine wp_cond_true (by kernel_rfl) ?_
    refine wp_seq ?_
    refine rg_lit ?_
    refine pl_val (want_no rfl) (some 2) rfl (.int .i64 7) (fun _ => by kernel_rfl) ?_
    refine pl_nil ?_
    refine au_then ?_
    refine wp_ret ?_
    refine au_block_ret ?_
    refine au_then_ret ?_
    have e0 : (fU v0 h0 l0 v1 h1 l1 p s) = 7 := by simp only [fU, if_pos c0]
    exact bodyPost_ret (v := .int .i64 7) (results_tmp1 Try.results39 _ _ _ (by kernel_rfl)) (by kernel_rfl) ⟨by rw [e0], below_grown M.old⟩
  · skip
    refine pl_val (want_no rfl) (some 7) rfl (.bool false) (fun w => Eq.trans (b := .ok (.value (.bool (decide ((s.size : Int) < 8)))) w) (by kernel_rfl) (by rw [decide_eq_false (c0)])) ?_
    refine pl_val (want_no rfl) (some 3) rfl (.bool false) (fun _ => by kernel_rfl) ?_
    refine pl_nil ?_
    refine au_then ?_
    refine wp_cond_false (by kernel_rfl) ?_
    refine wp_seq ?_
    refine rg_tail M 8 (by kernel_rfl) (by kernel_rfl) ?_
    simp only [List.take_succ_cons, List.take_zero]
    refine k_val (want_no rfl) (some 9) rfl (.pointer (some ⟨g1, 8, none⟩)) (fun _ => by kernel_rfl) ?_
    refine k_cell M (want_no rfl) (some 10) rfl 9 _ rfl g1 8 (by kernel_rfl) (.string s) (fun _ => by kernel_rfl) (fun w M => M.cell 0 rfl (by decide) rfl) ?_
    refine k_call M (want_no rfl) (some 11) rfl 44 #[.string s, .int .i64 4] (.int .u16 (pr s 4)) (fun _ => by kernel_rfl) (fun w M => c_pairAt s 4 (by omega) w M.laid) ?_
    refine k_val (want_no rfl) (some 12) rfl (.int .i64 (pr s 4)) (fun w => Eq.trans (b := .ok (.value (.int .i64 (cv .i64 (pr s 4)))) w) (by kernel_rfl) (by have := pr_nn s 4; rw [cv_i64 (by omega) (by omega)])) ?_
    refine k_val (want_no rfl) (some 13) rfl (.pointer (some ⟨g1, 8, none⟩)) (fun _ => by kernel_rfl) ?_
    refine k_cell M (want_no rfl) (some 14) rfl 9 _ rfl g1 8 (by kernel_rfl) (.string s) (fun _ => by kernel_rfl) (fun w M => M.cell 0 rfl (by decide) rfl) ?_
    refine k_val (want_no rfl) (some 15) rfl (.int .i64 (s.size : Int)) (fun _ => by kernel_rfl) ?_
    by_cases c1 : (pr s 4) = (s.size : Int)
    · skip
      refine k_val (want_no rfl) (some 16) rfl (.bool false) (fun w => Eq.trans (b := .ok (.value (.bool (!(decide ((pr s 4) = (s.size : Int)))))) w) (by kernel_rfl) (by rw [decide_eq_true (c1)]; rfl)) ?_
      refine kl_nil ?_
      intro u2 M
      replace M : Mem ⟨w, []⟩ [⟨g1, .cells (av 9 (ls [.bool (v0), .int .u64 h0, .int .u64 l0, .bool (v1), .int .u64 h1, .int .u64 l1, .int .u8 p, .int .u8 t, .string s])) 26⟩] u2 := M
      refine pl_val (want_no rfl) (some 8) rfl (.bool false) (fun _ => by kernel_rfl) ?_
      refine pl_nil ?_
      refine au_then ?_
      refine wp_cond_false (by kernel_rfl) ?_
      refine wp_seq ?_
      refine rg_lit ?_
      refine pl_val (want_no rfl) (some 18) rfl (.pointer (some ⟨g1, 0, none⟩)) (fun _ => by kernel_rfl) ?_
      refine pl_val (want_no rfl) (some 19) rfl (.pointer (some ⟨g1, 0, none⟩)) (fun _ => by kernel_rfl) ?_
      rcases Bool.eq_false_or_eq_true (v0) with c2 | c2
      · skip
        refine pl_cell M (want_no rfl) (some 20) rfl 4 _ rfl g1 0 (by kernel_rfl) (.bool true) (fun _ => by kernel_rfl) (fun w M => M.cell 0 rfl (by decide) (congrArg Value.bool c2)) ?_
        refine pl_val (want_no rfl) (some 21) rfl (.bool false) (fun _ => by kernel_rfl) ?_
        refine pl_val (want_no rfl) (some 22) rfl (.bool false) (fun _ => by kernel_rfl) ?_
        refine pl_skip (want_off 4 true rfl 22 rfl (by kernel_rfl)) (some 23) rfl ?_
        refine pl_skip (want_off 4 true rfl 22 rfl (by kernel_rfl)) (some 24) rfl ?_
        refine pl_skip (want_off 4 true rfl 22 rfl (by kernel_rfl)) (some 25) rfl ?_
        refine pl_skip (want_off 4 true rfl 22 rfl (by kernel_rfl)) (some 26) rfl ?_
        refine pl_val (want_no rfl) (some 27) rfl (.bool false) (fun _ => by kernel_rfl) ?_
        refine pl_val (want_no rfl) (some 17) rfl (.bool false) (fun _ => by kernel_rfl) ?_
        refine pl_nil ?_
        refine au_then ?_
        refine wp_cond_false (by kernel_rfl) ?_
        refine wp_skip ?_
        refine au_block ?_
        refine au_then ?_
        refine wp_seq ?_
        refine rg_lit ?_
        refine pl_load M (want_no rfl) (some 28) rfl 26 _ rfl 0 g1 0 (by kernel_rfl) 9 26 (ls [.bool (v0), .int .u64 h0, .int .u64 l0, .bool (v1), .int .u64 h1, .int .u64 l1, .int .u8 p, .int .u8 t, .string s]) rfl 9 (ls [.bool (v0), .int .u64 h0, .int .u64 l0, .bool (v1), .int .u64 h1, .int .u64 l1, .int .u8 p, .int .u8 t, .string s]) (fun j _ => by rw [Nat.zero_add]) (by decide) _ Try.underlying26 rfl inz26 ?_
        refine pl_call M (want_no rfl) (some 29) rfl 54 #[.agg (av 9 (ls [.bool (v0), .int .u64 h0, .int .u64 l0, .bool (v1), .int .u64 h1, .int .u64 l1, .int .u8 p, .int .u8 t, .string s]))] (.int .i64 (fS v0 h0 l0 v1 h1 l1 p s)) (fun _ => by kernel_rfl) (fun w M => c_faultOfSum v0 h0 l0 v1 h1 l1 p t s (by omega) (by omega) w M.laid) ?_
        intro u3 M
        refine pl_val (want_no rfl) (some 2) rfl (.int .i64 (fS v0 h0 l0 v1 h1 l1 p s)) (fun _ => by kernel_rfl) ?_
        refine pl_nil ?_
        refine au_then ?_
        refine wp_ret ?_
        have e0 : (fU v0 h0 l0 v1 h1 l1 p s) = (fS v0 h0 l0 v1 h1 l1 p s) := by simp only [fU, if_neg c0, if_pos c1, if_pos c2]
        exact bodyPost_ret (v := .int .i64 (fS v0 h0 l0 v1 h1 l1 p s)) (results_tmp1 Try.results39 _ _ _ (by kernel_rfl)) (by kernel_rfl) ⟨by rw [e0], below_grown M.old⟩
      · skip
        refine pl_cell M (want_no rfl) (some 20) rfl 4 _ rfl g1 0 (by kernel_rfl) (.bool false) (fun _ => by kernel_rfl) (fun w M => M.cell 0 rfl (by decide) (congrArg Value.bool c2)) ?_
        refine pl_val (want_no rfl) (some 21) rfl (.bool true) (fun _ => by kernel_rfl) ?_
        refine pl_val (want_no rfl) (some 22) rfl (.bool true) (fun _ => by kernel_rfl) ?_
        refine pl_val (want_on 4 true rfl 22 rfl (by kernel_rfl)) (some 23) rfl (.pointer (some ⟨g1, 8, none⟩)) (fun _ => by kernel_rfl) ?_
        refine pl_cell M (want_on 4 true rfl 22 rfl (by kernel_rfl)) (some 24) rfl 9 _ rfl g1 8 (by kernel_rfl) (.string s) (fun _ => by kernel_rfl) (fun w M => M.cell 0 rfl (by decide) rfl) ?_
        refine pl_call M (want_on 4 true rfl 22 rfl (by kernel_rfl)) (some 25) rfl 44 #[.string s, .int .i64 6] (.int .u16 (pr s 6)) (fun _ => by kernel_rfl) (fun w M => c_pairAt s 6 (by omega) w M.laid) ?_
        intro u3 M
        by_cases c3 : (pr s 6) = 0
        · skip
          refine pl_val (want_on 4 true rfl 22 rfl (by kernel_rfl)) (some 26) rfl (.bool true) (fun w => Eq.trans (b := .ok (.value (.bool (decide ((pr s 6) = 0)))) w) (by kernel_rfl) (by rw [decide_eq_true (c3)])) ?_
          refine pl_val (want_no rfl) (some 27) rfl (.bool true) (fun _ => by kernel_rfl) ?_
          refine pl_val (want_no rfl) (some 17) rfl (.bool true) (fun _ => by kernel_rfl) ?_
          refine pl_nil ?_
          refine au_then ?_
          refine wp_cond_true (by kernel_rfl) ?_
          refine wp_seq ?_
          refine rg_lit ?_
          refine pl_val (want_no rfl) (some 2) rfl (.int .i64 0) (fun _ => by kernel_rfl) ?_
          refine pl_nil ?_
          refine au_then ?_
          refine wp_ret ?_
          refine au_block_ret ?_
          refine au_then_ret ?_
          have e0 : (fU v0 h0 l0 v1 h1 l1 p s) = 0 := by simp only [fU, if_neg c0, if_pos c1, if_neg (Bool.eq_false_iff.mp c2), if_pos c3]
          exact bodyPost_ret (v := .int .i64 0) (results_tmp1 Try.results39 _ _ _ (by kernel_rfl)) (by kernel_rfl) ⟨by rw [e0], below_grown M.old⟩
        · skip
          refine pl_val (want_on 4 true rfl 22 rfl (by kernel_rfl)) (some 26) rfl (.bool false) (fun w => Eq.trans (b := .ok (.value (.bool (decide ((pr s 6) = 0)))) w) (by kernel_rfl) (by rw [decide_eq_false (c3)])) ?_
          refine pl_val (want_no rfl) (some 27) rfl (.bool false) (fun _ => by kernel_rfl) ?_
          refine pl_val (want_no rfl) (some 17) rfl (.bool false) (fun _ => by kernel_rfl) ?_
          refine pl_nil ?_
          refine au_then ?_
          refine wp_cond_false (by kernel_rfl) ?_
          refine wp_skip ?_
          refine au_block ?_
          refine au_then ?_
          refine wp_seq ?_
          refine rg_lit ?_
          refine pl_load M (want_no rfl) (some 28) rfl 26 _ rfl 0 g1 0 (by kernel_rfl) 9 26 (ls [.bool (v0), .int .u64 h0, .int .u64 l0, .bool (v1), .int .u64 h1, .int .u64 l1, .int .u8 p, .int .u8 t, .string s]) rfl 9 (ls [.bool (v0), .int .u64 h0, .int .u64 l0, .bool (v1), .int .u64 h1, .int .u64 l1, .int .u8 p, .int .u8 t, .string s]) (fun j _ => by rw [Nat.zero_add]) (by decide) _ Try.underlying26 rfl inz26 ?_
          refine pl_call M (want_no rfl) (some 29) rfl 54 #[.agg (av 9 (ls [.bool (v0), .int .u64 h0, .int .u64 l0, .bool (v1), .int .u64 h1, .int .u64 l1, .int .u8 p, .int .u8 t, .string s]))] (.int .i64 (fS v0 h0 l0 v1 h1 l1 p s)) (fun _ => by kernel_rfl) (fun w M => c_faultOfSum v0 h0 l0 v1 h1 l1 p t s (by omega) (by omega) w M.laid) ?_
          intro u4 M
          refine pl_val (want_no rfl) (some 2) rfl (.int .i64 (fS v0 h0 l0 v1 h1 l1 p s)) (fun _ => by kernel_rfl) ?_
          refine pl_nil ?_
          refine au_then ?_
          refine wp_ret ?_
          have e0 : (fU v0 h0 l0 v1 h1 l1 p s) = (fS v0 h0 l0 v1 h1 l1 p s) := by simp only [fU, if_neg c0, if_pos c1, if_neg (Bool.eq_false_iff.mp c2), if_neg c3]
          exact bodyPost_ret (v := .int .i64 (fS v0 h0 l0 v1 h1 l1 p s)) (results_tmp1 Try.results39 _ _ _ (by kernel_rfl)) (by kernel_rfl) ⟨by rw [e0], below_grown M.old⟩
    · skip
      refine k_val (want_no rfl) (some 16) rfl (.bool true) (fun w => Eq.trans (b := .ok (.value (.bool (!(decide ((pr s 4) = (s.size : Int)))))) w) (by kernel_rfl) (by rw [decide_eq_false (c1)]; rfl)) ?_
      refine kl_nil ?_
      intro u2 M
      replace M : Mem ⟨w, []⟩ [⟨g1, .cells (av 9 (ls [.bool (v0), .int .u64 h0, .int .u64 l0, .bool (v1), .int .u64 h1, .int .u64 l1, .int .u8 p, .int .u8 t, .string s])) 26⟩] u2 := M
      refine pl_val (want_no rfl) (some 8) rfl (.bool true) (fun _ => by kernel_rfl) ?_
      refine pl_nil ?_
      refine au_then ?_
      refine wp_cond_true (by kernel_rfl) ?_
      refine wp_seq ?_
      refine rg_lit ?_
      refine pl_val (want_no rfl) (some 2) rfl (.int .i64 8) (fun _ => by kernel_rfl) ?_
      refine pl_nil ?_
      refine au_then ?_
      refine wp_ret ?_
      refine au_block_ret ?_
      refine au_then_ret ?_
      have e0 : (fU v0 h0 l0 v1 h1 l1 p s) = 8 := by simp only [fU, if_neg c0, if_neg c1]
      exact bodyPost_ret (v := .int .i64 8) (results_tmp1 Try.results39 _ _ _ (by kernel_rfl)) (by kernel_rfl) ⟨by rw [e0], below_grown M.old⟩

set_option maxRecDepth 100000 in
set_option maxHeartbeats 4000000 in
set_option linter.unusedSimpArgs false in
theorem c_faultOfTcp (v0 : Bool) (h0 l0 : Int) (v1 : Bool) (h1 l1 p t : Int) (s : ByteArray) (hs : s.size ≤ 9000) (hp : 0 ≤ p ∧ p < 256) (w : World) (hL : Laid w)  :
    Calls Try.prog 40 #[.agg (av 9 (ls [.bool (v0), .int .u64 h0, .int .u64 l0, .bool (v1), .int .u64 h1, .int .u64 l1, .int .u8 p, .int .u8 t, .string s]))] w fun r w' => r = .returned (.int .i64 (fT v0 h0 l0 v1 h1 l1 p s)) ∧ Below w.heap.size w w' := by
  go_enter Try.func40, Try.ntmps40
  have M := Mem.start hL
  refine wp_seq ?_
  refine rg_lit ?_
  refine pl_new M (want_no rfl) (some 1) rfl (.cells (av 9 (ls [.bool (v0), .int .u64 h0, .int .u64 l0, .bool (v1), .int .u64 h1, .int .u64 l1, .int .u8 p, .int .u8 t, .string s])) 26) (fun _ => by kernel_rfl) ?_
  intro g1 u1 M
  replace M : Mem ⟨w, []⟩ [⟨g1, .cells (av 9 (ls [.bool (v0), .int .u64 h0, .int .u64 l0, .bool (v1), .int .u64 h1, .int .u64 l1, .int .u8 p, .int .u8 t, .string s])) 26⟩] u1 := M
  refine pl_val (want_no rfl) (some 2) rfl (.int .i64 0) (fun _ => by kernel_rfl) ?_
  refine pl_nil ?_
  refine au_then ?_
  refine wp_seq ?_
  refine wp_seq ?_
  refine rg_lit ?_
  refine pl_val (want_no rfl) (some 4) rfl (.pointer (some ⟨g1, 8, none⟩)) (fun _ => by kernel_rfl) ?_
  refine pl_cell M (want_no rfl) (some 5) rfl 9 _ rfl g1 8 (by kernel_rfl) (.string s) (fun _ => by kernel_rfl) (fun w M => M.cell 0 rfl (by decide) rfl) ?_
  refine pl_val (want_no rfl) (some 6) rfl (.int .i64 (s.size : Int)) (fun _ => by kernel_rfl) ?_
  by_cases c0 : (s.size : Int) < 20
  · skip
    refine pl_val (want_no rfl) (some 7) rfl (.bool true) (fun w => Eq.trans (b := .ok (.value (.bool (decide ((s.size : Int) < 20)))) w) (by kernel_rfl) (by rw [decide_eq_true (c0)])) ?_
    refine pl_nil ?_
    refine au_then ?_
    refine wp_cond_true (by kernel_rfl) ?_
    refine wp_seq ?_
    refine rg_lit ?_
    refine pl_val (want_no rfl) (some 2) rfl (.int .i64 7) (fun _ => by kernel_rfl) ?_
    refine pl_nil ?_
    refine au_then ?_
    refine wp_ret ?_
    refine au_then_ret ?_
    have e0 : (fT v0 h0 l0 v1 h1 l1 p s) = 7 := by simp only [fT, if_pos c0]
    exact bodyPost_ret (v := .int .i64 7) (results_tmp1 Try.results40 _ _ _ (by kernel_rfl)) (by kernel_rfl) ⟨by rw [e0], below_grown M.old⟩
  · skip
    refine pl_val (want_no rfl) (some 7) rfl (.bool false) (fun w => Eq.trans (b := .ok (.value (.bool (decide ((s.size : Int) < 20)))) w) (by kernel_rfl) (by rw [decide_eq_false (c0)])) ?_
    refine pl_nil ?_
    refine au_then ?_
    refine wp_cond_false (by kernel_rfl) ?_
    refine wp_skip ?_
    refine au_then ?_
    refine wp_seq ?_
    refine wp_seq ?_
    refine rg_lit ?_
    refine pl_load M (want_no rfl) (some 8) rfl 26 _ rfl 0 g1 0 (by kernel_rfl) 9 26 (ls [.bool (v0), .int .u64 h0, .int .u64 l0, .bool (v1), .int .u64 h1, .int .u64 l1, .int .u8 p, .int .u8 t, .string s]) rfl 9 (ls [.bool (v0), .int .u64 h0, .int .u64 l0, .bool (v1), .int .u64 h1, .int .u64 l1, .int .u8 p, .int .u8 t, .string s]) (fun j _ => by rw [Nat.zero_add]) (by decide) _ Try.underlying26 rfl inz26 ?_
    refine pl_call M (want_no rfl) (some 9) rfl 43 #[.agg (av 9 (ls [.bool (v0), .int .u64 h0, .int .u64 l0, .bool (v1), .int .u64 h1, .int .u64 l1, .int .u8 p, .int .u8 t, .string s]))] (.int .i64 (hdO p s)) (fun _ => by kernel_rfl) (fun w M => c_headerOf v0 h0 l0 v1 h1 l1 p t s (by omega) w M.laid) ?_
    intro u2 M
    refine pl_val (want_no rfl) (some 3) rfl (.int .i64 (hdO p s)) (fun _ => by kernel_rfl) ?_
    refine pl_nil ?_
    refine au_then ?_
    refine wp_seq ?_
    refine rg_lit ?_
    refine pl_val (want_no rfl) (some 10) rfl (.int .i64 (hdO p s)) (fun _ => by kernel_rfl) ?_
    by_cases c1 : (hdO p s) < 20
    · skip
      refine pl_val (want_no rfl) (some 11) rfl (.bool true) (fun w => Eq.trans (b := .ok (.value (.bool (decide ((hdO p s) < 20)))) w) (by kernel_rfl) (by rw [decide_eq_true (c1)])) ?_
      refine pl_val (want_no rfl) (some 12) rfl (.bool true) (fun _ => by kernel_rfl) ?_
      refine pl_skip (want_off 2 false rfl 12 rfl (by kernel_rfl)) (some 13) rfl ?_
      refine pl_skip (want_off 2 false rfl 12 rfl (by kernel_rfl)) (some 14) rfl ?_
      refine pl_skip (want_off 2 false rfl 12 rfl (by kernel_rfl)) (some 15) rfl ?_
      refine pl_skip (want_off 2 false rfl 12 rfl (by kernel_rfl)) (some 16) rfl ?_
      refine pl_skip (want_off 2 false rfl 12 rfl (by kernel_rfl)) (some 17) rfl ?_
      refine pl_val (want_no rfl) (some 18) rfl (.bool true) (fun _ => by kernel_rfl) ?_
      refine pl_nil ?_
      refine au_then ?_
      refine wp_cond_true (by kernel_rfl) ?_
      refine wp_seq ?_
      refine rg_lit ?_
      refine pl_val (want_no rfl) (some 2) rfl (.int .i64 8) (fun _ => by kernel_rfl) ?_
      refine pl_nil ?_
      refine au_then ?_
      refine wp_ret ?_
      refine au_then_ret ?_
      have e0 : (fT v0 h0 l0 v1 h1 l1 p s) = 8 := by simp only [fT, if_neg c0, if_pos c1]
      exact bodyPost_ret (v := .int .i64 8) (results_tmp1 Try.results40 _ _ _ (by kernel_rfl)) (by kernel_rfl) ⟨by rw [e0], below_grown M.old⟩
    · skip
      refine pl_val (want_no rfl) (some 11) rfl (.bool false) (fun w => Eq.trans (b := .ok (.value (.bool (decide ((hdO p s) < 20)))) w) (by kernel_rfl) (by rw [decide_eq_false (c1)])) ?_
      refine pl_val (want_no rfl) (some 12) rfl (.bool false) (fun _ => by kernel_rfl) ?_
      refine pl_val (want_on 2 false rfl 12 rfl (by kernel_rfl)) (some 13) rfl (.int .i64 (hdO p s)) (fun _ => by kernel_rfl) ?_
      refine pl_val (want_on 2 false rfl 12 rfl (by kernel_rfl)) (some 14) rfl (.pointer (some ⟨g1, 8, none⟩)) (fun _ => by kernel_rfl) ?_
      refine pl_cell M (want_on 2 false rfl 12 rfl (by kernel_rfl)) (some 15) rfl 9 _ rfl g1 8 (by kernel_rfl) (.string s) (fun _ => by kernel_rfl) (fun w M => M.cell 0 rfl (by decide) rfl) ?_
      refine pl_val (want_on 2 false rfl 12 rfl (by kernel_rfl)) (some 16) rfl (.int .i64 (s.size : Int)) (fun _ => by kernel_rfl) ?_
      by_cases c2 : (s.size : Int) < (hdO p s)
      · skip
        refine pl_val (want_on 2 false rfl 12 rfl (by kernel_rfl)) (some 17) rfl (.bool true) (fun w => Eq.trans (b := .ok (.value (.bool (decide ((s.size : Int) < (hdO p s))))) w) (by kernel_rfl) (by rw [decide_eq_true (c2)])) ?_
        refine pl_val (want_no rfl) (some 18) rfl (.bool true) (fun _ => by kernel_rfl) ?_
        refine pl_nil ?_
        refine au_then ?_
        refine wp_cond_true (by kernel_rfl) ?_
        refine wp_seq ?_
        refine rg_lit ?_
        refine pl_val (want_no rfl) (some 2) rfl (.int .i64 8) (fun _ => by kernel_rfl) ?_
        refine pl_nil ?_
        refine au_then ?_
        refine wp_ret ?_
        refine au_then_ret ?_
        have e0 : (fT v0 h0 l0 v1 h1 l1 p s) = 8 := by simp only [fT, if_neg c0, if_neg c1, if_pos c2]
        exact bodyPost_ret (v := .int .i64 8) (results_tmp1 Try.results40 _ _ _ (by kernel_rfl)) (by kernel_rfl) ⟨by rw [e0], below_grown M.old⟩
      · skip
        refine pl_val (want_on 2 false rfl 12 rfl (by kernel_rfl)) (some 17) rfl (.bool false) (fun w => Eq.trans (b := .ok (.value (.bool (decide ((s.size : Int) < (hdO p s))))) w) (by kernel_rfl) (by rw [decide_eq_false (c2)])) ?_
        refine pl_val (want_no rfl) (some 18) rfl (.bool false) (fun _ => by kernel_rfl) ?_
        refine pl_nil ?_
        refine au_then ?_
        refine wp_cond_false (by kernel_rfl) ?_
        refine wp_skip ?_
        refine au_then ?_
        refine wp_seq ?_
        refine rg_lit ?_
        refine pl_load M (want_no rfl) (some 19) rfl 26 _ rfl 0 g1 0 (by kernel_rfl) 9 26 (ls [.bool (v0), .int .u64 h0, .int .u64 l0, .bool (v1), .int .u64 h1, .int .u64 l1, .int .u8 p, .int .u8 t, .string s]) rfl 9 (ls [.bool (v0), .int .u64 h0, .int .u64 l0, .bool (v1), .int .u64 h1, .int .u64 l1, .int .u8 p, .int .u8 t, .string s]) (fun j _ => by rw [Nat.zero_add]) (by decide) _ Try.underlying26 rfl inz26 ?_
        refine pl_call M (want_no rfl) (some 20) rfl 54 #[.agg (av 9 (ls [.bool (v0), .int .u64 h0, .int .u64 l0, .bool (v1), .int .u64 h1, .int .u64 l1, .int .u8 p, .int .u8 t, .string s]))] (.int .i64 (fS v0 h0 l0 v1 h1 l1 p s)) (fun _ => by kernel_rfl) (fun w M => c_faultOfSum v0 h0 l0 v1 h1 l1 p t s (by omega) (by omega) w M.laid) ?_
        intro u3 M
        refine pl_val (want_no rfl) (some 2) rfl (.int .i64 (fS v0 h0 l0 v1 h1 l1 p s)) (fun _ => by kernel_rfl) ?_
        refine pl_nil ?_
        refine au_then ?_
        refine wp_ret ?_
        have e0 : (fT v0 h0 l0 v1 h1 l1 p s) = (fS v0 h0 l0 v1 h1 l1 p s) := by simp only [fT, if_neg c0, if_neg c1, if_neg c2]
        exact bodyPost_ret (v := .int .i64 (fS v0 h0 l0 v1 h1 l1 p s)) (results_tmp1 Try.results40 _ _ _ (by kernel_rfl)) (by kernel_rfl) ⟨by rw [e0], below_grown M.old⟩

set_option maxRecDepth 100000 in
set_option maxHeartbeats 4000000 in
set_option linter.unusedSimpArgs false in
theorem c_faultOfEcho (v0 : Bool) (h0 l0 : Int) (v1 : Bool) (h1 l1 p t : Int) (s : ByteArray) (hs : s.size ≤ 9000) (hp : 0 ≤ p ∧ p < 256) (w : World) (hL : Laid w)  :
    Calls Try.prog 41 #[.agg (av 9 (ls [.bool (v0), .int .u64 h0, .int .u64 l0, .bool (v1), .int .u64 h1, .int .u64 l1, .int .u8 p, .int .u8 t, .string s]))] w fun r w' => r = .returned (.int .i64 (fE v0 h0 l0 v1 h1 l1 p s)) ∧ Below w.heap.size w w' := by
  go_enter Try.func41, Try.ntmps41
  have M := Mem.start hL
  refine wp_seq ?_
  refine rg_lit ?_
  refine pl_new M (want_no rfl) (some 1) rfl (.cells (av 9 (ls [.bool (v0), .int .u64 h0, .int .u64 l0, .bool (v1), .int .u64 h1, .int .u64 l1, .int .u8 p, .int .u8 t, .string s])) 26) (fun _ => by kernel_rfl) ?_
  intro g1 u1 M
  replace M : Mem ⟨w, []⟩ [⟨g1, .cells (av 9 (ls [.bool (v0), .int .u64 h0, .int .u64 l0, .bool (v1), .int .u64 h1, .int .u64 l1, .int .u8 p, .int .u8 t, .string s])) 26⟩] u1 := M
  refine pl_val (want_no rfl) (some 2) rfl (.int .i64 0) (fun _ => by kernel_rfl) ?_
  refine pl_nil ?_
  refine au_then ?_
  refine wp_seq ?_
  refine wp_block ?_
  refine wp_seq ?_
  refine rg_tail M 8 (by kernel_rfl) (by kernel_rfl) ?_
  simp only [List.take_succ_cons, List.take_zero]
  refine k_load M (want_no rfl) (some 4) rfl 26 _ rfl 0 g1 0 (by kernel_rfl) 9 26 (ls [.bool (v0), .int .u64 h0, .int .u64 l0, .bool (v1), .int .u64 h1, .int .u64 l1, .int .u8 p, .int .u8 t, .string s]) rfl 9 (ls [.bool (v0), .int .u64 h0, .int .u64 l0, .bool (v1), .int .u64 h1, .int .u64 l1, .int .u8 p, .int .u8 t, .string s]) (fun j _ => by rw [Nat.zero_add]) (by decide) _ Try.underlying26 rfl inz26 ?_
  refine k_call M (want_no rfl) (some 5) rfl 42 #[.agg (av 9 (ls [.bool (v0), .int .u64 h0, .int .u64 l0, .bool (v1), .int .u64 h1, .int .u64 l1, .int .u8 p, .int .u8 t, .string s]))] (.agg (av 9 (ls [.int .u8 p, .bool (v0), .int .u64 h0, .int .u64 l0, .bool (v1), .int .u64 h1, .int .u64 l1, .int .u16 0, .int .u16 0]))) (fun _ => by kernel_rfl) (fun w M => c_bareFlow v0 h0 l0 v1 h1 l1 p t s w M.laid) ?_
  refine k_val (want_no rfl) (some 6) rfl (.pointer (some ⟨g1, 0, none⟩)) (fun _ => by kernel_rfl) ?_
  refine k_load M (want_no rfl) (some 7) rfl 24 _ rfl 0 g1 0 (by kernel_rfl) 9 26 (ls [.bool (v0), .int .u64 h0, .int .u64 l0, .bool (v1), .int .u64 h1, .int .u64 l1, .int .u8 p, .int .u8 t, .string s]) rfl 3 (ls [.bool (v0), .int .u64 h0, .int .u64 l0]) (part_ls _ 0 3 _ rfl) (by decide) _ Try.underlying24 rfl inz24 ?_
  refine k_val (want_no rfl) (some 8) rfl (.pointer (some ⟨g1, 3, none⟩)) (fun _ => by kernel_rfl) ?_
  refine k_load M (want_no rfl) (some 9) rfl 24 _ rfl 0 g1 3 (by kernel_rfl) 9 26 (ls [.bool (v0), .int .u64 h0, .int .u64 l0, .bool (v1), .int .u64 h1, .int .u64 l1, .int .u8 p, .int .u8 t, .string s]) rfl 3 (ls [.bool (v1), .int .u64 h1, .int .u64 l1]) (part_ls _ 3 3 _ rfl) (by decide) _ Try.underlying24 rfl inz24 ?_
  refine k_call M (want_no rfl) (some 10) rfl 35 #[.agg (av 3 (ls [.bool (v0), .int .u64 h0, .int .u64 l0])), .agg (av 3 (ls [.bool (v1), .int .u64 h1, .int .u64 l1])), .int .u16 0] (.agg (av 9 (ls [.int .u8 (eP v0), .bool (v0), .int .u64 h0, .int .u64 l0, .bool (v1), .int .u64 h1, .int .u64 l1, .int .u16 0, .int .u16 0]))) (fun _ => by kernel_rfl) (fun w M => c_echoFlow v0 h0 l0 v1 h1 l1 0 w M.laid) ?_
  by_cases c0 : p = (eP v0) ∧ v0 = v0 ∧ h0 = h0 ∧ l0 = l0 ∧ v1 = v1 ∧ h1 = h1 ∧ l1 = l1 ∧ (0 : Int) = (0 : Int) ∧ (0 : Int) = (0 : Int)
  · skip
    refine k_val (want_no rfl) (some 11) rfl (.bool false) (fun w => (neq29 p (eP v0) v0 v0 h0 h0 l0 l0 v1 v1 h1 h1 l1 l1 (0 : Int) (0 : Int) (0 : Int) (0 : Int) _ _ rfl (by kernel_rfl) (by kernel_rfl) w).trans (by rw [decide_eq_true c0]; rfl)) ?_
    refine kl_nil ?_
    intro u2 M
    replace M : Mem ⟨w, []⟩ [⟨g1, .cells (av 9 (ls [.bool (v0), .int .u64 h0, .int .u64 l0, .bool (v1), .int .u64 h1, .int .u64 l1, .int .u8 p, .int .u8 t, .string s])) 26⟩] u2 := M
    refine pl_val (want_no rfl) (some 3) rfl (.bool false) (fun _ => by kernel_rfl) ?_
    refine pl_nil ?_
    refine au_then ?_
    refine wp_cond_false (by kernel_rfl) ?_
    refine wp_seq ?_
    refine rg_lit ?_
    refine pl_val (want_no rfl) (some 13) rfl (.pointer (some ⟨g1, 8, none⟩)) (fun _ => by kernel_rfl) ?_
    refine pl_cell M (want_no rfl) (some 14) rfl 9 _ rfl g1 8 (by kernel_rfl) (.string s) (fun _ => by kernel_rfl) (fun w M => M.cell 0 rfl (by decide) rfl) ?_
    refine pl_val (want_no rfl) (some 15) rfl (.int .i64 (s.size : Int)) (fun _ => by kernel_rfl) ?_
    by_cases c1 : (s.size : Int) < 8
    · skip
      refine pl_val (want_no rfl) (some 16) rfl (.bool true) (fun w => Eq.trans (b := .ok (.value (.bool (decide ((s.size : Int) < 8)))) w) (by kernel_rfl) (by rw [decide_eq_true (c1)])) ?_
      refine pl_val (want_no rfl) (some 12) rfl (.bool true) (fun _ => by kernel_rfl) ?_
      refine pl_nil ?_
      refine au_then ?_
      refine wp_cond_true (by kernel_rfl) ?_
      refine wp_seq ?_
      refine rg_lit ?_
      refine pl_val (want_no rfl) (some 2) rfl (.int .i64 7) (fun _ => by kernel_rfl) ?_
      refine pl_nil ?_
      refine au_then ?_
      refine wp_ret ?_
      refine au_block_ret ?_
      refine au_then_ret ?_
      have e0 : (fE v0 h0 l0 v1 h1 l1 p s) = 7 := by unfold fE; rw [if_pos c0.1, if_pos c1]
      exact bodyPost_ret (v := .int .i64 7) (results_tmp1 Try.results41 _ _ _ (by kernel_rfl)) (by kernel_rfl) ⟨by rw [e0], below_grown M.old⟩
    · skip
      refine pl_val (want_no rfl) (some 16) rfl (.bool false) (fun w => Eq.trans (b := .ok (.value (.bool (decide ((s.size : Int) < 8)))) w) (by kernel_rfl) (by rw [decide_eq_false (c1)])) ?_
      refine pl_val (want_no rfl) (some 12) rfl (.bool false) (fun _ => by kernel_rfl) ?_
      refine pl_nil ?_
      refine au_then ?_
      refine wp_cond_false (by kernel_rfl) ?_
      refine wp_skip ?_
      refine au_block ?_
      refine au_then ?_
      refine wp_seq ?_
      refine rg_lit ?_
      refine pl_load M (want_no rfl) (some 17) rfl 26 _ rfl 0 g1 0 (by kernel_rfl) 9 26 (ls [.bool (v0), .int .u64 h0, .int .u64 l0, .bool (v1), .int .u64 h1, .int .u64 l1, .int .u8 p, .int .u8 t, .string s]) rfl 9 (ls [.bool (v0), .int .u64 h0, .int .u64 l0, .bool (v1), .int .u64 h1, .int .u64 l1, .int .u8 p, .int .u8 t, .string s]) (fun j _ => by rw [Nat.zero_add]) (by decide) _ Try.underlying26 rfl inz26 ?_
      refine pl_call M (want_no rfl) (some 18) rfl 54 #[.agg (av 9 (ls [.bool (v0), .int .u64 h0, .int .u64 l0, .bool (v1), .int .u64 h1, .int .u64 l1, .int .u8 p, .int .u8 t, .string s]))] (.int .i64 (fS v0 h0 l0 v1 h1 l1 p s)) (fun _ => by kernel_rfl) (fun w M => c_faultOfSum v0 h0 l0 v1 h1 l1 p t s (by omega) (by omega) w M.laid) ?_
      intro u3 M
      refine pl_val (want_no rfl) (some 2) rfl (.int .i64 (fS v0 h0 l0 v1 h1 l1 p s)) (fun _ => by kernel_rfl) ?_
      refine pl_nil ?_
      refine au_then ?_
      refine wp_ret ?_
      have e0 : (fE v0 h0 l0 v1 h1 l1 p s) = (fS v0 h0 l0 v1 h1 l1 p s) := by unfold fE; rw [if_pos c0.1, if_neg c1]
      exact bodyPost_ret (v := .int .i64 (fS v0 h0 l0 v1 h1 l1 p s)) (results_tmp1 Try.results41 _ _ _ (by kernel_rfl)) (by kernel_rfl) ⟨by rw [e0], below_grown M.old⟩
  · skip
    refine k_val (want_no rfl) (some 11) rfl (.bool true) (fun w => (neq29 p (eP v0) v0 v0 h0 h0 l0 l0 v1 v1 h1 h1 l1 l1 (0 : Int) (0 : Int) (0 : Int) (0 : Int) _ _ rfl (by kernel_rfl) (by kernel_rfl) w).trans (by rw [decide_eq_false c0]; rfl)) ?_
    refine kl_nil ?_
    intro u2 M
    replace M : Mem ⟨w, []⟩ [⟨g1, .cells (av 9 (ls [.bool (v0), .int .u64 h0, .int .u64 l0, .bool (v1), .int .u64 h1, .int .u64 l1, .int .u8 p, .int .u8 t, .string s])) 26⟩] u2 := M
    refine pl_val (want_no rfl) (some 3) rfl (.bool true) (fun _ => by kernel_rfl) ?_
    refine pl_nil ?_
    refine au_then ?_
    refine wp_cond_true (by kernel_rfl) ?_
    refine wp_seq ?_
    refine rg_lit ?_
    refine pl_val (want_no rfl) (some 2) rfl (.int .i64 8) (fun _ => by kernel_rfl) ?_
    refine pl_nil ?_
    refine au_then ?_
    refine wp_ret ?_
    refine au_block_ret ?_
    refine au_then_ret ?_
    have e0 : (fE v0 h0 l0 v1 h1 l1 p s) = 8 := by unfold fE; exact if_neg (fun h => c0 ⟨h, rfl, rfl, rfl, rfl, rfl, rfl, rfl, rfl⟩)
    exact bodyPost_ret (v := .int .i64 8) (results_tmp1 Try.results41 _ _ _ (by kernel_rfl)) (by kernel_rfl) ⟨by rw [e0], below_grown M.old⟩

set_option maxRecDepth 100000 in
set_option maxHeartbeats 4000000 in
set_option linter.unusedSimpArgs false in
theorem c_faultOf (v0 : Bool) (h0 l0 : Int) (v1 : Bool) (h1 l1 p t : Int) (s : ByteArray) (hs : s.size ≤ 9000) (hp : 0 ≤ p ∧ p < 256) (w : World) (hL : Laid w)  :
    Calls Try.prog 22 #[.agg (av 9 (ls [.bool (v0), .int .u64 h0, .int .u64 l0, .bool (v1), .int .u64 h1, .int .u64 l1, .int .u8 p, .int .u8 t, .string s]))] w fun r w' => r = .returned (.int .i64 (fO v0 h0 l0 v1 h1 l1 p s)) ∧ Below w.heap.size w w' := by
  go_enter Try.func22, Try.ntmps22
  have M := Mem.start hL
  refine wp_seq ?_
  refine rg_lit ?_
  refine pl_new M (want_no rfl) (some 1) rfl (.cells (av 9 (ls [.bool (v0), .int .u64 h0, .int .u64 l0, .bool (v1), .int .u64 h1, .int .u64 l1, .int .u8 p, .int .u8 t, .string s])) 26) (fun _ => by kernel_rfl) ?_
  intro g1 u1 M
  replace M : Mem ⟨w, []⟩ [⟨g1, .cells (av 9 (ls [.bool (v0), .int .u64 h0, .int .u64 l0, .bool (v1), .int .u64 h1, .int .u64 l1, .int .u8 p, .int .u8 t, .string s])) 26⟩] u1 := M
  refine pl_val (want_no rfl) (some 2) rfl (.int .i64 0) (fun _ => by kernel_rfl) ?_
  refine pl_nil ?_
  refine au_then ?_
  refine wp_seq ?_
  refine wp_seq ?_
  refine rg_lit ?_
  refine pl_val (want_no rfl) (some 3) rfl (.pointer (some ⟨g1, 6, none⟩)) (fun _ => by kernel_rfl) ?_
  refine pl_cell M (want_no rfl) (some 4) rfl 5 _ rfl g1 6 (by kernel_rfl) (.int .u8 p) (fun _ => by kernel_rfl) (fun w M => M.cell 0 rfl (by decide) rfl) ?_
  refine pl_nil ?_
  refine au_then ?_
  refine wp_block ?_
  refine wp_seq ?_
  refine rg_lit ?_
  by_cases c0 : p = 17
  · skip
    refine pl_val (want_no rfl) (some 6) rfl (.bool true) (fun w => Eq.trans (b := .ok (.value (.bool (decide (p = 17)))) w) (by kernel_rfl) (by rw [decide_eq_true (c0)])) ?_
    refine pl_val (want_no rfl) (some 5) rfl (.bool true) (fun _ => by kernel_rfl) ?_
    refine pl_nil ?_
    refine au_then ?_
    refine wp_cond_true (by kernel_rfl) ?_
    refine wp_seq ?_
    refine rg_lit ?_
    refine pl_load M (want_no rfl) (some 7) rfl 26 _ rfl 0 g1 0 (by kernel_rfl) 9 26 (ls [.bool (v0), .int .u64 h0, .int .u64 l0, .bool (v1), .int .u64 h1, .int .u64 l1, .int .u8 p, .int .u8 t, .string s]) rfl 9 (ls [.bool (v0), .int .u64 h0, .int .u64 l0, .bool (v1), .int .u64 h1, .int .u64 l1, .int .u8 p, .int .u8 t, .string s]) (fun j _ => by rw [Nat.zero_add]) (by decide) _ Try.underlying26 rfl inz26 ?_
    refine pl_call M (want_no rfl) (some 8) rfl 39 #[.agg (av 9 (ls [.bool (v0), .int .u64 h0, .int .u64 l0, .bool (v1), .int .u64 h1, .int .u64 l1, .int .u8 p, .int .u8 t, .string s]))] (.int .i64 (fU v0 h0 l0 v1 h1 l1 p s)) (fun _ => by kernel_rfl) (fun w M => c_faultOfUdp v0 h0 l0 v1 h1 l1 p t s (by omega) (by omega) w M.laid) ?_
    intro u2 M
    refine pl_val (want_no rfl) (some 2) rfl (.int .i64 (fU v0 h0 l0 v1 h1 l1 p s)) (fun _ => by kernel_rfl) ?_
    refine pl_nil ?_
    refine au_then ?_
    refine wp_ret ?_
    refine au_block_ret ?_
    refine au_then_ret ?_
    have e0 : (fO v0 h0 l0 v1 h1 l1 p s) = (fU v0 h0 l0 v1 h1 l1 p s) := by simp only [fO, if_pos c0]
    exact bodyPost_ret (v := .int .i64 (fU v0 h0 l0 v1 h1 l1 p s)) (results_tmp1 Try.results22 _ _ _ (by kernel_rfl)) (by kernel_rfl) ⟨by rw [e0], below_grown M.old⟩
  · skip
    refine pl_val (want_no rfl) (some 6) rfl (.bool false) (fun w => Eq.trans (b := .ok (.value (.bool (decide (p = 17)))) w) (by kernel_rfl) (by rw [decide_eq_false (c0)])) ?_
    refine pl_val (want_no rfl) (some 5) rfl (.bool false) (fun _ => by kernel_rfl) ?_
    refine pl_nil ?_
    refine au_then ?_
    refine wp_cond_false (by kernel_rfl) ?_
    refine wp_seq ?_
    refine rg_lit ?_
    by_cases c1 : p = 6
    · skip
      refine pl_val (want_no rfl) (some 10) rfl (.bool true) (fun w => Eq.trans (b := .ok (.value (.bool (decide (p = 6)))) w) (by kernel_rfl) (by rw [decide_eq_true (c1)])) ?_
      refine pl_val (want_no rfl) (some 9) rfl (.bool true) (fun _ => by kernel_rfl) ?_
      refine pl_nil ?_
      refine au_then ?_
      refine wp_cond_true (by kernel_rfl) ?_
      refine wp_seq ?_
      refine rg_lit ?_
      refine pl_load M (want_no rfl) (some 11) rfl 26 _ rfl 0 g1 0 (by kernel_rfl) 9 26 (ls [.bool (v0), .int .u64 h0, .int .u64 l0, .bool (v1), .int .u64 h1, .int .u64 l1, .int .u8 p, .int .u8 t, .string s]) rfl 9 (ls [.bool (v0), .int .u64 h0, .int .u64 l0, .bool (v1), .int .u64 h1, .int .u64 l1, .int .u8 p, .int .u8 t, .string s]) (fun j _ => by rw [Nat.zero_add]) (by decide) _ Try.underlying26 rfl inz26 ?_
      refine pl_call M (want_no rfl) (some 12) rfl 40 #[.agg (av 9 (ls [.bool (v0), .int .u64 h0, .int .u64 l0, .bool (v1), .int .u64 h1, .int .u64 l1, .int .u8 p, .int .u8 t, .string s]))] (.int .i64 (fT v0 h0 l0 v1 h1 l1 p s)) (fun _ => by kernel_rfl) (fun w M => c_faultOfTcp v0 h0 l0 v1 h1 l1 p t s (by omega) (by omega) w M.laid) ?_
      intro u2 M
      refine pl_val (want_no rfl) (some 2) rfl (.int .i64 (fT v0 h0 l0 v1 h1 l1 p s)) (fun _ => by kernel_rfl) ?_
      refine pl_nil ?_
      refine au_then ?_
      refine wp_ret ?_
      refine au_block_ret ?_
      refine au_then_ret ?_
      have e0 : (fO v0 h0 l0 v1 h1 l1 p s) = (fT v0 h0 l0 v1 h1 l1 p s) := by simp only [fO, if_neg c0, if_pos c1]
      exact bodyPost_ret (v := .int .i64 (fT v0 h0 l0 v1 h1 l1 p s)) (results_tmp1 Try.results22 _ _ _ (by kernel_rfl)) (by kernel_rfl) ⟨by rw [e0], below_grown M.old⟩
    · skip
      refine pl_val (want_no rfl) (some 10) rfl (.bool false) (fun w => Eq.trans (b := .ok (.value (.bool (decide (p = 6)))) w) (by kernel_rfl) (by rw [decide_eq_false (c1)])) ?_
      refine pl_val (want_no rfl) (some 9) rfl (.bool false) (fun _ => by kernel_rfl) ?_
      refine pl_nil ?_
      refine au_then ?_
      refine wp_cond_false (by kernel_rfl) ?_
      refine wp_seq ?_
      refine wp_seq ?_
      refine rg_lit ?_
      by_cases c2 : p = 1
      · skip
        refine pl_val (want_no rfl) (some 14) rfl (.bool true) (fun w => Eq.trans (b := .ok (.value (.bool (decide (p = 1)))) w) (by kernel_rfl) (by rw [decide_eq_true (c2)])) ?_
        refine pl_val (want_no rfl) (some 13) rfl (.bool true) (fun _ => by kernel_rfl) ?_
        refine pl_nil ?_
        refine au_then ?_
        refine wp_cond_true (by kernel_rfl) ?_
        refine wp_skip ?_
        refine au_then ?_
        refine wp_cond_true (by kernel_rfl) ?_
        refine wp_seq ?_
        refine rg_lit ?_
        refine pl_load M (want_no rfl) (some 16) rfl 26 _ rfl 0 g1 0 (by kernel_rfl) 9 26 (ls [.bool (v0), .int .u64 h0, .int .u64 l0, .bool (v1), .int .u64 h1, .int .u64 l1, .int .u8 p, .int .u8 t, .string s]) rfl 9 (ls [.bool (v0), .int .u64 h0, .int .u64 l0, .bool (v1), .int .u64 h1, .int .u64 l1, .int .u8 p, .int .u8 t, .string s]) (fun j _ => by rw [Nat.zero_add]) (by decide) _ Try.underlying26 rfl inz26 ?_
        refine pl_call M (want_no rfl) (some 17) rfl 41 #[.agg (av 9 (ls [.bool (v0), .int .u64 h0, .int .u64 l0, .bool (v1), .int .u64 h1, .int .u64 l1, .int .u8 p, .int .u8 t, .string s]))] (.int .i64 (fE v0 h0 l0 v1 h1 l1 p s)) (fun _ => by kernel_rfl) (fun w M => c_faultOfEcho v0 h0 l0 v1 h1 l1 p t s (by omega) (by omega) w M.laid) ?_
        intro u2 M
        refine pl_val (want_no rfl) (some 2) rfl (.int .i64 (fE v0 h0 l0 v1 h1 l1 p s)) (fun _ => by kernel_rfl) ?_
        refine pl_nil ?_
        refine au_then ?_
        refine wp_ret ?_
        refine au_block_ret ?_
        refine au_then_ret ?_
        have e0 : (fO v0 h0 l0 v1 h1 l1 p s) = (fE v0 h0 l0 v1 h1 l1 p s) := by simp only [fO, if_neg c0, if_neg c1, if_pos c2]
        exact bodyPost_ret (v := .int .i64 (fE v0 h0 l0 v1 h1 l1 p s)) (results_tmp1 Try.results22 _ _ _ (by kernel_rfl)) (by kernel_rfl) ⟨by rw [e0], below_grown M.old⟩
      · skip
        refine pl_val (want_no rfl) (some 14) rfl (.bool false) (fun w => Eq.trans (b := .ok (.value (.bool (decide (p = 1)))) w) (by kernel_rfl) (by rw [decide_eq_false (c2)])) ?_
        refine pl_val (want_no rfl) (some 13) rfl (.bool false) (fun _ => by kernel_rfl) ?_
        refine pl_nil ?_
        refine au_then ?_
        refine wp_cond_false (by kernel_rfl) ?_
        refine rg_lit ?_
        by_cases c3 : p = 58
        · skip
          refine pl_val (want_no rfl) (some 15) rfl (.bool true) (fun w => Eq.trans (b := .ok (.value (.bool (decide (p = 58)))) w) (by kernel_rfl) (by rw [decide_eq_true (c3)])) ?_
          refine pl_val (want_no rfl) (some 13) rfl (.bool true) (fun _ => by kernel_rfl) ?_
          refine pl_nil ?_
          refine au_then ?_
          refine wp_cond_true (by kernel_rfl) ?_
          refine wp_seq ?_
          refine rg_lit ?_
          refine pl_load M (want_no rfl) (some 16) rfl 26 _ rfl 0 g1 0 (by kernel_rfl) 9 26 (ls [.bool (v0), .int .u64 h0, .int .u64 l0, .bool (v1), .int .u64 h1, .int .u64 l1, .int .u8 p, .int .u8 t, .string s]) rfl 9 (ls [.bool (v0), .int .u64 h0, .int .u64 l0, .bool (v1), .int .u64 h1, .int .u64 l1, .int .u8 p, .int .u8 t, .string s]) (fun j _ => by rw [Nat.zero_add]) (by decide) _ Try.underlying26 rfl inz26 ?_
          refine pl_call M (want_no rfl) (some 17) rfl 41 #[.agg (av 9 (ls [.bool (v0), .int .u64 h0, .int .u64 l0, .bool (v1), .int .u64 h1, .int .u64 l1, .int .u8 p, .int .u8 t, .string s]))] (.int .i64 (fE v0 h0 l0 v1 h1 l1 p s)) (fun _ => by kernel_rfl) (fun w M => c_faultOfEcho v0 h0 l0 v1 h1 l1 p t s (by omega) (by omega) w M.laid) ?_
          intro u2 M
          refine pl_val (want_no rfl) (some 2) rfl (.int .i64 (fE v0 h0 l0 v1 h1 l1 p s)) (fun _ => by kernel_rfl) ?_
          refine pl_nil ?_
          refine au_then ?_
          refine wp_ret ?_
          refine au_block_ret ?_
          refine au_then_ret ?_
          have e0 : (fO v0 h0 l0 v1 h1 l1 p s) = (fE v0 h0 l0 v1 h1 l1 p s) := by simp only [fO, if_neg c0, if_neg c1, if_neg c2, if_pos c3]
          exact bodyPost_ret (v := .int .i64 (fE v0 h0 l0 v1 h1 l1 p s)) (results_tmp1 Try.results22 _ _ _ (by kernel_rfl)) (by kernel_rfl) ⟨by rw [e0], below_grown M.old⟩
        · skip
          refine pl_val (want_no rfl) (some 15) rfl (.bool false) (fun w => Eq.trans (b := .ok (.value (.bool (decide (p = 58)))) w) (by kernel_rfl) (by rw [decide_eq_false (c3)])) ?_
          refine pl_val (want_no rfl) (some 13) rfl (.bool false) (fun _ => by kernel_rfl) ?_
          refine pl_nil ?_
          refine au_then ?_
          refine wp_cond_false (by kernel_rfl) ?_
          refine wp_skip ?_
          refine au_block ?_
          refine au_then ?_
          refine wp_seq ?_
          refine rg_lit ?_
          refine pl_val (want_no rfl) (some 2) rfl (.int .i64 0) (fun _ => by kernel_rfl) ?_
          refine pl_nil ?_
          refine au_then ?_
          refine wp_ret ?_
          have e0 : (fO v0 h0 l0 v1 h1 l1 p s) = 0 := by simp only [fO, if_neg c0, if_neg c1, if_neg c2, if_neg c3]
          exact bodyPost_ret (v := .int .i64 0) (results_tmp1 Try.results22 _ _ _ (by kernel_rfl)) (by kernel_rfl) ⟨by rw [e0], below_grown M.old⟩

theorem hdO_nn (p : Int) (s : ByteArray) : 0 ≤ hdO p s ∧ hdO p s ≤ 60 := by
  have := bt_nn s 12
  unfold hdO
  split
  · decide
  · split
    · omega
    · split
      · decide
      · split <;> decide
set_option maxRecDepth 100000 in
set_option maxHeartbeats 4000000 in
set_option linter.unusedSimpArgs false in
theorem c_headOf (v0 : Bool) (h0 l0 : Int) (v1 : Bool) (h1 l1 p t : Int) (s : ByteArray) (hs : s.size ≤ 9000) (hU : p = 17 → 8 ≤ s.size) (hT : p = 6 → 20 ≤ s.size) (hE : p = 1 ∨ p = 58 → 8 ≤ s.size ∧ p = eP v0) (w : World) (hL : Laid w)  :
    Calls Try.prog 23 #[.agg (av 9 (ls [.bool (v0), .int .u64 h0, .int .u64 l0, .bool (v1), .int .u64 h1, .int .u64 l1, .int .u8 p, .int .u8 t, .string s]))] w fun r w' => r = .returned (.agg (av 13 (ls [.int .u8 p, .bool (v0), .int .u64 h0, .int .u64 l0, .bool (v1), .int .u64 h1, .int .u64 l1, .int .u16 (hFr p s), .int .u16 (hTo p s), .int .u8 (hFl p s), .int .u8 (hKi p s), .int .u8 (hCo p s), .int .i64 (hSz p s)]))) ∧ Below w.heap.size w w' := by
  go_enter Try.func23, Try.ntmps23
  have M := Mem.start hL
  have hh := hdO_nn p s
  refine wp_seq ?_
  refine rg_lit ?_
  refine pl_new M (want_no rfl) (some 1) rfl (.cells (av 9 (ls [.bool (v0), .int .u64 h0, .int .u64 l0, .bool (v1), .int .u64 h1, .int .u64 l1, .int .u8 p, .int .u8 t, .string s])) 26) (fun _ => by kernel_rfl) ?_
  intro g1 u1 M
  replace M : Mem ⟨w, []⟩ [⟨g1, .cells (av 9 (ls [.bool (v0), .int .u64 h0, .int .u64 l0, .bool (v1), .int .u64 h1, .int .u64 l1, .int .u8 p, .int .u8 t, .string s])) 26⟩] u1 := M
  refine pl_new M (want_no rfl) (some 2) rfl (.cells (av 13 (ls [.int .u8 0, .bool false, .int .u64 0, .int .u64 0, .bool false, .int .u64 0, .int .u64 0, .int .u16 0, .int .u16 0, .int .u8 0, .int .u8 0, .int .u8 0, .int .i64 0])) 32) (fun _ => by kernel_rfl) ?_
  intro g2 u2 M
  replace M : Mem ⟨w, []⟩ [⟨g1, .cells (av 9 (ls [.bool (v0), .int .u64 h0, .int .u64 l0, .bool (v1), .int .u64 h1, .int .u64 l1, .int .u8 p, .int .u8 t, .string s])) 26⟩, ⟨g2, .cells (av 13 (ls [.int .u8 0, .bool false, .int .u64 0, .int .u64 0, .bool false, .int .u64 0, .int .u64 0, .int .u16 0, .int .u16 0, .int .u8 0, .int .u8 0, .int .u8 0, .int .i64 0])) 32⟩] u2 := M
  refine pl_nil ?_
  refine au_then ?_
  refine wp_seq ?_
  refine rg_allocs M 9 [(3, fun g => .pointer (some ⟨g, 0, none⟩), .cells (av 13 (ls [.int .u8 0, .bool false, .int .u64 0, .int .u64 0, .bool false, .int .u64 0, .int .u64 0, .int .u16 0, .int .u16 0, .int .u8 0, .int .u8 0, .int .u8 0, .int .i64 0])) 32)] (by kernel_rfl) (by kernel_rfl) (⟨rfl, rfl, fun _ _ => by kernel_rfl, trivial⟩) (by decide) ?_
  simp only [List.take_succ_cons, List.take_zero]
  refine k_load M (want_no rfl) (some 4) rfl 26 _ rfl 0 g1 0 (by kernel_rfl) 9 26 (ls [.bool (v0), .int .u64 h0, .int .u64 l0, .bool (v1), .int .u64 h1, .int .u64 l1, .int .u8 p, .int .u8 t, .string s]) rfl 9 (ls [.bool (v0), .int .u64 h0, .int .u64 l0, .bool (v1), .int .u64 h1, .int .u64 l1, .int .u8 p, .int .u8 t, .string s]) (fun j _ => by rw [Nat.zero_add]) (by decide) _ Try.underlying26 rfl inz26 ?_
  refine k_call M (want_no rfl) (some 5) rfl 42 #[.agg (av 9 (ls [.bool (v0), .int .u64 h0, .int .u64 l0, .bool (v1), .int .u64 h1, .int .u64 l1, .int .u8 p, .int .u8 t, .string s]))] (.agg (av 9 (ls [.int .u8 p, .bool (v0), .int .u64 h0, .int .u64 l0, .bool (v1), .int .u64 h1, .int .u64 l1, .int .u16 0, .int .u16 0]))) (fun _ => by kernel_rfl) (fun w M => c_bareFlow v0 h0 l0 v1 h1 l1 p t s w M.laid) ?_
  refine k_val (want_no rfl) (some 6) rfl (.pointer (some ⟨g1, 8, none⟩)) (fun _ => by kernel_rfl) ?_
  refine k_cell M (want_no rfl) (some 7) rfl 9 _ rfl g1 8 (by kernel_rfl) (.string s) (fun _ => by kernel_rfl) (fun w M => M.cell 0 rfl (by decide) rfl) ?_
  refine k_val (want_no rfl) (some 8) rfl (.int .i64 (s.size : Int)) (fun _ => by kernel_rfl) ?_
  refine k_load M (want_no rfl) (some 9) rfl 26 _ rfl 0 g1 0 (by kernel_rfl) 9 26 (ls [.bool (v0), .int .u64 h0, .int .u64 l0, .bool (v1), .int .u64 h1, .int .u64 l1, .int .u8 p, .int .u8 t, .string s]) rfl 9 (ls [.bool (v0), .int .u64 h0, .int .u64 l0, .bool (v1), .int .u64 h1, .int .u64 l1, .int .u8 p, .int .u8 t, .string s]) (fun j _ => by rw [Nat.zero_add]) (by decide) _ Try.underlying26 rfl inz26 ?_
  refine k_call M (want_no rfl) (some 10) rfl 43 #[.agg (av 9 (ls [.bool (v0), .int .u64 h0, .int .u64 l0, .bool (v1), .int .u64 h1, .int .u64 l1, .int .u8 p, .int .u8 t, .string s]))] (.int .i64 (hdO p s)) (fun _ => by kernel_rfl) (fun w M => c_headerOf v0 h0 l0 v1 h1 l1 p t s (by omega) w M.laid) ?_
  refine k_val (want_no rfl) (some 11) rfl (.int .i64 (hSz p s)) (fun w => Eq.trans (b := .ok (.value (.int .i64 (IntKind.wrap .i64 ((s.size : Int) - hdO p s)))) w) (by kernel_rfl) (by rw [wrap64 (by omega) (by omega)]; rfl)) ?_
  refine k_val (want_no rfl) (some 12) rfl (.agg (av 13 (ls [.int .u8 p, .bool (v0), .int .u64 h0, .int .u64 l0, .bool (v1), .int .u64 h1, .int .u64 l1, .int .u16 0, .int .u16 0, .int .u8 0, .int .u8 0, .int .u8 0, .int .i64 (hSz p s)]))) (fun _ => by kernel_rfl) ?_
  refine kl_nil ?_
  intro u3 g3 M
  replace M : Mem ⟨w, []⟩ [⟨g1, .cells (av 9 (ls [.bool (v0), .int .u64 h0, .int .u64 l0, .bool (v1), .int .u64 h1, .int .u64 l1, .int .u8 p, .int .u8 t, .string s])) 26⟩, ⟨g2, .cells (av 13 (ls [.int .u8 0, .bool false, .int .u64 0, .int .u64 0, .bool false, .int .u64 0, .int .u64 0, .int .u16 0, .int .u16 0, .int .u8 0, .int .u8 0, .int .u8 0, .int .i64 0])) 32⟩, ⟨g3, .cells (av 13 (ls [.int .u8 0, .bool false, .int .u64 0, .int .u64 0, .bool false, .int .u64 0, .int .u64 0, .int .u16 0, .int .u16 0, .int .u8 0, .int .u8 0, .int .u8 0, .int .i64 0])) 32⟩] u3 := M
  refine pl_put M (want_no rfl) rfl 32 _ _ rfl 2 g3 0 (by kernel_rfl) 13 32 (ls [.int .u8 0, .bool false, .int .u64 0, .int .u64 0, .bool false, .int .u64 0, .int .u64 0, .int .u16 0, .int .u16 0, .int .u8 0, .int .u8 0, .int .u8 0, .int .i64 0]) rfl 13 (ls [.int .u8 p, .bool (v0), .int .u64 h0, .int .u64 l0, .bool (v1), .int .u64 h1, .int .u64 l1, .int .u16 0, .int .u16 0, .int .u8 0, .int .u8 0, .int .u8 0, .int .i64 (hSz p s)]) (ls [.int .u8 p, .bool (v0), .int .u64 h0, .int .u64 l0, .bool (v1), .int .u64 h1, .int .u64 l1, .int .u16 0, .int .u16 0, .int .u8 0, .int .u8 0, .int .u8 0, .int .i64 (hSz p s)]) (by kernel_rfl) inz32 (by decide) (one_ls _ rfl) (fun j hj => by rw [if_pos (by omega), Nat.sub_zero]) ?_
  intro u4 M
  replace M : Mem ⟨w, []⟩ [⟨g1, .cells (av 9 (ls [.bool (v0), .int .u64 h0, .int .u64 l0, .bool (v1), .int .u64 h1, .int .u64 l1, .int .u8 p, .int .u8 t, .string s])) 26⟩, ⟨g2, .cells (av 13 (ls [.int .u8 0, .bool false, .int .u64 0, .int .u64 0, .bool false, .int .u64 0, .int .u64 0, .int .u16 0, .int .u16 0, .int .u8 0, .int .u8 0, .int .u8 0, .int .i64 0])) 32⟩, ⟨g3, .cells (av 13 (ls [.int .u8 p, .bool (v0), .int .u64 h0, .int .u64 l0, .bool (v1), .int .u64 h1, .int .u64 l1, .int .u16 0, .int .u16 0, .int .u8 0, .int .u8 0, .int .u8 0, .int .i64 (hSz p s)])) 32⟩] u4 := M
  refine pl_nil ?_
  refine au_then ?_
  refine wp_seq ?_
  refine wp_seq ?_
  refine rg_lit ?_
  refine pl_val (want_no rfl) (some 13) rfl (.pointer (some ⟨g1, 6, none⟩)) (fun _ => by kernel_rfl) ?_
  refine pl_cell M (want_no rfl) (some 14) rfl 5 _ rfl g1 6 (by kernel_rfl) (.int .u8 p) (fun _ => by kernel_rfl) (fun w M => M.cell 0 rfl (by decide) rfl) ?_
  refine pl_nil ?_
  refine au_then ?_
  refine wp_block ?_
  refine wp_seq ?_
  refine wp_block ?_
  refine wp_seq ?_
  refine wp_block ?_
  refine wp_seq ?_
  refine wp_block ?_
  refine wp_seq ?_
  refine wp_seq ?_
  refine wp_seq ?_
  refine rg_lit ?_
  by_cases c0 : p = 6
  · skip
    refine pl_val (want_no rfl) (some 16) rfl (.bool true) (fun w => Eq.trans (b := .ok (.value (.bool (decide (p = 6)))) w) (by kernel_rfl) (by rw [decide_eq_true (c0)])) ?_
    refine pl_val (want_no rfl) (some 15) rfl (.bool true) (fun _ => by kernel_rfl) ?_
    refine pl_nil ?_
    refine au_then ?_
    refine wp_cond_true (by kernel_rfl) ?_
    refine wp_exit ?_
    refine au_then_exit ?_
    refine au_then_exit ?_
    refine au_block_exit ?_
    refine au_then ?_
    refine rg_lit ?_
    refine pl_val (want_no rfl) (some 22) rfl (.pointer (some ⟨g1, 8, none⟩)) (fun _ => by kernel_rfl) ?_
    refine pl_cell M (want_no rfl) (some 23) rfl 9 _ rfl g1 8 (by kernel_rfl) (.string s) (fun _ => by kernel_rfl) (fun w M => M.cell 0 rfl (by decide) rfl) ?_
    refine pl_val (want_no rfl) (some 24) rfl (.int .u8 (bt s 13)) (run_ixS 9 Try.underlying9 _ _ rfl s (by kernel_rfl) .i64 13 (by kernel_rfl) (by omega)) ?_
    refine pl_val (want_no rfl) (some 25) rfl (.pointer (some ⟨g3, 9, none⟩)) (fun _ => by kernel_rfl) ?_
    refine pl_put1 M (want_no rfl) rfl 5 _ _ rfl 2 g3 9 (by kernel_rfl) 13 32 (ls [.int .u8 p, .bool (v0), .int .u64 h0, .int .u64 l0, .bool (v1), .int .u64 h1, .int .u64 l1, .int .u16 0, .int .u16 0, .int .u8 0, .int .u8 0, .int .u8 0, .int .i64 (hSz p s)]) rfl (.int .u8 (bt s 13)) (ls [.int .u8 p, .bool (v0), .int .u64 h0, .int .u64 l0, .bool (v1), .int .u64 h1, .int .u64 l1, .int .u16 0, .int .u16 0, .int .u8 (bt s 13), .int .u8 0, .int .u8 0, .int .i64 (hSz p s)]) (by kernel_rfl) inz5 (by decide) rfl rfl (put_ls _ 9 _ _ rfl) ?_
    intro u5 M
    replace M : Mem ⟨w, []⟩ [⟨g1, .cells (av 9 (ls [.bool (v0), .int .u64 h0, .int .u64 l0, .bool (v1), .int .u64 h1, .int .u64 l1, .int .u8 p, .int .u8 t, .string s])) 26⟩, ⟨g2, .cells (av 13 (ls [.int .u8 0, .bool false, .int .u64 0, .int .u64 0, .bool false, .int .u64 0, .int .u64 0, .int .u16 0, .int .u16 0, .int .u8 0, .int .u8 0, .int .u8 0, .int .i64 0])) 32⟩, ⟨g3, .cells (av 13 (ls [.int .u8 p, .bool (v0), .int .u64 h0, .int .u64 l0, .bool (v1), .int .u64 h1, .int .u64 l1, .int .u16 0, .int .u16 0, .int .u8 (bt s 13), .int .u8 0, .int .u8 0, .int .i64 (hSz p s)])) 32⟩] u5 := M
    refine pl_nil ?_
    refine au_block ?_
    refine au_then ?_
    refine wp_seq ?_
    refine rg_held M [⟨g1, .cells (av 9 (ls [.bool (v0), .int .u64 h0, .int .u64 l0, .bool (v1), .int .u64 h1, .int .u64 l1, .int .u8 p, .int .u8 t, .string s])) 26⟩, ⟨g2, .cells (av 13 (ls [.int .u8 0, .bool false, .int .u64 0, .int .u64 0, .bool false, .int .u64 0, .int .u64 0, .int .u16 0, .int .u16 0, .int .u8 0, .int .u8 0, .int .u8 0, .int .i64 0])) 32⟩] 11 rfl (by kernel_rfl) (by kernel_rfl) (fun _ _ d _ _ h => by cases d <;> exact h) ?_
    intro u6 M
    replace M : Mem ⟨w, []⟩ [⟨g1, .cells (av 9 (ls [.bool (v0), .int .u64 h0, .int .u64 l0, .bool (v1), .int .u64 h1, .int .u64 l1, .int .u8 p, .int .u8 t, .string s])) 26⟩, ⟨g2, .cells (av 13 (ls [.int .u8 0, .bool false, .int .u64 0, .int .u64 0, .bool false, .int .u64 0, .int .u64 0, .int .u16 0, .int .u16 0, .int .u8 0, .int .u8 0, .int .u8 0, .int .i64 0])) 32⟩, ⟨g3, .cells (av 13 (ls [.int .u8 p, .bool (v0), .int .u64 h0, .int .u64 l0, .bool (v1), .int .u64 h1, .int .u64 l1, .int .u16 0, .int .u16 0, .int .u8 (bt s 13), .int .u8 0, .int .u8 0, .int .i64 (hSz p s)])) 32⟩] u6 := M
    refine hl_val (M.drop (.cons_cons _ (.cons_cons _ (.cons _ (.slnil))))) 0 rfl (by decide) (by kernel_rfl) (by kernel_rfl) (want_no rfl) (some 26) rfl (.pointer (some ⟨g1, 8, none⟩)) (fun _ _ => by kernel_rfl) ?_
    refine hl_cell (M.drop (.cons_cons _ (.cons_cons _ (.cons _ (.slnil))))) 1 rfl (by decide) (by kernel_rfl) (by kernel_rfl) (want_no rfl) (some 27) rfl 9 _ rfl g1 8 (by kernel_rfl) (.string s) (fun _ => by kernel_rfl) (fun w M => M.cell 0 rfl (by decide) rfl) ?_
    refine hl_val (M.drop (.cons_cons _ (.cons_cons _ (.cons _ (.slnil))))) 3 rfl (by decide) (by kernel_rfl) (by kernel_rfl) (want_no rfl) (some 29) rfl (.pointer (some ⟨g1, 8, none⟩)) (fun _ _ => by kernel_rfl) ?_
    refine hl_cell (M.drop (.cons_cons _ (.cons_cons _ (.cons _ (.slnil))))) 4 rfl (by decide) (by kernel_rfl) (by kernel_rfl) (want_no rfl) (some 30) rfl 9 _ rfl g1 8 (by kernel_rfl) (.string s) (fun _ => by kernel_rfl) (fun w M => M.cell 0 rfl (by decide) rfl) ?_
    refine hl_one 2 (by decide) (by kernel_rfl) rfl ?_
    refine pl_call M (want_no rfl) (some 28) rfl 44 #[.string s, .int .i64 0] (.int .u16 (pr s 0)) (fun _ => by kernel_rfl) (fun w M => c_pairAt s 0 (by omega) w M.laid) ?_
    intro u7 M
    refine pl_nil ?_
    refine au_then ?_
    refine ⟨(M.drop (.cons_cons _ (.cons_cons _ (.cons _ (.slnil))))), ?_⟩
    refine hl_val (M.drop (.cons_cons _ (.cons_cons _ (.cons _ (.slnil))))) 6 rfl (by decide) (by kernel_rfl) (by kernel_rfl) (want_no rfl) (some 32) rfl (.pointer (some ⟨g3, 0, none⟩)) (fun _ _ => by kernel_rfl) ?_
    refine hl_val (M.drop (.cons_cons _ (.cons_cons _ (.cons _ (.slnil))))) 7 rfl (by decide) (by kernel_rfl) (by kernel_rfl) (want_no rfl) (some 33) rfl (.pointer (some ⟨g3, 7, none⟩)) (fun _ _ => by kernel_rfl) ?_
    refine hl_one 5 (by decide) (by kernel_rfl) rfl ?_
    refine pl_call M (want_no rfl) (some 31) rfl 44 #[.string s, .int .i64 2] (.int .u16 (pr s 2)) (fun _ => by kernel_rfl) (fun w M => c_pairAt s 2 (by omega) w M.laid) ?_
    intro u8 M
    refine pl_nil ?_
    refine au_then ?_
    refine ⟨(M.drop (.cons_cons _ (.cons_cons _ (.cons _ (.slnil))))), ?_⟩
    refine hl_one 8 (by decide) (by kernel_rfl) rfl ?_
    refine pl_put1 M (want_no rfl) rfl 27 _ _ rfl 2 g3 7 (by kernel_rfl) 13 32 (ls [.int .u8 p, .bool (v0), .int .u64 h0, .int .u64 l0, .bool (v1), .int .u64 h1, .int .u64 l1, .int .u16 0, .int .u16 0, .int .u8 (bt s 13), .int .u8 0, .int .u8 0, .int .i64 (hSz p s)]) rfl (.int .u16 (pr s 0)) (ls [.int .u8 p, .bool (v0), .int .u64 h0, .int .u64 l0, .bool (v1), .int .u64 h1, .int .u64 l1, .int .u16 (pr s 0), .int .u16 0, .int .u8 (bt s 13), .int .u8 0, .int .u8 0, .int .i64 (hSz p s)]) (by kernel_rfl) inz27 (by decide) rfl rfl (put_ls _ 7 _ _ rfl) ?_
    intro u9 M
    replace M : Mem ⟨w, []⟩ [⟨g1, .cells (av 9 (ls [.bool (v0), .int .u64 h0, .int .u64 l0, .bool (v1), .int .u64 h1, .int .u64 l1, .int .u8 p, .int .u8 t, .string s])) 26⟩, ⟨g2, .cells (av 13 (ls [.int .u8 0, .bool false, .int .u64 0, .int .u64 0, .bool false, .int .u64 0, .int .u64 0, .int .u16 0, .int .u16 0, .int .u8 0, .int .u8 0, .int .u8 0, .int .i64 0])) 32⟩, ⟨g3, .cells (av 13 (ls [.int .u8 p, .bool (v0), .int .u64 h0, .int .u64 l0, .bool (v1), .int .u64 h1, .int .u64 l1, .int .u16 (pr s 0), .int .u16 0, .int .u8 (bt s 13), .int .u8 0, .int .u8 0, .int .i64 (hSz p s)])) 32⟩] u9 := M
    refine pl_nil ?_
    refine au_then ?_
    refine ⟨(M.drop (.cons_cons _ (.cons_cons _ (.cons _ (.slnil))))), ?_⟩
    refine hl_val (M.drop (.cons_cons _ (.cons_cons _ (.cons _ (.slnil))))) 9 rfl (by decide) (by kernel_rfl) (by kernel_rfl) (want_no rfl) (some 34) rfl (.pointer (some ⟨g3, 0, none⟩)) (fun _ _ => by kernel_rfl) ?_
    refine hl_val (M.drop (.cons_cons _ (.cons_cons _ (.cons _ (.slnil))))) 10 rfl (by decide) (by kernel_rfl) (by kernel_rfl) (want_no rfl) (some 35) rfl (.pointer (some ⟨g3, 8, none⟩)) (fun _ _ => by kernel_rfl) ?_
    refine hl_end (by kernel_rfl) (by kernel_rfl) rfl ?_
    refine pl_put1 M (want_no rfl) rfl 27 _ _ rfl 2 g3 8 (by kernel_rfl) 13 32 (ls [.int .u8 p, .bool (v0), .int .u64 h0, .int .u64 l0, .bool (v1), .int .u64 h1, .int .u64 l1, .int .u16 (pr s 0), .int .u16 0, .int .u8 (bt s 13), .int .u8 0, .int .u8 0, .int .i64 (hSz p s)]) rfl (.int .u16 (pr s 2)) (ls [.int .u8 p, .bool (v0), .int .u64 h0, .int .u64 l0, .bool (v1), .int .u64 h1, .int .u64 l1, .int .u16 (pr s 0), .int .u16 (pr s 2), .int .u8 (bt s 13), .int .u8 0, .int .u8 0, .int .i64 (hSz p s)]) (by kernel_rfl) inz27 (by decide) rfl rfl (put_ls _ 8 _ _ rfl) ?_
    intro u10 M
    replace M : Mem ⟨w, []⟩ [⟨g1, .cells (av 9 (ls [.bool (v0), .int .u64 h0, .int .u64 l0, .bool (v1), .int .u64 h1, .int .u64 l1, .int .u8 p, .int .u8 t, .string s])) 26⟩, ⟨g2, .cells (av 13 (ls [.int .u8 0, .bool false, .int .u64 0, .int .u64 0, .bool false, .int .u64 0, .int .u64 0, .int .u16 0, .int .u16 0, .int .u8 0, .int .u8 0, .int .u8 0, .int .i64 0])) 32⟩, ⟨g3, .cells (av 13 (ls [.int .u8 p, .bool (v0), .int .u64 h0, .int .u64 l0, .bool (v1), .int .u64 h1, .int .u64 l1, .int .u16 (pr s 0), .int .u16 (pr s 2), .int .u8 (bt s 13), .int .u8 0, .int .u8 0, .int .i64 (hSz p s)])) 32⟩] u10 := M
    refine pl_nil ?_
    refine au_then ?_
    refine au_then ?_
    refine wp_exit ?_
    refine au_block_out (by decide) ?_
    refine au_then_exit ?_
    refine au_block_exit ?_
    refine au_then ?_
    refine wp_seq ?_
    refine rg_lit ?_
    refine pl_load M (want_no rfl) (some 58) rfl 32 _ rfl 2 g3 0 (by kernel_rfl) 13 32 (ls [.int .u8 p, .bool (v0), .int .u64 h0, .int .u64 l0, .bool (v1), .int .u64 h1, .int .u64 l1, .int .u16 (pr s 0), .int .u16 (pr s 2), .int .u8 (bt s 13), .int .u8 0, .int .u8 0, .int .i64 (hSz p s)]) rfl 13 (ls [.int .u8 p, .bool (v0), .int .u64 h0, .int .u64 l0, .bool (v1), .int .u64 h1, .int .u64 l1, .int .u16 (pr s 0), .int .u16 (pr s 2), .int .u8 (bt s 13), .int .u8 0, .int .u8 0, .int .i64 (hSz p s)]) (fun j _ => by rw [Nat.zero_add]) (by decide) _ Try.underlying32 rfl inz32 ?_
    refine pl_put M (want_no rfl) rfl 32 _ _ rfl 1 g2 0 (by kernel_rfl) 13 32 (ls [.int .u8 0, .bool false, .int .u64 0, .int .u64 0, .bool false, .int .u64 0, .int .u64 0, .int .u16 0, .int .u16 0, .int .u8 0, .int .u8 0, .int .u8 0, .int .i64 0]) rfl 13 (ls [.int .u8 p, .bool (v0), .int .u64 h0, .int .u64 l0, .bool (v1), .int .u64 h1, .int .u64 l1, .int .u16 (pr s 0), .int .u16 (pr s 2), .int .u8 (bt s 13), .int .u8 0, .int .u8 0, .int .i64 (hSz p s)]) (ls [.int .u8 p, .bool (v0), .int .u64 h0, .int .u64 l0, .bool (v1), .int .u64 h1, .int .u64 l1, .int .u16 (pr s 0), .int .u16 (pr s 2), .int .u8 (bt s 13), .int .u8 0, .int .u8 0, .int .i64 (hSz p s)]) (by kernel_rfl) inz32 (by decide) (one_ls _ rfl) (fun j hj => by rw [if_pos (by omega), Nat.sub_zero]) ?_
    intro u11 M
    replace M : Mem ⟨w, []⟩ [⟨g1, .cells (av 9 (ls [.bool (v0), .int .u64 h0, .int .u64 l0, .bool (v1), .int .u64 h1, .int .u64 l1, .int .u8 p, .int .u8 t, .string s])) 26⟩, ⟨g2, .cells (av 13 (ls [.int .u8 p, .bool (v0), .int .u64 h0, .int .u64 l0, .bool (v1), .int .u64 h1, .int .u64 l1, .int .u16 (pr s 0), .int .u16 (pr s 2), .int .u8 (bt s 13), .int .u8 0, .int .u8 0, .int .i64 (hSz p s)])) 32⟩, ⟨g3, .cells (av 13 (ls [.int .u8 p, .bool (v0), .int .u64 h0, .int .u64 l0, .bool (v1), .int .u64 h1, .int .u64 l1, .int .u16 (pr s 0), .int .u16 (pr s 2), .int .u8 (bt s 13), .int .u8 0, .int .u8 0, .int .i64 (hSz p s)])) 32⟩] u11 := M
    refine pl_nil ?_
    refine au_then ?_
    refine wp_ret ?_
    have e0 : (hFr p s) = (pr s 0) := by simp only [hFr, hTo, hFl, hKi, hCo, if_pos c0, if_neg (show ¬ p = 1 by omega), if_neg (show ¬ p = 58 by omega)]
    have e1 : (hTo p s) = (pr s 2) := by simp only [hFr, hTo, hFl, hKi, hCo, if_pos c0, if_neg (show ¬ p = 1 by omega), if_neg (show ¬ p = 58 by omega)]
    have e2 : (hFl p s) = (bt s 13) := by simp only [hFr, hTo, hFl, hKi, hCo, if_pos c0, if_neg (show ¬ p = 1 by omega), if_neg (show ¬ p = 58 by omega)]
    have e3 : (hKi p s) = 0 := by simp only [hFr, hTo, hFl, hKi, hCo, if_pos c0, if_neg (show ¬ p = 1 by omega), if_neg (show ¬ p = 58 by omega)]
    have e4 : (hCo p s) = 0 := by simp only [hFr, hTo, hFl, hKi, hCo, if_pos c0, if_neg (show ¬ p = 1 by omega), if_neg (show ¬ p = 58 by omega)]
    exact bodyPost_ret (v := .agg (av 13 (ls [.int .u8 p, .bool (v0), .int .u64 h0, .int .u64 l0, .bool (v1), .int .u64 h1, .int .u64 l1, .int .u16 (pr s 0), .int .u16 (pr s 2), .int .u8 (bt s 13), .int .u8 0, .int .u8 0, .int .i64 (hSz p s)]))) (results_cell_row Try.results23 _ _ g2 32 (av 13 (ls [.int .u8 p, .bool (v0), .int .u64 h0, .int .u64 l0, .bool (v1), .int .u64 h1, .int .u64 l1, .int .u16 (pr s 0), .int .u16 (pr s 2), .int .u8 (bt s 13), .int .u8 0, .int .u8 0, .int .i64 (hSz p s)])) (0, 0) _ (by kernel_rfl) (M.get 1 rfl) Try.underlying32 rfl (by rw [av_size]; exact inz32)) (by kernel_rfl) ⟨by rw [e4, e3, e2, e1, e0], below_grown M.old⟩
  · skip
    refine pl_val (want_no rfl) (some 16) rfl (.bool false) (fun w => Eq.trans (b := .ok (.value (.bool (decide (p = 6)))) w) (by kernel_rfl) (by rw [decide_eq_false (c0)])) ?_
    refine pl_val (want_no rfl) (some 15) rfl (.bool false) (fun _ => by kernel_rfl) ?_
    refine pl_nil ?_
    refine au_then ?_
    refine wp_cond_false (by kernel_rfl) ?_
    refine wp_skip ?_
    refine au_then ?_
    refine wp_seq ?_
    refine wp_seq ?_
    refine rg_lit ?_
    by_cases c1 : p = 17
    · skip
      refine pl_val (want_no rfl) (some 18) rfl (.bool true) (fun w => Eq.trans (b := .ok (.value (.bool (decide (p = 17)))) w) (by kernel_rfl) (by rw [decide_eq_true (c1)])) ?_
      refine pl_val (want_no rfl) (some 17) rfl (.bool true) (fun _ => by kernel_rfl) ?_
      refine pl_nil ?_
      refine au_then ?_
      refine wp_cond_true (by kernel_rfl) ?_
      refine wp_exit ?_
      refine au_then_exit ?_
      refine au_then_exit ?_
      refine au_block_out (by decide) ?_
      refine au_then_exit ?_
      refine au_block_exit ?_
      refine au_then ?_
      refine wp_seq ?_
      refine rg_held M [⟨g1, .cells (av 9 (ls [.bool (v0), .int .u64 h0, .int .u64 l0, .bool (v1), .int .u64 h1, .int .u64 l1, .int .u8 p, .int .u8 t, .string s])) 26⟩, ⟨g2, .cells (av 13 (ls [.int .u8 0, .bool false, .int .u64 0, .int .u64 0, .bool false, .int .u64 0, .int .u64 0, .int .u16 0, .int .u16 0, .int .u8 0, .int .u8 0, .int .u8 0, .int .i64 0])) 32⟩] 11 rfl (by kernel_rfl) (by kernel_rfl) (fun _ _ d _ _ h => by cases d <;> exact h) ?_
      intro u5 M
      replace M : Mem ⟨w, []⟩ [⟨g1, .cells (av 9 (ls [.bool (v0), .int .u64 h0, .int .u64 l0, .bool (v1), .int .u64 h1, .int .u64 l1, .int .u8 p, .int .u8 t, .string s])) 26⟩, ⟨g2, .cells (av 13 (ls [.int .u8 0, .bool false, .int .u64 0, .int .u64 0, .bool false, .int .u64 0, .int .u64 0, .int .u16 0, .int .u16 0, .int .u8 0, .int .u8 0, .int .u8 0, .int .i64 0])) 32⟩, ⟨g3, .cells (av 13 (ls [.int .u8 p, .bool (v0), .int .u64 h0, .int .u64 l0, .bool (v1), .int .u64 h1, .int .u64 l1, .int .u16 0, .int .u16 0, .int .u8 0, .int .u8 0, .int .u8 0, .int .i64 (hSz p s)])) 32⟩] u5 := M
      refine hl_val (M.drop (.cons_cons _ (.cons_cons _ (.cons _ (.slnil))))) 0 rfl (by decide) (by kernel_rfl) (by kernel_rfl) (want_no rfl) (some 26) rfl (.pointer (some ⟨g1, 8, none⟩)) (fun _ _ => by kernel_rfl) ?_
      refine hl_cell (M.drop (.cons_cons _ (.cons_cons _ (.cons _ (.slnil))))) 1 rfl (by decide) (by kernel_rfl) (by kernel_rfl) (want_no rfl) (some 27) rfl 9 _ rfl g1 8 (by kernel_rfl) (.string s) (fun _ => by kernel_rfl) (fun w M => M.cell 0 rfl (by decide) rfl) ?_
      refine hl_val (M.drop (.cons_cons _ (.cons_cons _ (.cons _ (.slnil))))) 3 rfl (by decide) (by kernel_rfl) (by kernel_rfl) (want_no rfl) (some 29) rfl (.pointer (some ⟨g1, 8, none⟩)) (fun _ _ => by kernel_rfl) ?_
      refine hl_cell (M.drop (.cons_cons _ (.cons_cons _ (.cons _ (.slnil))))) 4 rfl (by decide) (by kernel_rfl) (by kernel_rfl) (want_no rfl) (some 30) rfl 9 _ rfl g1 8 (by kernel_rfl) (.string s) (fun _ => by kernel_rfl) (fun w M => M.cell 0 rfl (by decide) rfl) ?_
      refine hl_one 2 (by decide) (by kernel_rfl) rfl ?_
      refine pl_call M (want_no rfl) (some 28) rfl 44 #[.string s, .int .i64 0] (.int .u16 (pr s 0)) (fun _ => by kernel_rfl) (fun w M => c_pairAt s 0 (by omega) w M.laid) ?_
      intro u6 M
      refine pl_nil ?_
      refine au_then ?_
      refine ⟨(M.drop (.cons_cons _ (.cons_cons _ (.cons _ (.slnil))))), ?_⟩
      refine hl_val (M.drop (.cons_cons _ (.cons_cons _ (.cons _ (.slnil))))) 6 rfl (by decide) (by kernel_rfl) (by kernel_rfl) (want_no rfl) (some 32) rfl (.pointer (some ⟨g3, 0, none⟩)) (fun _ _ => by kernel_rfl) ?_
      refine hl_val (M.drop (.cons_cons _ (.cons_cons _ (.cons _ (.slnil))))) 7 rfl (by decide) (by kernel_rfl) (by kernel_rfl) (want_no rfl) (some 33) rfl (.pointer (some ⟨g3, 7, none⟩)) (fun _ _ => by kernel_rfl) ?_
      refine hl_one 5 (by decide) (by kernel_rfl) rfl ?_
      refine pl_call M (want_no rfl) (some 31) rfl 44 #[.string s, .int .i64 2] (.int .u16 (pr s 2)) (fun _ => by kernel_rfl) (fun w M => c_pairAt s 2 (by omega) w M.laid) ?_
      intro u7 M
      refine pl_nil ?_
      refine au_then ?_
      refine ⟨(M.drop (.cons_cons _ (.cons_cons _ (.cons _ (.slnil))))), ?_⟩
      refine hl_one 8 (by decide) (by kernel_rfl) rfl ?_
      refine pl_put1 M (want_no rfl) rfl 27 _ _ rfl 2 g3 7 (by kernel_rfl) 13 32 (ls [.int .u8 p, .bool (v0), .int .u64 h0, .int .u64 l0, .bool (v1), .int .u64 h1, .int .u64 l1, .int .u16 0, .int .u16 0, .int .u8 0, .int .u8 0, .int .u8 0, .int .i64 (hSz p s)]) rfl (.int .u16 (pr s 0)) (ls [.int .u8 p, .bool (v0), .int .u64 h0, .int .u64 l0, .bool (v1), .int .u64 h1, .int .u64 l1, .int .u16 (pr s 0), .int .u16 0, .int .u8 0, .int .u8 0, .int .u8 0, .int .i64 (hSz p s)]) (by kernel_rfl) inz27 (by decide) rfl rfl (put_ls _ 7 _ _ rfl) ?_
      intro u8 M
      replace M : Mem ⟨w, []⟩ [⟨g1, .cells (av 9 (ls [.bool (v0), .int .u64 h0, .int .u64 l0, .bool (v1), .int .u64 h1, .int .u64 l1, .int .u8 p, .int .u8 t, .string s])) 26⟩, ⟨g2, .cells (av 13 (ls [.int .u8 0, .bool false, .int .u64 0, .int .u64 0, .bool false, .int .u64 0, .int .u64 0, .int .u16 0, .int .u16 0, .int .u8 0, .int .u8 0, .int .u8 0, .int .i64 0])) 32⟩, ⟨g3, .cells (av 13 (ls [.int .u8 p, .bool (v0), .int .u64 h0, .int .u64 l0, .bool (v1), .int .u64 h1, .int .u64 l1, .int .u16 (pr s 0), .int .u16 0, .int .u8 0, .int .u8 0, .int .u8 0, .int .i64 (hSz p s)])) 32⟩] u8 := M
      refine pl_nil ?_
      refine au_then ?_
      refine ⟨(M.drop (.cons_cons _ (.cons_cons _ (.cons _ (.slnil))))), ?_⟩
      refine hl_val (M.drop (.cons_cons _ (.cons_cons _ (.cons _ (.slnil))))) 9 rfl (by decide) (by kernel_rfl) (by kernel_rfl) (want_no rfl) (some 34) rfl (.pointer (some ⟨g3, 0, none⟩)) (fun _ _ => by kernel_rfl) ?_
      refine hl_val (M.drop (.cons_cons _ (.cons_cons _ (.cons _ (.slnil))))) 10 rfl (by decide) (by kernel_rfl) (by kernel_rfl) (want_no rfl) (some 35) rfl (.pointer (some ⟨g3, 8, none⟩)) (fun _ _ => by kernel_rfl) ?_
      refine hl_end (by kernel_rfl) (by kernel_rfl) rfl ?_
      refine pl_put1 M (want_no rfl) rfl 27 _ _ rfl 2 g3 8 (by kernel_rfl) 13 32 (ls [.int .u8 p, .bool (v0), .int .u64 h0, .int .u64 l0, .bool (v1), .int .u64 h1, .int .u64 l1, .int .u16 (pr s 0), .int .u16 0, .int .u8 0, .int .u8 0, .int .u8 0, .int .i64 (hSz p s)]) rfl (.int .u16 (pr s 2)) (ls [.int .u8 p, .bool (v0), .int .u64 h0, .int .u64 l0, .bool (v1), .int .u64 h1, .int .u64 l1, .int .u16 (pr s 0), .int .u16 (pr s 2), .int .u8 0, .int .u8 0, .int .u8 0, .int .i64 (hSz p s)]) (by kernel_rfl) inz27 (by decide) rfl rfl (put_ls _ 8 _ _ rfl) ?_
      intro u9 M
      replace M : Mem ⟨w, []⟩ [⟨g1, .cells (av 9 (ls [.bool (v0), .int .u64 h0, .int .u64 l0, .bool (v1), .int .u64 h1, .int .u64 l1, .int .u8 p, .int .u8 t, .string s])) 26⟩, ⟨g2, .cells (av 13 (ls [.int .u8 0, .bool false, .int .u64 0, .int .u64 0, .bool false, .int .u64 0, .int .u64 0, .int .u16 0, .int .u16 0, .int .u8 0, .int .u8 0, .int .u8 0, .int .i64 0])) 32⟩, ⟨g3, .cells (av 13 (ls [.int .u8 p, .bool (v0), .int .u64 h0, .int .u64 l0, .bool (v1), .int .u64 h1, .int .u64 l1, .int .u16 (pr s 0), .int .u16 (pr s 2), .int .u8 0, .int .u8 0, .int .u8 0, .int .i64 (hSz p s)])) 32⟩] u9 := M
      refine pl_nil ?_
      refine au_then ?_
      refine au_then ?_
      refine wp_exit ?_
      refine au_block_out (by decide) ?_
      refine au_then_exit ?_
      refine au_block_exit ?_
      refine au_then ?_
      refine wp_seq ?_
      refine rg_lit ?_
      refine pl_load M (want_no rfl) (some 58) rfl 32 _ rfl 2 g3 0 (by kernel_rfl) 13 32 (ls [.int .u8 p, .bool (v0), .int .u64 h0, .int .u64 l0, .bool (v1), .int .u64 h1, .int .u64 l1, .int .u16 (pr s 0), .int .u16 (pr s 2), .int .u8 0, .int .u8 0, .int .u8 0, .int .i64 (hSz p s)]) rfl 13 (ls [.int .u8 p, .bool (v0), .int .u64 h0, .int .u64 l0, .bool (v1), .int .u64 h1, .int .u64 l1, .int .u16 (pr s 0), .int .u16 (pr s 2), .int .u8 0, .int .u8 0, .int .u8 0, .int .i64 (hSz p s)]) (fun j _ => by rw [Nat.zero_add]) (by decide) _ Try.underlying32 rfl inz32 ?_
      refine pl_put M (want_no rfl) rfl 32 _ _ rfl 1 g2 0 (by kernel_rfl) 13 32 (ls [.int .u8 0, .bool false, .int .u64 0, .int .u64 0, .bool false, .int .u64 0, .int .u64 0, .int .u16 0, .int .u16 0, .int .u8 0, .int .u8 0, .int .u8 0, .int .i64 0]) rfl 13 (ls [.int .u8 p, .bool (v0), .int .u64 h0, .int .u64 l0, .bool (v1), .int .u64 h1, .int .u64 l1, .int .u16 (pr s 0), .int .u16 (pr s 2), .int .u8 0, .int .u8 0, .int .u8 0, .int .i64 (hSz p s)]) (ls [.int .u8 p, .bool (v0), .int .u64 h0, .int .u64 l0, .bool (v1), .int .u64 h1, .int .u64 l1, .int .u16 (pr s 0), .int .u16 (pr s 2), .int .u8 0, .int .u8 0, .int .u8 0, .int .i64 (hSz p s)]) (by kernel_rfl) inz32 (by decide) (one_ls _ rfl) (fun j hj => by rw [if_pos (by omega), Nat.sub_zero]) ?_
      intro u10 M
      replace M : Mem ⟨w, []⟩ [⟨g1, .cells (av 9 (ls [.bool (v0), .int .u64 h0, .int .u64 l0, .bool (v1), .int .u64 h1, .int .u64 l1, .int .u8 p, .int .u8 t, .string s])) 26⟩, ⟨g2, .cells (av 13 (ls [.int .u8 p, .bool (v0), .int .u64 h0, .int .u64 l0, .bool (v1), .int .u64 h1, .int .u64 l1, .int .u16 (pr s 0), .int .u16 (pr s 2), .int .u8 0, .int .u8 0, .int .u8 0, .int .i64 (hSz p s)])) 32⟩, ⟨g3, .cells (av 13 (ls [.int .u8 p, .bool (v0), .int .u64 h0, .int .u64 l0, .bool (v1), .int .u64 h1, .int .u64 l1, .int .u16 (pr s 0), .int .u16 (pr s 2), .int .u8 0, .int .u8 0, .int .u8 0, .int .i64 (hSz p s)])) 32⟩] u10 := M
      refine pl_nil ?_
      refine au_then ?_
      refine wp_ret ?_
      have e0 : (hFr p s) = (pr s 0) := by simp only [hFr, hTo, hFl, hKi, hCo, if_neg c0, if_pos c1, if_neg (show ¬ p = 1 by omega), if_neg (show ¬ p = 58 by omega)]
      have e1 : (hTo p s) = (pr s 2) := by simp only [hFr, hTo, hFl, hKi, hCo, if_neg c0, if_pos c1, if_neg (show ¬ p = 1 by omega), if_neg (show ¬ p = 58 by omega)]
      have e2 : (hFl p s) = 0 := by simp only [hFr, hTo, hFl, hKi, hCo, if_neg c0, if_pos c1, if_neg (show ¬ p = 1 by omega), if_neg (show ¬ p = 58 by omega)]
      have e3 : (hKi p s) = 0 := by simp only [hFr, hTo, hFl, hKi, hCo, if_neg c0, if_pos c1, if_neg (show ¬ p = 1 by omega), if_neg (show ¬ p = 58 by omega)]
      have e4 : (hCo p s) = 0 := by simp only [hFr, hTo, hFl, hKi, hCo, if_neg c0, if_pos c1, if_neg (show ¬ p = 1 by omega), if_neg (show ¬ p = 58 by omega)]
      exact bodyPost_ret (v := .agg (av 13 (ls [.int .u8 p, .bool (v0), .int .u64 h0, .int .u64 l0, .bool (v1), .int .u64 h1, .int .u64 l1, .int .u16 (pr s 0), .int .u16 (pr s 2), .int .u8 0, .int .u8 0, .int .u8 0, .int .i64 (hSz p s)]))) (results_cell_row Try.results23 _ _ g2 32 (av 13 (ls [.int .u8 p, .bool (v0), .int .u64 h0, .int .u64 l0, .bool (v1), .int .u64 h1, .int .u64 l1, .int .u16 (pr s 0), .int .u16 (pr s 2), .int .u8 0, .int .u8 0, .int .u8 0, .int .i64 (hSz p s)])) (0, 0) _ (by kernel_rfl) (M.get 1 rfl) Try.underlying32 rfl (by rw [av_size]; exact inz32)) (by kernel_rfl) ⟨by rw [e4, e3, e2, e1, e0], below_grown M.old⟩
    · skip
      refine pl_val (want_no rfl) (some 18) rfl (.bool false) (fun w => Eq.trans (b := .ok (.value (.bool (decide (p = 17)))) w) (by kernel_rfl) (by rw [decide_eq_false (c1)])) ?_
      refine pl_val (want_no rfl) (some 17) rfl (.bool false) (fun _ => by kernel_rfl) ?_
      refine pl_nil ?_
      refine au_then ?_
      refine wp_cond_false (by kernel_rfl) ?_
      refine wp_skip ?_
      refine au_then ?_
      refine wp_seq ?_
      refine wp_seq ?_
      refine rg_lit ?_
      by_cases c2 : p = 1
      · skip
        refine pl_val (want_no rfl) (some 20) rfl (.bool true) (fun w => Eq.trans (b := .ok (.value (.bool (decide (p = 1)))) w) (by kernel_rfl) (by rw [decide_eq_true (c2)])) ?_
        refine pl_val (want_no rfl) (some 19) rfl (.bool true) (fun _ => by kernel_rfl) ?_
        refine pl_nil ?_
        refine au_then ?_
        refine wp_cond_true (by kernel_rfl) ?_
        refine wp_skip ?_
        refine au_then ?_
        refine wp_cond_true (by kernel_rfl) ?_
        refine wp_exit ?_
        refine au_then_exit ?_
        refine au_block_out (by decide) ?_
        refine au_then_exit ?_
        refine au_block_out (by decide) ?_
        refine au_then_exit ?_
        refine au_block_exit ?_
        refine au_then ?_
        refine wp_seq ?_
        refine wp_seq ?_
        refine rg_held M [⟨g1, .cells (av 9 (ls [.bool (v0), .int .u64 h0, .int .u64 l0, .bool (v1), .int .u64 h1, .int .u64 l1, .int .u8 p, .int .u8 t, .string s])) 26⟩, ⟨g2, .cells (av 13 (ls [.int .u8 0, .bool false, .int .u64 0, .int .u64 0, .bool false, .int .u64 0, .int .u64 0, .int .u16 0, .int .u16 0, .int .u8 0, .int .u8 0, .int .u8 0, .int .i64 0])) 32⟩] 9 rfl (by kernel_rfl) (by kernel_rfl) (fun _ _ d _ _ h => by cases d <;> exact h) ?_
        intro u5 M
        replace M : Mem ⟨w, []⟩ [⟨g1, .cells (av 9 (ls [.bool (v0), .int .u64 h0, .int .u64 l0, .bool (v1), .int .u64 h1, .int .u64 l1, .int .u8 p, .int .u8 t, .string s])) 26⟩, ⟨g2, .cells (av 13 (ls [.int .u8 0, .bool false, .int .u64 0, .int .u64 0, .bool false, .int .u64 0, .int .u64 0, .int .u16 0, .int .u16 0, .int .u8 0, .int .u8 0, .int .u8 0, .int .i64 0])) 32⟩, ⟨g3, .cells (av 13 (ls [.int .u8 p, .bool (v0), .int .u64 h0, .int .u64 l0, .bool (v1), .int .u64 h1, .int .u64 l1, .int .u16 0, .int .u16 0, .int .u8 0, .int .u8 0, .int .u8 0, .int .i64 (hSz p s)])) 32⟩] u5 := M
        refine hl_val (M.drop (.cons_cons _ (.cons_cons _ (.cons _ (.slnil))))) 0 rfl (by decide) (by kernel_rfl) (by kernel_rfl) (want_no rfl) (some 36) rfl (.pointer (some ⟨g1, 8, none⟩)) (fun _ _ => by kernel_rfl) ?_
        refine hl_cell (M.drop (.cons_cons _ (.cons_cons _ (.cons _ (.slnil))))) 1 rfl (by decide) (by kernel_rfl) (by kernel_rfl) (want_no rfl) (some 37) rfl 9 _ rfl g1 8 (by kernel_rfl) (.string s) (fun _ => by kernel_rfl) (fun w M => M.cell 0 rfl (by decide) rfl) ?_
        refine hl_val (M.drop (.cons_cons _ (.cons_cons _ (.cons _ (.slnil))))) 2 rfl (by decide) (by kernel_rfl) (by kernel_rfl) (want_no rfl) (some 38) rfl (.int .u8 (bt s 0)) (fun w _ => (run_ixS 9 Try.underlying9 _ _ rfl s (by kernel_rfl) .i64 0 (by kernel_rfl) (by have := (hE (by omega)).1; omega)) w) ?_
        refine hl_val (M.drop (.cons_cons _ (.cons_cons _ (.cons _ (.slnil))))) 3 rfl (by decide) (by kernel_rfl) (by kernel_rfl) (want_no rfl) (some 39) rfl (.pointer (some ⟨g1, 8, none⟩)) (fun _ _ => by kernel_rfl) ?_
        refine hl_cell (M.drop (.cons_cons _ (.cons_cons _ (.cons _ (.slnil))))) 4 rfl (by decide) (by kernel_rfl) (by kernel_rfl) (want_no rfl) (some 40) rfl 9 _ rfl g1 8 (by kernel_rfl) (.string s) (fun _ => by kernel_rfl) (fun w M => M.cell 0 rfl (by decide) rfl) ?_
        refine hl_val (M.drop (.cons_cons _ (.cons_cons _ (.cons _ (.slnil))))) 5 rfl (by decide) (by kernel_rfl) (by kernel_rfl) (want_no rfl) (some 41) rfl (.int .u8 (bt s 1)) (fun w _ => (run_ixS 9 Try.underlying9 _ _ rfl s (by kernel_rfl) .i64 1 (by kernel_rfl) (by have := (hE (by omega)).1; omega)) w) ?_
        refine hl_val (M.drop (.cons_cons _ (.cons_cons _ (.cons _ (.slnil))))) 6 rfl (by decide) (by kernel_rfl) (by kernel_rfl) (want_no rfl) (some 42) rfl (.pointer (some ⟨g3, 10, none⟩)) (fun _ _ => by kernel_rfl) ?_
        refine hl_one 7 (by decide) (by kernel_rfl) rfl ?_
        refine pl_put1 M (want_no rfl) rfl 5 _ _ rfl 2 g3 10 (by kernel_rfl) 13 32 (ls [.int .u8 p, .bool (v0), .int .u64 h0, .int .u64 l0, .bool (v1), .int .u64 h1, .int .u64 l1, .int .u16 0, .int .u16 0, .int .u8 0, .int .u8 0, .int .u8 0, .int .i64 (hSz p s)]) rfl (.int .u8 (bt s 0)) (ls [.int .u8 p, .bool (v0), .int .u64 h0, .int .u64 l0, .bool (v1), .int .u64 h1, .int .u64 l1, .int .u16 0, .int .u16 0, .int .u8 0, .int .u8 (bt s 0), .int .u8 0, .int .i64 (hSz p s)]) (by kernel_rfl) inz5 (by decide) rfl rfl (put_ls _ 10 _ _ rfl) ?_
        intro u6 M
        replace M : Mem ⟨w, []⟩ [⟨g1, .cells (av 9 (ls [.bool (v0), .int .u64 h0, .int .u64 l0, .bool (v1), .int .u64 h1, .int .u64 l1, .int .u8 p, .int .u8 t, .string s])) 26⟩, ⟨g2, .cells (av 13 (ls [.int .u8 0, .bool false, .int .u64 0, .int .u64 0, .bool false, .int .u64 0, .int .u64 0, .int .u16 0, .int .u16 0, .int .u8 0, .int .u8 0, .int .u8 0, .int .i64 0])) 32⟩, ⟨g3, .cells (av 13 (ls [.int .u8 p, .bool (v0), .int .u64 h0, .int .u64 l0, .bool (v1), .int .u64 h1, .int .u64 l1, .int .u16 0, .int .u16 0, .int .u8 0, .int .u8 (bt s 0), .int .u8 0, .int .i64 (hSz p s)])) 32⟩] u6 := M
        refine pl_nil ?_
        refine au_then ?_
        refine ⟨(M.drop (.cons_cons _ (.cons_cons _ (.cons _ (.slnil))))), ?_⟩
        refine hl_val (M.drop (.cons_cons _ (.cons_cons _ (.cons _ (.slnil))))) 8 rfl (by decide) (by kernel_rfl) (by kernel_rfl) (want_no rfl) (some 43) rfl (.pointer (some ⟨g3, 11, none⟩)) (fun _ _ => by kernel_rfl) ?_
        refine hl_end (by kernel_rfl) (by kernel_rfl) rfl ?_
        refine pl_put1 M (want_no rfl) rfl 5 _ _ rfl 2 g3 11 (by kernel_rfl) 13 32 (ls [.int .u8 p, .bool (v0), .int .u64 h0, .int .u64 l0, .bool (v1), .int .u64 h1, .int .u64 l1, .int .u16 0, .int .u16 0, .int .u8 0, .int .u8 (bt s 0), .int .u8 0, .int .i64 (hSz p s)]) rfl (.int .u8 (bt s 1)) (ls [.int .u8 p, .bool (v0), .int .u64 h0, .int .u64 l0, .bool (v1), .int .u64 h1, .int .u64 l1, .int .u16 0, .int .u16 0, .int .u8 0, .int .u8 (bt s 0), .int .u8 (bt s 1), .int .i64 (hSz p s)]) (by kernel_rfl) inz5 (by decide) rfl rfl (put_ls _ 11 _ _ rfl) ?_
        intro u7 M
        replace M : Mem ⟨w, []⟩ [⟨g1, .cells (av 9 (ls [.bool (v0), .int .u64 h0, .int .u64 l0, .bool (v1), .int .u64 h1, .int .u64 l1, .int .u8 p, .int .u8 t, .string s])) 26⟩, ⟨g2, .cells (av 13 (ls [.int .u8 0, .bool false, .int .u64 0, .int .u64 0, .bool false, .int .u64 0, .int .u64 0, .int .u16 0, .int .u16 0, .int .u8 0, .int .u8 0, .int .u8 0, .int .i64 0])) 32⟩, ⟨g3, .cells (av 13 (ls [.int .u8 p, .bool (v0), .int .u64 h0, .int .u64 l0, .bool (v1), .int .u64 h1, .int .u64 l1, .int .u16 0, .int .u16 0, .int .u8 0, .int .u8 (bt s 0), .int .u8 (bt s 1), .int .i64 (hSz p s)])) 32⟩] u7 := M
        refine pl_nil ?_
        refine au_then ?_
        refine au_then ?_
        refine wp_seq ?_
        refine rg_lit ?_
        refine pl_val (want_no rfl) (some 44) rfl (.pointer (some ⟨g1, 6, none⟩)) (fun _ => by kernel_rfl) ?_
        refine pl_cell M (want_no rfl) (some 45) rfl 5 _ rfl g1 6 (by kernel_rfl) (.int .u8 p) (fun _ => by kernel_rfl) (fun w M => M.cell 0 rfl (by decide) rfl) ?_
        refine pl_val (want_no rfl) (some 46) rfl (.pointer (some ⟨g3, 10, none⟩)) (fun _ => by kernel_rfl) ?_
        refine pl_cell M (want_no rfl) (some 47) rfl 5 _ rfl g3 10 (by kernel_rfl) (.int .u8 (bt s 0)) (fun _ => by kernel_rfl) (fun w M => M.cell 2 rfl (by decide) rfl) ?_
        rcases Bool.eq_false_or_eq_true (ec p (bt s 0)) with c3 | c3
        · skip
          refine pl_call M (want_no rfl) (some 48) rfl 45 #[.int .u8 p, .int .u8 (bt s 0)] (.bool true) (fun _ => by kernel_rfl) (fun w M => call_val (c_isEcho p (bt s 0) w M.laid) (congrArg Value.bool c3)) ?_
          intro u8 M
          refine pl_nil ?_
          refine au_then ?_
          refine wp_cond_true (by kernel_rfl) ?_
          refine rg_tail M 9 (by kernel_rfl) (by kernel_rfl) ?_
          simp only [List.take_succ_cons, List.take_zero]
          refine k_val (want_no rfl) (some 49) rfl (.pointer (some ⟨g1, 0, none⟩)) (fun _ => by kernel_rfl) ?_
          refine k_load M (want_no rfl) (some 50) rfl 24 _ rfl 0 g1 0 (by kernel_rfl) 9 26 (ls [.bool (v0), .int .u64 h0, .int .u64 l0, .bool (v1), .int .u64 h1, .int .u64 l1, .int .u8 p, .int .u8 t, .string s]) rfl 3 (ls [.bool (v0), .int .u64 h0, .int .u64 l0]) (part_ls _ 0 3 _ rfl) (by decide) _ Try.underlying24 rfl inz24 ?_
          refine k_val (want_no rfl) (some 51) rfl (.pointer (some ⟨g1, 3, none⟩)) (fun _ => by kernel_rfl) ?_
          refine k_load M (want_no rfl) (some 52) rfl 24 _ rfl 0 g1 3 (by kernel_rfl) 9 26 (ls [.bool (v0), .int .u64 h0, .int .u64 l0, .bool (v1), .int .u64 h1, .int .u64 l1, .int .u8 p, .int .u8 t, .string s]) rfl 3 (ls [.bool (v1), .int .u64 h1, .int .u64 l1]) (part_ls _ 3 3 _ rfl) (by decide) _ Try.underlying24 rfl inz24 ?_
          refine k_val (want_no rfl) (some 53) rfl (.pointer (some ⟨g1, 8, none⟩)) (fun _ => by kernel_rfl) ?_
          refine k_cell M (want_no rfl) (some 54) rfl 9 _ rfl g1 8 (by kernel_rfl) (.string s) (fun _ => by kernel_rfl) (fun w M => M.cell 0 rfl (by decide) rfl) ?_
          refine k_call M (want_no rfl) (some 55) rfl 44 #[.string s, .int .i64 4] (.int .u16 (pr s 4)) (fun _ => by kernel_rfl) (fun w M => c_pairAt s 4 (by omega) w M.laid) ?_
          refine k_call M (want_no rfl) (some 56) rfl 35 #[.agg (av 3 (ls [.bool (v0), .int .u64 h0, .int .u64 l0])), .agg (av 3 (ls [.bool (v1), .int .u64 h1, .int .u64 l1])), .int .u16 (pr s 4)] (.agg (av 9 (ls [.int .u8 (eP v0), .bool (v0), .int .u64 h0, .int .u64 l0, .bool (v1), .int .u64 h1, .int .u64 l1, .int .u16 (pr s 4), .int .u16 (pr s 4)]))) (fun _ => by kernel_rfl) (fun w M => c_echoFlow v0 h0 l0 v1 h1 l1 (pr s 4) w M.laid) ?_
          refine k_val (want_no rfl) (some 57) rfl (.pointer (some ⟨g3, 0, none⟩)) (fun _ => by kernel_rfl) ?_
          refine kl_nil ?_
          intro u9 M
          replace M : Mem ⟨w, []⟩ [⟨g1, .cells (av 9 (ls [.bool (v0), .int .u64 h0, .int .u64 l0, .bool (v1), .int .u64 h1, .int .u64 l1, .int .u8 p, .int .u8 t, .string s])) 26⟩, ⟨g2, .cells (av 13 (ls [.int .u8 0, .bool false, .int .u64 0, .int .u64 0, .bool false, .int .u64 0, .int .u64 0, .int .u16 0, .int .u16 0, .int .u8 0, .int .u8 0, .int .u8 0, .int .i64 0])) 32⟩, ⟨g3, .cells (av 13 (ls [.int .u8 p, .bool (v0), .int .u64 h0, .int .u64 l0, .bool (v1), .int .u64 h1, .int .u64 l1, .int .u16 0, .int .u16 0, .int .u8 0, .int .u8 (bt s 0), .int .u8 (bt s 1), .int .i64 (hSz p s)])) 32⟩] u9 := M
          refine pl_put M (want_no rfl) rfl 29 _ _ rfl 2 g3 0 (by kernel_rfl) 13 32 (ls [.int .u8 p, .bool (v0), .int .u64 h0, .int .u64 l0, .bool (v1), .int .u64 h1, .int .u64 l1, .int .u16 0, .int .u16 0, .int .u8 0, .int .u8 (bt s 0), .int .u8 (bt s 1), .int .i64 (hSz p s)]) rfl 9 (ls [.int .u8 (eP v0), .bool (v0), .int .u64 h0, .int .u64 l0, .bool (v1), .int .u64 h1, .int .u64 l1, .int .u16 (pr s 4), .int .u16 (pr s 4)]) (ls [.int .u8 (eP v0), .bool (v0), .int .u64 h0, .int .u64 l0, .bool (v1), .int .u64 h1, .int .u64 l1, .int .u16 (pr s 4), .int .u16 (pr s 4), .int .u8 0, .int .u8 (bt s 0), .int .u8 (bt s 1), .int .i64 (hSz p s)]) (by kernel_rfl) inz29 (by decide) (one_ls _ rfl) (putp_ls ([.int .u8 p, .bool (v0), .int .u64 h0, .int .u64 l0, .bool (v1), .int .u64 h1, .int .u64 l1, .int .u16 0, .int .u16 0, .int .u8 0, .int .u8 (bt s 0), .int .u8 (bt s 1), .int .i64 (hSz p s)] : List Value) ([.int .u8 (eP v0), .bool (v0), .int .u64 h0, .int .u64 l0, .bool (v1), .int .u64 h1, .int .u64 l1, .int .u16 (pr s 4), .int .u16 (pr s 4)] : List Value) 0 _ rfl ⟨Nat.le_of_ble_eq_true rfl, Nat.le_of_ble_eq_true rfl⟩) ?_
          intro u10 M
          replace M : Mem ⟨w, []⟩ [⟨g1, .cells (av 9 (ls [.bool (v0), .int .u64 h0, .int .u64 l0, .bool (v1), .int .u64 h1, .int .u64 l1, .int .u8 p, .int .u8 t, .string s])) 26⟩, ⟨g2, .cells (av 13 (ls [.int .u8 0, .bool false, .int .u64 0, .int .u64 0, .bool false, .int .u64 0, .int .u64 0, .int .u16 0, .int .u16 0, .int .u8 0, .int .u8 0, .int .u8 0, .int .i64 0])) 32⟩, ⟨g3, .cells (av 13 (ls [.int .u8 (eP v0), .bool (v0), .int .u64 h0, .int .u64 l0, .bool (v1), .int .u64 h1, .int .u64 l1, .int .u16 (pr s 4), .int .u16 (pr s 4), .int .u8 0, .int .u8 (bt s 0), .int .u8 (bt s 1), .int .i64 (hSz p s)])) 32⟩] u10 := M
          refine pl_nil ?_
          refine au_then ?_
          refine wp_exit ?_
          refine au_block_exit ?_
          refine au_then ?_
          refine wp_seq ?_
          refine rg_lit ?_
          refine pl_load M (want_no rfl) (some 58) rfl 32 _ rfl 2 g3 0 (by kernel_rfl) 13 32 (ls [.int .u8 (eP v0), .bool (v0), .int .u64 h0, .int .u64 l0, .bool (v1), .int .u64 h1, .int .u64 l1, .int .u16 (pr s 4), .int .u16 (pr s 4), .int .u8 0, .int .u8 (bt s 0), .int .u8 (bt s 1), .int .i64 (hSz p s)]) rfl 13 (ls [.int .u8 (eP v0), .bool (v0), .int .u64 h0, .int .u64 l0, .bool (v1), .int .u64 h1, .int .u64 l1, .int .u16 (pr s 4), .int .u16 (pr s 4), .int .u8 0, .int .u8 (bt s 0), .int .u8 (bt s 1), .int .i64 (hSz p s)]) (fun j _ => by rw [Nat.zero_add]) (by decide) _ Try.underlying32 rfl inz32 ?_
          refine pl_put M (want_no rfl) rfl 32 _ _ rfl 1 g2 0 (by kernel_rfl) 13 32 (ls [.int .u8 0, .bool false, .int .u64 0, .int .u64 0, .bool false, .int .u64 0, .int .u64 0, .int .u16 0, .int .u16 0, .int .u8 0, .int .u8 0, .int .u8 0, .int .i64 0]) rfl 13 (ls [.int .u8 (eP v0), .bool (v0), .int .u64 h0, .int .u64 l0, .bool (v1), .int .u64 h1, .int .u64 l1, .int .u16 (pr s 4), .int .u16 (pr s 4), .int .u8 0, .int .u8 (bt s 0), .int .u8 (bt s 1), .int .i64 (hSz p s)]) (ls [.int .u8 (eP v0), .bool (v0), .int .u64 h0, .int .u64 l0, .bool (v1), .int .u64 h1, .int .u64 l1, .int .u16 (pr s 4), .int .u16 (pr s 4), .int .u8 0, .int .u8 (bt s 0), .int .u8 (bt s 1), .int .i64 (hSz p s)]) (by kernel_rfl) inz32 (by decide) (one_ls _ rfl) (fun j hj => by rw [if_pos (by omega), Nat.sub_zero]) ?_
          intro u11 M
          replace M : Mem ⟨w, []⟩ [⟨g1, .cells (av 9 (ls [.bool (v0), .int .u64 h0, .int .u64 l0, .bool (v1), .int .u64 h1, .int .u64 l1, .int .u8 p, .int .u8 t, .string s])) 26⟩, ⟨g2, .cells (av 13 (ls [.int .u8 (eP v0), .bool (v0), .int .u64 h0, .int .u64 l0, .bool (v1), .int .u64 h1, .int .u64 l1, .int .u16 (pr s 4), .int .u16 (pr s 4), .int .u8 0, .int .u8 (bt s 0), .int .u8 (bt s 1), .int .i64 (hSz p s)])) 32⟩, ⟨g3, .cells (av 13 (ls [.int .u8 (eP v0), .bool (v0), .int .u64 h0, .int .u64 l0, .bool (v1), .int .u64 h1, .int .u64 l1, .int .u16 (pr s 4), .int .u16 (pr s 4), .int .u8 0, .int .u8 (bt s 0), .int .u8 (bt s 1), .int .i64 (hSz p s)])) 32⟩] u11 := M
          refine pl_nil ?_
          refine au_then ?_
          refine wp_ret ?_
          have e0 : p = (eP v0) := (hE (by omega)).2
          have e1 : (hFr p s) = (pr s 4) := by simp only [hFr, hTo, hFl, hKi, hCo, if_neg c0, if_neg c1, if_pos c2, if_pos c3]
          have e2 : (hTo p s) = (pr s 4) := by simp only [hFr, hTo, hFl, hKi, hCo, if_neg c0, if_neg c1, if_pos c2, if_pos c3]
          have e3 : (hFl p s) = 0 := by simp only [hFr, hTo, hFl, hKi, hCo, if_neg c0, if_neg c1, if_pos c2, if_pos c3]
          have e4 : (hKi p s) = (bt s 0) := by simp only [hFr, hTo, hFl, hKi, hCo, if_neg c0, if_neg c1, if_pos c2, if_pos c3]
          have e5 : (hCo p s) = (bt s 1) := by simp only [hFr, hTo, hFl, hKi, hCo, if_neg c0, if_neg c1, if_pos c2, if_pos c3]
          exact bodyPost_ret (v := .agg (av 13 (ls [.int .u8 (eP v0), .bool (v0), .int .u64 h0, .int .u64 l0, .bool (v1), .int .u64 h1, .int .u64 l1, .int .u16 (pr s 4), .int .u16 (pr s 4), .int .u8 0, .int .u8 (bt s 0), .int .u8 (bt s 1), .int .i64 (hSz p s)]))) (results_cell_row Try.results23 _ _ g2 32 (av 13 (ls [.int .u8 (eP v0), .bool (v0), .int .u64 h0, .int .u64 l0, .bool (v1), .int .u64 h1, .int .u64 l1, .int .u16 (pr s 4), .int .u16 (pr s 4), .int .u8 0, .int .u8 (bt s 0), .int .u8 (bt s 1), .int .i64 (hSz p s)])) (0, 0) _ (by kernel_rfl) (M.get 1 rfl) Try.underlying32 rfl (by rw [av_size]; exact inz32)) (by kernel_rfl) ⟨by rw [e5, e4, e3, e2, e1, e0], below_grown M.old⟩
        · skip
          refine pl_call M (want_no rfl) (some 48) rfl 45 #[.int .u8 p, .int .u8 (bt s 0)] (.bool false) (fun _ => by kernel_rfl) (fun w M => call_val (c_isEcho p (bt s 0) w M.laid) (congrArg Value.bool c3)) ?_
          intro u8 M
          refine pl_nil ?_
          refine au_then ?_
          refine wp_cond_false (by kernel_rfl) ?_
          refine wp_skip ?_
          refine au_then ?_
          refine wp_exit ?_
          refine au_block_exit ?_
          refine au_then ?_
          refine wp_seq ?_
          refine rg_lit ?_
          refine pl_load M (want_no rfl) (some 58) rfl 32 _ rfl 2 g3 0 (by kernel_rfl) 13 32 (ls [.int .u8 p, .bool (v0), .int .u64 h0, .int .u64 l0, .bool (v1), .int .u64 h1, .int .u64 l1, .int .u16 0, .int .u16 0, .int .u8 0, .int .u8 (bt s 0), .int .u8 (bt s 1), .int .i64 (hSz p s)]) rfl 13 (ls [.int .u8 p, .bool (v0), .int .u64 h0, .int .u64 l0, .bool (v1), .int .u64 h1, .int .u64 l1, .int .u16 0, .int .u16 0, .int .u8 0, .int .u8 (bt s 0), .int .u8 (bt s 1), .int .i64 (hSz p s)]) (fun j _ => by rw [Nat.zero_add]) (by decide) _ Try.underlying32 rfl inz32 ?_
          refine pl_put M (want_no rfl) rfl 32 _ _ rfl 1 g2 0 (by kernel_rfl) 13 32 (ls [.int .u8 0, .bool false, .int .u64 0, .int .u64 0, .bool false, .int .u64 0, .int .u64 0, .int .u16 0, .int .u16 0, .int .u8 0, .int .u8 0, .int .u8 0, .int .i64 0]) rfl 13 (ls [.int .u8 p, .bool (v0), .int .u64 h0, .int .u64 l0, .bool (v1), .int .u64 h1, .int .u64 l1, .int .u16 0, .int .u16 0, .int .u8 0, .int .u8 (bt s 0), .int .u8 (bt s 1), .int .i64 (hSz p s)]) (ls [.int .u8 p, .bool (v0), .int .u64 h0, .int .u64 l0, .bool (v1), .int .u64 h1, .int .u64 l1, .int .u16 0, .int .u16 0, .int .u8 0, .int .u8 (bt s 0), .int .u8 (bt s 1), .int .i64 (hSz p s)]) (by kernel_rfl) inz32 (by decide) (one_ls _ rfl) (fun j hj => by rw [if_pos (by omega), Nat.sub_zero]) ?_
          intro u9 M
          replace M : Mem ⟨w, []⟩ [⟨g1, .cells (av 9 (ls [.bool (v0), .int .u64 h0, .int .u64 l0, .bool (v1), .int .u64 h1, .int .u64 l1, .int .u8 p, .int .u8 t, .string s])) 26⟩, ⟨g2, .cells (av 13 (ls [.int .u8 p, .bool (v0), .int .u64 h0, .int .u64 l0, .bool (v1), .int .u64 h1, .int .u64 l1, .int .u16 0, .int .u16 0, .int .u8 0, .int .u8 (bt s 0), .int .u8 (bt s 1), .int .i64 (hSz p s)])) 32⟩, ⟨g3, .cells (av 13 (ls [.int .u8 p, .bool (v0), .int .u64 h0, .int .u64 l0, .bool (v1), .int .u64 h1, .int .u64 l1, .int .u16 0, .int .u16 0, .int .u8 0, .int .u8 (bt s 0), .int .u8 (bt s 1), .int .i64 (hSz p s)])) 32⟩] u9 := M
          refine pl_nil ?_
          refine au_then ?_
          refine wp_ret ?_
          have e0 : (hFr p s) = 0 := by simp only [hFr, hTo, hFl, hKi, hCo, if_neg c0, if_neg c1, if_pos c2, if_neg (Bool.eq_false_iff.mp c3)]
          have e1 : (hTo p s) = 0 := by simp only [hFr, hTo, hFl, hKi, hCo, if_neg c0, if_neg c1, if_pos c2, if_neg (Bool.eq_false_iff.mp c3)]
          have e2 : (hFl p s) = 0 := by simp only [hFr, hTo, hFl, hKi, hCo, if_neg c0, if_neg c1, if_pos c2, if_neg (Bool.eq_false_iff.mp c3)]
          have e3 : (hKi p s) = (bt s 0) := by simp only [hFr, hTo, hFl, hKi, hCo, if_neg c0, if_neg c1, if_pos c2, if_neg (Bool.eq_false_iff.mp c3)]
          have e4 : (hCo p s) = (bt s 1) := by simp only [hFr, hTo, hFl, hKi, hCo, if_neg c0, if_neg c1, if_pos c2, if_neg (Bool.eq_false_iff.mp c3)]
          exact bodyPost_ret (v := .agg (av 13 (ls [.int .u8 p, .bool (v0), .int .u64 h0, .int .u64 l0, .bool (v1), .int .u64 h1, .int .u64 l1, .int .u16 0, .int .u16 0, .int .u8 0, .int .u8 (bt s 0), .int .u8 (bt s 1), .int .i64 (hSz p s)]))) (results_cell_row Try.results23 _ _ g2 32 (av 13 (ls [.int .u8 p, .bool (v0), .int .u64 h0, .int .u64 l0, .bool (v1), .int .u64 h1, .int .u64 l1, .int .u16 0, .int .u16 0, .int .u8 0, .int .u8 (bt s 0), .int .u8 (bt s 1), .int .i64 (hSz p s)])) (0, 0) _ (by kernel_rfl) (M.get 1 rfl) Try.underlying32 rfl (by rw [av_size]; exact inz32)) (by kernel_rfl) ⟨by rw [e4, e3, e2, e1, e0], below_grown M.old⟩
      · skip
        refine pl_val (want_no rfl) (some 20) rfl (.bool false) (fun w => Eq.trans (b := .ok (.value (.bool (decide (p = 1)))) w) (by kernel_rfl) (by rw [decide_eq_false (c2)])) ?_
        refine pl_val (want_no rfl) (some 19) rfl (.bool false) (fun _ => by kernel_rfl) ?_
        refine pl_nil ?_
        refine au_then ?_
        refine wp_cond_false (by kernel_rfl) ?_
        refine rg_lit ?_
        by_cases c3 : p = 58
        · skip
          refine pl_val (want_no rfl) (some 21) rfl (.bool true) (fun w => Eq.trans (b := .ok (.value (.bool (decide (p = 58)))) w) (by kernel_rfl) (by rw [decide_eq_true (c3)])) ?_
          refine pl_val (want_no rfl) (some 19) rfl (.bool true) (fun _ => by kernel_rfl) ?_
          refine pl_nil ?_
          refine au_then ?_
          refine wp_cond_true (by kernel_rfl) ?_
          refine wp_exit ?_
          refine au_then_exit ?_
          refine au_block_out (by decide) ?_
          refine au_then_exit ?_
          refine au_block_out (by decide) ?_
          refine au_then_exit ?_
          refine au_block_exit ?_
          refine au_then ?_
          refine wp_seq ?_
          refine wp_seq ?_
          refine rg_held M [⟨g1, .cells (av 9 (ls [.bool (v0), .int .u64 h0, .int .u64 l0, .bool (v1), .int .u64 h1, .int .u64 l1, .int .u8 p, .int .u8 t, .string s])) 26⟩, ⟨g2, .cells (av 13 (ls [.int .u8 0, .bool false, .int .u64 0, .int .u64 0, .bool false, .int .u64 0, .int .u64 0, .int .u16 0, .int .u16 0, .int .u8 0, .int .u8 0, .int .u8 0, .int .i64 0])) 32⟩] 9 rfl (by kernel_rfl) (by kernel_rfl) (fun _ _ d _ _ h => by cases d <;> exact h) ?_
          intro u5 M
          replace M : Mem ⟨w, []⟩ [⟨g1, .cells (av 9 (ls [.bool (v0), .int .u64 h0, .int .u64 l0, .bool (v1), .int .u64 h1, .int .u64 l1, .int .u8 p, .int .u8 t, .string s])) 26⟩, ⟨g2, .cells (av 13 (ls [.int .u8 0, .bool false, .int .u64 0, .int .u64 0, .bool false, .int .u64 0, .int .u64 0, .int .u16 0, .int .u16 0, .int .u8 0, .int .u8 0, .int .u8 0, .int .i64 0])) 32⟩, ⟨g3, .cells (av 13 (ls [.int .u8 p, .bool (v0), .int .u64 h0, .int .u64 l0, .bool (v1), .int .u64 h1, .int .u64 l1, .int .u16 0, .int .u16 0, .int .u8 0, .int .u8 0, .int .u8 0, .int .i64 (hSz p s)])) 32⟩] u5 := M
          refine hl_val (M.drop (.cons_cons _ (.cons_cons _ (.cons _ (.slnil))))) 0 rfl (by decide) (by kernel_rfl) (by kernel_rfl) (want_no rfl) (some 36) rfl (.pointer (some ⟨g1, 8, none⟩)) (fun _ _ => by kernel_rfl) ?_
          refine hl_cell (M.drop (.cons_cons _ (.cons_cons _ (.cons _ (.slnil))))) 1 rfl (by decide) (by kernel_rfl) (by kernel_rfl) (want_no rfl) (some 37) rfl 9 _ rfl g1 8 (by kernel_rfl) (.string s) (fun _ => by kernel_rfl) (fun w M => M.cell 0 rfl (by decide) rfl) ?_
          refine hl_val (M.drop (.cons_cons _ (.cons_cons _ (.cons _ (.slnil))))) 2 rfl (by decide) (by kernel_rfl) (by kernel_rfl) (want_no rfl) (some 38) rfl (.int .u8 (bt s 0)) (fun w _ => (run_ixS 9 Try.underlying9 _ _ rfl s (by kernel_rfl) .i64 0 (by kernel_rfl) (by have := (hE (by omega)).1; omega)) w) ?_
          refine hl_val (M.drop (.cons_cons _ (.cons_cons _ (.cons _ (.slnil))))) 3 rfl (by decide) (by kernel_rfl) (by kernel_rfl) (want_no rfl) (some 39) rfl (.pointer (some ⟨g1, 8, none⟩)) (fun _ _ => by kernel_rfl) ?_
          refine hl_cell (M.drop (.cons_cons _ (.cons_cons _ (.cons _ (.slnil))))) 4 rfl (by decide) (by kernel_rfl) (by kernel_rfl) (want_no rfl) (some 40) rfl 9 _ rfl g1 8 (by kernel_rfl) (.string s) (fun _ => by kernel_rfl) (fun w M => M.cell 0 rfl (by decide) rfl) ?_
          refine hl_val (M.drop (.cons_cons _ (.cons_cons _ (.cons _ (.slnil))))) 5 rfl (by decide) (by kernel_rfl) (by kernel_rfl) (want_no rfl) (some 41) rfl (.int .u8 (bt s 1)) (fun w _ => (run_ixS 9 Try.underlying9 _ _ rfl s (by kernel_rfl) .i64 1 (by kernel_rfl) (by have := (hE (by omega)).1; omega)) w) ?_
          refine hl_val (M.drop (.cons_cons _ (.cons_cons _ (.cons _ (.slnil))))) 6 rfl (by decide) (by kernel_rfl) (by kernel_rfl) (want_no rfl) (some 42) rfl (.pointer (some ⟨g3, 10, none⟩)) (fun _ _ => by kernel_rfl) ?_
          refine hl_one 7 (by decide) (by kernel_rfl) rfl ?_
          refine pl_put1 M (want_no rfl) rfl 5 _ _ rfl 2 g3 10 (by kernel_rfl) 13 32 (ls [.int .u8 p, .bool (v0), .int .u64 h0, .int .u64 l0, .bool (v1), .int .u64 h1, .int .u64 l1, .int .u16 0, .int .u16 0, .int .u8 0, .int .u8 0, .int .u8 0, .int .i64 (hSz p s)]) rfl (.int .u8 (bt s 0)) (ls [.int .u8 p, .bool (v0), .int .u64 h0, .int .u64 l0, .bool (v1), .int .u64 h1, .int .u64 l1, .int .u16 0, .int .u16 0, .int .u8 0, .int .u8 (bt s 0), .int .u8 0, .int .i64 (hSz p s)]) (by kernel_rfl) inz5 (by decide) rfl rfl (put_ls _ 10 _ _ rfl) ?_
          intro u6 M
          replace M : Mem ⟨w, []⟩ [⟨g1, .cells (av 9 (ls [.bool (v0), .int .u64 h0, .int .u64 l0, .bool (v1), .int .u64 h1, .int .u64 l1, .int .u8 p, .int .u8 t, .string s])) 26⟩, ⟨g2, .cells (av 13 (ls [.int .u8 0, .bool false, .int .u64 0, .int .u64 0, .bool false, .int .u64 0, .int .u64 0, .int .u16 0, .int .u16 0, .int .u8 0, .int .u8 0, .int .u8 0, .int .i64 0])) 32⟩, ⟨g3, .cells (av 13 (ls [.int .u8 p, .bool (v0), .int .u64 h0, .int .u64 l0, .bool (v1), .int .u64 h1, .int .u64 l1, .int .u16 0, .int .u16 0, .int .u8 0, .int .u8 (bt s 0), .int .u8 0, .int .i64 (hSz p s)])) 32⟩] u6 := M
          refine pl_nil ?_
          refine au_then ?_
          refine ⟨(M.drop (.cons_cons _ (.cons_cons _ (.cons _ (.slnil))))), ?_⟩
          refine hl_val (M.drop (.cons_cons _ (.cons_cons _ (.cons _ (.slnil))))) 8 rfl (by decide) (by kernel_rfl) (by kernel_rfl) (want_no rfl) (some 43) rfl (.pointer (some ⟨g3, 11, none⟩)) (fun _ _ => by kernel_rfl) ?_
          refine hl_end (by kernel_rfl) (by kernel_rfl) rfl ?_
          refine pl_put1 M (want_no rfl) rfl 5 _ _ rfl 2 g3 11 (by kernel_rfl) 13 32 (ls [.int .u8 p, .bool (v0), .int .u64 h0, .int .u64 l0, .bool (v1), .int .u64 h1, .int .u64 l1, .int .u16 0, .int .u16 0, .int .u8 0, .int .u8 (bt s 0), .int .u8 0, .int .i64 (hSz p s)]) rfl (.int .u8 (bt s 1)) (ls [.int .u8 p, .bool (v0), .int .u64 h0, .int .u64 l0, .bool (v1), .int .u64 h1, .int .u64 l1, .int .u16 0, .int .u16 0, .int .u8 0, .int .u8 (bt s 0), .int .u8 (bt s 1), .int .i64 (hSz p s)]) (by kernel_rfl) inz5 (by decide) rfl rfl (put_ls _ 11 _ _ rfl) ?_
          intro u7 M
          replace M : Mem ⟨w, []⟩ [⟨g1, .cells (av 9 (ls [.bool (v0), .int .u64 h0, .int .u64 l0, .bool (v1), .int .u64 h1, .int .u64 l1, .int .u8 p, .int .u8 t, .string s])) 26⟩, ⟨g2, .cells (av 13 (ls [.int .u8 0, .bool false, .int .u64 0, .int .u64 0, .bool false, .int .u64 0, .int .u64 0, .int .u16 0, .int .u16 0, .int .u8 0, .int .u8 0, .int .u8 0, .int .i64 0])) 32⟩, ⟨g3, .cells (av 13 (ls [.int .u8 p, .bool (v0), .int .u64 h0, .int .u64 l0, .bool (v1), .int .u64 h1, .int .u64 l1, .int .u16 0, .int .u16 0, .int .u8 0, .int .u8 (bt s 0), .int .u8 (bt s 1), .int .i64 (hSz p s)])) 32⟩] u7 := M
          refine pl_nil ?_
          refine au_then ?_
          refine au_then ?_
          refine wp_seq ?_
          refine rg_lit ?_
          refine pl_val (want_no rfl) (some 44) rfl (.pointer (some ⟨g1, 6, none⟩)) (fun _ => by kernel_rfl) ?_
          refine pl_cell M (want_no rfl) (some 45) rfl 5 _ rfl g1 6 (by kernel_rfl) (.int .u8 p) (fun _ => by kernel_rfl) (fun w M => M.cell 0 rfl (by decide) rfl) ?_
          refine pl_val (want_no rfl) (some 46) rfl (.pointer (some ⟨g3, 10, none⟩)) (fun _ => by kernel_rfl) ?_
          refine pl_cell M (want_no rfl) (some 47) rfl 5 _ rfl g3 10 (by kernel_rfl) (.int .u8 (bt s 0)) (fun _ => by kernel_rfl) (fun w M => M.cell 2 rfl (by decide) rfl) ?_
          rcases Bool.eq_false_or_eq_true (ec p (bt s 0)) with c4 | c4
          · skip
            refine pl_call M (want_no rfl) (some 48) rfl 45 #[.int .u8 p, .int .u8 (bt s 0)] (.bool true) (fun _ => by kernel_rfl) (fun w M => call_val (c_isEcho p (bt s 0) w M.laid) (congrArg Value.bool c4)) ?_
            intro u8 M
            refine pl_nil ?_
            refine au_then ?_
            refine wp_cond_true (by kernel_rfl) ?_
            refine rg_tail M 9 (by kernel_rfl) (by kernel_rfl) ?_
            simp only [List.take_succ_cons, List.take_zero]
            refine k_val (want_no rfl) (some 49) rfl (.pointer (some ⟨g1, 0, none⟩)) (fun _ => by kernel_rfl) ?_
            refine k_load M (want_no rfl) (some 50) rfl 24 _ rfl 0 g1 0 (by kernel_rfl) 9 26 (ls [.bool (v0), .int .u64 h0, .int .u64 l0, .bool (v1), .int .u64 h1, .int .u64 l1, .int .u8 p, .int .u8 t, .string s]) rfl 3 (ls [.bool (v0), .int .u64 h0, .int .u64 l0]) (part_ls _ 0 3 _ rfl) (by decide) _ Try.underlying24 rfl inz24 ?_
            refine k_val (want_no rfl) (some 51) rfl (.pointer (some ⟨g1, 3, none⟩)) (fun _ => by kernel_rfl) ?_
            refine k_load M (want_no rfl) (some 52) rfl 24 _ rfl 0 g1 3 (by kernel_rfl) 9 26 (ls [.bool (v0), .int .u64 h0, .int .u64 l0, .bool (v1), .int .u64 h1, .int .u64 l1, .int .u8 p, .int .u8 t, .string s]) rfl 3 (ls [.bool (v1), .int .u64 h1, .int .u64 l1]) (part_ls _ 3 3 _ rfl) (by decide) _ Try.underlying24 rfl inz24 ?_
            refine k_val (want_no rfl) (some 53) rfl (.pointer (some ⟨g1, 8, none⟩)) (fun _ => by kernel_rfl) ?_
            refine k_cell M (want_no rfl) (some 54) rfl 9 _ rfl g1 8 (by kernel_rfl) (.string s) (fun _ => by kernel_rfl) (fun w M => M.cell 0 rfl (by decide) rfl) ?_
            refine k_call M (want_no rfl) (some 55) rfl 44 #[.string s, .int .i64 4] (.int .u16 (pr s 4)) (fun _ => by kernel_rfl) (fun w M => c_pairAt s 4 (by omega) w M.laid) ?_
            refine k_call M (want_no rfl) (some 56) rfl 35 #[.agg (av 3 (ls [.bool (v0), .int .u64 h0, .int .u64 l0])), .agg (av 3 (ls [.bool (v1), .int .u64 h1, .int .u64 l1])), .int .u16 (pr s 4)] (.agg (av 9 (ls [.int .u8 (eP v0), .bool (v0), .int .u64 h0, .int .u64 l0, .bool (v1), .int .u64 h1, .int .u64 l1, .int .u16 (pr s 4), .int .u16 (pr s 4)]))) (fun _ => by kernel_rfl) (fun w M => c_echoFlow v0 h0 l0 v1 h1 l1 (pr s 4) w M.laid) ?_
            refine k_val (want_no rfl) (some 57) rfl (.pointer (some ⟨g3, 0, none⟩)) (fun _ => by kernel_rfl) ?_
            refine kl_nil ?_
            intro u9 M
            replace M : Mem ⟨w, []⟩ [⟨g1, .cells (av 9 (ls [.bool (v0), .int .u64 h0, .int .u64 l0, .bool (v1), .int .u64 h1, .int .u64 l1, .int .u8 p, .int .u8 t, .string s])) 26⟩, ⟨g2, .cells (av 13 (ls [.int .u8 0, .bool false, .int .u64 0, .int .u64 0, .bool false, .int .u64 0, .int .u64 0, .int .u16 0, .int .u16 0, .int .u8 0, .int .u8 0, .int .u8 0, .int .i64 0])) 32⟩, ⟨g3, .cells (av 13 (ls [.int .u8 p, .bool (v0), .int .u64 h0, .int .u64 l0, .bool (v1), .int .u64 h1, .int .u64 l1, .int .u16 0, .int .u16 0, .int .u8 0, .int .u8 (bt s 0), .int .u8 (bt s 1), .int .i64 (hSz p s)])) 32⟩] u9 := M
            refine pl_put M (want_no rfl) rfl 29 _ _ rfl 2 g3 0 (by kernel_rfl) 13 32 (ls [.int .u8 p, .bool (v0), .int .u64 h0, .int .u64 l0, .bool (v1), .int .u64 h1, .int .u64 l1, .int .u16 0, .int .u16 0, .int .u8 0, .int .u8 (bt s 0), .int .u8 (bt s 1), .int .i64 (hSz p s)]) rfl 9 (ls [.int .u8 (eP v0), .bool (v0), .int .u64 h0, .int .u64 l0, .bool (v1), .int .u64 h1, .int .u64 l1, .int .u16 (pr s 4), .int .u16 (pr s 4)]) (ls [.int .u8 (eP v0), .bool (v0), .int .u64 h0, .int .u64 l0, .bool (v1), .int .u64 h1, .int .u64 l1, .int .u16 (pr s 4), .int .u16 (pr s 4), .int .u8 0, .int .u8 (bt s 0), .int .u8 (bt s 1), .int .i64 (hSz p s)]) (by kernel_rfl) inz29 (by decide) (one_ls _ rfl) (putp_ls ([.int .u8 p, .bool (v0), .int .u64 h0, .int .u64 l0, .bool (v1), .int .u64 h1, .int .u64 l1, .int .u16 0, .int .u16 0, .int .u8 0, .int .u8 (bt s 0), .int .u8 (bt s 1), .int .i64 (hSz p s)] : List Value) ([.int .u8 (eP v0), .bool (v0), .int .u64 h0, .int .u64 l0, .bool (v1), .int .u64 h1, .int .u64 l1, .int .u16 (pr s 4), .int .u16 (pr s 4)] : List Value) 0 _ rfl ⟨Nat.le_of_ble_eq_true rfl, Nat.le_of_ble_eq_true rfl⟩) ?_
            intro u10 M
            replace M : Mem ⟨w, []⟩ [⟨g1, .cells (av 9 (ls [.bool (v0), .int .u64 h0, .int .u64 l0, .bool (v1), .int .u64 h1, .int .u64 l1, .int .u8 p, .int .u8 t, .string s])) 26⟩, ⟨g2, .cells (av 13 (ls [.int .u8 0, .bool false, .int .u64 0, .int .u64 0, .bool false, .int .u64 0, .int .u64 0, .int .u16 0, .int .u16 0, .int .u8 0, .int .u8 0, .int .u8 0, .int .i64 0])) 32⟩, ⟨g3, .cells (av 13 (ls [.int .u8 (eP v0), .bool (v0), .int .u64 h0, .int .u64 l0, .bool (v1), .int .u64 h1, .int .u64 l1, .int .u16 (pr s 4), .int .u16 (pr s 4), .int .u8 0, .int .u8 (bt s 0), .int .u8 (bt s 1), .int .i64 (hSz p s)])) 32⟩] u10 := M
            refine pl_nil ?_
            refine au_then ?_
            refine wp_exit ?_
            refine au_block_exit ?_
            refine au_then ?_
            refine wp_seq ?_
            refine rg_lit ?_
            refine pl_load M (want_no rfl) (some 58) rfl 32 _ rfl 2 g3 0 (by kernel_rfl) 13 32 (ls [.int .u8 (eP v0), .bool (v0), .int .u64 h0, .int .u64 l0, .bool (v1), .int .u64 h1, .int .u64 l1, .int .u16 (pr s 4), .int .u16 (pr s 4), .int .u8 0, .int .u8 (bt s 0), .int .u8 (bt s 1), .int .i64 (hSz p s)]) rfl 13 (ls [.int .u8 (eP v0), .bool (v0), .int .u64 h0, .int .u64 l0, .bool (v1), .int .u64 h1, .int .u64 l1, .int .u16 (pr s 4), .int .u16 (pr s 4), .int .u8 0, .int .u8 (bt s 0), .int .u8 (bt s 1), .int .i64 (hSz p s)]) (fun j _ => by rw [Nat.zero_add]) (by decide) _ Try.underlying32 rfl inz32 ?_
            refine pl_put M (want_no rfl) rfl 32 _ _ rfl 1 g2 0 (by kernel_rfl) 13 32 (ls [.int .u8 0, .bool false, .int .u64 0, .int .u64 0, .bool false, .int .u64 0, .int .u64 0, .int .u16 0, .int .u16 0, .int .u8 0, .int .u8 0, .int .u8 0, .int .i64 0]) rfl 13 (ls [.int .u8 (eP v0), .bool (v0), .int .u64 h0, .int .u64 l0, .bool (v1), .int .u64 h1, .int .u64 l1, .int .u16 (pr s 4), .int .u16 (pr s 4), .int .u8 0, .int .u8 (bt s 0), .int .u8 (bt s 1), .int .i64 (hSz p s)]) (ls [.int .u8 (eP v0), .bool (v0), .int .u64 h0, .int .u64 l0, .bool (v1), .int .u64 h1, .int .u64 l1, .int .u16 (pr s 4), .int .u16 (pr s 4), .int .u8 0, .int .u8 (bt s 0), .int .u8 (bt s 1), .int .i64 (hSz p s)]) (by kernel_rfl) inz32 (by decide) (one_ls _ rfl) (fun j hj => by rw [if_pos (by omega), Nat.sub_zero]) ?_
            intro u11 M
            replace M : Mem ⟨w, []⟩ [⟨g1, .cells (av 9 (ls [.bool (v0), .int .u64 h0, .int .u64 l0, .bool (v1), .int .u64 h1, .int .u64 l1, .int .u8 p, .int .u8 t, .string s])) 26⟩, ⟨g2, .cells (av 13 (ls [.int .u8 (eP v0), .bool (v0), .int .u64 h0, .int .u64 l0, .bool (v1), .int .u64 h1, .int .u64 l1, .int .u16 (pr s 4), .int .u16 (pr s 4), .int .u8 0, .int .u8 (bt s 0), .int .u8 (bt s 1), .int .i64 (hSz p s)])) 32⟩, ⟨g3, .cells (av 13 (ls [.int .u8 (eP v0), .bool (v0), .int .u64 h0, .int .u64 l0, .bool (v1), .int .u64 h1, .int .u64 l1, .int .u16 (pr s 4), .int .u16 (pr s 4), .int .u8 0, .int .u8 (bt s 0), .int .u8 (bt s 1), .int .i64 (hSz p s)])) 32⟩] u11 := M
            refine pl_nil ?_
            refine au_then ?_
            refine wp_ret ?_
            have e0 : p = (eP v0) := (hE (by omega)).2
            have e1 : (hFr p s) = (pr s 4) := by simp only [hFr, hTo, hFl, hKi, hCo, if_neg c0, if_neg c1, if_neg c2, if_pos c3, if_pos c4]
            have e2 : (hTo p s) = (pr s 4) := by simp only [hFr, hTo, hFl, hKi, hCo, if_neg c0, if_neg c1, if_neg c2, if_pos c3, if_pos c4]
            have e3 : (hFl p s) = 0 := by simp only [hFr, hTo, hFl, hKi, hCo, if_neg c0, if_neg c1, if_neg c2, if_pos c3, if_pos c4]
            have e4 : (hKi p s) = (bt s 0) := by simp only [hFr, hTo, hFl, hKi, hCo, if_neg c0, if_neg c1, if_neg c2, if_pos c3, if_pos c4]
            have e5 : (hCo p s) = (bt s 1) := by simp only [hFr, hTo, hFl, hKi, hCo, if_neg c0, if_neg c1, if_neg c2, if_pos c3, if_pos c4]
            exact bodyPost_ret (v := .agg (av 13 (ls [.int .u8 (eP v0), .bool (v0), .int .u64 h0, .int .u64 l0, .bool (v1), .int .u64 h1, .int .u64 l1, .int .u16 (pr s 4), .int .u16 (pr s 4), .int .u8 0, .int .u8 (bt s 0), .int .u8 (bt s 1), .int .i64 (hSz p s)]))) (results_cell_row Try.results23 _ _ g2 32 (av 13 (ls [.int .u8 (eP v0), .bool (v0), .int .u64 h0, .int .u64 l0, .bool (v1), .int .u64 h1, .int .u64 l1, .int .u16 (pr s 4), .int .u16 (pr s 4), .int .u8 0, .int .u8 (bt s 0), .int .u8 (bt s 1), .int .i64 (hSz p s)])) (0, 0) _ (by kernel_rfl) (M.get 1 rfl) Try.underlying32 rfl (by rw [av_size]; exact inz32)) (by kernel_rfl) ⟨by rw [e5, e4, e3, e2, e1, e0], below_grown M.old⟩
          · skip
            refine pl_call M (want_no rfl) (some 48) rfl 45 #[.int .u8 p, .int .u8 (bt s 0)] (.bool false) (fun _ => by kernel_rfl) (fun w M => call_val (c_isEcho p (bt s 0) w M.laid) (congrArg Value.bool c4)) ?_
            intro u8 M
            refine pl_nil ?_
            refine au_then ?_
            refine wp_cond_false (by kernel_rfl) ?_
            refine wp_skip ?_
            refine au_then ?_
            refine wp_exit ?_
            refine au_block_exit ?_
            refine au_then ?_
            refine wp_seq ?_
            refine rg_lit ?_
            refine pl_load M (want_no rfl) (some 58) rfl 32 _ rfl 2 g3 0 (by kernel_rfl) 13 32 (ls [.int .u8 p, .bool (v0), .int .u64 h0, .int .u64 l0, .bool (v1), .int .u64 h1, .int .u64 l1, .int .u16 0, .int .u16 0, .int .u8 0, .int .u8 (bt s 0), .int .u8 (bt s 1), .int .i64 (hSz p s)]) rfl 13 (ls [.int .u8 p, .bool (v0), .int .u64 h0, .int .u64 l0, .bool (v1), .int .u64 h1, .int .u64 l1, .int .u16 0, .int .u16 0, .int .u8 0, .int .u8 (bt s 0), .int .u8 (bt s 1), .int .i64 (hSz p s)]) (fun j _ => by rw [Nat.zero_add]) (by decide) _ Try.underlying32 rfl inz32 ?_
            refine pl_put M (want_no rfl) rfl 32 _ _ rfl 1 g2 0 (by kernel_rfl) 13 32 (ls [.int .u8 0, .bool false, .int .u64 0, .int .u64 0, .bool false, .int .u64 0, .int .u64 0, .int .u16 0, .int .u16 0, .int .u8 0, .int .u8 0, .int .u8 0, .int .i64 0]) rfl 13 (ls [.int .u8 p, .bool (v0), .int .u64 h0, .int .u64 l0, .bool (v1), .int .u64 h1, .int .u64 l1, .int .u16 0, .int .u16 0, .int .u8 0, .int .u8 (bt s 0), .int .u8 (bt s 1), .int .i64 (hSz p s)]) (ls [.int .u8 p, .bool (v0), .int .u64 h0, .int .u64 l0, .bool (v1), .int .u64 h1, .int .u64 l1, .int .u16 0, .int .u16 0, .int .u8 0, .int .u8 (bt s 0), .int .u8 (bt s 1), .int .i64 (hSz p s)]) (by kernel_rfl) inz32 (by decide) (one_ls _ rfl) (fun j hj => by rw [if_pos (by omega), Nat.sub_zero]) ?_
            intro u9 M
            replace M : Mem ⟨w, []⟩ [⟨g1, .cells (av 9 (ls [.bool (v0), .int .u64 h0, .int .u64 l0, .bool (v1), .int .u64 h1, .int .u64 l1, .int .u8 p, .int .u8 t, .string s])) 26⟩, ⟨g2, .cells (av 13 (ls [.int .u8 p, .bool (v0), .int .u64 h0, .int .u64 l0, .bool (v1), .int .u64 h1, .int .u64 l1, .int .u16 0, .int .u16 0, .int .u8 0, .int .u8 (bt s 0), .int .u8 (bt s 1), .int .i64 (hSz p s)])) 32⟩, ⟨g3, .cells (av 13 (ls [.int .u8 p, .bool (v0), .int .u64 h0, .int .u64 l0, .bool (v1), .int .u64 h1, .int .u64 l1, .int .u16 0, .int .u16 0, .int .u8 0, .int .u8 (bt s 0), .int .u8 (bt s 1), .int .i64 (hSz p s)])) 32⟩] u9 := M
            refine pl_nil ?_
            refine au_then ?_
            refine wp_ret ?_
            have e0 : (hFr p s) = 0 := by simp only [hFr, hTo, hFl, hKi, hCo, if_neg c0, if_neg c1, if_neg c2, if_pos c3, if_neg (Bool.eq_false_iff.mp c4)]
            have e1 : (hTo p s) = 0 := by simp only [hFr, hTo, hFl, hKi, hCo, if_neg c0, if_neg c1, if_neg c2, if_pos c3, if_neg (Bool.eq_false_iff.mp c4)]
            have e2 : (hFl p s) = 0 := by simp only [hFr, hTo, hFl, hKi, hCo, if_neg c0, if_neg c1, if_neg c2, if_pos c3, if_neg (Bool.eq_false_iff.mp c4)]
            have e3 : (hKi p s) = (bt s 0) := by simp only [hFr, hTo, hFl, hKi, hCo, if_neg c0, if_neg c1, if_neg c2, if_pos c3, if_neg (Bool.eq_false_iff.mp c4)]
            have e4 : (hCo p s) = (bt s 1) := by simp only [hFr, hTo, hFl, hKi, hCo, if_neg c0, if_neg c1, if_neg c2, if_pos c3, if_neg (Bool.eq_false_iff.mp c4)]
            exact bodyPost_ret (v := .agg (av 13 (ls [.int .u8 p, .bool (v0), .int .u64 h0, .int .u64 l0, .bool (v1), .int .u64 h1, .int .u64 l1, .int .u16 0, .int .u16 0, .int .u8 0, .int .u8 (bt s 0), .int .u8 (bt s 1), .int .i64 (hSz p s)]))) (results_cell_row Try.results23 _ _ g2 32 (av 13 (ls [.int .u8 p, .bool (v0), .int .u64 h0, .int .u64 l0, .bool (v1), .int .u64 h1, .int .u64 l1, .int .u16 0, .int .u16 0, .int .u8 0, .int .u8 (bt s 0), .int .u8 (bt s 1), .int .i64 (hSz p s)])) (0, 0) _ (by kernel_rfl) (M.get 1 rfl) Try.underlying32 rfl (by rw [av_size]; exact inz32)) (by kernel_rfl) ⟨by rw [e4, e3, e2, e1, e0], below_grown M.old⟩
        · skip
          refine pl_val (want_no rfl) (some 21) rfl (.bool false) (fun w => Eq.trans (b := .ok (.value (.bool (decide (p = 58)))) w) (by kernel_rfl) (by rw [decide_eq_false (c3)])) ?_
          refine pl_val (want_no rfl) (some 19) rfl (.bool false) (fun _ => by kernel_rfl) ?_
          refine pl_nil ?_
          refine au_then ?_
          refine wp_cond_false (by kernel_rfl) ?_
          refine wp_skip ?_
          refine au_then ?_
          refine wp_exit ?_
          refine au_block_out (by decide) ?_
          refine au_then_exit ?_
          refine au_block_out (by decide) ?_
          refine au_then_exit ?_
          refine au_block_out (by decide) ?_
          refine au_then_exit ?_
          refine au_block_exit ?_
          refine au_then ?_
          refine wp_seq ?_
          refine rg_lit ?_
          refine pl_load M (want_no rfl) (some 58) rfl 32 _ rfl 2 g3 0 (by kernel_rfl) 13 32 (ls [.int .u8 p, .bool (v0), .int .u64 h0, .int .u64 l0, .bool (v1), .int .u64 h1, .int .u64 l1, .int .u16 0, .int .u16 0, .int .u8 0, .int .u8 0, .int .u8 0, .int .i64 (hSz p s)]) rfl 13 (ls [.int .u8 p, .bool (v0), .int .u64 h0, .int .u64 l0, .bool (v1), .int .u64 h1, .int .u64 l1, .int .u16 0, .int .u16 0, .int .u8 0, .int .u8 0, .int .u8 0, .int .i64 (hSz p s)]) (fun j _ => by rw [Nat.zero_add]) (by decide) _ Try.underlying32 rfl inz32 ?_
          refine pl_put M (want_no rfl) rfl 32 _ _ rfl 1 g2 0 (by kernel_rfl) 13 32 (ls [.int .u8 0, .bool false, .int .u64 0, .int .u64 0, .bool false, .int .u64 0, .int .u64 0, .int .u16 0, .int .u16 0, .int .u8 0, .int .u8 0, .int .u8 0, .int .i64 0]) rfl 13 (ls [.int .u8 p, .bool (v0), .int .u64 h0, .int .u64 l0, .bool (v1), .int .u64 h1, .int .u64 l1, .int .u16 0, .int .u16 0, .int .u8 0, .int .u8 0, .int .u8 0, .int .i64 (hSz p s)]) (ls [.int .u8 p, .bool (v0), .int .u64 h0, .int .u64 l0, .bool (v1), .int .u64 h1, .int .u64 l1, .int .u16 0, .int .u16 0, .int .u8 0, .int .u8 0, .int .u8 0, .int .i64 (hSz p s)]) (by kernel_rfl) inz32 (by decide) (one_ls _ rfl) (fun j hj => by rw [if_pos (by omega), Nat.sub_zero]) ?_
          intro u5 M
          replace M : Mem ⟨w, []⟩ [⟨g1, .cells (av 9 (ls [.bool (v0), .int .u64 h0, .int .u64 l0, .bool (v1), .int .u64 h1, .int .u64 l1, .int .u8 p, .int .u8 t, .string s])) 26⟩, ⟨g2, .cells (av 13 (ls [.int .u8 p, .bool (v0), .int .u64 h0, .int .u64 l0, .bool (v1), .int .u64 h1, .int .u64 l1, .int .u16 0, .int .u16 0, .int .u8 0, .int .u8 0, .int .u8 0, .int .i64 (hSz p s)])) 32⟩, ⟨g3, .cells (av 13 (ls [.int .u8 p, .bool (v0), .int .u64 h0, .int .u64 l0, .bool (v1), .int .u64 h1, .int .u64 l1, .int .u16 0, .int .u16 0, .int .u8 0, .int .u8 0, .int .u8 0, .int .i64 (hSz p s)])) 32⟩] u5 := M
          refine pl_nil ?_
          refine au_then ?_
          refine wp_ret ?_
          have e0 : (hFr p s) = 0 := by simp only [hFr, hTo, hFl, hKi, hCo, if_neg c0, if_neg c1, if_neg c2, if_neg c3]
          have e1 : (hTo p s) = 0 := by simp only [hFr, hTo, hFl, hKi, hCo, if_neg c0, if_neg c1, if_neg c2, if_neg c3]
          have e2 : (hFl p s) = 0 := by simp only [hFr, hTo, hFl, hKi, hCo, if_neg c0, if_neg c1, if_neg c2, if_neg c3]
          have e3 : (hKi p s) = 0 := by simp only [hFr, hTo, hFl, hKi, hCo, if_neg c0, if_neg c1, if_neg c2, if_neg c3]
          have e4 : (hCo p s) = 0 := by simp only [hFr, hTo, hFl, hKi, hCo, if_neg c0, if_neg c1, if_neg c2, if_neg c3]
          exact bodyPost_ret (v := .agg (av 13 (ls [.int .u8 p, .bool (v0), .int .u64 h0, .int .u64 l0, .bool (v1), .int .u64 h1, .int .u64 l1, .int .u16 0, .int .u16 0, .int .u8 0, .int .u8 0, .int .u8 0, .int .i64 (hSz p s)]))) (results_cell_row Try.results23 _ _ g2 32 (av 13 (ls [.int .u8 p, .bool (v0), .int .u64 h0, .int .u64 l0, .bool (v1), .int .u64 h1, .int .u64 l1, .int .u16 0, .int .u16 0, .int .u8 0, .int .u8 0, .int .u8 0, .int .i64 (hSz p s)])) (0, 0) _ (by kernel_rfl) (M.get 1 rfl) Try.underlying32 rfl (by rw [av_size]; exact inz32)) (by kernel_rfl) ⟨by rw [e4, e3, e2, e1, e0], below_grown M.old⟩

set_option maxRecDepth 100000 in
set_option maxHeartbeats 4000000 in
set_option linter.unusedSimpArgs false in
theorem c_Decode (v0 : Bool) (h0 l0 : Int) (v1 : Bool) (h1 l1 p t : Int) (s : ByteArray) (hs : s.size ≤ 9000) (hp : 0 ≤ p ∧ p < 256) (w : World) (hL : Laid w)  :
    Calls Try.prog 8 #[.agg (av 9 (ls [.bool (v0), .int .u64 h0, .int .u64 l0, .bool (v1), .int .u64 h1, .int .u64 l1, .int .u8 p, .int .u8 t, .string s]))] w fun r w' => r = .returned (.tuple #[.agg (av 13 (ls [.int .u8 (zI (dE v0 h0 l0 v1 h1 l1 p s) p), .bool (zB (dE v0 h0 l0 v1 h1 l1 p s) v0), .int .u64 (zI (dE v0 h0 l0 v1 h1 l1 p s) h0), .int .u64 (zI (dE v0 h0 l0 v1 h1 l1 p s) l0), .bool (zB (dE v0 h0 l0 v1 h1 l1 p s) v1), .int .u64 (zI (dE v0 h0 l0 v1 h1 l1 p s) h1), .int .u64 (zI (dE v0 h0 l0 v1 h1 l1 p s) l1), .int .u16 (zI (dE v0 h0 l0 v1 h1 l1 p s) (hFr p s)), .int .u16 (zI (dE v0 h0 l0 v1 h1 l1 p s) (hTo p s)), .int .u8 (zI (dE v0 h0 l0 v1 h1 l1 p s) (hFl p s)), .int .u8 (zI (dE v0 h0 l0 v1 h1 l1 p s) (hKi p s)), .int .u8 (zI (dE v0 h0 l0 v1 h1 l1 p s) (hCo p s)), .int .i64 (zI (dE v0 h0 l0 v1 h1 l1 p s) (hSz p s))])), .int .i64 (dE v0 h0 l0 v1 h1 l1 p s)]) ∧ Below w.heap.size w w' := by
  go_enter Try.func8, Try.ntmps8
  have M := Mem.start hL
  refine wp_seq ?_
  refine rg_lit ?_
  refine pl_new M (want_no rfl) (some 1) rfl (.cells (av 9 (ls [.bool (v0), .int .u64 h0, .int .u64 l0, .bool (v1), .int .u64 h1, .int .u64 l1, .int .u8 p, .int .u8 t, .string s])) 26) (fun _ => by kernel_rfl) ?_
  intro g1 u1 M
  replace M : Mem ⟨w, []⟩ [⟨g1, .cells (av 9 (ls [.bool (v0), .int .u64 h0, .int .u64 l0, .bool (v1), .int .u64 h1, .int .u64 l1, .int .u8 p, .int .u8 t, .string s])) 26⟩] u1 := M
  refine pl_new M (want_no rfl) (some 2) rfl (.cells (av 13 (ls [.int .u8 0, .bool false, .int .u64 0, .int .u64 0, .bool false, .int .u64 0, .int .u64 0, .int .u16 0, .int .u16 0, .int .u8 0, .int .u8 0, .int .u8 0, .int .i64 0])) 32) (fun _ => by kernel_rfl) ?_
  intro g2 u2 M
  replace M : Mem ⟨w, []⟩ [⟨g1, .cells (av 9 (ls [.bool (v0), .int .u64 h0, .int .u64 l0, .bool (v1), .int .u64 h1, .int .u64 l1, .int .u8 p, .int .u8 t, .string s])) 26⟩, ⟨g2, .cells (av 13 (ls [.int .u8 0, .bool false, .int .u64 0, .int .u64 0, .bool false, .int .u64 0, .int .u64 0, .int .u16 0, .int .u16 0, .int .u8 0, .int .u8 0, .int .u8 0, .int .i64 0])) 32⟩] u2 := M
  refine pl_val (want_no rfl) (some 3) rfl (.int .i64 0) (fun _ => by kernel_rfl) ?_
  refine pl_nil ?_
  refine au_then ?_
  refine wp_scope_jumps 0 (fun a u => ∃ (v : Nat → Value) (e : Int), a = ⟨#[.agg (av 9 (ls [.bool (v0), .int .u64 h0, .int .u64 l0, .bool (v1), .int .u64 h1, .int .u64 l1, .int .u8 p, .int .u8 t, .string s])), .pointer (some ⟨g1, 0, none⟩), .pointer (some ⟨g2, 0, none⟩), v 3, .int .i64 e, v 5, v 6, v 7, v 8, v 9, v 10, v 11, v 12, v 13, v 14, v 15, v 16], []⟩ ∧ Mem ⟨w, []⟩ [⟨g1, .cells (av 9 (ls [.bool (v0), .int .u64 h0, .int .u64 l0, .bool (v1), .int .u64 h1, .int .u64 l1, .int .u8 p, .int .u8 t, .string s])) 26⟩, ⟨g2, .cells (av 13 (ls [.int .u8 0, .bool false, .int .u64 0, .int .u64 0, .bool false, .int .u64 0, .int .u64 0, .int .u16 0, .int .u16 0, .int .u8 0, .int .u8 0, .int .u8 0, .int .i64 0])) 32⟩] u ∧ e = (dE v0 h0 l0 v1 h1 l1 p s) ∧ e ≠ 0) (fun _ _ => 0) rfl ?_ ?_
  · skip
    refine wp_seq ?_
    refine rg_lit ?_
    refine pl_load M (want_no rfl) (some 5) rfl 26 _ rfl 0 g1 0 (by kernel_rfl) 9 26 (ls [.bool (v0), .int .u64 h0, .int .u64 l0, .bool (v1), .int .u64 h1, .int .u64 l1, .int .u8 p, .int .u8 t, .string s]) rfl 9 (ls [.bool (v0), .int .u64 h0, .int .u64 l0, .bool (v1), .int .u64 h1, .int .u64 l1, .int .u8 p, .int .u8 t, .string s]) (fun j _ => by rw [Nat.zero_add]) (by decide) _ Try.underlying26 rfl inz26 ?_
    refine pl_call M (want_no rfl) (some 6) rfl 21 #[.agg (av 9 (ls [.bool (v0), .int .u64 h0, .int .u64 l0, .bool (v1), .int .u64 h1, .int .u64 l1, .int .u8 p, .int .u8 t, .string s]))] (.int .i64 (my v0 h0 l0 v1 h1 l1 (s.size : Int))) (fun _ => by kernel_rfl) (fun w M => c_May v0 h0 l0 v1 h1 l1 p t s (by omega) w M.laid) ?_
    intro u3 M
    refine pl_val (want_no rfl) (some 4) rfl (.int .i64 (my v0 h0 l0 v1 h1 l1 (s.size : Int))) (fun _ => by kernel_rfl) ?_
    refine pl_nil ?_
    refine au_then ?_
    refine wp_seq ?_
    refine wp_seq ?_
    refine rg_lit ?_
    refine pl_val (want_no rfl) (some 7) rfl (.int .i64 (my v0 h0 l0 v1 h1 l1 (s.size : Int))) (fun _ => by kernel_rfl) ?_
    by_cases c0 : (my v0 h0 l0 v1 h1 l1 (s.size : Int)) = 0
    · skip
      refine pl_val (want_no rfl) (some 8) rfl (.bool false) (fun w => Eq.trans (b := .ok (.value (.bool (!(decide ((my v0 h0 l0 v1 h1 l1 (s.size : Int)) = 0))))) w) (by kernel_rfl) (by rw [decide_eq_true (c0)]; rfl)) ?_
      refine pl_nil ?_
      refine au_then ?_
      refine wp_cond_false (by kernel_rfl) ?_
      refine wp_skip ?_
      refine au_then ?_
      refine wp_seq ?_
      refine wp_seq ?_
      refine rg_lit ?_
      refine pl_load M (want_no rfl) (some 9) rfl 26 _ rfl 0 g1 0 (by kernel_rfl) 9 26 (ls [.bool (v0), .int .u64 h0, .int .u64 l0, .bool (v1), .int .u64 h1, .int .u64 l1, .int .u8 p, .int .u8 t, .string s]) rfl 9 (ls [.bool (v0), .int .u64 h0, .int .u64 l0, .bool (v1), .int .u64 h1, .int .u64 l1, .int .u8 p, .int .u8 t, .string s]) (fun j _ => by rw [Nat.zero_add]) (by decide) _ Try.underlying26 rfl inz26 ?_
      refine pl_call M (want_no rfl) (some 10) rfl 22 #[.agg (av 9 (ls [.bool (v0), .int .u64 h0, .int .u64 l0, .bool (v1), .int .u64 h1, .int .u64 l1, .int .u8 p, .int .u8 t, .string s]))] (.int .i64 (fO v0 h0 l0 v1 h1 l1 p s)) (fun _ => by kernel_rfl) (fun w M => c_faultOf v0 h0 l0 v1 h1 l1 p t s (by omega) (by omega) w M.laid) ?_
      intro u4 M
      refine pl_val (want_no rfl) (some 4) rfl (.int .i64 (fO v0 h0 l0 v1 h1 l1 p s)) (fun _ => by kernel_rfl) ?_
      refine pl_nil ?_
      refine au_then ?_
      refine wp_seq ?_
      refine rg_lit ?_
      refine pl_val (want_no rfl) (some 11) rfl (.int .i64 (fO v0 h0 l0 v1 h1 l1 p s)) (fun _ => by kernel_rfl) ?_
      by_cases c1 : (fO v0 h0 l0 v1 h1 l1 p s) = 0
      · skip
        refine pl_val (want_no rfl) (some 12) rfl (.bool false) (fun w => Eq.trans (b := .ok (.value (.bool (!(decide ((fO v0 h0 l0 v1 h1 l1 p s) = 0))))) w) (by kernel_rfl) (by rw [decide_eq_true (c1)]; rfl)) ?_
        refine pl_nil ?_
        refine au_then ?_
        refine wp_cond_false (by kernel_rfl) ?_
        refine wp_skip ?_
        refine au_then ?_
        refine wp_seq ?_
        refine wp_seq ?_
        refine rg_lit ?_
        refine pl_load M (want_no rfl) (some 13) rfl 26 _ rfl 0 g1 0 (by kernel_rfl) 9 26 (ls [.bool (v0), .int .u64 h0, .int .u64 l0, .bool (v1), .int .u64 h1, .int .u64 l1, .int .u8 p, .int .u8 t, .string s]) rfl 9 (ls [.bool (v0), .int .u64 h0, .int .u64 l0, .bool (v1), .int .u64 h1, .int .u64 l1, .int .u8 p, .int .u8 t, .string s]) (fun j _ => by rw [Nat.zero_add]) (by decide) _ Try.underlying26 rfl inz26 ?_
        refine pl_call M (want_no rfl) (some 14) rfl 23 #[.agg (av 9 (ls [.bool (v0), .int .u64 h0, .int .u64 l0, .bool (v1), .int .u64 h1, .int .u64 l1, .int .u8 p, .int .u8 t, .string s]))] (.agg (av 13 (ls [.int .u8 p, .bool (v0), .int .u64 h0, .int .u64 l0, .bool (v1), .int .u64 h1, .int .u64 l1, .int .u16 (hFr p s), .int .u16 (hTo p s), .int .u8 (hFl p s), .int .u8 (hKi p s), .int .u8 (hCo p s), .int .i64 (hSz p s)]))) (fun _ => by kernel_rfl) (fun w M => c_headOf v0 h0 l0 v1 h1 l1 p t s hs (fO_17 v0 h0 l0 v1 h1 l1 p s c1) (fO_6 v0 h0 l0 v1 h1 l1 p s c1) (fO_1 v0 h0 l0 v1 h1 l1 p s c1) w M.laid) ?_
        intro u5 M
        refine pl_put M (want_no rfl) rfl 32 _ _ rfl 1 g2 0 (by kernel_rfl) 13 32 (ls [.int .u8 0, .bool false, .int .u64 0, .int .u64 0, .bool false, .int .u64 0, .int .u64 0, .int .u16 0, .int .u16 0, .int .u8 0, .int .u8 0, .int .u8 0, .int .i64 0]) rfl 13 (ls [.int .u8 p, .bool (v0), .int .u64 h0, .int .u64 l0, .bool (v1), .int .u64 h1, .int .u64 l1, .int .u16 (hFr p s), .int .u16 (hTo p s), .int .u8 (hFl p s), .int .u8 (hKi p s), .int .u8 (hCo p s), .int .i64 (hSz p s)]) (ls [.int .u8 p, .bool (v0), .int .u64 h0, .int .u64 l0, .bool (v1), .int .u64 h1, .int .u64 l1, .int .u16 (hFr p s), .int .u16 (hTo p s), .int .u8 (hFl p s), .int .u8 (hKi p s), .int .u8 (hCo p s), .int .i64 (hSz p s)]) (by kernel_rfl) inz32 (by decide) (one_ls _ rfl) (fun j hj => by rw [if_pos (by omega), Nat.sub_zero]) ?_
        intro u6 M
        replace M : Mem ⟨w, []⟩ [⟨g1, .cells (av 9 (ls [.bool (v0), .int .u64 h0, .int .u64 l0, .bool (v1), .int .u64 h1, .int .u64 l1, .int .u8 p, .int .u8 t, .string s])) 26⟩, ⟨g2, .cells (av 13 (ls [.int .u8 p, .bool (v0), .int .u64 h0, .int .u64 l0, .bool (v1), .int .u64 h1, .int .u64 l1, .int .u16 (hFr p s), .int .u16 (hTo p s), .int .u8 (hFl p s), .int .u8 (hKi p s), .int .u8 (hCo p s), .int .i64 (hSz p s)])) 32⟩] u6 := M
        refine pl_val (want_no rfl) (some 3) rfl (.int .i64 0) (fun _ => by kernel_rfl) ?_
        refine pl_nil ?_
        refine au_then ?_
        refine wp_ret ?_
        refine au_then_ret ?_
        refine au_scope_ret ?_
        have e0 : (zI (dE v0 h0 l0 v1 h1 l1 p s) p) = p := by rw [(show dE v0 h0 l0 v1 h1 l1 p s = 0 by unfold dE; rw [if_pos c0]; exact c1)]; exact if_pos rfl
        have e1 : zB (dE v0 h0 l0 v1 h1 l1 p s) v0 = v0 := by rw [(show dE v0 h0 l0 v1 h1 l1 p s = 0 by unfold dE; rw [if_pos c0]; exact c1)]; exact if_pos rfl
        have e2 : (zI (dE v0 h0 l0 v1 h1 l1 p s) h0) = h0 := by rw [(show dE v0 h0 l0 v1 h1 l1 p s = 0 by unfold dE; rw [if_pos c0]; exact c1)]; exact if_pos rfl
        have e3 : (zI (dE v0 h0 l0 v1 h1 l1 p s) l0) = l0 := by rw [(show dE v0 h0 l0 v1 h1 l1 p s = 0 by unfold dE; rw [if_pos c0]; exact c1)]; exact if_pos rfl
        have e4 : zB (dE v0 h0 l0 v1 h1 l1 p s) v1 = v1 := by rw [(show dE v0 h0 l0 v1 h1 l1 p s = 0 by unfold dE; rw [if_pos c0]; exact c1)]; exact if_pos rfl
        have e5 : (zI (dE v0 h0 l0 v1 h1 l1 p s) h1) = h1 := by rw [(show dE v0 h0 l0 v1 h1 l1 p s = 0 by unfold dE; rw [if_pos c0]; exact c1)]; exact if_pos rfl
        have e6 : (zI (dE v0 h0 l0 v1 h1 l1 p s) l1) = l1 := by rw [(show dE v0 h0 l0 v1 h1 l1 p s = 0 by unfold dE; rw [if_pos c0]; exact c1)]; exact if_pos rfl
        have e7 : (zI (dE v0 h0 l0 v1 h1 l1 p s) (hFr p s)) = (hFr p s) := by rw [(show dE v0 h0 l0 v1 h1 l1 p s = 0 by unfold dE; rw [if_pos c0]; exact c1)]; exact if_pos rfl
        have e8 : (zI (dE v0 h0 l0 v1 h1 l1 p s) (hTo p s)) = (hTo p s) := by rw [(show dE v0 h0 l0 v1 h1 l1 p s = 0 by unfold dE; rw [if_pos c0]; exact c1)]; exact if_pos rfl
        have e9 : (zI (dE v0 h0 l0 v1 h1 l1 p s) (hFl p s)) = (hFl p s) := by rw [(show dE v0 h0 l0 v1 h1 l1 p s = 0 by unfold dE; rw [if_pos c0]; exact c1)]; exact if_pos rfl
        have e10 : (zI (dE v0 h0 l0 v1 h1 l1 p s) (hKi p s)) = (hKi p s) := by rw [(show dE v0 h0 l0 v1 h1 l1 p s = 0 by unfold dE; rw [if_pos c0]; exact c1)]; exact if_pos rfl
        have e11 : (zI (dE v0 h0 l0 v1 h1 l1 p s) (hCo p s)) = (hCo p s) := by rw [(show dE v0 h0 l0 v1 h1 l1 p s = 0 by unfold dE; rw [if_pos c0]; exact c1)]; exact if_pos rfl
        have e12 : (zI (dE v0 h0 l0 v1 h1 l1 p s) (hSz p s)) = (hSz p s) := by rw [(show dE v0 h0 l0 v1 h1 l1 p s = 0 by unfold dE; rw [if_pos c0]; exact c1)]; exact if_pos rfl
        have e13 : (dE v0 h0 l0 v1 h1 l1 p s) = 0 := (show dE v0 h0 l0 v1 h1 l1 p s = 0 by unfold dE; rw [if_pos c0]; exact c1)
        exact bodyPost_ret (v := .tuple #[.agg (av 13 (ls [.int .u8 p, .bool (v0), .int .u64 h0, .int .u64 l0, .bool (v1), .int .u64 h1, .int .u64 l1, .int .u16 (hFr p s), .int .u16 (hTo p s), .int .u8 (hFl p s), .int .u8 (hKi p s), .int .u8 (hCo p s), .int .i64 (hSz p s)])), .int .i64 0]) (results_cell_tmp Try.results8 _ _ g2 32 (av 13 (ls [.int .u8 p, .bool (v0), .int .u64 h0, .int .u64 l0, .bool (v1), .int .u64 h1, .int .u64 l1, .int .u16 (hFr p s), .int .u16 (hTo p s), .int .u8 (hFl p s), .int .u8 (hKi p s), .int .u8 (hCo p s), .int .i64 (hSz p s)])) (0, 0) _ _ (by kernel_rfl) (by kernel_rfl) (M.get 1 rfl) Try.underlying32 rfl (by rw [av_size]; exact inz32)) (by kernel_rfl) ⟨by rw [e0, e1, e2, e3, e4, e5, e6, e7, e8, e9, e10, e11, e12, e13], below_grown M.old⟩
      · skip
        refine pl_val (want_no rfl) (some 12) rfl (.bool true) (fun w => Eq.trans (b := .ok (.value (.bool (!(decide ((fO v0 h0 l0 v1 h1 l1 p s) = 0))))) w) (by kernel_rfl) (by rw [decide_eq_false (c1)]; rfl)) ?_
        refine pl_nil ?_
        refine au_then ?_
        refine wp_cond_true (by kernel_rfl) ?_
        refine wp_goto ?_
        refine au_then_goto ?_
        exact au_jump ⟨fun k_ => ([.int .i64 0, undef, .agg (av 9 (ls [.bool (v0), .int .u64 h0, .int .u64 l0, .bool (v1), .int .u64 h1, .int .u64 l1, .int .u8 p, .int .u8 t, .string s])), .int .i64 (my v0 h0 l0 v1 h1 l1 (s.size : Int)), .int .i64 (my v0 h0 l0 v1 h1 l1 (s.size : Int)), .bool false, .agg (av 9 (ls [.bool (v0), .int .u64 h0, .int .u64 l0, .bool (v1), .int .u64 h1, .int .u64 l1, .int .u8 p, .int .u8 t, .string s])), .int .i64 (fO v0 h0 l0 v1 h1 l1 p s), .int .i64 (fO v0 h0 l0 v1 h1 l1 p s), .bool true, undef, undef, undef, undef] : List Value).getD (k_ - 3) undef, (fO v0 h0 l0 v1 h1 l1 p s), by kernel_rfl, M, by unfold dE; rw [if_pos c0], c1⟩
    · skip
      refine pl_val (want_no rfl) (some 8) rfl (.bool true) (fun w => Eq.trans (b := .ok (.value (.bool (!(decide ((my v0 h0 l0 v1 h1 l1 (s.size : Int)) = 0))))) w) (by kernel_rfl) (by rw [decide_eq_false (c0)]; rfl)) ?_
      refine pl_nil ?_
      refine au_then ?_
      refine wp_cond_true (by kernel_rfl) ?_
      refine wp_goto ?_
      refine au_then_goto ?_
      exact au_jump ⟨fun k_ => ([.int .i64 0, undef, .agg (av 9 (ls [.bool (v0), .int .u64 h0, .int .u64 l0, .bool (v1), .int .u64 h1, .int .u64 l1, .int .u8 p, .int .u8 t, .string s])), .int .i64 (my v0 h0 l0 v1 h1 l1 (s.size : Int)), .int .i64 (my v0 h0 l0 v1 h1 l1 (s.size : Int)), .bool true, undef, undef, undef, undef, undef, undef, undef, undef] : List Value).getD (k_ - 3) undef, (my v0 h0 l0 v1 h1 l1 (s.size : Int)), by kernel_rfl, M, by unfold dE; rw [if_neg c0], c0⟩
  · intro a u0 hJ
    obtain ⟨v, e, rfl, M, he, hn⟩ := hJ
    refine wp_seq ?_
    refine wp_skip ?_
    refine au_then ?_
    refine wp_seq ?_
    refine rg_lit ?_
    refine pl_val (want_no rfl) (some 15) rfl (.agg (av 13 (ls [.int .u8 0, .bool false, .int .u64 0, .int .u64 0, .bool false, .int .u64 0, .int .u64 0, .int .u16 0, .int .u16 0, .int .u8 0, .int .u8 0, .int .u8 0, .int .i64 0]))) (fun _ => by kernel_rfl) ?_
    refine pl_val (want_no rfl) (some 16) rfl (.int .i64 e) (fun _ => by kernel_rfl) ?_
    refine pl_put M (want_no rfl) rfl 32 _ _ rfl 1 g2 0 (by kernel_rfl) 13 32 (ls [.int .u8 0, .bool false, .int .u64 0, .int .u64 0, .bool false, .int .u64 0, .int .u64 0, .int .u16 0, .int .u16 0, .int .u8 0, .int .u8 0, .int .u8 0, .int .i64 0]) rfl 13 (ls [.int .u8 0, .bool false, .int .u64 0, .int .u64 0, .bool false, .int .u64 0, .int .u64 0, .int .u16 0, .int .u16 0, .int .u8 0, .int .u8 0, .int .u8 0, .int .i64 0]) (ls [.int .u8 0, .bool false, .int .u64 0, .int .u64 0, .bool false, .int .u64 0, .int .u64 0, .int .u16 0, .int .u16 0, .int .u8 0, .int .u8 0, .int .u8 0, .int .i64 0]) (by kernel_rfl) inz32 (by decide) (one_ls _ rfl) (fun j hj => by rw [if_pos (by omega), Nat.sub_zero]) ?_
    intro u3 M
    replace M : Mem ⟨w, []⟩ [⟨g1, .cells (av 9 (ls [.bool (v0), .int .u64 h0, .int .u64 l0, .bool (v1), .int .u64 h1, .int .u64 l1, .int .u8 p, .int .u8 t, .string s])) 26⟩, ⟨g2, .cells (av 13 (ls [.int .u8 0, .bool false, .int .u64 0, .int .u64 0, .bool false, .int .u64 0, .int .u64 0, .int .u16 0, .int .u16 0, .int .u8 0, .int .u8 0, .int .u8 0, .int .i64 0])) 32⟩] u3 := M
    refine pl_val (want_no rfl) (some 3) rfl (.int .i64 e) (fun _ => by kernel_rfl) ?_
    refine pl_nil ?_
    refine au_then ?_
    refine wp_ret ?_
    refine au_scope_ret ?_
    have e0 : (zI (dE v0 h0 l0 v1 h1 l1 p s) p) = 0 := if_neg (by rw [← he]; exact hn)
    have e1 : zB (dE v0 h0 l0 v1 h1 l1 p s) v0 = false := if_neg (by rw [← he]; exact hn)
    have e2 : (zI (dE v0 h0 l0 v1 h1 l1 p s) h0) = 0 := if_neg (by rw [← he]; exact hn)
    have e3 : (zI (dE v0 h0 l0 v1 h1 l1 p s) l0) = 0 := if_neg (by rw [← he]; exact hn)
    have e4 : zB (dE v0 h0 l0 v1 h1 l1 p s) v1 = false := if_neg (by rw [← he]; exact hn)
    have e5 : (zI (dE v0 h0 l0 v1 h1 l1 p s) h1) = 0 := if_neg (by rw [← he]; exact hn)
    have e6 : (zI (dE v0 h0 l0 v1 h1 l1 p s) l1) = 0 := if_neg (by rw [← he]; exact hn)
    have e7 : (zI (dE v0 h0 l0 v1 h1 l1 p s) (hFr p s)) = 0 := if_neg (by rw [← he]; exact hn)
    have e8 : (zI (dE v0 h0 l0 v1 h1 l1 p s) (hTo p s)) = 0 := if_neg (by rw [← he]; exact hn)
    have e9 : (zI (dE v0 h0 l0 v1 h1 l1 p s) (hFl p s)) = 0 := if_neg (by rw [← he]; exact hn)
    have e10 : (zI (dE v0 h0 l0 v1 h1 l1 p s) (hKi p s)) = 0 := if_neg (by rw [← he]; exact hn)
    have e11 : (zI (dE v0 h0 l0 v1 h1 l1 p s) (hCo p s)) = 0 := if_neg (by rw [← he]; exact hn)
    have e12 : (zI (dE v0 h0 l0 v1 h1 l1 p s) (hSz p s)) = 0 := if_neg (by rw [← he]; exact hn)
    have e13 : (dE v0 h0 l0 v1 h1 l1 p s) = e := he.symm
    exact bodyPost_ret (v := .tuple #[.agg (av 13 (ls [.int .u8 0, .bool false, .int .u64 0, .int .u64 0, .bool false, .int .u64 0, .int .u64 0, .int .u16 0, .int .u16 0, .int .u8 0, .int .u8 0, .int .u8 0, .int .i64 0])), .int .i64 e]) (results_cell_tmp Try.results8 _ _ g2 32 (av 13 (ls [.int .u8 0, .bool false, .int .u64 0, .int .u64 0, .bool false, .int .u64 0, .int .u64 0, .int .u16 0, .int .u16 0, .int .u8 0, .int .u8 0, .int .u8 0, .int .i64 0])) (0, 0) _ _ (by kernel_rfl) (by kernel_rfl) (M.get 1 rfl) Try.underlying32 rfl (by rw [av_size]; exact inz32)) (by kernel_rfl) ⟨by rw [e0, e1, e2, e3, e4, e5, e6, e7, e8, e9, e10, e11, e12, e13], below_grown M.old⟩

/-- Sum: of what may be. -/
def sM (v0 : Bool) (h0 l0 : Int) (v1 : Bool) (h1 l1 p : Int) (s : ByteArray) : Int := if my v0 h0 l0 v1 h1 l1 (s.size : Int) = 0 then sO v0 h0 l0 v1 h1 l1 p s else 0
set_option maxRecDepth 100000 in
set_option maxHeartbeats 4000000 in
set_option linter.unusedSimpArgs false in
theorem c_PSum (v0 : Bool) (h0 l0 : Int) (v1 : Bool) (h1 l1 p t : Int) (s : ByteArray) (hs : s.size ≤ 9000) (hp : 0 ≤ p ∧ p < 256) (w : World) (hL : Laid w)  :
    Calls Try.prog 10 #[.agg (av 9 (ls [.bool (v0), .int .u64 h0, .int .u64 l0, .bool (v1), .int .u64 h1, .int .u64 l1, .int .u8 p, .int .u8 t, .string s]))] w fun r w' => r = .returned (.int .u16 (sM v0 h0 l0 v1 h1 l1 p s)) ∧ Below w.heap.size w w' := by
  go_enter Try.func10, Try.ntmps10
  have M := Mem.start hL
  refine wp_seq ?_
  refine rg_lit ?_
  refine pl_new M (want_no rfl) (some 1) rfl (.cells (av 9 (ls [.bool (v0), .int .u64 h0, .int .u64 l0, .bool (v1), .int .u64 h1, .int .u64 l1, .int .u8 p, .int .u8 t, .string s])) 26) (fun _ => by kernel_rfl) ?_
  intro g1 u1 M
  replace M : Mem ⟨w, []⟩ [⟨g1, .cells (av 9 (ls [.bool (v0), .int .u64 h0, .int .u64 l0, .bool (v1), .int .u64 h1, .int .u64 l1, .int .u8 p, .int .u8 t, .string s])) 26⟩] u1 := M
  refine pl_val (want_no rfl) (some 2) rfl (.int .u16 0) (fun _ => by kernel_rfl) ?_
  refine pl_nil ?_
  refine au_then ?_
  refine wp_seq ?_
  refine wp_seq ?_
  refine rg_lit ?_
  refine pl_load M (want_no rfl) (some 3) rfl 26 _ rfl 0 g1 0 (by kernel_rfl) 9 26 (ls [.bool (v0), .int .u64 h0, .int .u64 l0, .bool (v1), .int .u64 h1, .int .u64 l1, .int .u8 p, .int .u8 t, .string s]) rfl 9 (ls [.bool (v0), .int .u64 h0, .int .u64 l0, .bool (v1), .int .u64 h1, .int .u64 l1, .int .u8 p, .int .u8 t, .string s]) (fun j _ => by rw [Nat.zero_add]) (by decide) _ Try.underlying26 rfl inz26 ?_
  refine pl_call M (want_no rfl) (some 4) rfl 21 #[.agg (av 9 (ls [.bool (v0), .int .u64 h0, .int .u64 l0, .bool (v1), .int .u64 h1, .int .u64 l1, .int .u8 p, .int .u8 t, .string s]))] (.int .i64 (my v0 h0 l0 v1 h1 l1 (s.size : Int))) (fun _ => by kernel_rfl) (fun w M => c_May v0 h0 l0 v1 h1 l1 p t s (by omega) w M.laid) ?_
  intro u2 M
  by_cases c0 : (my v0 h0 l0 v1 h1 l1 (s.size : Int)) = 0
  · skip
    refine pl_val (want_no rfl) (some 5) rfl (.bool false) (fun w => Eq.trans (b := .ok (.value (.bool (!(decide ((my v0 h0 l0 v1 h1 l1 (s.size : Int)) = 0))))) w) (by kernel_rfl) (by rw [decide_eq_true (c0)]; rfl)) ?_
    refine pl_nil ?_
    refine au_then ?_
    refine wp_cond_false (by kernel_rfl) ?_
    refine wp_skip ?_
    refine au_then ?_
    refine wp_seq ?_
    refine rg_lit ?_
    refine pl_load M (want_no rfl) (some 6) rfl 26 _ rfl 0 g1 0 (by kernel_rfl) 9 26 (ls [.bool (v0), .int .u64 h0, .int .u64 l0, .bool (v1), .int .u64 h1, .int .u64 l1, .int .u8 p, .int .u8 t, .string s]) rfl 9 (ls [.bool (v0), .int .u64 h0, .int .u64 l0, .bool (v1), .int .u64 h1, .int .u64 l1, .int .u8 p, .int .u8 t, .string s]) (fun j _ => by rw [Nat.zero_add]) (by decide) _ Try.underlying26 rfl inz26 ?_
    refine pl_call M (want_no rfl) (some 7) rfl 27 #[.agg (av 9 (ls [.bool (v0), .int .u64 h0, .int .u64 l0, .bool (v1), .int .u64 h1, .int .u64 l1, .int .u8 p, .int .u8 t, .string s]))] (.int .u16 (sO v0 h0 l0 v1 h1 l1 p s)) (fun _ => by kernel_rfl) (fun w M => c_sumOf v0 h0 l0 v1 h1 l1 p t s (by omega) (by omega) w M.laid) ?_
    intro u3 M
    refine pl_val (want_no rfl) (some 2) rfl (.int .u16 (sO v0 h0 l0 v1 h1 l1 p s)) (fun _ => by kernel_rfl) ?_
    refine pl_nil ?_
    refine au_then ?_
    refine wp_ret ?_
    have e0 : (sM v0 h0 l0 v1 h1 l1 p s) = (sO v0 h0 l0 v1 h1 l1 p s) := by simp only [sM, if_pos c0]
    exact bodyPost_ret (v := .int .u16 (sO v0 h0 l0 v1 h1 l1 p s)) (results_tmp1 Try.results10 _ _ _ (by kernel_rfl)) (by kernel_rfl) ⟨by rw [e0], below_grown M.old⟩
  · skip
    refine pl_val (want_no rfl) (some 5) rfl (.bool true) (fun w => Eq.trans (b := .ok (.value (.bool (!(decide ((my v0 h0 l0 v1 h1 l1 (s.size : Int)) = 0))))) w) (by kernel_rfl) (by rw [decide_eq_false (c0)]; rfl)) ?_
    refine pl_nil ?_
    refine au_then ?_
    refine wp_cond_true (by kernel_rfl) ?_
    refine wp_seq ?_
    refine rg_lit ?_
    refine pl_val (want_no rfl) (some 2) rfl (.int .u16 0) (fun _ => by kernel_rfl) ?_
    refine pl_nil ?_
    refine au_then ?_
    refine wp_ret ?_
    refine au_then_ret ?_
    have e0 : (sM v0 h0 l0 v1 h1 l1 p s) = 0 := by simp only [sM, if_neg c0]
    exact bodyPost_ret (v := .int .u16 0) (results_tmp1 Try.results10 _ _ _ (by kernel_rfl)) (by kernel_rfl) ⟨by rw [e0], below_grown M.old⟩

set_option maxRecDepth 100000 in
set_option maxHeartbeats 4000000 in
set_option linter.unusedSimpArgs false in
theorem d_PSum (v0 : Bool) (h0 l0 : Int) (v1 : Bool) (h1 l1 p t : Int) (s : ByteArray) (hs : s.size ≤ 9000) (hp : 0 ≤ p ∧ p < 256) (w : World) (hL : Laid w)  :
    Calls Try.prog 11 #[.agg (av 9 (ls [.bool (v0), .int .u64 h0, .int .u64 l0, .bool (v1), .int .u64 h1, .int .u64 l1, .int .u8 p, .int .u8 t, .string s]))] w fun r w' => r = .returned (.int .u16 (sM v0 h0 l0 v1 h1 l1 p s)) ∧ Below w.heap.size w w' := by
  go_enter Try.func11, Try.ntmps11
  have M := Mem.start hL
  refine wp_seq ?_
  refine rg_lit ?_
  refine pl_new M (want_no rfl) (some 1) rfl (.cells (av 9 (ls [.bool (v0), .int .u64 h0, .int .u64 l0, .bool (v1), .int .u64 h1, .int .u64 l1, .int .u8 p, .int .u8 t, .string s])) 26) (fun _ => by kernel_rfl) ?_
  intro g1 u1 M
  replace M : Mem ⟨w, []⟩ [⟨g1, .cells (av 9 (ls [.bool (v0), .int .u64 h0, .int .u64 l0, .bool (v1), .int .u64 h1, .int .u64 l1, .int .u8 p, .int .u8 t, .string s])) 26⟩] u1 := M
  refine pl_val (want_no rfl) (some 2) rfl (.int .u16 0) (fun _ => by kernel_rfl) ?_
  refine pl_nil ?_
  refine au_then ?_
  refine wp_seq ?_
  refine wp_seq ?_
  refine rg_lit ?_
  refine pl_load M (want_no rfl) (some 3) rfl 26 _ rfl 0 g1 0 (by kernel_rfl) 9 26 (ls [.bool (v0), .int .u64 h0, .int .u64 l0, .bool (v1), .int .u64 h1, .int .u64 l1, .int .u8 p, .int .u8 t, .string s]) rfl 9 (ls [.bool (v0), .int .u64 h0, .int .u64 l0, .bool (v1), .int .u64 h1, .int .u64 l1, .int .u8 p, .int .u8 t, .string s]) (fun j _ => by rw [Nat.zero_add]) (by decide) _ Try.underlying26 rfl inz26 ?_
  refine pl_call M (want_no rfl) (some 4) rfl 24 #[.agg (av 9 (ls [.bool (v0), .int .u64 h0, .int .u64 l0, .bool (v1), .int .u64 h1, .int .u64 l1, .int .u8 p, .int .u8 t, .string s]))] (.int .i64 (my v0 h0 l0 v1 h1 l1 (s.size : Int))) (fun _ => by kernel_rfl) (fun w M => d_May v0 h0 l0 v1 h1 l1 p t s (by omega) w M.laid) ?_
  intro u2 M
  by_cases c0 : (my v0 h0 l0 v1 h1 l1 (s.size : Int)) = 0
  · skip
    refine pl_val (want_no rfl) (some 5) rfl (.bool false) (fun w => Eq.trans (b := .ok (.value (.bool (!(decide ((my v0 h0 l0 v1 h1 l1 (s.size : Int)) = 0))))) w) (by kernel_rfl) (by rw [decide_eq_true (c0)]; rfl)) ?_
    refine pl_nil ?_
    refine au_then ?_
    refine wp_cond_false (by kernel_rfl) ?_
    refine wp_skip ?_
    refine au_then ?_
    refine wp_seq ?_
    refine rg_lit ?_
    refine pl_load M (want_no rfl) (some 6) rfl 26 _ rfl 0 g1 0 (by kernel_rfl) 9 26 (ls [.bool (v0), .int .u64 h0, .int .u64 l0, .bool (v1), .int .u64 h1, .int .u64 l1, .int .u8 p, .int .u8 t, .string s]) rfl 9 (ls [.bool (v0), .int .u64 h0, .int .u64 l0, .bool (v1), .int .u64 h1, .int .u64 l1, .int .u8 p, .int .u8 t, .string s]) (fun j _ => by rw [Nat.zero_add]) (by decide) _ Try.underlying26 rfl inz26 ?_
    refine pl_call M (want_no rfl) (some 7) rfl 26 #[.agg (av 9 (ls [.bool (v0), .int .u64 h0, .int .u64 l0, .bool (v1), .int .u64 h1, .int .u64 l1, .int .u8 p, .int .u8 t, .string s]))] (.int .u16 (sO v0 h0 l0 v1 h1 l1 p s)) (fun _ => by kernel_rfl) (fun w M => d_sum v0 h0 l0 v1 h1 l1 p t s (by omega) (by omega) w M.laid) ?_
    intro u3 M
    refine pl_val (want_no rfl) (some 2) rfl (.int .u16 (sO v0 h0 l0 v1 h1 l1 p s)) (fun _ => by kernel_rfl) ?_
    refine pl_nil ?_
    refine au_then ?_
    refine wp_ret ?_
    have e0 : (sM v0 h0 l0 v1 h1 l1 p s) = (sO v0 h0 l0 v1 h1 l1 p s) := by simp only [sM, if_pos c0]
    exact bodyPost_ret (v := .int .u16 (sO v0 h0 l0 v1 h1 l1 p s)) (results_tmp1 Try.results11 _ _ _ (by kernel_rfl)) (by kernel_rfl) ⟨by rw [e0], below_grown M.old⟩
  · skip
    refine pl_val (want_no rfl) (some 5) rfl (.bool true) (fun w => Eq.trans (b := .ok (.value (.bool (!(decide ((my v0 h0 l0 v1 h1 l1 (s.size : Int)) = 0))))) w) (by kernel_rfl) (by rw [decide_eq_false (c0)]; rfl)) ?_
    refine pl_nil ?_
    refine au_then ?_
    refine wp_cond_true (by kernel_rfl) ?_
    refine wp_seq ?_
    refine rg_lit ?_
    refine pl_val (want_no rfl) (some 2) rfl (.int .u16 0) (fun _ => by kernel_rfl) ?_
    refine pl_nil ?_
    refine au_then ?_
    refine wp_ret ?_
    refine au_then_ret ?_
    have e0 : (sM v0 h0 l0 v1 h1 l1 p s) = 0 := by simp only [sM, if_neg c0]
    exact bodyPost_ret (v := .int .u16 0) (results_tmp1 Try.results11 _ _ _ (by kernel_rfl)) (by kernel_rfl) ⟨by rw [e0], below_grown M.old⟩

set_option maxRecDepth 100000 in
set_option maxHeartbeats 4000000 in
set_option linter.unusedSimpArgs false in
theorem c_Reverse (p : Int) (v0 : Bool) (h0 l0 : Int) (v1 : Bool) (h1 l1 : Int) (f g : Int) (w : World) (hL : Laid w)  :
    Calls Try.prog 12 #[.agg (av 9 (ls [.int .u8 p, .bool (v0), .int .u64 h0, .int .u64 l0, .bool (v1), .int .u64 h1, .int .u64 l1, .int .u16 f, .int .u16 g]))] w fun r w' => r = .returned (.agg (av 9 (ls [.int .u8 p, .bool (v1), .int .u64 h1, .int .u64 l1, .bool (v0), .int .u64 h0, .int .u64 l0, .int .u16 g, .int .u16 f]))) ∧ Below w.heap.size w w' := by
  go_enter Try.func12, Try.ntmps12
  have M := Mem.start hL
  refine wp_seq ?_
  refine rg_lit ?_
  refine pl_new M (want_no rfl) (some 1) rfl (.cells (av 9 (ls [.int .u8 p, .bool (v0), .int .u64 h0, .int .u64 l0, .bool (v1), .int .u64 h1, .int .u64 l1, .int .u16 f, .int .u16 g])) 29) (fun _ => by kernel_rfl) ?_
  intro g1 u1 M
  replace M : Mem ⟨w, []⟩ [⟨g1, .cells (av 9 (ls [.int .u8 p, .bool (v0), .int .u64 h0, .int .u64 l0, .bool (v1), .int .u64 h1, .int .u64 l1, .int .u16 f, .int .u16 g])) 29⟩] u1 := M
  refine pl_new M (want_no rfl) (some 2) rfl (.cells (av 9 (ls [.int .u8 0, .bool false, .int .u64 0, .int .u64 0, .bool false, .int .u64 0, .int .u64 0, .int .u16 0, .int .u16 0])) 29) (fun _ => by kernel_rfl) ?_
  intro g2 u2 M
  replace M : Mem ⟨w, []⟩ [⟨g1, .cells (av 9 (ls [.int .u8 p, .bool (v0), .int .u64 h0, .int .u64 l0, .bool (v1), .int .u64 h1, .int .u64 l1, .int .u16 f, .int .u16 g])) 29⟩, ⟨g2, .cells (av 9 (ls [.int .u8 0, .bool false, .int .u64 0, .int .u64 0, .bool false, .int .u64 0, .int .u64 0, .int .u16 0, .int .u16 0])) 29⟩] u2 := M
  refine pl_nil ?_
  refine au_then ?_
  refine wp_seq ?_
  refine rg_lit ?_
  refine pl_val (want_no rfl) (some 3) rfl (.pointer (some ⟨g1, 4, none⟩)) (fun _ => by kernel_rfl) ?_
  refine pl_load M (want_no rfl) (some 4) rfl 24 _ rfl 0 g1 4 (by kernel_rfl) 9 29 (ls [.int .u8 p, .bool (v0), .int .u64 h0, .int .u64 l0, .bool (v1), .int .u64 h1, .int .u64 l1, .int .u16 f, .int .u16 g]) rfl 3 (ls [.bool (v1), .int .u64 h1, .int .u64 l1]) (part_ls _ 4 3 _ rfl) (by decide) _ Try.underlying24 rfl inz24 ?_
  refine pl_val (want_no rfl) (some 5) rfl (.pointer (some ⟨g1, 1, none⟩)) (fun _ => by kernel_rfl) ?_
  refine pl_load M (want_no rfl) (some 6) rfl 24 _ rfl 0 g1 1 (by kernel_rfl) 9 29 (ls [.int .u8 p, .bool (v0), .int .u64 h0, .int .u64 l0, .bool (v1), .int .u64 h1, .int .u64 l1, .int .u16 f, .int .u16 g]) rfl 3 (ls [.bool (v0), .int .u64 h0, .int .u64 l0]) (part_ls _ 1 3 _ rfl) (by decide) _ Try.underlying24 rfl inz24 ?_
  refine pl_val (want_no rfl) (some 7) rfl (.pointer (some ⟨g1, 1, none⟩)) (fun _ => by kernel_rfl) ?_
  refine pl_put M (want_no rfl) rfl 24 _ _ rfl 0 g1 1 (by kernel_rfl) 9 29 (ls [.int .u8 p, .bool (v0), .int .u64 h0, .int .u64 l0, .bool (v1), .int .u64 h1, .int .u64 l1, .int .u16 f, .int .u16 g]) rfl 3 (ls [.bool (v1), .int .u64 h1, .int .u64 l1]) (ls [.int .u8 p, .bool (v1), .int .u64 h1, .int .u64 l1, .bool (v1), .int .u64 h1, .int .u64 l1, .int .u16 f, .int .u16 g]) (by kernel_rfl) inz24 (by decide) (one_ls _ rfl) (putp_ls ([.int .u8 p, .bool (v0), .int .u64 h0, .int .u64 l0, .bool (v1), .int .u64 h1, .int .u64 l1, .int .u16 f, .int .u16 g] : List Value) ([.bool (v1), .int .u64 h1, .int .u64 l1] : List Value) 1 _ rfl ⟨Nat.le_of_ble_eq_true rfl, Nat.le_of_ble_eq_true rfl⟩) ?_
  intro u3 M
  replace M : Mem ⟨w, []⟩ [⟨g1, .cells (av 9 (ls [.int .u8 p, .bool (v1), .int .u64 h1, .int .u64 l1, .bool (v1), .int .u64 h1, .int .u64 l1, .int .u16 f, .int .u16 g])) 29⟩, ⟨g2, .cells (av 9 (ls [.int .u8 0, .bool false, .int .u64 0, .int .u64 0, .bool false, .int .u64 0, .int .u64 0, .int .u16 0, .int .u16 0])) 29⟩] u3 := M
  refine pl_val (want_no rfl) (some 8) rfl (.pointer (some ⟨g1, 4, none⟩)) (fun _ => by kernel_rfl) ?_
  refine pl_put M (want_no rfl) rfl 24 _ _ rfl 0 g1 4 (by kernel_rfl) 9 29 (ls [.int .u8 p, .bool (v1), .int .u64 h1, .int .u64 l1, .bool (v1), .int .u64 h1, .int .u64 l1, .int .u16 f, .int .u16 g]) rfl 3 (ls [.bool (v0), .int .u64 h0, .int .u64 l0]) (ls [.int .u8 p, .bool (v1), .int .u64 h1, .int .u64 l1, .bool (v0), .int .u64 h0, .int .u64 l0, .int .u16 f, .int .u16 g]) (by kernel_rfl) inz24 (by decide) (one_ls _ rfl) (putp_ls ([.int .u8 p, .bool (v1), .int .u64 h1, .int .u64 l1, .bool (v1), .int .u64 h1, .int .u64 l1, .int .u16 f, .int .u16 g] : List Value) ([.bool (v0), .int .u64 h0, .int .u64 l0] : List Value) 4 _ rfl ⟨Nat.le_of_ble_eq_true rfl, Nat.le_of_ble_eq_true rfl⟩) ?_
  intro u4 M
  replace M : Mem ⟨w, []⟩ [⟨g1, .cells (av 9 (ls [.int .u8 p, .bool (v1), .int .u64 h1, .int .u64 l1, .bool (v0), .int .u64 h0, .int .u64 l0, .int .u16 f, .int .u16 g])) 29⟩, ⟨g2, .cells (av 9 (ls [.int .u8 0, .bool false, .int .u64 0, .int .u64 0, .bool false, .int .u64 0, .int .u64 0, .int .u16 0, .int .u16 0])) 29⟩] u4 := M
  refine pl_nil ?_
  refine au_then ?_
  refine wp_seq ?_
  refine rg_lit ?_
  refine pl_val (want_no rfl) (some 9) rfl (.pointer (some ⟨g1, 8, none⟩)) (fun _ => by kernel_rfl) ?_
  refine pl_cell M (want_no rfl) (some 10) rfl 27 _ rfl g1 8 (by kernel_rfl) (.int .u16 g) (fun _ => by kernel_rfl) (fun w M => M.cell 0 rfl (by decide) rfl) ?_
  refine pl_val (want_no rfl) (some 11) rfl (.pointer (some ⟨g1, 7, none⟩)) (fun _ => by kernel_rfl) ?_
  refine pl_cell M (want_no rfl) (some 12) rfl 27 _ rfl g1 7 (by kernel_rfl) (.int .u16 f) (fun _ => by kernel_rfl) (fun w M => M.cell 0 rfl (by decide) rfl) ?_
  refine pl_val (want_no rfl) (some 13) rfl (.pointer (some ⟨g1, 7, none⟩)) (fun _ => by kernel_rfl) ?_
  refine pl_put1 M (want_no rfl) rfl 27 _ _ rfl 0 g1 7 (by kernel_rfl) 9 29 (ls [.int .u8 p, .bool (v1), .int .u64 h1, .int .u64 l1, .bool (v0), .int .u64 h0, .int .u64 l0, .int .u16 f, .int .u16 g]) rfl (.int .u16 g) (ls [.int .u8 p, .bool (v1), .int .u64 h1, .int .u64 l1, .bool (v0), .int .u64 h0, .int .u64 l0, .int .u16 g, .int .u16 g]) (by kernel_rfl) inz27 (by decide) rfl rfl (put_ls _ 7 _ _ rfl) ?_
  intro u5 M
  replace M : Mem ⟨w, []⟩ [⟨g1, .cells (av 9 (ls [.int .u8 p, .bool (v1), .int .u64 h1, .int .u64 l1, .bool (v0), .int .u64 h0, .int .u64 l0, .int .u16 g, .int .u16 g])) 29⟩, ⟨g2, .cells (av 9 (ls [.int .u8 0, .bool false, .int .u64 0, .int .u64 0, .bool false, .int .u64 0, .int .u64 0, .int .u16 0, .int .u16 0])) 29⟩] u5 := M
  refine pl_val (want_no rfl) (some 14) rfl (.pointer (some ⟨g1, 8, none⟩)) (fun _ => by kernel_rfl) ?_
  refine pl_put1 M (want_no rfl) rfl 27 _ _ rfl 0 g1 8 (by kernel_rfl) 9 29 (ls [.int .u8 p, .bool (v1), .int .u64 h1, .int .u64 l1, .bool (v0), .int .u64 h0, .int .u64 l0, .int .u16 g, .int .u16 g]) rfl (.int .u16 f) (ls [.int .u8 p, .bool (v1), .int .u64 h1, .int .u64 l1, .bool (v0), .int .u64 h0, .int .u64 l0, .int .u16 g, .int .u16 f]) (by kernel_rfl) inz27 (by decide) rfl rfl (put_ls _ 8 _ _ rfl) ?_
  intro u6 M
  replace M : Mem ⟨w, []⟩ [⟨g1, .cells (av 9 (ls [.int .u8 p, .bool (v1), .int .u64 h1, .int .u64 l1, .bool (v0), .int .u64 h0, .int .u64 l0, .int .u16 g, .int .u16 f])) 29⟩, ⟨g2, .cells (av 9 (ls [.int .u8 0, .bool false, .int .u64 0, .int .u64 0, .bool false, .int .u64 0, .int .u64 0, .int .u16 0, .int .u16 0])) 29⟩] u6 := M
  refine pl_nil ?_
  refine au_then ?_
  refine wp_seq ?_
  refine rg_lit ?_
  refine pl_load M (want_no rfl) (some 15) rfl 29 _ rfl 0 g1 0 (by kernel_rfl) 9 29 (ls [.int .u8 p, .bool (v1), .int .u64 h1, .int .u64 l1, .bool (v0), .int .u64 h0, .int .u64 l0, .int .u16 g, .int .u16 f]) rfl 9 (ls [.int .u8 p, .bool (v1), .int .u64 h1, .int .u64 l1, .bool (v0), .int .u64 h0, .int .u64 l0, .int .u16 g, .int .u16 f]) (fun j _ => by rw [Nat.zero_add]) (by decide) _ Try.underlying29 rfl inz29 ?_
  refine pl_put M (want_no rfl) rfl 29 _ _ rfl 1 g2 0 (by kernel_rfl) 9 29 (ls [.int .u8 0, .bool false, .int .u64 0, .int .u64 0, .bool false, .int .u64 0, .int .u64 0, .int .u16 0, .int .u16 0]) rfl 9 (ls [.int .u8 p, .bool (v1), .int .u64 h1, .int .u64 l1, .bool (v0), .int .u64 h0, .int .u64 l0, .int .u16 g, .int .u16 f]) (ls [.int .u8 p, .bool (v1), .int .u64 h1, .int .u64 l1, .bool (v0), .int .u64 h0, .int .u64 l0, .int .u16 g, .int .u16 f]) (by kernel_rfl) inz29 (by decide) (one_ls _ rfl) (fun j hj => by rw [if_pos (by omega), Nat.sub_zero]) ?_
  intro u7 M
  replace M : Mem ⟨w, []⟩ [⟨g1, .cells (av 9 (ls [.int .u8 p, .bool (v1), .int .u64 h1, .int .u64 l1, .bool (v0), .int .u64 h0, .int .u64 l0, .int .u16 g, .int .u16 f])) 29⟩, ⟨g2, .cells (av 9 (ls [.int .u8 p, .bool (v1), .int .u64 h1, .int .u64 l1, .bool (v0), .int .u64 h0, .int .u64 l0, .int .u16 g, .int .u16 f])) 29⟩] u7 := M
  refine pl_nil ?_
  refine au_then ?_
  refine wp_ret ?_
  exact bodyPost_ret (v := .agg (av 9 (ls [.int .u8 p, .bool (v1), .int .u64 h1, .int .u64 l1, .bool (v0), .int .u64 h0, .int .u64 l0, .int .u16 g, .int .u16 f]))) (results_cell_row Try.results12 _ _ g2 29 (av 9 (ls [.int .u8 p, .bool (v1), .int .u64 h1, .int .u64 l1, .bool (v0), .int .u64 h0, .int .u64 l0, .int .u16 g, .int .u16 f])) (0, 0) _ (by kernel_rfl) (M.get 1 rfl) Try.underlying29 rfl (by rw [av_size]; exact inz29)) (by kernel_rfl) ⟨rfl, below_grown M.old⟩

set_option maxRecDepth 100000 in
set_option maxHeartbeats 4000000 in
set_option linter.unusedSimpArgs false in
theorem d_Reverse (p : Int) (v0 : Bool) (h0 l0 : Int) (v1 : Bool) (h1 l1 : Int) (f g : Int) (w : World) (hL : Laid w)  :
    Calls Try.prog 13 #[.agg (av 9 (ls [.int .u8 p, .bool (v0), .int .u64 h0, .int .u64 l0, .bool (v1), .int .u64 h1, .int .u64 l1, .int .u16 f, .int .u16 g]))] w fun r w' => r = .returned (.agg (av 9 (ls [.int .u8 p, .bool (v1), .int .u64 h1, .int .u64 l1, .bool (v0), .int .u64 h0, .int .u64 l0, .int .u16 g, .int .u16 f]))) ∧ Below w.heap.size w w' := by
  go_enter Try.func13, Try.ntmps13
  have M := Mem.start hL
  refine wp_seq ?_
  refine rg_lit ?_
  refine pl_new M (want_no rfl) (some 1) rfl (.cells (av 9 (ls [.int .u8 p, .bool (v0), .int .u64 h0, .int .u64 l0, .bool (v1), .int .u64 h1, .int .u64 l1, .int .u16 f, .int .u16 g])) 29) (fun _ => by kernel_rfl) ?_
  intro g1 u1 M
  replace M : Mem ⟨w, []⟩ [⟨g1, .cells (av 9 (ls [.int .u8 p, .bool (v0), .int .u64 h0, .int .u64 l0, .bool (v1), .int .u64 h1, .int .u64 l1, .int .u16 f, .int .u16 g])) 29⟩] u1 := M
  refine pl_new M (want_no rfl) (some 2) rfl (.cells (av 9 (ls [.int .u8 0, .bool false, .int .u64 0, .int .u64 0, .bool false, .int .u64 0, .int .u64 0, .int .u16 0, .int .u16 0])) 29) (fun _ => by kernel_rfl) ?_
  intro g2 u2 M
  replace M : Mem ⟨w, []⟩ [⟨g1, .cells (av 9 (ls [.int .u8 p, .bool (v0), .int .u64 h0, .int .u64 l0, .bool (v1), .int .u64 h1, .int .u64 l1, .int .u16 f, .int .u16 g])) 29⟩, ⟨g2, .cells (av 9 (ls [.int .u8 0, .bool false, .int .u64 0, .int .u64 0, .bool false, .int .u64 0, .int .u64 0, .int .u16 0, .int .u16 0])) 29⟩] u2 := M
  refine pl_nil ?_
  refine au_then ?_
  refine wp_seq ?_
  refine rg_lit ?_
  refine pl_val (want_no rfl) (some 3) rfl (.pointer (some ⟨g1, 0, none⟩)) (fun _ => by kernel_rfl) ?_
  refine pl_cell M (want_no rfl) (some 4) rfl 5 _ rfl g1 0 (by kernel_rfl) (.int .u8 p) (fun _ => by kernel_rfl) (fun w M => M.cell 0 rfl (by decide) rfl) ?_
  refine pl_val (want_no rfl) (some 5) rfl (.pointer (some ⟨g1, 4, none⟩)) (fun _ => by kernel_rfl) ?_
  refine pl_load M (want_no rfl) (some 6) rfl 24 _ rfl 0 g1 4 (by kernel_rfl) 9 29 (ls [.int .u8 p, .bool (v0), .int .u64 h0, .int .u64 l0, .bool (v1), .int .u64 h1, .int .u64 l1, .int .u16 f, .int .u16 g]) rfl 3 (ls [.bool (v1), .int .u64 h1, .int .u64 l1]) (part_ls _ 4 3 _ rfl) (by decide) _ Try.underlying24 rfl inz24 ?_
  refine pl_val (want_no rfl) (some 7) rfl (.pointer (some ⟨g1, 1, none⟩)) (fun _ => by kernel_rfl) ?_
  refine pl_load M (want_no rfl) (some 8) rfl 24 _ rfl 0 g1 1 (by kernel_rfl) 9 29 (ls [.int .u8 p, .bool (v0), .int .u64 h0, .int .u64 l0, .bool (v1), .int .u64 h1, .int .u64 l1, .int .u16 f, .int .u16 g]) rfl 3 (ls [.bool (v0), .int .u64 h0, .int .u64 l0]) (part_ls _ 1 3 _ rfl) (by decide) _ Try.underlying24 rfl inz24 ?_
  refine pl_val (want_no rfl) (some 9) rfl (.pointer (some ⟨g1, 8, none⟩)) (fun _ => by kernel_rfl) ?_
  refine pl_cell M (want_no rfl) (some 10) rfl 27 _ rfl g1 8 (by kernel_rfl) (.int .u16 g) (fun _ => by kernel_rfl) (fun w M => M.cell 0 rfl (by decide) rfl) ?_
  refine pl_val (want_no rfl) (some 11) rfl (.pointer (some ⟨g1, 7, none⟩)) (fun _ => by kernel_rfl) ?_
  refine pl_cell M (want_no rfl) (some 12) rfl 27 _ rfl g1 7 (by kernel_rfl) (.int .u16 f) (fun _ => by kernel_rfl) (fun w M => M.cell 0 rfl (by decide) rfl) ?_
  refine pl_val (want_no rfl) (some 13) rfl (.agg (av 9 (ls [.int .u8 p, .bool (v1), .int .u64 h1, .int .u64 l1, .bool (v0), .int .u64 h0, .int .u64 l0, .int .u16 g, .int .u16 f]))) (fun _ => by kernel_rfl) ?_
  refine pl_put M (want_no rfl) rfl 29 _ _ rfl 1 g2 0 (by kernel_rfl) 9 29 (ls [.int .u8 0, .bool false, .int .u64 0, .int .u64 0, .bool false, .int .u64 0, .int .u64 0, .int .u16 0, .int .u16 0]) rfl 9 (ls [.int .u8 p, .bool (v1), .int .u64 h1, .int .u64 l1, .bool (v0), .int .u64 h0, .int .u64 l0, .int .u16 g, .int .u16 f]) (ls [.int .u8 p, .bool (v1), .int .u64 h1, .int .u64 l1, .bool (v0), .int .u64 h0, .int .u64 l0, .int .u16 g, .int .u16 f]) (by kernel_rfl) inz29 (by decide) (one_ls _ rfl) (fun j hj => by rw [if_pos (by omega), Nat.sub_zero]) ?_
  intro u3 M
  replace M : Mem ⟨w, []⟩ [⟨g1, .cells (av 9 (ls [.int .u8 p, .bool (v0), .int .u64 h0, .int .u64 l0, .bool (v1), .int .u64 h1, .int .u64 l1, .int .u16 f, .int .u16 g])) 29⟩, ⟨g2, .cells (av 9 (ls [.int .u8 p, .bool (v1), .int .u64 h1, .int .u64 l1, .bool (v0), .int .u64 h0, .int .u64 l0, .int .u16 g, .int .u16 f])) 29⟩] u3 := M
  refine pl_nil ?_
  refine au_then ?_
  refine wp_ret ?_
  exact bodyPost_ret (v := .agg (av 9 (ls [.int .u8 p, .bool (v1), .int .u64 h1, .int .u64 l1, .bool (v0), .int .u64 h0, .int .u64 l0, .int .u16 g, .int .u16 f]))) (results_cell_row Try.results13 _ _ g2 29 (av 9 (ls [.int .u8 p, .bool (v1), .int .u64 h1, .int .u64 l1, .bool (v0), .int .u64 h0, .int .u64 l0, .int .u16 g, .int .u16 f])) (0, 0) _ (by kernel_rfl) (M.get 1 rfl) Try.underlying29 rfl (by rw [av_size]; exact inz29)) (by kernel_rfl) ⟨rfl, below_grown M.old⟩


end Go.Proofs.Ytahknenmjnhmjaa
