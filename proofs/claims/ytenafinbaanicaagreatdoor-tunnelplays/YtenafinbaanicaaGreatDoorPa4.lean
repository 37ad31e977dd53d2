/- Parts of the proof of TunnelPlays: W2, W3, T1, T2, T3, T4, T5, S0. -/
import Derived.Test.YtenafinbaanicaaGreatDoorPa3
import Derived.Deep.AppendSrc
namespace Go.Proofs.YtenafinbaanicaaGreatDoor
open Go.RowKit
set_option maxRecDepth 100000

theorem wrapU_add (a b : Nat) (h : a + b < 18446744073709551616) : IntKind.wrap .u64 ((a : Int) + (b : Int)) = ((a + b : Nat) : Int) := by
  rw [IntKind.wrap_u64]
  omega
theorem wrapU_sub (a b : Nat) (h : b ≤ a) (ha : a < 18446744073709551616) : IntKind.wrap .u64 ((a : Int) - (b : Int)) = ((a - b : Nat) : Int) := by
  rw [IntKind.wrap_u64]
  omega
/-- The places of the numbers h + 1 .. h + j are wiped. -/
def wps (s h : Nat) (m : Nat → Int) : Nat → (Nat → Int)
  | 0 => m
  | j + 1 => wpM (wps s h m j) ((h + 1 + j) % s)
def lvM (s h : Nat) (m : Nat → Int) (y : Nat) : Nat → Int := if s ≤ y then clF (nW s) m else wps s h m y
def myF (s h : Nat) (m : Nat → Int) (n : Nat) : Int := if h < n then 0 else if s ≤ h - n then 170 else if hb m (n % s) = true then 9 else 0
def mkH (s h : Nat) (m : Nat → Int) (n : Nat) : Nat := if myF s h m n = 0 then if h < n then n else h else h
def mkM (s h : Nat) (m : Nat → Int) (n : Nat) : Nat → Int := if myF s h m n = 0 then stM (if h < n then lvM s h m (n - h) else m) (n % s) else m
def hiV (s h : Nat) (m : Nat → Int) : Nat := if hb m (h % s) = true then h else 0
/-- What was there ahead is as it was; these blocks are new. -/
theorem ro_okT {w W : World} {T N : List Blk} (hT : ∀ b ∈ T, w.heap[b.g]? = some b.Z) (M : Mem ⟨w, T.map Blk.g⟩ (T ++ N) W) : OkT w W [] N := by
  have hn := M.nodup
  rw [List.map_append, List.nodup_append] at hn
  refine ⟨⟨M.old.os, M.old.tape, M.old.output, M.old.size, fun k hk _ => ?_⟩, fun b hb => M.at_ b (List.mem_append_right _ hb), hn.2.1, fun b hb => .inr ?_⟩
  · by_cases e : k ∈ T.map Blk.g
    · obtain ⟨b, hb, rfl⟩ := List.mem_map.1 e
      rw [hT b hb]
      exact M.at_ b (List.mem_append_left _ hb)
    · exact M.old.block k hk e
  · rcases M.ge b (List.mem_append_right _ hb) with h | h
    · exact h
    · exact absurd rfl (hn.2.2 _ h _ (List.mem_map_of_mem hb))
set_option maxRecDepth 100000 in
set_option maxHeartbeats 4000000 in
set_option linter.unusedSimpArgs false in
theorem c_leave (g k s h cap : Nat) (m : Nat → Int) (y : Nat) (hs : 1 ≤ s) (hc : nW s ≤ cap) (hy : h + y < 18446744073709551616) (w : World) (hL : Laid w)  (hT : There w [⟨g, .cells (av 3 (ls [.int .u64 (s : Int), .int .u64 (h : Int), .slice (some ⟨k, 0, none⟩) (nW s) cap])) 121⟩, ⟨k, .cells (av cap (w64 m)) 24⟩]) :
    Calls Tryz.prog 85 #[.pointer (some ⟨g, 0, none⟩), .int .u64 (y : Int)] w fun r w' => r = .returned (.tuple #[]) ∧ Grw w w' [g, k] ∧ w'.heap[g]? = some (.cells (av 3 (ls [.int .u64 (s : Int), .int .u64 (h : Int), .slice (some ⟨k, 0, none⟩) (nW s) cap])) 121) ∧ w'.heap[k]? = some (.cells (av cap (w64 (lvM s h m y))) 24) := by
  go_enter Tryz.func85, Tryz.ntmps85
  have M : Mem ⟨w, [g, k]⟩ [⟨g, .cells (av 3 (ls [.int .u64 (s : Int), .int .u64 (h : Int), .slice (some ⟨k, 0, none⟩) (nW s) cap])) 121⟩, ⟨k, .cells (av cap (w64 m)) 24⟩] w := Mem.startT hL hT
  refine wp_seq ?_
  refine sR ?_
  refine rV 4 ?_
  refine ZE M 9 0 0 ?_
  by_cases c0 : (y : Int) < (s : Int)
  · skip
    refine ZF 10 ((s : Int) ≤ (y : Int)) ?_
    refine nT ?_
    refine wp_cond_false (by kernel_rfl) ?_
    refine wp_skip ?_
    refine au_then ?_
    refine sq ?_
    refine wp_block ?_
    refine au_loop (fun j a w' => ∃ v1 : Nat → Value, a = (fm ([.pointer (some ⟨g, 0, none⟩), .int .u64 (y : Int), undef, undef, v1 4, .int .u64 (y : Int), .pointer (some ⟨g, 0, none⟩), .pointer (some ⟨g, 0, none⟩), .pointer (some ⟨g, 0, none⟩), .int .u64 (s : Int), .bool false] ++ und 4 ++ [.int .u64 (y : Int), .int .u64 (j : Int)] ++ vr v1 17 17)) ∧ Mem ⟨w, [g, k]⟩ [⟨g, .cells (av 3 (ls [.int .u64 (s : Int), .int .u64 (h : Int), .slice (some ⟨k, 0, none⟩) (nW s) cap])) 121⟩, ⟨k, .cells (av cap (w64 (wps s h m j))) 24⟩] w') y (exS M) ?_ ?_
    · intro j a u0 hj hI
      obtain ⟨v1, rfl, M⟩ := hI
      refine sR ?_
      refine ZT 17 ((j : Int) < (y : Int)) ?_
      refine nT ?_
      refine wp_seq ?_
      refine wp_cond_true (by kernel_rfl) ?_
      refine wp_skip ?_
      refine au_then ?_
      refine wp_seq ?_
      refine wp_block ?_
      refine sq ?_
      refine rg_tail M 13 (by kernel_rfl) (by kernel_rfl) ?_
      simp only [List.take_succ_cons, List.take_zero]
      refine kR 3 ?_
      refine eE M 22 0 2 ?_
      refine kR 4 ?_
      refine eE M 27 0 1 ?_
      refine kH 28 (.int .u64 ((h + 1 : Nat) : Int)) (fun w => Eq.trans (b := .ok (.value (.int .u64 (IntKind.wrap .u64 (((h : Nat) : Int) + ((1 : Nat) : Int))))) w) (by kernel_rfl) (by rw [wrapU_add h 1 (by omega)])) ?_
      refine kR 1 ?_
      refine kH 30 (.int .u64 ((h + 1 + j : Nat) : Int)) (fun w => Eq.trans (b := .ok (.value (.int .u64 (IntKind.wrap .u64 ((((h + 1) : Nat) : Int) + ((j : Nat) : Int))))) w) (by kernel_rfl) (by rw [wrapU_add (h + 1) j (by omega)])) ?_
      refine kC M 31 83 #[.pointer (some ⟨g, 0, none⟩), .int .u64 ((h + 1 + j : Nat) : Int)] (.int .u64 (((h + 1 + j) % s : Nat) : Int)) (fun w M => c_place g k s h cap (h + 1 + j) hs w M.laid (M.there (.cons_cons _ (List.nil_sublist _)))) ?_
      refine kl_nil fun u1 M => ?_
      replace M : Mem ⟨w, [g, k]⟩ [⟨g, .cells (av 3 (ls [.int .u64 (s : Int), .int .u64 (h : Int), .slice (some ⟨k, 0, none⟩) (nW s) cap])) 121⟩, ⟨k, .cells (av cap (w64 (wps s h m j))) 24⟩] u1 := M
      refine pl_callp M (want_no rfl) (some 32) rfl 98 #[.slice (some ⟨k, 0, none⟩) (nW s) cap, .int .u64 (((h + 1 + j) % s : Nat) : Int)] (.tuple #[]) 1 k (.cells (av cap (w64 (wps s h m j))) 24) (.cells (av cap (w64 (wpM (wps s h m j) ((h + 1 + j) % s)))) 24) rfl (fun _ => by kernel_rfl) (fun w M => c_wipe k ((h + 1 + j) % s) (nW s) cap (wps s h m j) (Nat.lt_of_le_of_lt (Nat.mod_le (h + 1 + j) s) (by omega)) (by have := Nat.mod_lt (h + 1 + j) (show 0 < s by omega); unfold nW; omega) hc w M.laid (M.there (.cons _ (.cons_cons _ (List.nil_sublist _))))) fun u2 M => ?_
      replace M : Mem ⟨w, [g, k]⟩ [⟨g, .cells (av 3 (ls [.int .u64 (s : Int), .int .u64 (h : Int), .slice (some ⟨k, 0, none⟩) (nW s) cap])) 121⟩, ⟨k, .cells (av cap (w64 (wpM (wps s h m j) ((h + 1 + j) % s)))) 24⟩] u2 := M
      refine pl_nil ?_
      refine au_block ?_
      refine au_then ?_
      refine rg_lit ?_
      refine pH 33 (.int .u64 ((j + 1 : Nat) : Int)) (fun w => Eq.trans (b := .ok (.value (.int .u64 (IntKind.wrap .u64 (((j : Nat) : Int) + ((1 : Nat) : Int))))) w) (by kernel_rfl) (by rw [wrapU_add j 1 (by omega)])) ?_
      refine rV 1 ?_
      refine nT ?_
      exact exS M
    · intro a u0 hI
      obtain ⟨v1, rfl, M⟩ := hI
      refine sR ?_
      refine ZF 17 ((y : Int) < (y : Int)) ?_
      refine nT ?_
      refine wp_seq ?_
      refine wp_cond_false (by kernel_rfl) ?_
      refine wp_exit ?_
      refine au_then_exit ?_
      refine au_then_exit ?_
      refine au_block_exit ?_
      have e0 : lvM s h m y = (wps s h m y) := by unfold lvM; rw [if_neg (by omega)]
      exact bodyPost_end (v := .tuple #[]) (results_none Tryz.results85 _ _) (by kernel_rfl) ⟨rfl, M.old, M.get 0 rfl, by rw [e0]; exact M.get 1 rfl⟩
  · skip
    refine ZT 10 ((s : Int) ≤ (y : Int)) ?_
    refine nT ?_
    refine wp_cond_true (by kernel_rfl) ?_
    refine sR ?_
    refine rV 3 ?_
    refine ZE M 14 0 2 ?_
    refine pl_clearW M (want_no rfl) rfl 1 k cap m rfl (nW s) cap (by unfold nW; omega) hc (fun _ => by kernel_rfl) fun u1 M => ?_
    replace M : Mem ⟨w, [g, k]⟩ [⟨g, .cells (av 3 (ls [.int .u64 (s : Int), .int .u64 (h : Int), .slice (some ⟨k, 0, none⟩) (nW s) cap])) 121⟩, ⟨k, .cells (av cap (w64 (clF (nW s) m))) 24⟩] u1 := M
    refine nT ?_
    refine wp_ret ?_
    refine au_then_ret ?_
    have e0 : lvM s h m y = (clF (nW s) m) := by unfold lvM; rw [if_pos (by omega)]
    exact bodyPost_ret (v := .tuple #[]) (results_none Tryz.results85 _ _) (by kernel_rfl) ⟨rfl, M.old, M.get 0 rfl, by rw [e0]; exact M.get 1 rfl⟩

set_option maxRecDepth 100000 in
set_option maxHeartbeats 4000000 in
set_option linter.unusedSimpArgs false in
theorem c_May (g k s h cap : Nat) (m : Nat → Int) (n : Nat) (hs : 1 ≤ s) (hc : nW s ≤ cap) (hh : h < 18446744073709551616) (hn : n < 18446744073709551616) (w : World) (hL : Laid w)  (hT : There w [⟨g, .cells (av 3 (ls [.int .u64 (s : Int), .int .u64 (h : Int), .slice (some ⟨k, 0, none⟩) (nW s) cap])) 121⟩, ⟨k, .cells (av cap (w64 m)) 24⟩]) :
    Calls Tryz.prog 66 #[.pointer (some ⟨g, 0, none⟩), .int .u64 (n : Int)] w fun r w' => r = .returned (.int .i64 (myF s h m n)) ∧ Below w.heap.size w w' := by
  go_enter Tryz.func66, Tryz.ntmps66
  have M : Mem ⟨w, [g, k]⟩ [⟨g, .cells (av 3 (ls [.int .u64 (s : Int), .int .u64 (h : Int), .slice (some ⟨k, 0, none⟩) (nW s) cap])) 121⟩, ⟨k, .cells (av cap (w64 m)) 24⟩] w := Mem.startT hL hT
  refine sq ?_
  refine wp_seq ?_
  refine wp_block ?_
  refine sR ?_
  refine rV 1 ?_
  refine pC M 7 81 #[.pointer (some ⟨g, 0, none⟩)] (.bool true) (fun w M => c_made g k s h cap hs w M.laid (M.there (.cons_cons _ (List.nil_sublist _)))) fun u1 M => ?_
  refine rV 2 ?_
  refine nT ?_
  refine wp_cond_false (by kernel_rfl) ?_
  refine sR ?_
  refine rV 4 ?_
  refine ZE M 14 0 1 ?_
  by_cases c0 : (h : Int) < (n : Int)
  · skip
    refine pH 15 (.bool true) (jT ((h : Int) < (n : Int)) (c0)) ?_
    refine rV 1 ?_
    refine nT ?_
    refine wp_cond_true (by kernel_rfl) ?_
    refine sq ?_
    refine wp_ret ?_
    refine au_block_ret ?_
    refine au_then_ret ?_
    have e0 : (myF s h m n) = 0 := by unfold myF; rw [if_pos (by omega)]
    exact bodyPost_ret (v := .int .i64 0) (results_tmp1 Tryz.results66 _ _ _ (by kernel_rfl)) (by kernel_rfl) ⟨by rw [e0], ro_T hT M⟩
  · skip
    refine pH 15 (.bool false) (jF ((h : Int) < (n : Int)) (c0)) ?_
    refine rV 1 ?_
    refine nT ?_
    refine wp_cond_false (by kernel_rfl) ?_
    refine wp_seq ?_
    refine rg_tail M 11 (by kernel_rfl) (by kernel_rfl) ?_
    simp only [List.take_succ_cons, List.take_zero]
    refine kR 3 ?_
    refine eE M 20 0 1 ?_
    refine kR 1 ?_
    refine kH 22 (.int .u64 ((h - n : Nat) : Int)) (fun w => Eq.trans (b := .ok (.value (.int .u64 (IntKind.wrap .u64 (((h : Nat) : Int) - ((n : Nat) : Int))))) w) (by kernel_rfl) (by rw [wrapU_sub h n (by omega) (by omega)])) ?_
    refine kR 3 ?_
    refine eE M 26 0 0 ?_
    by_cases c1 : ((h - n : Nat) : Int) < (s : Int)
    · skip
      refine eF 27 ((s : Int) ≤ ((h - n : Nat) : Int)) ?_
      refine kl_nil fun u2 M => ?_
      replace M : Mem ⟨w, [g, k]⟩ [⟨g, .cells (av 3 (ls [.int .u64 (s : Int), .int .u64 (h : Int), .slice (some ⟨k, 0, none⟩) (nW s) cap])) 121⟩, ⟨k, .cells (av cap (w64 m)) 24⟩] u2 := M
      refine rV 1 ?_
      refine nT ?_
      refine wp_cond_false (by kernel_rfl) ?_
      refine wp_seq ?_
      refine rg_tail M 8 (by kernel_rfl) (by kernel_rfl) ?_
      simp only [List.take_succ_cons, List.take_zero]
      refine kR 3 ?_
      refine eE M 32 0 2 ?_
      refine kR 2 ?_
      refine kC M 35 83 #[.pointer (some ⟨g, 0, none⟩), .int .u64 (n : Int)] (.int .u64 ((n % s : Nat) : Int)) (fun w M => c_place g k s h cap n hs w M.laid (M.there (.cons_cons _ (List.nil_sublist _)))) ?_
      rcases Bool.eq_false_or_eq_true (hb m (n % s)) with c2 | c2
      · skip
        refine kC M 36 82 #[.slice (some ⟨k, 0, none⟩) (nW s) cap, .int .u64 ((n % s : Nat) : Int)] (.bool true) (fun w M => call_val (c_has k (n % s) (nW s) cap m (Nat.lt_of_le_of_lt (Nat.mod_le n s) (by omega)) (by have := Nat.mod_lt n (show 0 < s by omega); unfold nW; omega) hc w M.laid (M.there (.cons _ (.cons_cons _ (List.nil_sublist _))))) (congrArg Value.bool c2)) ?_
        refine kl_nil fun u3 M => ?_
        replace M : Mem ⟨w, [g, k]⟩ [⟨g, .cells (av 3 (ls [.int .u64 (s : Int), .int .u64 (h : Int), .slice (some ⟨k, 0, none⟩) (nW s) cap])) 121⟩, ⟨k, .cells (av cap (w64 m)) 24⟩] u3 := M
        refine rV 1 ?_
        refine nT ?_
        refine wp_cond_true (by kernel_rfl) ?_
        refine sq ?_
        refine wp_ret ?_
        refine au_block_ret ?_
        refine au_then_ret ?_
        have e0 : (myF s h m n) = 9 := by unfold myF; rw [if_neg (by omega), if_neg (by omega), if_pos c2]
        exact bodyPost_ret (v := .int .i64 9) (results_tmp1 Tryz.results66 _ _ _ (by kernel_rfl)) (by kernel_rfl) ⟨by rw [e0], ro_T hT M⟩
      · skip
        refine kC M 36 82 #[.slice (some ⟨k, 0, none⟩) (nW s) cap, .int .u64 ((n % s : Nat) : Int)] (.bool false) (fun w M => call_val (c_has k (n % s) (nW s) cap m (Nat.lt_of_le_of_lt (Nat.mod_le n s) (by omega)) (by have := Nat.mod_lt n (show 0 < s by omega); unfold nW; omega) hc w M.laid (M.there (.cons _ (.cons_cons _ (List.nil_sublist _))))) (congrArg Value.bool c2)) ?_
        refine kl_nil fun u3 M => ?_
        replace M : Mem ⟨w, [g, k]⟩ [⟨g, .cells (av 3 (ls [.int .u64 (s : Int), .int .u64 (h : Int), .slice (some ⟨k, 0, none⟩) (nW s) cap])) 121⟩, ⟨k, .cells (av cap (w64 m)) 24⟩] u3 := M
        refine rV 1 ?_
        refine nT ?_
        refine wp_cond_false (by kernel_rfl) ?_
        refine wp_skip ?_
        refine au_block ?_
        refine au_then ?_
        refine sq ?_
        refine wp_ret ?_
        have e0 : (myF s h m n) = 0 := by unfold myF; rw [if_neg (by omega), if_neg (by omega), if_neg (Bool.eq_false_iff.1 c2)]
        exact bodyPost_ret (v := .int .i64 0) (results_tmp1 Tryz.results66 _ _ _ (by kernel_rfl)) (by kernel_rfl) ⟨by rw [e0], ro_T hT M⟩
    · skip
      refine eT 27 ((s : Int) ≤ ((h - n : Nat) : Int)) ?_
      refine kl_nil fun u2 M => ?_
      replace M : Mem ⟨w, [g, k]⟩ [⟨g, .cells (av 3 (ls [.int .u64 (s : Int), .int .u64 (h : Int), .slice (some ⟨k, 0, none⟩) (nW s) cap])) 121⟩, ⟨k, .cells (av cap (w64 m)) 24⟩] u2 := M
      refine rV 1 ?_
      refine nT ?_
      refine wp_cond_true (by kernel_rfl) ?_
      refine sq ?_
      refine wp_ret ?_
      refine au_block_ret ?_
      refine au_then_ret ?_
      have e0 : (myF s h m n) = 170 := by unfold myF; rw [if_neg (by omega), if_pos (by omega)]
      exact bodyPost_ret (v := .int .i64 170) (results_tmp1 Tryz.results66 _ _ _ (by kernel_rfl)) (by kernel_rfl) ⟨by rw [e0], ro_T hT M⟩

set_option maxRecDepth 100000 in
set_option maxHeartbeats 4000000 in
set_option linter.unusedSimpArgs false in
theorem c_Mark (g k s h cap : Nat) (m : Nat → Int) (n : Nat) (hs : 1 ≤ s) (hc : nW s ≤ cap) (hh : h < 18446744073709551616) (hn : n < 18446744073709551616) (w : World) (hL : Laid w)  (hT : There w [⟨g, .cells (av 3 (ls [.int .u64 (s : Int), .int .u64 (h : Int), .slice (some ⟨k, 0, none⟩) (nW s) cap])) 121⟩, ⟨k, .cells (av cap (w64 m)) 24⟩]) :
    Calls Tryz.prog 68 #[.pointer (some ⟨g, 0, none⟩), .int .u64 (n : Int)] w fun r w' => r = .returned (.int .i64 (myF s h m n)) ∧ Grw w w' [g, k] ∧ w'.heap[g]? = some (.cells (av 3 (ls [.int .u64 (s : Int), .int .u64 ((mkH s h m n : Nat) : Int), .slice (some ⟨k, 0, none⟩) (nW s) cap])) 121) ∧ w'.heap[k]? = some (.cells (av cap (w64 (mkM s h m n))) 24) := by
  go_enter Tryz.func68, Tryz.ntmps68
  have M : Mem ⟨w, [g, k]⟩ [⟨g, .cells (av 3 (ls [.int .u64 (s : Int), .int .u64 (h : Int), .slice (some ⟨k, 0, none⟩) (nW s) cap])) 121⟩, ⟨k, .cells (av cap (w64 m)) 24⟩] w := Mem.startT hL hT
  refine sq ?_
  refine wp_seq ?_
  refine sR ?_
  refine rV 2 ?_
  refine pC M 8 66 #[.pointer (some ⟨g, 0, none⟩), .int .u64 (n : Int)] (.int .i64 (myF s h m n)) (fun w M => c_May g k s h cap m n hs hc hh hn w M.laid (M.there (.cons_cons _ (.cons_cons _ (List.nil_sublist _))))) fun u1 M => ?_
  refine rV 1 ?_
  refine nT ?_
  refine sR ?_
  refine rV 1 ?_
  by_cases c0 : (myF s h m n) = 0
  · skip
    refine pH 10 (.bool false) (jD ((myF s h m n) = 0) (c0)) ?_
    refine nT ?_
    refine wp_cond_false (by kernel_rfl) ?_
    refine wp_skip ?_
    refine au_then ?_
    refine wp_seq ?_
    refine sR ?_
    refine rV 4 ?_
    refine ZE M 16 0 1 ?_
    by_cases c1 : (h : Int) < (n : Int)
    · skip
      refine pH 17 (.bool true) (jT ((h : Int) < (n : Int)) (c1)) ?_
      refine nT ?_
      refine wp_cond_true (by kernel_rfl) ?_
      refine sR ?_
      refine rV 5 ?_
      refine ZE M 23 0 1 ?_
      refine pH 24 (.int .u64 ((n - h : Nat) : Int)) (fun w => Eq.trans (b := .ok (.value (.int .u64 (IntKind.wrap .u64 (((n : Nat) : Int) - ((h : Nat) : Int))))) w) (by kernel_rfl) (by rw [wrapU_sub n h (by omega) (by omega)])) ?_
      refine pl_call2 M (want_no rfl) (some 25) rfl 85 #[.pointer (some ⟨g, 0, none⟩), .int .u64 ((n - h : Nat) : Int)] (.tuple #[]) 0 1 g k (.cells (av 3 (ls [.int .u64 (s : Int), .int .u64 (h : Int), .slice (some ⟨k, 0, none⟩) (nW s) cap])) 121) (.cells (av cap (w64 m)) 24) (.cells (av 3 (ls [.int .u64 (s : Int), .int .u64 (h : Int), .slice (some ⟨k, 0, none⟩) (nW s) cap])) 121) (.cells (av cap (w64 (lvM s h m (n - h)))) 24) rfl rfl (fun _ => by kernel_rfl) (fun w M => c_leave g k s h cap m (n - h) hs hc (by omega) w M.laid (M.there (.cons_cons _ (.cons_cons _ (List.nil_sublist _))))) fun u2 M => ?_
      replace M : Mem ⟨w, [g, k]⟩ [⟨g, .cells (av 3 (ls [.int .u64 (s : Int), .int .u64 (h : Int), .slice (some ⟨k, 0, none⟩) (nW s) cap])) 121⟩, ⟨k, .cells (av cap (w64 (lvM s h m (n - h)))) 24⟩] u2 := M
      refine nT ?_
      refine rg_lit ?_
      refine rV 4 ?_
      refine pP M 0 rfl 1 (.int .u64 (n : Int)) (ls [.int .u64 (s : Int), .int .u64 (n : Int), .slice (some ⟨k, 0, none⟩) (nW s) cap]) (by decide) (put_ls _ 1 _ _ rfl) fun u3 M => ?_
      replace M : Mem ⟨w, [g, k]⟩ [⟨g, .cells (av 3 (ls [.int .u64 (s : Int), .int .u64 (n : Int), .slice (some ⟨k, 0, none⟩) (nW s) cap])) 121⟩, ⟨k, .cells (av cap (w64 (lvM s h m (n - h)))) 24⟩] u3 := M
      refine nT ?_
      refine wp_seq ?_
      refine rg_tail M 7 (by kernel_rfl) (by kernel_rfl) ?_
      simp only [List.take_succ_cons, List.take_zero]
      refine kR 3 ?_
      refine eE M 33 0 2 ?_
      refine kR 2 ?_
      refine kC M 36 83 #[.pointer (some ⟨g, 0, none⟩), .int .u64 (n : Int)] (.int .u64 ((n % s : Nat) : Int)) (fun w M => c_place g k s n cap n hs w M.laid (M.there (.cons_cons _ (List.nil_sublist _)))) ?_
      refine kl_nil fun u4 M => ?_
      replace M : Mem ⟨w, [g, k]⟩ [⟨g, .cells (av 3 (ls [.int .u64 (s : Int), .int .u64 (n : Int), .slice (some ⟨k, 0, none⟩) (nW s) cap])) 121⟩, ⟨k, .cells (av cap (w64 (lvM s h m (n - h)))) 24⟩] u4 := M
      refine pl_callp M (want_no rfl) (some 37) rfl 86 #[.slice (some ⟨k, 0, none⟩) (nW s) cap, .int .u64 ((n % s : Nat) : Int)] (.tuple #[]) 1 k (.cells (av cap (w64 (lvM s h m (n - h)))) 24) (.cells (av cap (w64 (stM (lvM s h m (n - h)) (n % s)))) 24) rfl (fun _ => by kernel_rfl) (fun w M => c_set k (n % s) (nW s) cap (lvM s h m (n - h)) (Nat.lt_of_le_of_lt (Nat.mod_le n s) (by omega)) (by have := Nat.mod_lt n (show 0 < s by omega); unfold nW; omega) hc w M.laid (M.there (.cons _ (.cons_cons _ (List.nil_sublist _))))) fun u5 M => ?_
      replace M : Mem ⟨w, [g, k]⟩ [⟨g, .cells (av 3 (ls [.int .u64 (s : Int), .int .u64 (n : Int), .slice (some ⟨k, 0, none⟩) (nW s) cap])) 121⟩, ⟨k, .cells (av cap (w64 (stM (lvM s h m (n - h)) (n % s)))) 24⟩] u5 := M
      refine nT ?_
      refine sq ?_
      refine wp_ret ?_
      have e0 : mkH s h m n = n := by unfold mkH; rw [if_pos c0, if_pos (by omega)]
      have e1 : mkM s h m n = (stM (lvM s h m (n - h)) (n % s)) := by unfold mkM; rw [if_pos c0, if_pos (by omega)]
      exact bodyPost_ret (v := .int .i64 0) (results_tmp1 Tryz.results68 _ _ _ (by kernel_rfl)) (by kernel_rfl) ⟨by rw [c0], M.old, by rw [e0]; exact M.get 0 rfl, by rw [e1]; exact M.get 1 rfl⟩
    · skip
      refine pH 17 (.bool false) (jF ((h : Int) < (n : Int)) (c1)) ?_
      refine nT ?_
      refine wp_cond_false (by kernel_rfl) ?_
      refine wp_skip ?_
      refine au_then ?_
      refine wp_seq ?_
      refine rg_tail M 7 (by kernel_rfl) (by kernel_rfl) ?_
      simp only [List.take_succ_cons, List.take_zero]
      refine kR 3 ?_
      refine eE M 33 0 2 ?_
      refine kR 2 ?_
      refine kC M 36 83 #[.pointer (some ⟨g, 0, none⟩), .int .u64 (n : Int)] (.int .u64 ((n % s : Nat) : Int)) (fun w M => c_place g k s h cap n hs w M.laid (M.there (.cons_cons _ (List.nil_sublist _)))) ?_
      refine kl_nil fun u2 M => ?_
      replace M : Mem ⟨w, [g, k]⟩ [⟨g, .cells (av 3 (ls [.int .u64 (s : Int), .int .u64 (h : Int), .slice (some ⟨k, 0, none⟩) (nW s) cap])) 121⟩, ⟨k, .cells (av cap (w64 m)) 24⟩] u2 := M
      refine pl_callp M (want_no rfl) (some 37) rfl 86 #[.slice (some ⟨k, 0, none⟩) (nW s) cap, .int .u64 ((n % s : Nat) : Int)] (.tuple #[]) 1 k (.cells (av cap (w64 m)) 24) (.cells (av cap (w64 (stM m (n % s)))) 24) rfl (fun _ => by kernel_rfl) (fun w M => c_set k (n % s) (nW s) cap m (Nat.lt_of_le_of_lt (Nat.mod_le n s) (by omega)) (by have := Nat.mod_lt n (show 0 < s by omega); unfold nW; omega) hc w M.laid (M.there (.cons _ (.cons_cons _ (List.nil_sublist _))))) fun u3 M => ?_
      replace M : Mem ⟨w, [g, k]⟩ [⟨g, .cells (av 3 (ls [.int .u64 (s : Int), .int .u64 (h : Int), .slice (some ⟨k, 0, none⟩) (nW s) cap])) 121⟩, ⟨k, .cells (av cap (w64 (stM m (n % s)))) 24⟩] u3 := M
      refine nT ?_
      refine sq ?_
      refine wp_ret ?_
      have e0 : mkH s h m n = h := by unfold mkH; rw [if_pos c0, if_neg (by omega)]
      have e1 : mkM s h m n = (stM m (n % s)) := by unfold mkM; rw [if_pos c0, if_neg (by omega)]
      exact bodyPost_ret (v := .int .i64 0) (results_tmp1 Tryz.results68 _ _ _ (by kernel_rfl)) (by kernel_rfl) ⟨by rw [c0], M.old, by rw [e0]; exact M.get 0 rfl, by rw [e1]; exact M.get 1 rfl⟩
  · skip
    refine pH 10 (.bool true) (jU ((myF s h m n) = 0) (c0)) ?_
    refine nT ?_
    refine wp_cond_true (by kernel_rfl) ?_
    refine sq ?_
    refine wp_ret ?_
    refine au_then_ret ?_
    have e0 : mkH s h m n = h := by unfold mkH; rw [if_neg c0]
    have e1 : mkM s h m n = m := by unfold mkM; rw [if_neg c0]
    exact bodyPost_ret (v := .int .i64 (myF s h m n)) (results_tmp1 Tryz.results68 _ _ _ (by kernel_rfl)) (by kernel_rfl) ⟨rfl, M.old, by rw [e0]; exact M.get 0 rfl, by rw [e1]; exact M.get 1 rfl⟩

set_option maxRecDepth 100000 in
set_option maxHeartbeats 4000000 in
set_option linter.unusedSimpArgs false in
theorem c_NewE (z : Int) (hz : z < 1 ∨ 4096 < z) (w : World) (hL : Laid w)  :
    Calls Tryz.prog 24 #[.int .i64 z] w fun r w' => r = .returned (.tuple #[.pointer none, .int .i64 2]) ∧ Below w.heap.size w w' := by
  go_enter Tryz.func24, Tryz.ntmps24
  have M := Mem.start hL
  refine sq ?_
  refine wp_seq ?_
  refine sR ?_
  refine rV 1 ?_
  by_cases c0 : z < 1
  · skip
    refine pH 5 (.bool true) (jT (z < 1) (c0)) ?_
    refine rV 4 ?_
    refine nT ?_
    refine wp_cond_true (by kernel_rfl) ?_
    refine sq ?_
    refine wp_ret ?_
    refine au_then_ret ?_
    exact b1 M
  · skip
    refine pH 5 (.bool false) (jF (z < 1) (c0)) ?_
    refine rV 2 ?_
    by_cases c1 : 4096 < z
    · skip
      refine pl_val (want_on 2 false rfl 6 rfl (by kernel_rfl)) (some 8) rfl (.bool true) (fun w => Eq.trans (b := .ok (.value (.bool (decide (4096 < z)))) w) (by kernel_rfl) (by rw [decide_eq_true (c1)])) ?_
      refine rV 1 ?_
      refine nT ?_
      refine wp_cond_true (by kernel_rfl) ?_
      refine sq ?_
      refine wp_ret ?_
      refine au_then_ret ?_
      exact b1 M
    · exfalso; omega

set_option maxRecDepth 100000 in
set_option maxHeartbeats 4000000 in
set_option linter.unusedSimpArgs false in
theorem c_WNew (s : Nat) (hs : 1 ≤ s) (hs4 : s ≤ 4096) (w : World) (hL : Laid w)  :
    Calls Tryz.prog 24 #[.int .i64 (s : Int)] w fun r w' => ∃ x : Nat × Nat, r = .returned (.tuple #[.pointer (some ⟨x.1, 0, none⟩), .int .i64 0]) ∧ True ∧ OkT w w' [] [⟨x.1, (.cells (av 3 (ls [.int .u64 (s : Int), .int .u64 0, .slice (some ⟨x.2, 0, none⟩) (nW s) (nW s)])) 121)⟩, ⟨x.2, .cells (av (nW s) (w64 (fun _ => 0))) 24⟩] := by
  go_enter Tryz.func24, Tryz.ntmps24
  have M := Mem.start hL
  refine sq ?_
  refine wp_seq ?_
  refine sR ?_
  refine rV 1 ?_
  by_cases c0 : (s : Int) < 1
  · exfalso; omega
  · skip
    refine pH 5 (.bool false) (jF ((s : Int) < 1) (c0)) ?_
    refine rV 2 ?_
    by_cases c1 : 4096 < (s : Int)
    · exfalso; omega
    · skip
      refine pl_val (want_on 2 false rfl 6 rfl (by kernel_rfl)) (some 8) rfl (.bool false) (fun w => Eq.trans (b := .ok (.value (.bool (decide (4096 < (s : Int))))) w) (by kernel_rfl) (by rw [decide_eq_false (c1)])) ?_
      refine rV 1 ?_
      refine nT ?_
      refine wp_cond_false (by kernel_rfl) ?_
      refine wp_skip ?_
      refine au_then ?_
      refine sR ?_
      refine rV 1 ?_
      refine pH 11 (.int .u64 (s : Int)) (fun w => Eq.trans (b := .ok (.value (.int .u64 (cv .u64 (s : Int)))) w) (by kernel_rfl) (by rw [cv_u64, Int.emod_eq_of_lt (by omega) (by omega)])) ?_
      refine rV 1 ?_
      refine pl_calln M (want_no rfl) (some 13) rfl 48 #[.int .i64 (s : Int)] (fun g1 => .slice (some ⟨g1, 0, none⟩) (nW s) (nW s)) (.cells (av (nW s) (w64 (fun _ => 0))) 24) (fun _ => by kernel_rfl) (fun w M => c_room s hs4 w M.laid) fun g1 u1 M => ?_
      replace M : Mem ⟨w, []⟩ [⟨g1, .cells (av (nW s) (w64 (fun _ => 0))) 24⟩] u1 := M
      refine rV 1 ?_
      refine pN M 15 (.cells (av 3 (ls [.int .u64 (s : Int), .int .u64 0, .slice (some ⟨g1, 0, none⟩) (nW s) (nW s)])) 121) fun g2 u2 M => ?_
      replace M : Mem ⟨w, []⟩ [⟨g1, .cells (av (nW s) (w64 (fun _ => 0))) 24⟩, ⟨g2, .cells (av 3 (ls [.int .u64 (s : Int), .int .u64 0, .slice (some ⟨g1, 0, none⟩) (nW s) (nW s)])) 121⟩] u2 := M
      refine rV 2 ?_
      refine nT ?_
      refine wp_ret ?_
      exact bodyPost_ret (v := .tuple #[.pointer (some ⟨g2, 0, none⟩), .int .i64 0]) (results_tmp2 Tryz.results24 _ _ _ _ (by kernel_rfl) (by kernel_rfl)) (by kernel_rfl) ⟨(_, _), rfl, trivial, Mem.okT0 (T := []) (M.perm (.swap _ _ _))⟩


end Go.Proofs.YtenafinbaanicaaGreatDoor
namespace Go.Proofs.YtenafinbaanicaaGreatDoor
open Go.RowKit
set_option maxRecDepth 100000

theorem wrapN (b : BitVec 64) : IntKind.wrap .u64 (b.toNat : Int) = (b.toNat : Int) := by
  have := b.isLt
  rw [IntKind.wrap_u64]
  omega
theorem ofI (b : BitVec 64) : BitVec.ofInt 64 (b.toNat : Int) = b := by
  rw [BitVec.ofInt_natCast, BitVec.ofNat_toNat, BitVec.setWidth_eq]
theorem bw_two (p : Nat) : BitVec.ofInt 64 (bw p) = BitVec.twoPow 64 (p % 64) := by
  have hp : p % 64 < 64 := Nat.mod_lt _ (by decide)
  have e : bw p = ((BitVec.twoPow 64 (p % 64)).toNat : Int) := by
    unfold bw sl
    rw [IntKind.wrap_u64, BitVec.toNat_twoPow]
    simp
  rw [e, ofI]
theorem hb_bit (m : Nat → Int) (p : Nat) : hb m p = (BitVec.ofInt 64 (m (p / 64))).getLsbD (p % 64) := by
  have hp : p % 64 < 64 := Nat.mod_lt _ (by decide)
  unfold hb un
  rw [bw_two, wrapN, BitVec.and_twoPow]
  cases h : (BitVec.ofInt 64 (m (p / 64))).getLsbD (p % 64)
  · simp
  · have h2 : (BitVec.twoPow 64 (p % 64)).toNat ≠ 0 := by
      rw [BitVec.toNat_twoPow, Nat.mod_eq_of_lt (Nat.pow_lt_pow_right (by decide) hp)]
      exact Nat.pos_iff_ne_zero.1 (Nat.pow_pos (by decide))
    simp only [if_true, decide_eq_true_eq]
    omega
theorem pl_eq {p q : Nat} (h : q / 64 = p / 64) : p % 64 = q % 64 ↔ q = p := by omega
theorem hb_set (m : Nat → Int) (p q : Nat) : hb (stM m p) q = (decide (q = p) || hb m q) := by
  have hq : q % 64 < 64 := Nat.mod_lt _ (by decide)
  rw [hb_bit, hb_bit]
  unfold stM upd uo
  by_cases h : q / 64 = p / 64
  · rw [if_pos h, wrapN, ofI, BitVec.getLsbD_or, bw_two, BitVec.getLsbD_twoPow, h]
    by_cases e : q = p
    · subst e
      simp [hq]
    · have e2 : ¬ p % 64 = q % 64 := fun x => e ((pl_eq h).1 x)
      simp [e, e2]
  · rw [if_neg h]
    have e : ¬ q = p := fun e => h (by rw [e])
    simp [e]
theorem hb_wipe (m : Nat → Int) (p q : Nat) : hb (wpM m p) q = (!decide (q = p) && hb m q) := by
  have hq : q % 64 < 64 := Nat.mod_lt _ (by decide)
  rw [hb_bit, hb_bit]
  unfold wpM upd ud
  by_cases h : q / 64 = p / 64
  · rw [if_pos h, wrapN, ofI, BitVec.getLsbD_and, BitVec.getLsbD_not, bw_two, BitVec.getLsbD_twoPow, h]
    by_cases e : q = p
    · subst e
      simp [hq]
    · have e2 : ¬ p % 64 = q % 64 := fun x => e ((pl_eq h).1 x)
      simp [e, e2, hq]
  · rw [if_neg h]
    have e : ¬ q = p := fun e => h (by rw [e])
    simp [e]
theorem hb_zero (q : Nat) : hb (fun _ => 0) q = false := by
  rw [hb_bit]
  simp
theorem hb_clear (n : Nat) (m : Nat → Int) (q : Nat) (h : q / 64 < n) : hb (clF n m) q = false := by
  rw [hb_bit]
  unfold clF
  rw [if_pos h]
  simp
theorem hb_copy (n : Nat) (m : Nat → Int) (q : Nat) (h : q / 64 < n) : hb (cpF n m) q = hb m q := by
  unfold hb cpF
  rw [if_pos h]
theorem hb_wps (s h : Nat) (m : Nat → Int) (q : Nat) : ∀ j, hb (wps s h m j) q = true ↔ hb m q = true ∧ ∀ i, i < j → q ≠ (h + 1 + i) % s
  | 0 => by simp [wps]
  | j + 1 => by
    have ih := hb_wps s h m q j
    unfold wps
    rw [hb_wipe]
    simp only [Bool.and_eq_true, Bool.not_eq_true', decide_eq_false_iff_not]
    constructor
    · intro ⟨h1, h2⟩
      obtain ⟨h3, h4⟩ := ih.1 h2
      refine ⟨h3, fun i hi => ?_⟩
      by_cases e : i = j
      · subst e
        exact h1
      · exact h4 i (by omega)
    · intro ⟨h1, h2⟩
      exact ⟨h2 j (by omega), ih.2 ⟨h1, fun i hi => h2 i (by omega)⟩⟩

/-- The highest number of a row, 0 of none. -/
def mx (l : List Nat) : Nat := l.foldl max 0
theorem mx_app (l : List Nat) (n : Nat) : mx (l ++ [n]) = max (mx l) n := by simp [mx, List.foldl_append]
theorem foldl_ge : ∀ (l : List Nat) (a : Nat), a ≤ l.foldl max a ∧ ∀ n ∈ l, n ≤ l.foldl max a
  | [], a => ⟨Nat.le_refl _, by simp⟩
  | x :: l, a => by
    obtain ⟨h1, h2⟩ := foldl_ge l (max a x)
    rw [List.foldl_cons]
    refine ⟨by omega, fun n hn => ?_⟩
    rcases List.mem_cons.1 hn with rfl | hn
    · omega
    · exact h2 n hn
theorem foldl_in : ∀ (l : List Nat) (a : Nat), l.foldl max a = a ∨ l.foldl max a ∈ l
  | [], a => .inl rfl
  | x :: l, a => by
    rw [List.foldl_cons]
    rcases foldl_in l (max a x) with h | h
    · rw [h]
      by_cases hx : a ≤ x
      · right
        rw [Nat.max_eq_right hx]
        exact List.mem_cons_self
      · left
        omega
    · exact .inr (List.mem_cons_of_mem _ h)
theorem le_mx {l : List Nat} {n : Nat} (h : n ∈ l) : n ≤ mx l := (foldl_ge l 0).2 n h
theorem mx_in {l : List Nat} (h : l ≠ []) : mx l ∈ l := by
  rcases foldl_in l 0 with e | e
  · cases l with
    | nil => exact absurd rfl h
    | cons x r =>
      have h1 := (foldl_ge (x :: r) 0).2 x List.mem_cons_self
      have : x = 0 := by omega
      subst this
      have e2 : mx (0 :: r) = 0 := e
      rw [e2]
      exact List.mem_cons_self
  · exact e
theorem mx_lt {l : List Nat} {B : Nat} (hB : 0 < B) (h : ∀ n ∈ l, n < B) : mx l < B := by
  by_cases e : l = []
  · subst e
    exact hB
  · exact h _ (mx_in e)
/-- Whether a number may be marked. -/
def my (s : Nat) (l : List Nat) (n : Nat) : Int := if l ≠ [] ∧ n < mx l ∧ s ≤ mx l - n then 170 else if n ∈ l then 9 else 0
def mk (s : Nat) (l : List Nat) (n : Nat) : List Nat := if my s l n = 0 then l ++ [n] else l
/-- The marks of a window tell which numbers that are not old were marked. -/
structure Inv (s h : Nat) (m : Nat → Int) (l : List Nat) : Prop where
  hi : h = mx l
  bits : ∀ n, n ≤ h → h < n + s → (hb m (n % s) = true ↔ n ∈ l)
theorem inv_new (s : Nat) : Inv s 0 (fun _ => 0) [] := ⟨rfl, fun n _ _ => by simp [hb_zero]⟩
theorem mod_in (s n : Nat) (hs : 1 ≤ s) : (n % s) / 64 < nW s := by
  have := Nat.mod_lt n (show 0 < s by omega)
  unfold nW
  omega
theorem inv_copy {s h : Nat} {m : Nat → Int} {l : List Nat} (I : Inv s h m l) (hs : 1 ≤ s) : Inv s h (cpF (nW s) m) l := ⟨I.hi, fun n h1 h2 => by rw [hb_copy _ _ _ (mod_in s n hs)]; exact I.bits n h1 h2⟩
theorem may_eq {s h : Nat} {m : Nat → Int} {l : List Nat} (I : Inv s h m l) (hs : 1 ≤ s) (n : Nat) : myF s h m n = my s l n := by
  have hh := I.hi
  unfold myF my
  by_cases c1 : h < n
  · rw [if_pos c1, if_neg (by omega), if_neg (fun hm => by have := le_mx hm; omega)]
  · rw [if_neg c1]
    by_cases c2 : s ≤ h - n
    · rw [if_pos c2, if_pos ⟨fun e => by subst e; simp [mx] at hh; omega, by omega, by omega⟩]
    · have c4 : ¬ (l ≠ [] ∧ n < mx l ∧ s ≤ mx l - n) := by omega
      rw [if_neg c2, if_neg c4]
      have hbt := I.bits n (by omega) (by omega)
      by_cases c3 : n ∈ l
      · rw [if_pos (hbt.2 c3), if_pos c3]
      · rw [if_neg (fun x => c3 (hbt.1 x)), if_neg c3]
theorem mod_ne {s a b : Nat} (h1 : a < b) (h2 : b < a + s) : a % s ≠ b % s := by
  intro e
  have h3 := Nat.div_add_mod a s
  have h4 := Nat.div_add_mod b s
  rw [e] at h3
  have h5 : s * (a / s) < s * (b / s) := by omega
  have h6 : a / s < b / s := Nat.lt_of_mul_lt_mul_left h5
  have h7 : s * (a / s + 1) ≤ s * (b / s) := Nat.mul_le_mul_left s h6
  rw [Nat.mul_add, Nat.mul_one] at h7
  omega
theorem mod_one_of {s a b : Nat} (h1 : a < b + s) (h2 : b < a + s) (e : a % s = b % s) : a = b := by
  rcases Nat.lt_trichotomy a b with h | h | h
  · exact absurd e (mod_ne h h2)
  · exact h
  · exact absurd e.symm (mod_ne h h1)
theorem inv_mark {s h : Nat} {m : Nat → Int} {l : List Nat} (I : Inv s h m l) (hs : 1 ≤ s) (n : Nat) : Inv s (mkH s h m n) (mkM s h m n) (mk s l n) := by
  have hh := I.hi
  have he := may_eq I hs n
  unfold mkH mkM mk
  rw [he]
  by_cases c0 : my s l n = 0
  · rw [if_pos c0, if_pos c0, if_pos c0]
    by_cases c1 : h < n
    · rw [if_pos c1, if_pos c1]
      refine ⟨by rw [mx_app]; omega, fun q h1 h2 => ?_⟩
      rw [hb_set, Bool.or_eq_true, decide_eq_true_eq, List.mem_append, List.mem_singleton]
      have e1 : q % s = n % s ↔ q = n := ⟨fun e => mod_one_of (by omega) (by omega) e, fun e => by rw [e]⟩
      rw [e1]
      have e2 : hb (lvM s h m (n - h)) (q % s) = true ↔ q ∈ l ∧ q ≠ n := by
        unfold lvM
        by_cases c2 : s ≤ n - h
        · rw [if_pos c2, hb_clear _ _ _ (mod_in s q hs)]
          constructor
          · intro x
            cases x
          · intro ⟨x, _⟩
            have := le_mx x
            omega
        · rw [if_neg c2, hb_wps]
          constructor
          · intro ⟨x, y⟩
            have h3 : q ≤ h := by
              refine Nat.le_of_not_lt fun h4 => y (q - (h + 1)) (by omega) ?_
              rw [show h + 1 + (q - (h + 1)) = q by omega]
            exact ⟨(I.bits q h3 (by omega)).1 x, by omega⟩
          · intro ⟨x, y⟩
            have h3 := le_mx x
            exact ⟨(I.bits q (by omega) (by omega)).2 x, fun i hi => mod_ne (by omega) (by omega)⟩
      rw [e2]
      constructor
      · intro x
        rcases x with x | x
        · exact .inr x
        · exact .inl x.1
      · intro x
        by_cases y : q = n
        · exact .inl y
        · rcases x with x | x
          · exact .inr ⟨x, y⟩
          · exact .inl x
    · rw [if_neg c1, if_neg c1]
      have c2 : ¬ s ≤ h - n := fun c2 => by
        unfold myF at he
        rw [if_neg c1, if_pos c2, c0] at he
        cases he
      refine ⟨by rw [mx_app]; omega, fun q h1 h2 => ?_⟩
      rw [hb_set, Bool.or_eq_true, decide_eq_true_eq, List.mem_append, List.mem_singleton]
      have e1 : q % s = n % s ↔ q = n := ⟨fun e => mod_one_of (by omega) (by omega) e, fun e => by rw [e]⟩
      rw [e1, I.bits q h1 h2]
      exact Or.comm
  · rw [if_neg c0, if_neg c0, if_neg c0]
    exact I
theorem hi_eq {s h : Nat} {m : Nat → Int} {l : List Nat} (I : Inv s h m l) (hs : 1 ≤ s) : hiV s h m = mx l ∧ hb m (h % s) = decide (l ≠ []) := by
  have hh := I.hi
  have hbt := I.bits h (Nat.le_refl _) (by omega)
  have e : hb m (h % s) = decide (l ≠ []) := by
    by_cases c : l = []
    · subst c
      have e3 : hb m (h % s) = false := Bool.eq_false_iff.2 (fun x => by have := hbt.1 x; simp at this)
      rw [e3]
      simp
    · rw [hbt.2 (by rw [hh]; exact mx_in c), decide_eq_true c]
  refine ⟨?_, e⟩
  unfold hiV
  rw [e]
  by_cases c : l = []
  · subst c
    simp [mx]
  · rw [decide_eq_true c, if_pos rfl, hh]
theorem mk_lt {s n B : Nat} {l : List Nat} (h : ∀ q ∈ l, q < B) (hn : n < B) : ∀ q ∈ mk s l n, q < B := by
  intro q hq
  unfold mk at hq
  split at hq
  · rcases List.mem_append.1 hq with x | x
    · exact h q x
    · rw [List.mem_singleton.1 x]
      exact hn
  · exact h q hq
theorem mk_len (s n : Nat) (l : List Nat) : (mk s l n).length ≤ l.length + 1 := by
  unfold mk
  split <;> simp
theorem mkH_lt {s h : Nat} {m : Nat → Int} {n B : Nat} (hh : h < B) (hn : n < B) : mkH s h m n < B := by
  unfold mkH
  split
  · split <;> omega
  · exact hh

end Go.Proofs.YtenafinbaanicaaGreatDoor
namespace Go.Proofs.YtenafinbaanicaaGreatDoor
open Go.RowKit
set_option maxRecDepth 100000

/-- Whether it is over. -/
def ovB (sd : ByteArray) (lf mt n : Nat) : Bool := decide (sd = ⟨#[]⟩ ∨ lf ≤ n - mt)
def wnB (sd : ByteArray) (fi : Bool) (rc rk lf nx mt n : Nat) : Bool := fi && (!ovB sd lf mt n && decide (rc ≤ nx ∨ rk ≤ n - mt))
def slF (sd : ByteArray) (su : Bool) (ct lf nx mt n : Nat) : Int := if ovB sd lf mt n = true then 180 else if ct ≤ nx then 180 else if su = true then 0 else 3
theorem age_eq (n mt : Nat) (hn : n < 18446744073709551616) : IntKind.wrap .u64 (max (n : Int) (mt : Int) - (mt : Int)) = ((n - mt : Nat) : Int) := by
  rw [IntKind.wrap_u64]
  omega
theorem a_Mark {g k s h : Nat} {m : Nat → Int} {n : Nat} {l : List Nat} (hs : 1 ≤ s) (hh : h < 18446744073709551616) (hn : n < 18446744073709551616) (I : Inv s h m l) (w : World) (hL : Laid w) (hT : There w [⟨g, .cells (av 3 (ls [.int .u64 (s : Int), .int .u64 (h : Int), .slice (some ⟨k, 0, none⟩) (nW s) (nW s)])) 121⟩, ⟨k, .cells (av (nW s) (w64 m)) 24⟩]) :
    Calls Tryz.prog 68 #[.pointer (some ⟨g, 0, none⟩), .int .u64 (n : Int)] w fun r w' => ∃ x : Nat × (Nat → Int), r = .returned (.int .i64 (my s l n)) ∧ (Inv s x.1 x.2 (mk s l n) ∧ x.1 < 18446744073709551616) ∧ OkT w w' [⟨g, .cells (av 3 (ls [.int .u64 (s : Int), .int .u64 (h : Int), .slice (some ⟨k, 0, none⟩) (nW s) (nW s)])) 121⟩, ⟨k, .cells (av (nW s) (w64 m)) 24⟩] [⟨g, .cells (av 3 (ls [.int .u64 (s : Int), .int .u64 ((x.1 : Nat) : Int), .slice (some ⟨k, 0, none⟩) (nW s) (nW s)])) 121⟩, ⟨k, .cells (av (nW s) (w64 x.2)) 24⟩] := by
  rw [← may_eq I hs n]
  exact (c_Mark g k s h (nW s) m n hs (Nat.le_refl _) hh hn w hL hT).mono fun _ _ ⟨he, h1, h2, h3⟩ => ⟨(mkH s h m n, mkM s h m n), he, ⟨inv_mark I hs n, mkH_lt hh hn⟩, h1, by simpa using ⟨h2, h3⟩, by simpa using hT.nodup, by simp⟩
theorem a_May {g k s h : Nat} {m : Nat → Int} {n : Nat} {l : List Nat} (hs : 1 ≤ s) (hh : h < 18446744073709551616) (hn : n < 18446744073709551616) (I : Inv s h m l) (w : World) (hL : Laid w) (hT : There w [⟨g, .cells (av 3 (ls [.int .u64 (s : Int), .int .u64 (h : Int), .slice (some ⟨k, 0, none⟩) (nW s) (nW s)])) 121⟩, ⟨k, .cells (av (nW s) (w64 m)) 24⟩]) :
    Calls Tryz.prog 66 #[.pointer (some ⟨g, 0, none⟩), .int .u64 (n : Int)] w fun r w' => r = .returned (.int .i64 (my s l n)) ∧ Below w.heap.size w w' := by
  rw [← may_eq I hs n]
  exact c_May g k s h (nW s) m n hs (Nat.le_refl _) hh hn w hL hT
set_option maxRecDepth 100000 in
set_option maxHeartbeats 4000000 in
set_option linter.unusedSimpArgs false in
theorem c_wiped {e wd md : Nat} {rc ct rk lf sz nx : Nat} {sd rv : ByteArray} {fi su : Bool} (w : World) (hL : Laid w)  (hT : There w [⟨e, .cells (av 12 (ls [.pointer (some ⟨wd, 0, none⟩), .func (.func 49) #[] #[.pointer (some ⟨md, 0, none⟩)], .int .u64 (rc : Int), .int .u64 (ct : Int), .int .u64 (rk : Int), .int .u64 (lf : Int), .int .i64 (sz : Int), .string sd, .string rv, .bool (fi), .bool (su), .int .u64 (nx : Int)])) 89⟩]) :
    Calls Tryz.prog 56 #[.pointer (some ⟨e, 0, none⟩)] w fun r w' => r = .returned (.bool (decide (sd = (⟨#[]⟩ : ByteArray)))) ∧ Below w.heap.size w w' := by
  go_enter Tryz.func56, Tryz.ntmps56
  have M : Mem ⟨w, [e]⟩ [⟨e, .cells (av 12 (ls [.pointer (some ⟨wd, 0, none⟩), .func (.func 49) #[] #[.pointer (some ⟨md, 0, none⟩)], .int .u64 (rc : Int), .int .u64 (ct : Int), .int .u64 (rk : Int), .int .u64 (lf : Int), .int .i64 (sz : Int), .string sd, .string rv, .bool (fi), .bool (su), .int .u64 (nx : Int)])) 89⟩] w := Mem.startT hL hT
  refine sq ?_
  refine sR ?_
  refine rV 3 ?_
  refine ZE M 6 0 7 ?_
  by_cases c0 : sd = (⟨#[]⟩ : ByteArray)
  · skip
    refine pH 7 (.bool true) (fun w => Eq.trans (b := .ok (.value (.bool (sd.toList == (⟨#[]⟩ : ByteArray).toList))) w) (by kernel_rfl) (by rw [seq_pos c0])) ?_
    refine rV 1 ?_
    refine nT ?_
    refine wp_ret ?_
    have e0 : decide (sd = (⟨#[]⟩ : ByteArray)) = true := by first | (simp only [if_pos c0]; done) | simp [c0]
    exact bodyPost_ret (v := .bool true) (results_tmp1 Tryz.results56 _ _ _ (by kernel_rfl)) (by kernel_rfl) ⟨by rw [e0], ro_T hT M⟩
  · skip
    refine pH 7 (.bool false) (fun w => Eq.trans (b := .ok (.value (.bool (sd.toList == (⟨#[]⟩ : ByteArray).toList))) w) (by kernel_rfl) (by rw [seq_neg c0])) ?_
    refine rV 1 ?_
    refine nT ?_
    refine wp_ret ?_
    have e0 : decide (sd = (⟨#[]⟩ : ByteArray)) = false := by first | (simp only [if_neg c0]; done) | simp [c0]
    exact bodyPost_ret (v := .bool false) (results_tmp1 Tryz.results56 _ _ _ (by kernel_rfl)) (by kernel_rfl) ⟨by rw [e0], ro_T hT M⟩

set_option maxRecDepth 100000 in
set_option maxHeartbeats 4000000 in
set_option linter.unusedSimpArgs false in
theorem c_age {md mt n : Nat} (hn : n < 18446744073709551616) (w : World) (hL : Laid w)  (hT : There w [⟨md, .cells (av 1 (ls [.int .u64 (mt : Int)])) 24⟩]) :
    Calls Tryz.prog 49 #[.int .u64 (n : Int), .pointer (some ⟨md, 0, none⟩)] w fun r w' => r = .returned (.int .u64 ((n - mt : Nat) : Int)) ∧ Below w.heap.size w w' := by
  go_enter Tryz.func49, Tryz.ntmps49
  have M : Mem ⟨w, [md]⟩ [⟨md, .cells (av 1 (ls [.int .u64 (mt : Int)])) 24⟩] w := Mem.startT hL hT
  refine sq ?_
  refine sR ?_
  refine rV 1 ?_
  refine ZE M 5 0 0 ?_
  refine pH 6 (.int .u64 (max (n : Int) (mt : Int))) (fun w => Eq.trans (b := .ok (.value (.int .u64 (if ((mt : Int) : Int) > (n : Int) then (mt : Int) else (n : Int)))) w) (by kernel_rfl) (by rw [if_max])) ?_
  refine ZE M 7 0 0 ?_
  refine pH 8 (.int .u64 ((n - mt : Nat) : Int)) (fun w => Eq.trans (b := .ok (.value (.int .u64 (IntKind.wrap .u64 (max (n : Int) (mt : Int) - (mt : Int))))) w) (by kernel_rfl) (by rw [age_eq n mt hn])) ?_
  refine rV 1 ?_
  refine nT ?_
  refine wp_ret ?_
  exact bodyPost_ret (v := .int .u64 ((n - mt : Nat) : Int)) (results_tmp1 Tryz.results49 _ _ _ (by kernel_rfl)) (by kernel_rfl) ⟨rfl, ro_T hT M⟩

set_option maxRecDepth 100000 in
set_option maxHeartbeats 4000000 in
set_option linter.unusedSimpArgs false in
theorem c_over {e wd md : Nat} {rc ct rk lf sz nx mt : Nat} {sd rv : ByteArray} {fi su : Bool} {n : Nat} (hn : n < 18446744073709551616) (w : World) (hL : Laid w)  (hT : There w [⟨e, .cells (av 12 (ls [.pointer (some ⟨wd, 0, none⟩), .func (.func 49) #[] #[.pointer (some ⟨md, 0, none⟩)], .int .u64 (rc : Int), .int .u64 (ct : Int), .int .u64 (rk : Int), .int .u64 (lf : Int), .int .i64 (sz : Int), .string sd, .string rv, .bool (fi), .bool (su), .int .u64 (nx : Int)])) 89⟩, ⟨md, .cells (av 1 (ls [.int .u64 (mt : Int)])) 24⟩]) :
    Calls Tryz.prog 31 #[.pointer (some ⟨e, 0, none⟩), .int .u64 (n : Int)] w fun r w' => r = .returned (.bool (ovB sd lf mt n)) ∧ Below w.heap.size w w' := by
  go_enter Tryz.func31, Tryz.ntmps31
  have M : Mem ⟨w, [e, md]⟩ [⟨e, .cells (av 12 (ls [.pointer (some ⟨wd, 0, none⟩), .func (.func 49) #[] #[.pointer (some ⟨md, 0, none⟩)], .int .u64 (rc : Int), .int .u64 (ct : Int), .int .u64 (rk : Int), .int .u64 (lf : Int), .int .i64 (sz : Int), .string sd, .string rv, .bool (fi), .bool (su), .int .u64 (nx : Int)])) 89⟩, ⟨md, .cells (av 1 (ls [.int .u64 (mt : Int)])) 24⟩] w := Mem.startT hL hT
  refine sq ?_
  refine wp_seq ?_
  refine rg_held M [⟨e, .cells (av 12 (ls [.pointer (some ⟨wd, 0, none⟩), .func (.func 49) #[] #[.pointer (some ⟨md, 0, none⟩)], .int .u64 (rc : Int), .int .u64 (ct : Int), .int .u64 (rk : Int), .int .u64 (lf : Int), .int .i64 (sz : Int), .string sd, .string rv, .bool (fi), .bool (su), .int .u64 (nx : Int)])) 89⟩, ⟨md, .cells (av 1 (ls [.int .u64 (mt : Int)])) 24⟩] 16 rfl (by kernel_rfl) (by kernel_rfl) (fun _ _ d _ _ h => by cases d <;> exact h) fun u1 M => ?_
  replace M : Mem ⟨w, [e, md]⟩ [⟨e, .cells (av 12 (ls [.pointer (some ⟨wd, 0, none⟩), .func (.func 49) #[] #[.pointer (some ⟨md, 0, none⟩)], .int .u64 (rc : Int), .int .u64 (ct : Int), .int .u64 (rk : Int), .int .u64 (lf : Int), .int .i64 (sz : Int), .string sd, .string rv, .bool (fi), .bool (su), .int .u64 (nx : Int)])) 89⟩, ⟨md, .cells (av 1 (ls [.int .u64 (mt : Int)])) 24⟩] u1 := M
  refine qV M 0 5 (.pointer (some ⟨e, 0, none⟩)) ?_
  refine hl_one 1 (by decide) (by kernel_rfl) rfl ?_
  by_cases c0 : sd = (⟨#[]⟩ : ByteArray)
  · skip
    refine pC M 6 56 #[.pointer (some ⟨e, 0, none⟩)] (.bool true) (fun w M => call_val (c_wiped w M.laid (M.there (.cons_cons _ (List.nil_sublist _)))) (congrArg Value.bool (decide_eq_true (c0)))) fun u2 M => ?_
    refine nT ?_
    refine ⟨M, ?_⟩
    refine qV M 2 7 (.bool true) ?_
    refine hl_skip M 3 rfl (by decide) (by kernel_rfl) (by kernel_rfl) (want_off 2 false rfl 7 rfl (by kernel_rfl)) (some 8) rfl ?_
    refine hl_skip M 4 rfl (by decide) (by kernel_rfl) (by kernel_rfl) (want_off 2 false rfl 7 rfl (by kernel_rfl)) (some 9) rfl ?_
    refine hl_skip M 5 rfl (by decide) (by kernel_rfl) (by kernel_rfl) (want_off 2 false rfl 7 rfl (by kernel_rfl)) (some 10) rfl ?_
    refine hl_skip M 6 rfl (by decide) (by kernel_rfl) (by kernel_rfl) (want_off 2 false rfl 7 rfl (by kernel_rfl)) (some 11) rfl ?_
    refine hl_skip M 7 rfl (by decide) (by kernel_rfl) (by kernel_rfl) (want_off 2 false rfl 7 rfl (by kernel_rfl)) (some 12) rfl ?_
    refine hl_skip M 8 rfl (by decide) (by kernel_rfl) (by kernel_rfl) (want_off 2 false rfl 7 rfl (by kernel_rfl)) (some 13) rfl ?_
    refine hl_skip M 9 rfl (by decide) (by kernel_rfl) (by kernel_rfl) (want_off 2 false rfl 7 rfl (by kernel_rfl)) (some 14) rfl ?_
    refine hl_skip M 10 rfl (by decide) (by kernel_rfl) (by kernel_rfl) (want_off 2 false rfl 7 rfl (by kernel_rfl)) (some 15) rfl ?_
    refine hl_skip M 11 rfl (by decide) (by kernel_rfl) (by kernel_rfl) (want_off 2 false rfl 7 rfl (by kernel_rfl)) (some 16) rfl ?_
    refine hl_skip M 12 rfl (by decide) (by kernel_rfl) (by kernel_rfl) (want_off 2 false rfl 7 rfl (by kernel_rfl)) (some 17) rfl ?_
    refine hl_skip M 13 rfl (by decide) (by kernel_rfl) (by kernel_rfl) (want_off 2 false rfl 7 rfl (by kernel_rfl)) (some 18) rfl ?_
    refine hl_skip M 14 rfl (by decide) (by kernel_rfl) (by kernel_rfl) (want_off 2 false rfl 7 rfl (by kernel_rfl)) (some 19) rfl ?_
    refine qV M 15 20 (.bool true) ?_
    refine hl_end (by kernel_rfl) (by kernel_rfl) rfl ?_
    refine rV 1 ?_
    refine nT ?_
    refine au_then ?_
    refine wp_ret ?_
    have e0 : ovB sd lf mt n = true := by unfold ovB; exact decide_eq_true (.inl c0)
    exact bodyPost_ret (v := .bool true) (results_tmp1 Tryz.results31 _ _ _ (by kernel_rfl)) (by kernel_rfl) ⟨by rw [e0], ro_T hT M⟩
  · skip
    refine pC M 6 56 #[.pointer (some ⟨e, 0, none⟩)] (.bool false) (fun w M => call_val (c_wiped w M.laid (M.there (.cons_cons _ (List.nil_sublist _)))) (congrArg Value.bool (decide_eq_false (c0)))) fun u2 M => ?_
    refine nT ?_
    refine ⟨M, ?_⟩
    refine qV M 2 7 (.bool false) ?_
    refine hl_val M 3 rfl (by decide) (by kernel_rfl) (by kernel_rfl) (want_on 2 false rfl 7 rfl (by kernel_rfl)) (some 8) rfl (.pointer (some ⟨e, 0, none⟩)) (fun _ _ => by kernel_rfl) ?_
    refine hl_val M 4 rfl (by decide) (by kernel_rfl) (by kernel_rfl) (want_on 2 false rfl 7 rfl (by kernel_rfl)) (some 9) rfl (.pointer (some ⟨e, 0, none⟩)) (fun _ _ => by kernel_rfl) ?_
    refine hl_val M 5 rfl (by decide) (by kernel_rfl) (by kernel_rfl) (want_on 2 false rfl 7 rfl (by kernel_rfl)) (some 10) rfl (.pointer (some ⟨e, 1, none⟩)) (fun _ _ => by kernel_rfl) ?_
    refine hl_cell M 6 rfl (by decide) (by kernel_rfl) (by kernel_rfl) (want_on 2 false rfl 7 rfl (by kernel_rfl)) (some 11) rfl 86 _ rfl e 1 (by kernel_rfl) (.func (.func 49) #[] #[.pointer (some ⟨md, 0, none⟩)]) (fun _ => by kernel_rfl) (fun w M => M.cell 0 rfl (by decide) rfl) ?_
    refine hl_val M 7 rfl (by decide) (by kernel_rfl) (by kernel_rfl) (want_on 2 false rfl 7 rfl (by kernel_rfl)) (some 12) rfl (.int .u64 (n : Int)) (fun _ _ => by kernel_rfl) ?_
    refine hl_val M 9 rfl (by decide) (by kernel_rfl) (by kernel_rfl) (want_on 2 false rfl 7 rfl (by kernel_rfl)) (some 14) rfl (.pointer (some ⟨e, 0, none⟩)) (fun _ _ => by kernel_rfl) ?_
    refine hl_val M 10 rfl (by decide) (by kernel_rfl) (by kernel_rfl) (want_on 2 false rfl 7 rfl (by kernel_rfl)) (some 15) rfl (.pointer (some ⟨e, 0, none⟩)) (fun _ _ => by kernel_rfl) ?_
    refine hl_val M 11 rfl (by decide) (by kernel_rfl) (by kernel_rfl) (want_on 2 false rfl 7 rfl (by kernel_rfl)) (some 16) rfl (.pointer (some ⟨e, 2, none⟩)) (fun _ _ => by kernel_rfl) ?_
    refine hl_val M 12 rfl (by decide) (by kernel_rfl) (by kernel_rfl) (want_on 2 false rfl 7 rfl (by kernel_rfl)) (some 17) rfl (.pointer (some ⟨e, 5, none⟩)) (fun _ _ => by kernel_rfl) ?_
    refine hl_cell M 13 rfl (by decide) (by kernel_rfl) (by kernel_rfl) (want_on 2 false rfl 7 rfl (by kernel_rfl)) (some 18) rfl 24 _ rfl e 5 (by kernel_rfl) (.int .u64 (lf : Int)) (fun _ => by kernel_rfl) (fun w M => M.cell 0 rfl (by decide) rfl) ?_
    refine hl_one 8 (by decide) (by kernel_rfl) rfl ?_
    refine pl_call M (want_on 2 false rfl 7 rfl (by kernel_rfl)) (some 13) rfl 49 #[.int .u64 (n : Int), .pointer (some ⟨md, 0, none⟩)] (.int .u64 ((n - mt : Nat) : Int)) (fun _ => by kernel_rfl) (fun w M => c_age hn w M.laid (M.there (.cons _ (.cons_cons _ (List.nil_sublist _))))) fun u3 M => ?_
    refine nT ?_
    refine ⟨M, ?_⟩
    by_cases c1 : ((n - mt : Nat) : Int) < (lf : Int)
    · skip
      refine hl_val M 14 rfl (by decide) (by kernel_rfl) (by kernel_rfl) (want_on 2 false rfl 7 rfl (by kernel_rfl)) (some 19) rfl (.bool false) (fun w _ => (fun w => Eq.trans (b := .ok (.value (.bool (decide ((lf : Int) ≤ ((n - mt : Nat) : Int))))) w) (by kernel_rfl) (by rw [decide_eq_false (by omega)])) w) ?_
      refine qV M 15 20 (.bool false) ?_
      refine hl_end (by kernel_rfl) (by kernel_rfl) rfl ?_
      refine rV 1 ?_
      refine nT ?_
      refine au_then ?_
      refine wp_ret ?_
      have e0 : ovB sd lf mt n = false := by unfold ovB; exact decide_eq_false (by rintro (h | h) <;> first | exact c0 h | omega)
      exact bodyPost_ret (v := .bool false) (results_tmp1 Tryz.results31 _ _ _ (by kernel_rfl)) (by kernel_rfl) ⟨by rw [e0], ro_T hT M⟩
    · skip
      refine hl_val M 14 rfl (by decide) (by kernel_rfl) (by kernel_rfl) (want_on 2 false rfl 7 rfl (by kernel_rfl)) (some 19) rfl (.bool true) (fun w _ => (fun w => Eq.trans (b := .ok (.value (.bool (decide ((lf : Int) ≤ ((n - mt : Nat) : Int))))) w) (by kernel_rfl) (by rw [decide_eq_true (by omega)])) w) ?_
      refine qV M 15 20 (.bool true) ?_
      refine hl_end (by kernel_rfl) (by kernel_rfl) rfl ?_
      refine rV 1 ?_
      refine nT ?_
      refine au_then ?_
      refine wp_ret ?_
      have e0 : ovB sd lf mt n = true := by unfold ovB; exact decide_eq_true (.inr (by omega))
      exact bodyPost_ret (v := .bool true) (results_tmp1 Tryz.results31 _ _ _ (by kernel_rfl)) (by kernel_rfl) ⟨by rw [e0], ro_T hT M⟩

set_option maxRecDepth 100000 in
set_option maxHeartbeats 4000000 in
set_option linter.unusedSimpArgs false in
theorem c_spent {e wd md : Nat} {rc ct rk lf sz nx : Nat} {sd rv : ByteArray} {fi su : Bool} (w : World) (hL : Laid w)  (hT : There w [⟨e, .cells (av 12 (ls [.pointer (some ⟨wd, 0, none⟩), .func (.func 49) #[] #[.pointer (some ⟨md, 0, none⟩)], .int .u64 (rc : Int), .int .u64 (ct : Int), .int .u64 (rk : Int), .int .u64 (lf : Int), .int .i64 (sz : Int), .string sd, .string rv, .bool (fi), .bool (su), .int .u64 (nx : Int)])) 89⟩]) :
    Calls Tryz.prog 63 #[.pointer (some ⟨e, 0, none⟩)] w fun r w' => r = .returned (.bool (decide ((nx : Int) ≥ (ct : Int)))) ∧ Below w.heap.size w w' := by
  go_enter Tryz.func63, Tryz.ntmps63
  have M : Mem ⟨w, [e]⟩ [⟨e, .cells (av 12 (ls [.pointer (some ⟨wd, 0, none⟩), .func (.func 49) #[] #[.pointer (some ⟨md, 0, none⟩)], .int .u64 (rc : Int), .int .u64 (ct : Int), .int .u64 (rk : Int), .int .u64 (lf : Int), .int .i64 (sz : Int), .string sd, .string rv, .bool (fi), .bool (su), .int .u64 (nx : Int)])) 89⟩] w := Mem.startT hL hT
  refine sq ?_
  refine wp_seq ?_
  refine rg_held M [⟨e, .cells (av 12 (ls [.pointer (some ⟨wd, 0, none⟩), .func (.func 49) #[] #[.pointer (some ⟨md, 0, none⟩)], .int .u64 (rc : Int), .int .u64 (ct : Int), .int .u64 (rk : Int), .int .u64 (lf : Int), .int .i64 (sz : Int), .string sd, .string rv, .bool (fi), .bool (su), .int .u64 (nx : Int)])) 89⟩] 10 rfl (by kernel_rfl) (by kernel_rfl) (fun _ _ d _ _ h => by cases d <;> exact h) fun u1 M => ?_
  replace M : Mem ⟨w, [e]⟩ [⟨e, .cells (av 12 (ls [.pointer (some ⟨wd, 0, none⟩), .func (.func 49) #[] #[.pointer (some ⟨md, 0, none⟩)], .int .u64 (rc : Int), .int .u64 (ct : Int), .int .u64 (rk : Int), .int .u64 (lf : Int), .int .i64 (sz : Int), .string sd, .string rv, .bool (fi), .bool (su), .int .u64 (nx : Int)])) 89⟩] u1 := M
  refine qV M 0 3 (.pointer (some ⟨e, 0, none⟩)) ?_
  refine qV M 1 4 (.pointer (some ⟨e, 0, none⟩)) ?_
  refine qV M 2 5 (.pointer (some ⟨e, 11, none⟩)) ?_
  refine hl_cell M 3 rfl (by decide) (by kernel_rfl) (by kernel_rfl) (want_no rfl) (some 6) rfl 24 _ rfl e 11 (by kernel_rfl) (.int .u64 (nx : Int)) (fun _ => by kernel_rfl) (fun w M => M.cell 0 rfl (by decide) rfl) ?_
  refine qV M 4 7 (.pointer (some ⟨e, 0, none⟩)) ?_
  refine qV M 5 8 (.pointer (some ⟨e, 0, none⟩)) ?_
  refine qV M 6 9 (.pointer (some ⟨e, 2, none⟩)) ?_
  refine qV M 7 10 (.pointer (some ⟨e, 3, none⟩)) ?_
  refine hl_cell M 8 rfl (by decide) (by kernel_rfl) (by kernel_rfl) (want_no rfl) (some 11) rfl 24 _ rfl e 3 (by kernel_rfl) (.int .u64 (ct : Int)) (fun _ => by kernel_rfl) (fun w M => M.cell 0 rfl (by decide) rfl) ?_
  by_cases c0 : (nx : Int) < (ct : Int)
  · skip
    refine hl_val M 9 rfl (by decide) (by kernel_rfl) (by kernel_rfl) (want_no rfl) (some 12) rfl (.bool false) (fun w _ => (fun w => Eq.trans (b := .ok (.value (.bool (decide ((ct : Int) ≤ (nx : Int))))) w) (by kernel_rfl) (by rw [decide_eq_false (by omega)])) w) ?_
    refine hl_end (by kernel_rfl) (by kernel_rfl) rfl ?_
    refine rV 1 ?_
    refine nT ?_
    refine au_then ?_
    refine wp_ret ?_
    have e0 : decide ((nx : Int) ≥ (ct : Int)) = false := decide_eq_false (by omega)
    exact bodyPost_ret (v := .bool false) (results_tmp1 Tryz.results63 _ _ _ (by kernel_rfl)) (by kernel_rfl) ⟨by rw [e0], ro_T hT M⟩
  · skip
    refine hl_val M 9 rfl (by decide) (by kernel_rfl) (by kernel_rfl) (want_no rfl) (some 12) rfl (.bool true) (fun w _ => (fun w => Eq.trans (b := .ok (.value (.bool (decide ((ct : Int) ≤ (nx : Int))))) w) (by kernel_rfl) (by rw [decide_eq_true (by omega)])) w) ?_
    refine hl_end (by kernel_rfl) (by kernel_rfl) rfl ?_
    refine rV 1 ?_
    refine nT ?_
    refine au_then ?_
    refine wp_ret ?_
    have e0 : decide ((nx : Int) ≥ (ct : Int)) = true := decide_eq_true (by omega)
    exact bodyPost_ret (v := .bool true) (results_tmp1 Tryz.results63 _ _ _ (by kernel_rfl)) (by kernel_rfl) ⟨by rw [e0], ro_T hT M⟩

set_option maxRecDepth 100000 in
set_option maxHeartbeats 4000000 in
set_option linter.unusedSimpArgs false in
theorem c_sealFault {e wd md : Nat} {rc ct rk lf sz nx mt : Nat} {sd rv : ByteArray} {fi su : Bool} {n : Nat} (hn : n < 18446744073709551616) (w : World) (hL : Laid w)  (hT : There w [⟨e, .cells (av 12 (ls [.pointer (some ⟨wd, 0, none⟩), .func (.func 49) #[] #[.pointer (some ⟨md, 0, none⟩)], .int .u64 (rc : Int), .int .u64 (ct : Int), .int .u64 (rk : Int), .int .u64 (lf : Int), .int .i64 (sz : Int), .string sd, .string rv, .bool (fi), .bool (su), .int .u64 (nx : Int)])) 89⟩, ⟨md, .cells (av 1 (ls [.int .u64 (mt : Int)])) 24⟩]) :
    Calls Tryz.prog 44 #[.pointer (some ⟨e, 0, none⟩), .int .u64 (n : Int)] w fun r w' => r = .returned (.int .i64 (slF sd su ct lf nx mt n)) ∧ Below w.heap.size w w' := by
  go_enter Tryz.func44, Tryz.ntmps44
  have M : Mem ⟨w, [e, md]⟩ [⟨e, .cells (av 12 (ls [.pointer (some ⟨wd, 0, none⟩), .func (.func 49) #[] #[.pointer (some ⟨md, 0, none⟩)], .int .u64 (rc : Int), .int .u64 (ct : Int), .int .u64 (rk : Int), .int .u64 (lf : Int), .int .i64 (sz : Int), .string sd, .string rv, .bool (fi), .bool (su), .int .u64 (nx : Int)])) 89⟩, ⟨md, .cells (av 1 (ls [.int .u64 (mt : Int)])) 24⟩] w := Mem.startT hL hT
  refine sq ?_
  refine wp_seq ?_
  refine wp_block ?_
  refine wp_seq ?_
  refine sR ?_
  refine rV 2 ?_
  rcases Bool.eq_false_or_eq_true (ovB sd lf mt n) with c0 | c0
  · skip
    refine pC M 8 31 #[.pointer (some ⟨e, 0, none⟩), .int .u64 (n : Int)] (.bool true) (fun w M => call_val (c_over hn w M.laid (M.there (.cons_cons _ (.cons_cons _ (List.nil_sublist _))))) (congrArg Value.bool c0)) fun u1 M => ?_
    refine rV 1 ?_
    refine nT ?_
    refine wp_cond_true (by kernel_rfl) ?_
    refine wp_skip ?_
    refine au_then ?_
    refine wp_cond_true (by kernel_rfl) ?_
    refine sq ?_
    refine wp_ret ?_
    refine au_block_ret ?_
    refine au_then_ret ?_
    have e0 : (slF sd su ct lf nx mt n) = 180 := by unfold slF; rw [if_pos c0]
    exact bodyPost_ret (v := .int .i64 180) (results_tmp1 Tryz.results44 _ _ _ (by kernel_rfl)) (by kernel_rfl) ⟨by rw [e0], ro_T hT M⟩
  · skip
    refine pC M 8 31 #[.pointer (some ⟨e, 0, none⟩), .int .u64 (n : Int)] (.bool false) (fun w M => call_val (c_over hn w M.laid (M.there (.cons_cons _ (.cons_cons _ (List.nil_sublist _))))) (congrArg Value.bool c0)) fun u1 M => ?_
    refine rV 1 ?_
    refine nT ?_
    refine wp_cond_false (by kernel_rfl) ?_
    refine rg_lit ?_
    refine rV 1 ?_
    by_cases c1 : (nx : Int) < (ct : Int)
    · skip
      refine pC M 10 63 #[.pointer (some ⟨e, 0, none⟩)] (.bool false) (fun w M => call_val (c_spent w M.laid (M.there (.cons_cons _ (List.nil_sublist _)))) (congrArg Value.bool (decide_eq_false (by omega)))) fun u2 M => ?_
      refine rV 1 ?_
      refine nT ?_
      refine wp_cond_false (by kernel_rfl) ?_
      refine sR ?_
      refine rV 3 ?_
      rcases Bool.eq_false_or_eq_true (su) with c2 | c2
      · skip
        refine pE M 15 e 10 (.bool true) (fun w M => M.cell 0 rfl (by decide) (congrArg Value.bool c2)) ?_
        refine rV 2 ?_
        refine nT ?_
        refine wp_cond_false (by kernel_rfl) ?_
        refine wp_skip ?_
        refine au_block ?_
        refine au_then ?_
        refine sq ?_
        refine wp_ret ?_
        have e0 : (slF sd su ct lf nx mt n) = 0 := by unfold slF; rw [if_neg (Bool.eq_false_iff.1 c0), if_neg (by omega), if_pos c2]
        exact bodyPost_ret (v := .int .i64 0) (results_tmp1 Tryz.results44 _ _ _ (by kernel_rfl)) (by kernel_rfl) ⟨by rw [e0], ro_T hT M⟩
      · skip
        refine pE M 15 e 10 (.bool false) (fun w M => M.cell 0 rfl (by decide) (congrArg Value.bool c2)) ?_
        refine rV 2 ?_
        refine nT ?_
        refine wp_cond_true (by kernel_rfl) ?_
        refine sq ?_
        refine wp_ret ?_
        refine au_block_ret ?_
        refine au_then_ret ?_
        have e0 : (slF sd su ct lf nx mt n) = 3 := by unfold slF; rw [if_neg (Bool.eq_false_iff.1 c0), if_neg (by omega), if_neg (Bool.eq_false_iff.1 c2)]
        exact bodyPost_ret (v := .int .i64 3) (results_tmp1 Tryz.results44 _ _ _ (by kernel_rfl)) (by kernel_rfl) ⟨by rw [e0], ro_T hT M⟩
    · skip
      refine pC M 10 63 #[.pointer (some ⟨e, 0, none⟩)] (.bool true) (fun w M => call_val (c_spent w M.laid (M.there (.cons_cons _ (List.nil_sublist _)))) (congrArg Value.bool (decide_eq_true (by omega)))) fun u2 M => ?_
      refine rV 1 ?_
      refine nT ?_
      refine wp_cond_true (by kernel_rfl) ?_
      refine sq ?_
      refine wp_ret ?_
      refine au_block_ret ?_
      refine au_then_ret ?_
      have e0 : (slF sd su ct lf nx mt n) = 180 := by unfold slF; rw [if_neg (Bool.eq_false_iff.1 c0), if_pos (by omega)]
      exact bodyPost_ret (v := .int .i64 180) (results_tmp1 Tryz.results44 _ _ _ (by kernel_rfl)) (by kernel_rfl) ⟨by rw [e0], ro_T hT M⟩

set_option maxRecDepth 100000 in
set_option maxHeartbeats 4000000 in
set_option linter.unusedSimpArgs false in
theorem c_wants {e wd md : Nat} {rc ct rk lf sz nx mt : Nat} {sd rv : ByteArray} {fi su : Bool} {n : Nat} (hn : n < 18446744073709551616) (w : World) (hL : Laid w)  (hT : There w [⟨e, .cells (av 12 (ls [.pointer (some ⟨wd, 0, none⟩), .func (.func 49) #[] #[.pointer (some ⟨md, 0, none⟩)], .int .u64 (rc : Int), .int .u64 (ct : Int), .int .u64 (rk : Int), .int .u64 (lf : Int), .int .i64 (sz : Int), .string sd, .string rv, .bool (fi), .bool (su), .int .u64 (nx : Int)])) 89⟩, ⟨md, .cells (av 1 (ls [.int .u64 (mt : Int)])) 24⟩]) :
    Calls Tryz.prog 33 #[.pointer (some ⟨e, 0, none⟩), .int .u64 (n : Int)] w fun r w' => r = .returned (.bool (wnB sd fi rc rk lf nx mt n)) ∧ Below w.heap.size w w' := by
  go_enter Tryz.func33, Tryz.ntmps33
  have M : Mem ⟨w, [e, md]⟩ [⟨e, .cells (av 12 (ls [.pointer (some ⟨wd, 0, none⟩), .func (.func 49) #[] #[.pointer (some ⟨md, 0, none⟩)], .int .u64 (rc : Int), .int .u64 (ct : Int), .int .u64 (rk : Int), .int .u64 (lf : Int), .int .i64 (sz : Int), .string sd, .string rv, .bool (fi), .bool (su), .int .u64 (nx : Int)])) 89⟩, ⟨md, .cells (av 1 (ls [.int .u64 (mt : Int)])) 24⟩] w := Mem.startT hL hT
  refine sq ?_
  refine wp_seq ?_
  refine rg_held M [⟨e, .cells (av 12 (ls [.pointer (some ⟨wd, 0, none⟩), .func (.func 49) #[] #[.pointer (some ⟨md, 0, none⟩)], .int .u64 (rc : Int), .int .u64 (ct : Int), .int .u64 (rk : Int), .int .u64 (lf : Int), .int .i64 (sz : Int), .string sd, .string rv, .bool (fi), .bool (su), .int .u64 (nx : Int)])) 89⟩, ⟨md, .cells (av 1 (ls [.int .u64 (mt : Int)])) 24⟩] 36 rfl (by kernel_rfl) (by kernel_rfl) (fun _ _ d _ _ h => by cases d <;> exact h) fun u1 M => ?_
  replace M : Mem ⟨w, [e, md]⟩ [⟨e, .cells (av 12 (ls [.pointer (some ⟨wd, 0, none⟩), .func (.func 49) #[] #[.pointer (some ⟨md, 0, none⟩)], .int .u64 (rc : Int), .int .u64 (ct : Int), .int .u64 (rk : Int), .int .u64 (lf : Int), .int .i64 (sz : Int), .string sd, .string rv, .bool (fi), .bool (su), .int .u64 (nx : Int)])) 89⟩, ⟨md, .cells (av 1 (ls [.int .u64 (mt : Int)])) 24⟩] u1 := M
  refine qV M 0 5 (.pointer (some ⟨e, 0, none⟩)) ?_
  refine qV M 1 6 (.pointer (some ⟨e, 0, none⟩)) ?_
  refine qV M 2 7 (.pointer (some ⟨e, 9, none⟩)) ?_
  rcases Bool.eq_false_or_eq_true (fi) with c0 | c0
  · skip
    refine hl_cell M 3 rfl (by decide) (by kernel_rfl) (by kernel_rfl) (want_no rfl) (some 8) rfl 4 _ rfl e 9 (by kernel_rfl) (.bool true) (fun _ => by kernel_rfl) (fun w M => M.cell 0 rfl (by decide) (congrArg Value.bool c0)) ?_
    refine qV M 4 9 (.bool true) ?_
    refine hl_val M 5 rfl (by decide) (by kernel_rfl) (by kernel_rfl) (want_on 4 true rfl 9 rfl (by kernel_rfl)) (some 10) rfl (.pointer (some ⟨e, 0, none⟩)) (fun _ _ => by kernel_rfl) ?_
    refine hl_val M 6 rfl (by decide) (by kernel_rfl) (by kernel_rfl) (want_on 4 true rfl 9 rfl (by kernel_rfl)) (some 11) rfl (.int .u64 (n : Int)) (fun _ _ => by kernel_rfl) ?_
    refine hl_one 7 (by decide) (by kernel_rfl) rfl ?_
    rcases Bool.eq_false_or_eq_true (ovB sd lf mt n) with c1 | c1
    · skip
      refine pl_call M (want_on 4 true rfl 9 rfl (by kernel_rfl)) (some 12) rfl 31 #[.pointer (some ⟨e, 0, none⟩), .int .u64 (n : Int)] (.bool true) (fun _ => by kernel_rfl) (fun w M => call_val (c_over hn w M.laid (M.there (.cons_cons _ (.cons_cons _ (List.nil_sublist _))))) (congrArg Value.bool c1)) fun u2 M => ?_
      refine nT ?_
      refine ⟨M, ?_⟩
      refine hl_val M 8 rfl (by decide) (by kernel_rfl) (by kernel_rfl) (want_on 4 true rfl 9 rfl (by kernel_rfl)) (some 13) rfl (.bool false) (fun _ _ => by kernel_rfl) ?_
      refine qV M 9 14 (.bool false) ?_
      refine qV M 10 15 (.bool false) ?_
      refine hl_skip M 11 rfl (by decide) (by kernel_rfl) (by kernel_rfl) (want_off 10 true rfl 15 rfl (by kernel_rfl)) (some 16) rfl ?_
      refine hl_skip M 12 rfl (by decide) (by kernel_rfl) (by kernel_rfl) (want_off 10 true rfl 15 rfl (by kernel_rfl)) (some 17) rfl ?_
      refine hl_skip M 13 rfl (by decide) (by kernel_rfl) (by kernel_rfl) (want_off 10 true rfl 15 rfl (by kernel_rfl)) (some 18) rfl ?_
      refine hl_skip M 14 rfl (by decide) (by kernel_rfl) (by kernel_rfl) (want_off 10 true rfl 15 rfl (by kernel_rfl)) (some 19) rfl ?_
      refine hl_skip M 15 rfl (by decide) (by kernel_rfl) (by kernel_rfl) (want_off 10 true rfl 15 rfl (by kernel_rfl)) (some 20) rfl ?_
      refine hl_skip M 16 rfl (by decide) (by kernel_rfl) (by kernel_rfl) (want_off 10 true rfl 15 rfl (by kernel_rfl)) (some 21) rfl ?_
      refine hl_skip M 17 rfl (by decide) (by kernel_rfl) (by kernel_rfl) (want_off 10 true rfl 15 rfl (by kernel_rfl)) (some 22) rfl ?_
      refine hl_skip M 18 rfl (by decide) (by kernel_rfl) (by kernel_rfl) (want_off 10 true rfl 15 rfl (by kernel_rfl)) (some 23) rfl ?_
      refine hl_skip M 19 rfl (by decide) (by kernel_rfl) (by kernel_rfl) (want_off 10 true rfl 15 rfl (by kernel_rfl)) (some 24) rfl ?_
      refine hl_skip M 20 rfl (by decide) (by kernel_rfl) (by kernel_rfl) (want_off 10 true rfl 15 rfl (by kernel_rfl)) (some 25) rfl ?_
      refine hl_skip M 21 rfl (by decide) (by kernel_rfl) (by kernel_rfl) (want_off 10 true rfl 15 rfl (by kernel_rfl)) (some 26) rfl ?_
      refine hl_skip M 22 rfl (by decide) (by kernel_rfl) (by kernel_rfl) (want_und 21 false rfl 26 rfl (by kernel_rfl)) (some 27) rfl ?_
      refine hl_skip M 23 rfl (by decide) (by kernel_rfl) (by kernel_rfl) (want_und 21 false rfl 26 rfl (by kernel_rfl)) (some 28) rfl ?_
      refine hl_skip M 24 rfl (by decide) (by kernel_rfl) (by kernel_rfl) (want_und 21 false rfl 26 rfl (by kernel_rfl)) (some 29) rfl ?_
      refine hl_skip M 25 rfl (by decide) (by kernel_rfl) (by kernel_rfl) (want_und 21 false rfl 26 rfl (by kernel_rfl)) (some 30) rfl ?_
      refine hl_skip M 26 rfl (by decide) (by kernel_rfl) (by kernel_rfl) (want_und 21 false rfl 26 rfl (by kernel_rfl)) (some 31) rfl ?_
      refine hl_skip M 27 rfl (by decide) (by kernel_rfl) (by kernel_rfl) (want_und 21 false rfl 26 rfl (by kernel_rfl)) (some 32) rfl ?_
      refine hl_skip M 28 rfl (by decide) (by kernel_rfl) (by kernel_rfl) (want_und 21 false rfl 26 rfl (by kernel_rfl)) (some 33) rfl ?_
      refine hl_skip M 29 rfl (by decide) (by kernel_rfl) (by kernel_rfl) (want_und 21 false rfl 26 rfl (by kernel_rfl)) (some 34) rfl ?_
      refine hl_skip M 30 rfl (by decide) (by kernel_rfl) (by kernel_rfl) (want_und 21 false rfl 26 rfl (by kernel_rfl)) (some 35) rfl ?_
      refine hl_skip M 31 rfl (by decide) (by kernel_rfl) (by kernel_rfl) (want_und 21 false rfl 26 rfl (by kernel_rfl)) (some 36) rfl ?_
      refine hl_skip M 32 rfl (by decide) (by kernel_rfl) (by kernel_rfl) (want_und 21 false rfl 26 rfl (by kernel_rfl)) (some 37) rfl ?_
      refine hl_skip M 33 rfl (by decide) (by kernel_rfl) (by kernel_rfl) (want_und 21 false rfl 26 rfl (by kernel_rfl)) (some 38) rfl ?_
      refine hl_skip M 34 rfl (by decide) (by kernel_rfl) (by kernel_rfl) (want_off 10 true rfl 15 rfl (by kernel_rfl)) (some 39) rfl ?_
      refine qV M 35 40 (.bool false) ?_
      refine hl_end (by kernel_rfl) (by kernel_rfl) rfl ?_
      refine rV 1 ?_
      refine nT ?_
      refine au_then ?_
      refine wp_ret ?_
      have e0 : wnB sd fi rc rk lf nx mt n = false := by unfold wnB; simp only [c0, c1, Bool.false_and, Bool.true_and, Bool.not_true, Bool.not_false]
      exact bodyPost_ret (v := .bool false) (results_tmp1 Tryz.results33 _ _ _ (by kernel_rfl)) (by kernel_rfl) ⟨by rw [e0], ro_T hT M⟩
    · skip
      refine pl_call M (want_on 4 true rfl 9 rfl (by kernel_rfl)) (some 12) rfl 31 #[.pointer (some ⟨e, 0, none⟩), .int .u64 (n : Int)] (.bool false) (fun _ => by kernel_rfl) (fun w M => call_val (c_over hn w M.laid (M.there (.cons_cons _ (.cons_cons _ (List.nil_sublist _))))) (congrArg Value.bool c1)) fun u2 M => ?_
      refine nT ?_
      refine ⟨M, ?_⟩
      refine hl_val M 8 rfl (by decide) (by kernel_rfl) (by kernel_rfl) (want_on 4 true rfl 9 rfl (by kernel_rfl)) (some 13) rfl (.bool true) (fun _ _ => by kernel_rfl) ?_
      refine qV M 9 14 (.bool true) ?_
      refine qV M 10 15 (.bool true) ?_
      refine hl_val M 11 rfl (by decide) (by kernel_rfl) (by kernel_rfl) (want_on 10 true rfl 15 rfl (by kernel_rfl)) (some 16) rfl (.pointer (some ⟨e, 0, none⟩)) (fun _ _ => by kernel_rfl) ?_
      refine hl_val M 12 rfl (by decide) (by kernel_rfl) (by kernel_rfl) (want_on 10 true rfl 15 rfl (by kernel_rfl)) (some 17) rfl (.pointer (some ⟨e, 0, none⟩)) (fun _ _ => by kernel_rfl) ?_
      refine hl_val M 13 rfl (by decide) (by kernel_rfl) (by kernel_rfl) (want_on 10 true rfl 15 rfl (by kernel_rfl)) (some 18) rfl (.pointer (some ⟨e, 11, none⟩)) (fun _ _ => by kernel_rfl) ?_
      refine hl_cell M 14 rfl (by decide) (by kernel_rfl) (by kernel_rfl) (want_on 10 true rfl 15 rfl (by kernel_rfl)) (some 19) rfl 24 _ rfl e 11 (by kernel_rfl) (.int .u64 (nx : Int)) (fun _ => by kernel_rfl) (fun w M => M.cell 0 rfl (by decide) rfl) ?_
      refine hl_val M 15 rfl (by decide) (by kernel_rfl) (by kernel_rfl) (want_on 10 true rfl 15 rfl (by kernel_rfl)) (some 20) rfl (.pointer (some ⟨e, 0, none⟩)) (fun _ _ => by kernel_rfl) ?_
      refine hl_val M 16 rfl (by decide) (by kernel_rfl) (by kernel_rfl) (want_on 10 true rfl 15 rfl (by kernel_rfl)) (some 21) rfl (.pointer (some ⟨e, 0, none⟩)) (fun _ _ => by kernel_rfl) ?_
      refine hl_val M 17 rfl (by decide) (by kernel_rfl) (by kernel_rfl) (want_on 10 true rfl 15 rfl (by kernel_rfl)) (some 22) rfl (.pointer (some ⟨e, 2, none⟩)) (fun _ _ => by kernel_rfl) ?_
      refine hl_val M 18 rfl (by decide) (by kernel_rfl) (by kernel_rfl) (want_on 10 true rfl 15 rfl (by kernel_rfl)) (some 23) rfl (.pointer (some ⟨e, 2, none⟩)) (fun _ _ => by kernel_rfl) ?_
      refine hl_cell M 19 rfl (by decide) (by kernel_rfl) (by kernel_rfl) (want_on 10 true rfl 15 rfl (by kernel_rfl)) (some 24) rfl 24 _ rfl e 2 (by kernel_rfl) (.int .u64 (rc : Int)) (fun _ => by kernel_rfl) (fun w M => M.cell 0 rfl (by decide) rfl) ?_
      by_cases c2 : (nx : Int) < (rc : Int)
      · skip
        refine hl_val M 20 rfl (by decide) (by kernel_rfl) (by kernel_rfl) (want_on 10 true rfl 15 rfl (by kernel_rfl)) (some 25) rfl (.bool false) (fun w _ => (fun w => Eq.trans (b := .ok (.value (.bool (decide ((rc : Int) ≤ (nx : Int))))) w) (by kernel_rfl) (by rw [decide_eq_false (by omega)])) w) ?_
        refine hl_val M 21 rfl (by decide) (by kernel_rfl) (by kernel_rfl) (want_on 10 true rfl 15 rfl (by kernel_rfl)) (some 26) rfl (.bool false) (fun _ _ => by kernel_rfl) ?_
        refine hl_val M 22 rfl (by decide) (by kernel_rfl) (by kernel_rfl) (want_on 21 false rfl 26 rfl (by kernel_rfl)) (some 27) rfl (.pointer (some ⟨e, 0, none⟩)) (fun _ _ => by kernel_rfl) ?_
        refine hl_val M 23 rfl (by decide) (by kernel_rfl) (by kernel_rfl) (want_on 21 false rfl 26 rfl (by kernel_rfl)) (some 28) rfl (.pointer (some ⟨e, 0, none⟩)) (fun _ _ => by kernel_rfl) ?_
        refine hl_val M 24 rfl (by decide) (by kernel_rfl) (by kernel_rfl) (want_on 21 false rfl 26 rfl (by kernel_rfl)) (some 29) rfl (.pointer (some ⟨e, 1, none⟩)) (fun _ _ => by kernel_rfl) ?_
        refine hl_cell M 25 rfl (by decide) (by kernel_rfl) (by kernel_rfl) (want_on 21 false rfl 26 rfl (by kernel_rfl)) (some 30) rfl 86 _ rfl e 1 (by kernel_rfl) (.func (.func 49) #[] #[.pointer (some ⟨md, 0, none⟩)]) (fun _ => by kernel_rfl) (fun w M => M.cell 0 rfl (by decide) rfl) ?_
        refine hl_val M 26 rfl (by decide) (by kernel_rfl) (by kernel_rfl) (want_on 21 false rfl 26 rfl (by kernel_rfl)) (some 31) rfl (.int .u64 (n : Int)) (fun _ _ => by kernel_rfl) ?_
        refine hl_val M 28 rfl (by decide) (by kernel_rfl) (by kernel_rfl) (want_on 21 false rfl 26 rfl (by kernel_rfl)) (some 33) rfl (.pointer (some ⟨e, 0, none⟩)) (fun _ _ => by kernel_rfl) ?_
        refine hl_val M 29 rfl (by decide) (by kernel_rfl) (by kernel_rfl) (want_on 21 false rfl 26 rfl (by kernel_rfl)) (some 34) rfl (.pointer (some ⟨e, 0, none⟩)) (fun _ _ => by kernel_rfl) ?_
        refine hl_val M 30 rfl (by decide) (by kernel_rfl) (by kernel_rfl) (want_on 21 false rfl 26 rfl (by kernel_rfl)) (some 35) rfl (.pointer (some ⟨e, 2, none⟩)) (fun _ _ => by kernel_rfl) ?_
        refine hl_val M 31 rfl (by decide) (by kernel_rfl) (by kernel_rfl) (want_on 21 false rfl 26 rfl (by kernel_rfl)) (some 36) rfl (.pointer (some ⟨e, 4, none⟩)) (fun _ _ => by kernel_rfl) ?_
        refine hl_cell M 32 rfl (by decide) (by kernel_rfl) (by kernel_rfl) (want_on 21 false rfl 26 rfl (by kernel_rfl)) (some 37) rfl 24 _ rfl e 4 (by kernel_rfl) (.int .u64 (rk : Int)) (fun _ => by kernel_rfl) (fun w M => M.cell 0 rfl (by decide) rfl) ?_
        refine hl_one 27 (by decide) (by kernel_rfl) rfl ?_
        refine pl_call M (want_on 21 false rfl 26 rfl (by kernel_rfl)) (some 32) rfl 49 #[.int .u64 (n : Int), .pointer (some ⟨md, 0, none⟩)] (.int .u64 ((n - mt : Nat) : Int)) (fun _ => by kernel_rfl) (fun w M => c_age hn w M.laid (M.there (.cons _ (.cons_cons _ (List.nil_sublist _))))) fun u3 M => ?_
        refine nT ?_
        refine ⟨M, ?_⟩
        by_cases c3 : ((n - mt : Nat) : Int) < (rk : Int)
        · skip
          refine hl_val M 33 rfl (by decide) (by kernel_rfl) (by kernel_rfl) (want_on 21 false rfl 26 rfl (by kernel_rfl)) (some 38) rfl (.bool false) (fun w _ => (fun w => Eq.trans (b := .ok (.value (.bool (decide ((rk : Int) ≤ ((n - mt : Nat) : Int))))) w) (by kernel_rfl) (by rw [decide_eq_false (by omega)])) w) ?_
          refine hl_val M 34 rfl (by decide) (by kernel_rfl) (by kernel_rfl) (want_on 10 true rfl 15 rfl (by kernel_rfl)) (some 39) rfl (.bool false) (fun _ _ => by kernel_rfl) ?_
          refine qV M 35 40 (.bool false) ?_
          refine hl_end (by kernel_rfl) (by kernel_rfl) rfl ?_
          refine rV 1 ?_
          refine nT ?_
          refine au_then ?_
          refine wp_ret ?_
          have e0 : wnB sd fi rc rk lf nx mt n = false := by unfold wnB; simp only [c0, c1, Bool.false_and, Bool.true_and, Bool.not_true, Bool.not_false]; exact decide_eq_false (by omega)
          exact bodyPost_ret (v := .bool false) (results_tmp1 Tryz.results33 _ _ _ (by kernel_rfl)) (by kernel_rfl) ⟨by rw [e0], ro_T hT M⟩
        · skip
          refine hl_val M 33 rfl (by decide) (by kernel_rfl) (by kernel_rfl) (want_on 21 false rfl 26 rfl (by kernel_rfl)) (some 38) rfl (.bool true) (fun w _ => (fun w => Eq.trans (b := .ok (.value (.bool (decide ((rk : Int) ≤ ((n - mt : Nat) : Int))))) w) (by kernel_rfl) (by rw [decide_eq_true (by omega)])) w) ?_
          refine hl_val M 34 rfl (by decide) (by kernel_rfl) (by kernel_rfl) (want_on 10 true rfl 15 rfl (by kernel_rfl)) (some 39) rfl (.bool true) (fun _ _ => by kernel_rfl) ?_
          refine qV M 35 40 (.bool true) ?_
          refine hl_end (by kernel_rfl) (by kernel_rfl) rfl ?_
          refine rV 1 ?_
          refine nT ?_
          refine au_then ?_
          refine wp_ret ?_
          have e0 : wnB sd fi rc rk lf nx mt n = true := by unfold wnB; simp only [c0, c1, Bool.false_and, Bool.true_and, Bool.not_true, Bool.not_false]; exact decide_eq_true (by omega)
          exact bodyPost_ret (v := .bool true) (results_tmp1 Tryz.results33 _ _ _ (by kernel_rfl)) (by kernel_rfl) ⟨by rw [e0], ro_T hT M⟩
      · skip
        refine hl_val M 20 rfl (by decide) (by kernel_rfl) (by kernel_rfl) (want_on 10 true rfl 15 rfl (by kernel_rfl)) (some 25) rfl (.bool true) (fun w _ => (fun w => Eq.trans (b := .ok (.value (.bool (decide ((rc : Int) ≤ (nx : Int))))) w) (by kernel_rfl) (by rw [decide_eq_true (by omega)])) w) ?_
        refine hl_val M 21 rfl (by decide) (by kernel_rfl) (by kernel_rfl) (want_on 10 true rfl 15 rfl (by kernel_rfl)) (some 26) rfl (.bool true) (fun _ _ => by kernel_rfl) ?_
        refine hl_skip M 22 rfl (by decide) (by kernel_rfl) (by kernel_rfl) (want_off 21 false rfl 26 rfl (by kernel_rfl)) (some 27) rfl ?_
        refine hl_skip M 23 rfl (by decide) (by kernel_rfl) (by kernel_rfl) (want_off 21 false rfl 26 rfl (by kernel_rfl)) (some 28) rfl ?_
        refine hl_skip M 24 rfl (by decide) (by kernel_rfl) (by kernel_rfl) (want_off 21 false rfl 26 rfl (by kernel_rfl)) (some 29) rfl ?_
        refine hl_skip M 25 rfl (by decide) (by kernel_rfl) (by kernel_rfl) (want_off 21 false rfl 26 rfl (by kernel_rfl)) (some 30) rfl ?_
        refine hl_skip M 26 rfl (by decide) (by kernel_rfl) (by kernel_rfl) (want_off 21 false rfl 26 rfl (by kernel_rfl)) (some 31) rfl ?_
        refine hl_skip M 27 rfl (by decide) (by kernel_rfl) (by kernel_rfl) (want_off 21 false rfl 26 rfl (by kernel_rfl)) (some 32) rfl ?_
        refine hl_skip M 28 rfl (by decide) (by kernel_rfl) (by kernel_rfl) (want_off 21 false rfl 26 rfl (by kernel_rfl)) (some 33) rfl ?_
        refine hl_skip M 29 rfl (by decide) (by kernel_rfl) (by kernel_rfl) (want_off 21 false rfl 26 rfl (by kernel_rfl)) (some 34) rfl ?_
        refine hl_skip M 30 rfl (by decide) (by kernel_rfl) (by kernel_rfl) (want_off 21 false rfl 26 rfl (by kernel_rfl)) (some 35) rfl ?_
        refine hl_skip M 31 rfl (by decide) (by kernel_rfl) (by kernel_rfl) (want_off 21 false rfl 26 rfl (by kernel_rfl)) (some 36) rfl ?_
        refine hl_skip M 32 rfl (by decide) (by kernel_rfl) (by kernel_rfl) (want_off 21 false rfl 26 rfl (by kernel_rfl)) (some 37) rfl ?_
        refine hl_skip M 33 rfl (by decide) (by kernel_rfl) (by kernel_rfl) (want_off 21 false rfl 26 rfl (by kernel_rfl)) (some 38) rfl ?_
        refine hl_val M 34 rfl (by decide) (by kernel_rfl) (by kernel_rfl) (want_on 10 true rfl 15 rfl (by kernel_rfl)) (some 39) rfl (.bool true) (fun _ _ => by kernel_rfl) ?_
        refine qV M 35 40 (.bool true) ?_
        refine hl_end (by kernel_rfl) (by kernel_rfl) rfl ?_
        refine rV 1 ?_
        refine nT ?_
        refine au_then ?_
        refine wp_ret ?_
        have e0 : wnB sd fi rc rk lf nx mt n = true := by unfold wnB; simp only [c0, c1, Bool.false_and, Bool.true_and, Bool.not_true, Bool.not_false]; exact decide_eq_true (by omega)
        exact bodyPost_ret (v := .bool true) (results_tmp1 Tryz.results33 _ _ _ (by kernel_rfl)) (by kernel_rfl) ⟨by rw [e0], ro_T hT M⟩
  · skip
    refine hl_cell M 3 rfl (by decide) (by kernel_rfl) (by kernel_rfl) (want_no rfl) (some 8) rfl 4 _ rfl e 9 (by kernel_rfl) (.bool false) (fun _ => by kernel_rfl) (fun w M => M.cell 0 rfl (by decide) (congrArg Value.bool c0)) ?_
    refine qV M 4 9 (.bool false) ?_
    refine hl_skip M 5 rfl (by decide) (by kernel_rfl) (by kernel_rfl) (want_off 4 true rfl 9 rfl (by kernel_rfl)) (some 10) rfl ?_
    refine hl_skip M 6 rfl (by decide) (by kernel_rfl) (by kernel_rfl) (want_off 4 true rfl 9 rfl (by kernel_rfl)) (some 11) rfl ?_
    refine hl_skip M 7 rfl (by decide) (by kernel_rfl) (by kernel_rfl) (want_off 4 true rfl 9 rfl (by kernel_rfl)) (some 12) rfl ?_
    refine hl_skip M 8 rfl (by decide) (by kernel_rfl) (by kernel_rfl) (want_off 4 true rfl 9 rfl (by kernel_rfl)) (some 13) rfl ?_
    refine qV M 9 14 (.bool false) ?_
    refine qV M 10 15 (.bool false) ?_
    refine hl_skip M 11 rfl (by decide) (by kernel_rfl) (by kernel_rfl) (want_off 10 true rfl 15 rfl (by kernel_rfl)) (some 16) rfl ?_
    refine hl_skip M 12 rfl (by decide) (by kernel_rfl) (by kernel_rfl) (want_off 10 true rfl 15 rfl (by kernel_rfl)) (some 17) rfl ?_
    refine hl_skip M 13 rfl (by decide) (by kernel_rfl) (by kernel_rfl) (want_off 10 true rfl 15 rfl (by kernel_rfl)) (some 18) rfl ?_
    refine hl_skip M 14 rfl (by decide) (by kernel_rfl) (by kernel_rfl) (want_off 10 true rfl 15 rfl (by kernel_rfl)) (some 19) rfl ?_
    refine hl_skip M 15 rfl (by decide) (by kernel_rfl) (by kernel_rfl) (want_off 10 true rfl 15 rfl (by kernel_rfl)) (some 20) rfl ?_
    refine hl_skip M 16 rfl (by decide) (by kernel_rfl) (by kernel_rfl) (want_off 10 true rfl 15 rfl (by kernel_rfl)) (some 21) rfl ?_
    refine hl_skip M 17 rfl (by decide) (by kernel_rfl) (by kernel_rfl) (want_off 10 true rfl 15 rfl (by kernel_rfl)) (some 22) rfl ?_
    refine hl_skip M 18 rfl (by decide) (by kernel_rfl) (by kernel_rfl) (want_off 10 true rfl 15 rfl (by kernel_rfl)) (some 23) rfl ?_
    refine hl_skip M 19 rfl (by decide) (by kernel_rfl) (by kernel_rfl) (want_off 10 true rfl 15 rfl (by kernel_rfl)) (some 24) rfl ?_
    refine hl_skip M 20 rfl (by decide) (by kernel_rfl) (by kernel_rfl) (want_off 10 true rfl 15 rfl (by kernel_rfl)) (some 25) rfl ?_
    refine hl_skip M 21 rfl (by decide) (by kernel_rfl) (by kernel_rfl) (want_off 10 true rfl 15 rfl (by kernel_rfl)) (some 26) rfl ?_
    refine hl_skip M 22 rfl (by decide) (by kernel_rfl) (by kernel_rfl) (want_und 21 false rfl 26 rfl (by kernel_rfl)) (some 27) rfl ?_
    refine hl_skip M 23 rfl (by decide) (by kernel_rfl) (by kernel_rfl) (want_und 21 false rfl 26 rfl (by kernel_rfl)) (some 28) rfl ?_
    refine hl_skip M 24 rfl (by decide) (by kernel_rfl) (by kernel_rfl) (want_und 21 false rfl 26 rfl (by kernel_rfl)) (some 29) rfl ?_
    refine hl_skip M 25 rfl (by decide) (by kernel_rfl) (by kernel_rfl) (want_und 21 false rfl 26 rfl (by kernel_rfl)) (some 30) rfl ?_
    refine hl_skip M 26 rfl (by decide) (by kernel_rfl) (by kernel_rfl) (want_und 21 false rfl 26 rfl (by kernel_rfl)) (some 31) rfl ?_
    refine hl_skip M 27 rfl (by decide) (by kernel_rfl) (by kernel_rfl) (want_und 21 false rfl 26 rfl (by kernel_rfl)) (some 32) rfl ?_
    refine hl_skip M 28 rfl (by decide) (by kernel_rfl) (by kernel_rfl) (want_und 21 false rfl 26 rfl (by kernel_rfl)) (some 33) rfl ?_
    refine hl_skip M 29 rfl (by decide) (by kernel_rfl) (by kernel_rfl) (want_und 21 false rfl 26 rfl (by kernel_rfl)) (some 34) rfl ?_
    refine hl_skip M 30 rfl (by decide) (by kernel_rfl) (by kernel_rfl) (want_und 21 false rfl 26 rfl (by kernel_rfl)) (some 35) rfl ?_
    refine hl_skip M 31 rfl (by decide) (by kernel_rfl) (by kernel_rfl) (want_und 21 false rfl 26 rfl (by kernel_rfl)) (some 36) rfl ?_
    refine hl_skip M 32 rfl (by decide) (by kernel_rfl) (by kernel_rfl) (want_und 21 false rfl 26 rfl (by kernel_rfl)) (some 37) rfl ?_
    refine hl_skip M 33 rfl (by decide) (by kernel_rfl) (by kernel_rfl) (want_und 21 false rfl 26 rfl (by kernel_rfl)) (some 38) rfl ?_
    refine hl_skip M 34 rfl (by decide) (by kernel_rfl) (by kernel_rfl) (want_off 10 true rfl 15 rfl (by kernel_rfl)) (some 39) rfl ?_
    refine qV M 35 40 (.bool false) ?_
    refine hl_end (by kernel_rfl) (by kernel_rfl) rfl ?_
    refine rV 1 ?_
    refine nT ?_
    refine au_then ?_
    refine wp_ret ?_
    have e0 : wnB sd fi rc rk lf nx mt n = false := by unfold wnB; simp only [c0, Bool.false_and, Bool.true_and, Bool.not_true, Bool.not_false]
    exact bodyPost_ret (v := .bool false) (results_tmp1 Tryz.results33 _ _ _ (by kernel_rfl)) (by kernel_rfl) ⟨by rw [e0], ro_T hT M⟩


end Go.Proofs.YtenafinbaanicaaGreatDoor
namespace Go.Proofs.YtenafinbaanicaaGreatDoor
open Go.RowKit
set_option maxRecDepth 100000

theorem wrapU_suc (a : Nat) (h : a + 1 < 18446744073709551616) : IntKind.wrap .u64 ((a : Int) + 1) = ((a + 1 : Nat) : Int) := by
  rw [IntKind.wrap_u64]
  omega
/-- Why a text is not sealed; its number, what it is then, and how many were sealed then. -/
def slZ (sd : ByteArray) (nx : Nat) (s : ByteArray) : Int := sf sd (nS (nx : Int)) ⟨#[]⟩ s 0
def slN (sd : ByteArray) (nx : Nat) (s : ByteArray) : Nat := if slZ sd nx s = 0 then nx else 0
def slC (sd : ByteArray) (nx : Nat) (s : ByteArray) : ByteArray := if slZ sd nx s = 0 then sealS sd (nS (nx : Int)) ⟨#[]⟩ s else ⟨#[]⟩
def slX (sd : ByteArray) (nx : Nat) (s : ByteArray) : Nat := if slZ sd nx s = 0 then nx + 1 else nx
/-- Why a text is not opened; what it is. -/
def opZ (rv : ByteArray) (i : Nat) (c : ByteArray) : Int := if sf rv (nS (i : Int)) ⟨#[]⟩ c 16 = 0 then (if tgX rv (nS (i : Int)) ⟨#[]⟩ c = c.extract (c.size - 16) c.size then 0 else 100) else sf rv (nS (i : Int)) ⟨#[]⟩ c 16
def opC (rv : ByteArray) (i : Nat) (c : ByteArray) : ByteArray := if opZ rv i c = 0 then opS rv (nS (i : Int)) c else ⟨#[]⟩
def opU (su : Bool) (rv : ByteArray) (i : Nat) (c : ByteArray) : Bool := if opZ rv i c = 0 then true else su
def opQ (sz : Nat) (q : List Nat) (rv : ByteArray) (i : Nat) (c : ByteArray) : List Nat := if opZ rv i c = 0 then mk sz q i else q
def opF (sd : ByteArray) (ct lf sz mt : Nat) (q : List Nat) (n i : Nat) : Int := if ovB sd lf mt n = true then 180 else if ct ≤ i then 180 else my sz q i
theorem c_ASeal (sd : ByteArray) (nx : Nat) (s : ByteArray) (w : World) (hL : Laid w) : Calls Tryz.prog 64 #[.string sd, .string (nS (nx : Int)), .string ⟨#[]⟩, .string s] w fun r w' => r = .returned (.tuple #[.string (slC sd nx s), .int .i64 (slZ sd nx s)]) ∧ Below w.heap.size w w' := by
  by_cases h : slZ sd nx s = 0
  · unfold slC
    rw [if_pos h, h]
    exact c_SealA _ _ _ _ h w hL
  · unfold slC
    rw [if_neg h]
    exact c_SealB _ _ _ _ h w hL
theorem c_AOpen (rv : ByteArray) (i : Nat) (c : ByteArray) (w : World) (hL : Laid w) : Calls Tryz.prog 67 #[.string rv, .string (nS (i : Int)), .string ⟨#[]⟩, .string c] w fun r w' => r = .returned (.tuple #[.string (opC rv i c), .int .i64 (opZ rv i c)]) ∧ Below w.heap.size w w' := by
  unfold opC
  by_cases h : sf rv (nS (i : Int)) ⟨#[]⟩ c 16 = 0
  · by_cases h2 : tgX rv (nS (i : Int)) ⟨#[]⟩ c = c.extract (c.size - 16) c.size
    · have e : opZ rv i c = 0 := by unfold opZ; rw [if_pos h, if_pos h2]
      rw [if_pos e, e]
      exact c_OpenA _ _ _ _ h h2 w hL
    · have e : opZ rv i c = 100 := by unfold opZ; rw [if_pos h, if_neg h2]
      rw [if_neg (by rw [e]; decide), e]
      exact c_OpenB _ _ _ _ h h2 w hL
  · have e : opZ rv i c = sf rv (nS (i : Int)) ⟨#[]⟩ c 16 := by unfold opZ; rw [if_neg h]
    rw [if_neg (by rw [e]; exact h), e]
    exact c_OpenC _ _ _ _ h w hL
set_option maxRecDepth 100000 in
set_option maxHeartbeats 4000000 in
set_option linter.unusedSimpArgs false in
theorem c_seal {e wd md : Nat} {rc ct rk lf sz nx : Nat} {sd rv : ByteArray} {fi su : Bool} {s : ByteArray} (hx : nx + 1 < 18446744073709551616) (w : World) (hL : Laid w)  (hT : There w [⟨e, .cells (av 12 (ls [.pointer (some ⟨wd, 0, none⟩), .func (.func 49) #[] #[.pointer (some ⟨md, 0, none⟩)], .int .u64 (rc : Int), .int .u64 (ct : Int), .int .u64 (rk : Int), .int .u64 (lf : Int), .int .i64 (sz : Int), .string sd, .string rv, .bool (fi), .bool (su), .int .u64 (nx : Int)])) 89⟩]) :
    Calls Tryz.prog 45 #[.pointer (some ⟨e, 0, none⟩), .string s] w fun r w' => r = .returned (.tuple #[.int .u64 ((slN sd nx s : Nat) : Int), .string (slC sd nx s), .int .i64 (slZ sd nx s)]) ∧ Grw w w' [e] ∧ w'.heap[e]? = some (.cells (av 12 (ls [.pointer (some ⟨wd, 0, none⟩), .func (.func 49) #[] #[.pointer (some ⟨md, 0, none⟩)], .int .u64 (rc : Int), .int .u64 (ct : Int), .int .u64 (rk : Int), .int .u64 (lf : Int), .int .i64 (sz : Int), .string sd, .string rv, .bool (fi), .bool (su), .int .u64 ((slX sd nx s : Nat) : Int)])) 89) := by
  go_enter Tryz.func45, Tryz.ntmps45
  have M : Mem ⟨w, [e]⟩ [⟨e, .cells (av 12 (ls [.pointer (some ⟨wd, 0, none⟩), .func (.func 49) #[] #[.pointer (some ⟨md, 0, none⟩)], .int .u64 (rc : Int), .int .u64 (ct : Int), .int .u64 (rk : Int), .int .u64 (lf : Int), .int .i64 (sz : Int), .string sd, .string rv, .bool (fi), .bool (su), .int .u64 (nx : Int)])) 89⟩] w := Mem.startT hL hT
  refine sq ?_
  refine sR ?_
  refine rV 3 ?_
  refine ZE M 13 0 11 ?_
  refine rV 1 ?_
  refine nT ?_
  refine wp_seq ?_
  refine rg_held M [⟨e, .cells (av 12 (ls [.pointer (some ⟨wd, 0, none⟩), .func (.func 49) #[] #[.pointer (some ⟨md, 0, none⟩)], .int .u64 (rc : Int), .int .u64 (ct : Int), .int .u64 (rk : Int), .int .u64 (lf : Int), .int .i64 (sz : Int), .string sd, .string rv, .bool (fi), .bool (su), .int .u64 (nx : Int)])) 89⟩] 12 rfl (by kernel_rfl) (by kernel_rfl) (fun _ _ d _ _ h => by cases d <;> exact h) fun u1 M => ?_
  replace M : Mem ⟨w, [e]⟩ [⟨e, .cells (av 12 (ls [.pointer (some ⟨wd, 0, none⟩), .func (.func 49) #[] #[.pointer (some ⟨md, 0, none⟩)], .int .u64 (rc : Int), .int .u64 (ct : Int), .int .u64 (rk : Int), .int .u64 (lf : Int), .int .i64 (sz : Int), .string sd, .string rv, .bool (fi), .bool (su), .int .u64 (nx : Int)])) 89⟩] u1 := M
  refine qV M 0 15 (.pointer (some ⟨e, 0, none⟩)) ?_
  refine qV M 1 16 (.pointer (some ⟨e, 0, none⟩)) ?_
  refine qV M 2 17 (.pointer (some ⟨e, 7, none⟩)) ?_
  refine hl_cell M 3 rfl (by decide) (by kernel_rfl) (by kernel_rfl) (want_no rfl) (some 18) rfl 9 _ rfl e 7 (by kernel_rfl) (.string sd) (fun _ => by kernel_rfl) (fun w M => M.cell 0 rfl (by decide) rfl) ?_
  refine qV M 4 19 (.int .u64 (nx : Int)) ?_
  refine qV M 6 21 (.string s) ?_
  refine hl_one 5 (by decide) (by kernel_rfl) rfl ?_
  refine ZC M 20 (fun w M => c_Nonce (nx : Int) w M.laid) fun u2 M => ?_
  refine nT ?_
  refine ⟨M, ?_⟩
  refine hl_one 7 (by decide) (by kernel_rfl) rfl ?_
  refine ZC M 22 (fun w M => c_ASeal sd nx s w M.laid) fun u3 M => ?_
  refine nT ?_
  refine ⟨M, ?_⟩
  refine qV M 8 14 (.tuple #[.string (slC sd nx s), .int .i64 (slZ sd nx s)]) ?_
  refine qV M 9 23 (.string (slC sd nx s)) ?_
  refine qV M 10 24 (.int .i64 (slZ sd nx s)) ?_
  refine qV M 11 8 (.string (slC sd nx s)) ?_
  refine hl_end (by kernel_rfl) (by kernel_rfl) rfl ?_
  refine rV 1 ?_
  refine nT ?_
  refine au_then ?_
  refine wp_seq ?_
  refine sR ?_
  refine rV 1 ?_
  by_cases c0 : (slZ sd nx s) = 0
  · skip
    refine pH 26 (.bool false) (jD ((slZ sd nx s) = 0) (c0)) ?_
    refine nT ?_
    refine wp_cond_false (by kernel_rfl) ?_
    refine wp_skip ?_
    refine au_then ?_
    refine sR ?_
    refine rV 3 ?_
    refine ZE M 31 0 11 ?_
    refine pH 32 (.int .u64 ((nx + 1 : Nat) : Int)) (fun w => Eq.trans (b := .ok (.value (.int .u64 (IntKind.wrap .u64 (((nx : Nat) : Int) + 1)))) w) (by kernel_rfl) (by rw [wrapU_suc nx (by omega)])) ?_
    refine rV 2 ?_
    refine pP M 0 rfl 11 (.int .u64 ((nx + 1 : Nat) : Int)) (ls [.pointer (some ⟨wd, 0, none⟩), .func (.func 49) #[] #[.pointer (some ⟨md, 0, none⟩)], .int .u64 (rc : Int), .int .u64 (ct : Int), .int .u64 (rk : Int), .int .u64 (lf : Int), .int .i64 (sz : Int), .string sd, .string rv, .bool (fi), .bool (su), .int .u64 ((nx + 1 : Nat) : Int)]) (by decide) (put_ls _ 11 _ _ rfl) fun u4 M => ?_
    replace M : Mem ⟨w, [e]⟩ [⟨e, .cells (av 12 (ls [.pointer (some ⟨wd, 0, none⟩), .func (.func 49) #[] #[.pointer (some ⟨md, 0, none⟩)], .int .u64 (rc : Int), .int .u64 (ct : Int), .int .u64 (rk : Int), .int .u64 (lf : Int), .int .i64 (sz : Int), .string sd, .string rv, .bool (fi), .bool (su), .int .u64 ((nx + 1 : Nat) : Int)])) 89⟩] u4 := M
    refine nT ?_
    refine sq ?_
    refine wp_ret ?_
    have e0 : slN sd nx s = nx := by unfold slN; rw [if_pos c0]
    have e1 : slX sd nx s = nx + 1 := by unfold slX; rw [if_pos c0]
    have e2 : slC sd nx s = sealS sd (nS (nx : Int)) ⟨#[]⟩ s := by unfold slC; rw [if_pos c0]
    exact bodyPost_ret (v := .tuple #[.int .u64 (nx : Int), .string (slC sd nx s), .int .i64 0]) (results_t3 Tryz.results45 _ _ _ _ _ (by kernel_rfl) (by kernel_rfl) (by kernel_rfl)) (by kernel_rfl) ⟨by rw [e0, c0], M.old, by rw [e1]; exact M.get 0 rfl⟩
  · skip
    refine pH 26 (.bool true) (jU ((slZ sd nx s) = 0) (c0)) ?_
    refine nT ?_
    refine wp_cond_true (by kernel_rfl) ?_
    refine sq ?_
    refine wp_ret ?_
    refine au_then_ret ?_
    have e0 : slN sd nx s = 0 := by unfold slN; rw [if_neg c0]
    have e1 : slX sd nx s = nx := by unfold slX; rw [if_neg c0]
    have e2 : slC sd nx s = ⟨#[]⟩ := by unfold slC; rw [if_neg c0]
    exact bodyPost_ret (v := .tuple #[.int .u64 0, .string ⟨#[]⟩, .int .i64 (slZ sd nx s)]) (results_t3 Tryz.results45 _ _ _ _ _ (by kernel_rfl) (by kernel_rfl) (by kernel_rfl)) (by kernel_rfl) ⟨by rw [e0, e2]; rfl, M.old, by rw [e1]; exact M.get 0 rfl⟩

set_option maxRecDepth 100000 in
set_option maxHeartbeats 4000000 in
set_option linter.unusedSimpArgs false in
theorem c_openFault {e wd k md : Nat} {rc ct rk lf sz nx mt : Nat} {sd rv : ByteArray} {fi su : Bool} {h : Nat} {m : Nat → Int} {q : List Nat} {n i : Nat} (hs : 1 ≤ sz) (hh : h < 18446744073709551616) (I : Inv sz h m q) (hn : n < 18446744073709551616) (hi : i < 18446744073709551616) (w : World) (hL : Laid w)  (hT : There w [⟨e, .cells (av 12 (ls [.pointer (some ⟨wd, 0, none⟩), .func (.func 49) #[] #[.pointer (some ⟨md, 0, none⟩)], .int .u64 (rc : Int), .int .u64 (ct : Int), .int .u64 (rk : Int), .int .u64 (lf : Int), .int .i64 (sz : Int), .string sd, .string rv, .bool (fi), .bool (su), .int .u64 (nx : Int)])) 89⟩, ⟨wd, .cells (av 3 (ls [.int .u64 (sz : Int), .int .u64 (h : Int), .slice (some ⟨k, 0, none⟩) (nW sz) (nW sz)])) 121⟩, ⟨k, .cells (av (nW sz) (w64 m)) 24⟩, ⟨md, .cells (av 1 (ls [.int .u64 (mt : Int)])) 24⟩]) :
    Calls Tryz.prog 46 #[.pointer (some ⟨e, 0, none⟩), .int .u64 (n : Int), .int .u64 (i : Int)] w fun r w' => r = .returned (.int .i64 (opF sd ct lf sz mt q n i)) ∧ Below w.heap.size w w' := by
  go_enter Tryz.func46, Tryz.ntmps46
  have M : Mem ⟨w, [e, wd, k, md]⟩ [⟨e, .cells (av 12 (ls [.pointer (some ⟨wd, 0, none⟩), .func (.func 49) #[] #[.pointer (some ⟨md, 0, none⟩)], .int .u64 (rc : Int), .int .u64 (ct : Int), .int .u64 (rk : Int), .int .u64 (lf : Int), .int .i64 (sz : Int), .string sd, .string rv, .bool (fi), .bool (su), .int .u64 (nx : Int)])) 89⟩, ⟨wd, .cells (av 3 (ls [.int .u64 (sz : Int), .int .u64 (h : Int), .slice (some ⟨k, 0, none⟩) (nW sz) (nW sz)])) 121⟩, ⟨k, .cells (av (nW sz) (w64 m)) 24⟩, ⟨md, .cells (av 1 (ls [.int .u64 (mt : Int)])) 24⟩] w := Mem.startT hL hT
  refine sq ?_
  refine wp_seq ?_
  refine sR ?_
  refine rV 2 ?_
  rcases Bool.eq_false_or_eq_true (ovB sd lf mt n) with c0 | c0
  · skip
    refine pC M 9 31 #[.pointer (some ⟨e, 0, none⟩), .int .u64 (n : Int)] (.bool true) (fun w M => call_val (c_over hn w M.laid (M.there (.cons_cons _ (.cons _ (.cons _ (.cons_cons _ (List.nil_sublist _))))))) (congrArg Value.bool c0)) fun u1 M => ?_
    refine rV 9 ?_
    refine nT ?_
    refine wp_cond_true (by kernel_rfl) ?_
    refine sq ?_
    refine wp_ret ?_
    refine au_then_ret ?_
    have e0 : (opF sd ct lf sz mt q n i) = 180 := by unfold opF; rw [if_pos c0]
    exact bodyPost_ret (v := .int .i64 180) (results_tmp1 Tryz.results46 _ _ _ (by kernel_rfl)) (by kernel_rfl) ⟨by rw [e0], ro_T hT M⟩
  · skip
    refine pC M 9 31 #[.pointer (some ⟨e, 0, none⟩), .int .u64 (n : Int)] (.bool false) (fun w M => call_val (c_over hn w M.laid (M.there (.cons_cons _ (.cons _ (.cons _ (.cons_cons _ (List.nil_sublist _))))))) (congrArg Value.bool c0)) fun u1 M => ?_
    refine rV 6 ?_
    refine pl_cell M (want_on 3 false rfl 10 rfl (by kernel_rfl)) (some 16) rfl 24 _ rfl e 3 (by kernel_rfl) (.int .u64 (ct : Int)) (fun _ => by kernel_rfl) (fun w M => M.cell 0 rfl (by decide) rfl) ?_
    by_cases c1 : (i : Int) < (ct : Int)
    · skip
      refine pl_val (want_on 3 false rfl 10 rfl (by kernel_rfl)) (some 17) rfl (.bool false) (fun w => Eq.trans (b := .ok (.value (.bool (decide ((ct : Int) ≤ (i : Int))))) w) (by kernel_rfl) (by rw [decide_eq_false (by omega)])) ?_
      refine rV 1 ?_
      refine nT ?_
      refine wp_cond_false (by kernel_rfl) ?_
      refine wp_skip ?_
      refine au_then ?_
      refine sR ?_
      refine rV 3 ?_
      refine ZE M 22 0 0 ?_
      refine rV 1 ?_
      refine pC M 24 66 #[.pointer (some ⟨wd, 0, none⟩), .int .u64 (i : Int)] (.int .i64 (my sz q i)) (fun w M => a_May hs hh hi I w M.laid (M.there (.cons _ (.cons_cons _ (.cons_cons _ (List.nil_sublist _)))))) fun u2 M => ?_
      refine rV 1 ?_
      refine nT ?_
      refine wp_ret ?_
      have e0 : (opF sd ct lf sz mt q n i) = (my sz q i) := by unfold opF; rw [if_neg (Bool.eq_false_iff.1 c0), if_neg (by omega)]
      exact bodyPost_ret (v := .int .i64 (my sz q i)) (results_tmp1 Tryz.results46 _ _ _ (by kernel_rfl)) (by kernel_rfl) ⟨by rw [e0], ro_T hT M⟩
    · skip
      refine pl_val (want_on 3 false rfl 10 rfl (by kernel_rfl)) (some 17) rfl (.bool true) (fun w => Eq.trans (b := .ok (.value (.bool (decide ((ct : Int) ≤ (i : Int))))) w) (by kernel_rfl) (by rw [decide_eq_true (by omega)])) ?_
      refine rV 1 ?_
      refine nT ?_
      refine wp_cond_true (by kernel_rfl) ?_
      refine sq ?_
      refine wp_ret ?_
      refine au_then_ret ?_
      have e0 : (opF sd ct lf sz mt q n i) = 180 := by unfold opF; rw [if_neg (Bool.eq_false_iff.1 c0), if_pos (by omega)]
      exact bodyPost_ret (v := .int .i64 180) (results_tmp1 Tryz.results46 _ _ _ (by kernel_rfl)) (by kernel_rfl) ⟨by rw [e0], ro_T hT M⟩

set_option maxRecDepth 100000 in
set_option maxHeartbeats 4000000 in
set_option linter.unusedSimpArgs false in
theorem c_open {e wd k md : Nat} {rc ct rk lf sz nx : Nat} {sd rv : ByteArray} {fi su : Bool} {h : Nat} {m : Nat → Int} {q : List Nat} {i : Nat} {c : ByteArray} (hs : 1 ≤ sz) (hh : h < 18446744073709551616) (I : Inv sz h m q) (hi : i < 18446744073709551616) (w : World) (hL : Laid w)  (hT : There w [⟨e, .cells (av 12 (ls [.pointer (some ⟨wd, 0, none⟩), .func (.func 49) #[] #[.pointer (some ⟨md, 0, none⟩)], .int .u64 (rc : Int), .int .u64 (ct : Int), .int .u64 (rk : Int), .int .u64 (lf : Int), .int .i64 (sz : Int), .string sd, .string rv, .bool (fi), .bool (su), .int .u64 (nx : Int)])) 89⟩, ⟨wd, .cells (av 3 (ls [.int .u64 (sz : Int), .int .u64 (h : Int), .slice (some ⟨k, 0, none⟩) (nW sz) (nW sz)])) 121⟩, ⟨k, .cells (av (nW sz) (w64 m)) 24⟩]) :
    Calls Tryz.prog 47 #[.pointer (some ⟨e, 0, none⟩), .int .u64 (i : Int), .string c] w fun r w' => ∃ x : Nat × (Nat → Int), r = .returned (.tuple #[.string (opC rv i c), .int .i64 (opZ rv i c)]) ∧ (Inv sz x.1 x.2 (opQ sz q rv i c) ∧ x.1 < 18446744073709551616) ∧ OkT w w' [⟨e, .cells (av 12 (ls [.pointer (some ⟨wd, 0, none⟩), .func (.func 49) #[] #[.pointer (some ⟨md, 0, none⟩)], .int .u64 (rc : Int), .int .u64 (ct : Int), .int .u64 (rk : Int), .int .u64 (lf : Int), .int .i64 (sz : Int), .string sd, .string rv, .bool (fi), .bool (su), .int .u64 (nx : Int)])) 89⟩, ⟨wd, .cells (av 3 (ls [.int .u64 (sz : Int), .int .u64 ((h : Int)), .slice (some ⟨k, 0, none⟩) (nW sz) (nW sz)])) 121⟩, ⟨k, .cells (av (nW sz) (w64 m)) 24⟩] [⟨e, .cells (av 12 (ls [.pointer (some ⟨wd, 0, none⟩), .func (.func 49) #[] #[.pointer (some ⟨md, 0, none⟩)], .int .u64 (rc : Int), .int .u64 (ct : Int), .int .u64 (rk : Int), .int .u64 (lf : Int), .int .i64 (sz : Int), .string sd, .string rv, .bool (fi), .bool (opU su rv i c), .int .u64 (nx : Int)])) 89⟩, ⟨wd, .cells (av 3 (ls [.int .u64 (sz : Int), .int .u64 (((x.1 : Nat) : Int)), .slice (some ⟨k, 0, none⟩) (nW sz) (nW sz)])) 121⟩, ⟨k, .cells (av (nW sz) (w64 x.2)) 24⟩] := by
  go_enter Tryz.func47, Tryz.ntmps47
  have M : Mem ⟨w, [e, wd, k]⟩ [⟨e, .cells (av 12 (ls [.pointer (some ⟨wd, 0, none⟩), .func (.func 49) #[] #[.pointer (some ⟨md, 0, none⟩)], .int .u64 (rc : Int), .int .u64 (ct : Int), .int .u64 (rk : Int), .int .u64 (lf : Int), .int .i64 (sz : Int), .string sd, .string rv, .bool (fi), .bool (su), .int .u64 (nx : Int)])) 89⟩, ⟨wd, .cells (av 3 (ls [.int .u64 (sz : Int), .int .u64 (h : Int), .slice (some ⟨k, 0, none⟩) (nW sz) (nW sz)])) 121⟩, ⟨k, .cells (av (nW sz) (w64 m)) 24⟩] w := Mem.startT hL hT
  refine sq ?_
  refine wp_seq ?_
  refine rg_held M [⟨e, .cells (av 12 (ls [.pointer (some ⟨wd, 0, none⟩), .func (.func 49) #[] #[.pointer (some ⟨md, 0, none⟩)], .int .u64 (rc : Int), .int .u64 (ct : Int), .int .u64 (rk : Int), .int .u64 (lf : Int), .int .i64 (sz : Int), .string sd, .string rv, .bool (fi), .bool (su), .int .u64 (nx : Int)])) 89⟩, ⟨wd, .cells (av 3 (ls [.int .u64 (sz : Int), .int .u64 (h : Int), .slice (some ⟨k, 0, none⟩) (nW sz) (nW sz)])) 121⟩, ⟨k, .cells (av (nW sz) (w64 m)) 24⟩] 12 rfl (by kernel_rfl) (by kernel_rfl) (fun _ _ d _ _ h => by cases d <;> exact h) fun u1 M => ?_
  replace M : Mem ⟨w, [e, wd, k]⟩ [⟨e, .cells (av 12 (ls [.pointer (some ⟨wd, 0, none⟩), .func (.func 49) #[] #[.pointer (some ⟨md, 0, none⟩)], .int .u64 (rc : Int), .int .u64 (ct : Int), .int .u64 (rk : Int), .int .u64 (lf : Int), .int .i64 (sz : Int), .string sd, .string rv, .bool (fi), .bool (su), .int .u64 (nx : Int)])) 89⟩, ⟨wd, .cells (av 3 (ls [.int .u64 (sz : Int), .int .u64 (h : Int), .slice (some ⟨k, 0, none⟩) (nW sz) (nW sz)])) 121⟩, ⟨k, .cells (av (nW sz) (w64 m)) 24⟩] u1 := M
  refine qV M 0 11 (.pointer (some ⟨e, 0, none⟩)) ?_
  refine qV M 1 12 (.pointer (some ⟨e, 0, none⟩)) ?_
  refine qV M 2 13 (.pointer (some ⟨e, 8, none⟩)) ?_
  refine hl_cell M 3 rfl (by decide) (by kernel_rfl) (by kernel_rfl) (want_no rfl) (some 14) rfl 9 _ rfl e 8 (by kernel_rfl) (.string rv) (fun _ => by kernel_rfl) (fun w M => M.cell 0 rfl (by decide) rfl) ?_
  refine qV M 4 15 (.int .u64 (i : Int)) ?_
  refine qV M 6 17 (.string c) ?_
  refine hl_one 5 (by decide) (by kernel_rfl) rfl ?_
  refine ZC M 16 (fun w M => c_Nonce (i : Int) w M.laid) fun u2 M => ?_
  refine nT ?_
  refine ⟨M, ?_⟩
  refine hl_one 7 (by decide) (by kernel_rfl) rfl ?_
  refine ZC M 18 (fun w M => c_AOpen rv i c w M.laid) fun u3 M => ?_
  refine nT ?_
  refine ⟨M, ?_⟩
  refine qV M 8 10 (.tuple #[.string (opC rv i c), .int .i64 (opZ rv i c)]) ?_
  refine qV M 9 19 (.string (opC rv i c)) ?_
  refine qV M 10 20 (.int .i64 (opZ rv i c)) ?_
  refine qV M 11 8 (.string (opC rv i c)) ?_
  refine hl_end (by kernel_rfl) (by kernel_rfl) rfl ?_
  refine rV 1 ?_
  refine nT ?_
  refine au_then ?_
  refine wp_seq ?_
  refine sR ?_
  refine rV 1 ?_
  by_cases c0 : (opZ rv i c) = 0
  · skip
    refine pH 22 (.bool false) (jD ((opZ rv i c) = 0) (c0)) ?_
    refine nT ?_
    refine wp_cond_false (by kernel_rfl) ?_
    refine wp_skip ?_
    refine au_then ?_
    refine sR ?_
    refine rV 3 ?_
    refine ZE M 27 0 0 ?_
    refine rV 1 ?_
    refine pl_callM M (want_no rfl) (some 29) rfl 68 #[.pointer (some ⟨wd, 0, none⟩), .int .u64 (i : Int)] [⟨e, .cells (av 12 (ls [.pointer (some ⟨wd, 0, none⟩), .func (.func 49) #[] #[.pointer (some ⟨md, 0, none⟩)], .int .u64 (rc : Int), .int .u64 (ct : Int), .int .u64 (rk : Int), .int .u64 (lf : Int), .int .i64 (sz : Int), .string sd, .string rv, .bool (fi), .bool (su), .int .u64 (nx : Int)])) 89⟩] [⟨wd, .cells (av 3 (ls [.int .u64 (sz : Int), .int .u64 (h : Int), .slice (some ⟨k, 0, none⟩) (nW sz) (nW sz)])) 121⟩, ⟨k, .cells (av (nW sz) (w64 m)) 24⟩] [] (by simp only [List.append_assoc, List.cons_append, List.nil_append, List.append_nil]) (fun x : Nat × (Nat → Int) => .int .i64 (my sz q i)) (fun x : Nat × (Nat → Int) => [⟨wd, .cells (av 3 (ls [.int .u64 (sz : Int), .int .u64 ((x.1 : Nat) : Int), .slice (some ⟨k, 0, none⟩) (nW sz) (nW sz)])) 121⟩, ⟨k, .cells (av (nW sz) (w64 x.2)) 24⟩]) (fun x : Nat × (Nat → Int) => Inv sz x.1 x.2 (mk sz q i) ∧ x.1 < 18446744073709551616) (fun _ => by kernel_rfl) (fun w hL hT => a_Mark hs hh hi I w hL hT) ?_
    rintro ⟨h2, m2⟩ u4 ⟨I2, hh2⟩ M
    replace M : Mem ⟨w, [e, wd, k]⟩ [⟨e, .cells (av 12 (ls [.pointer (some ⟨wd, 0, none⟩), .func (.func 49) #[] #[.pointer (some ⟨md, 0, none⟩)], .int .u64 (rc : Int), .int .u64 (ct : Int), .int .u64 (rk : Int), .int .u64 (lf : Int), .int .i64 (sz : Int), .string sd, .string rv, .bool (fi), .bool (su), .int .u64 (nx : Int)])) 89⟩, ⟨wd, .cells (av 3 (ls [.int .u64 (sz : Int), .int .u64 (h2 : Int), .slice (some ⟨k, 0, none⟩) (nW sz) (nW sz)])) 121⟩, ⟨k, .cells (av (nW sz) (w64 m2)) 24⟩] u4 := by simpa only [List.append_assoc, List.cons_append, List.nil_append, List.append_nil] using M
    refine nT ?_
    refine sR ?_
    refine rV 3 ?_
    refine pP M 0 rfl 10 (.bool true) (ls [.pointer (some ⟨wd, 0, none⟩), .func (.func 49) #[] #[.pointer (some ⟨md, 0, none⟩)], .int .u64 (rc : Int), .int .u64 (ct : Int), .int .u64 (rk : Int), .int .u64 (lf : Int), .int .i64 (sz : Int), .string sd, .string rv, .bool (fi), .bool true, .int .u64 (nx : Int)]) (by decide) (put_ls _ 10 _ _ rfl) fun u5 M => ?_
    replace M : Mem ⟨w, [e, wd, k]⟩ [⟨e, .cells (av 12 (ls [.pointer (some ⟨wd, 0, none⟩), .func (.func 49) #[] #[.pointer (some ⟨md, 0, none⟩)], .int .u64 (rc : Int), .int .u64 (ct : Int), .int .u64 (rk : Int), .int .u64 (lf : Int), .int .i64 (sz : Int), .string sd, .string rv, .bool (fi), .bool true, .int .u64 (nx : Int)])) 89⟩, ⟨wd, .cells (av 3 (ls [.int .u64 (sz : Int), .int .u64 (h2 : Int), .slice (some ⟨k, 0, none⟩) (nW sz) (nW sz)])) 121⟩, ⟨k, .cells (av (nW sz) (w64 m2)) 24⟩] u5 := M
    refine nT ?_
    refine sq ?_
    refine wp_ret ?_
    have e1 : opU su rv i c = true := by unfold opU; rw [if_pos c0]
    have e2 : opQ sz q rv i c = mk sz q i := by unfold opQ; rw [if_pos c0]
    exact bodyPost_ret (v := .tuple #[.string (opC rv i c), .int .i64 0]) (results_tmp2 Tryz.results47 _ _ _ _ (by kernel_rfl) (by kernel_rfl)) (by kernel_rfl) ⟨(h2, m2), by rw [c0], by rw [e2]; exact ⟨I2, hh2⟩, by rw [e1]; exact Mem.okT0 (T := [⟨e, _⟩, ⟨wd, _⟩, ⟨k, _⟩]) M⟩
  · skip
    refine pH 22 (.bool true) (jU ((opZ rv i c) = 0) (c0)) ?_
    refine nT ?_
    refine wp_cond_true (by kernel_rfl) ?_
    refine sq ?_
    refine wp_ret ?_
    refine au_then_ret ?_
    have e1 : opU su rv i c = su := by unfold opU; rw [if_neg c0]
    have e2 : opQ sz q rv i c = q := by unfold opQ; rw [if_neg c0]
    have e3 : opC rv i c = ⟨#[]⟩ := by unfold opC; rw [if_neg c0]
    exact bodyPost_ret (v := .tuple #[.string ⟨#[]⟩, .int .i64 (opZ rv i c)]) (results_tmp2 Tryz.results47 _ _ _ _ (by kernel_rfl) (by kernel_rfl)) (by kernel_rfl) ⟨(h, m), by rw [e3], by rw [e2]; exact ⟨I, hh⟩, by rw [e1]; exact Mem.okT0 (T := [⟨e, _⟩, ⟨wd, _⟩, ⟨k, _⟩]) M⟩

set_option maxRecDepth 100000 in
set_option maxHeartbeats 4000000 in
set_option linter.unusedSimpArgs false in
theorem c_wipeE {e wd md : Nat} {rc ct rk lf sz nx : Nat} {sd rv : ByteArray} {fi su : Bool} (w : World) (hL : Laid w)  (hT : There w [⟨e, .cells (av 12 (ls [.pointer (some ⟨wd, 0, none⟩), .func (.func 49) #[] #[.pointer (some ⟨md, 0, none⟩)], .int .u64 (rc : Int), .int .u64 (ct : Int), .int .u64 (rk : Int), .int .u64 (lf : Int), .int .i64 (sz : Int), .string sd, .string rv, .bool (fi), .bool (su), .int .u64 (nx : Int)])) 89⟩]) :
    Calls Tryz.prog 52 #[.pointer (some ⟨e, 0, none⟩)] w fun r w' => r = .returned (.tuple #[]) ∧ Grw w w' [e] ∧ w'.heap[e]? = some (.cells (av 12 (ls [.pointer (some ⟨wd, 0, none⟩), .func (.func 49) #[] #[.pointer (some ⟨md, 0, none⟩)], .int .u64 (rc : Int), .int .u64 (ct : Int), .int .u64 (rk : Int), .int .u64 (lf : Int), .int .i64 (sz : Int), .string ⟨#[]⟩, .string ⟨#[]⟩, .bool (fi), .bool (su), .int .u64 (nx : Int)])) 89) := by
  go_enter Tryz.func52, Tryz.ntmps52
  have M : Mem ⟨w, [e]⟩ [⟨e, .cells (av 12 (ls [.pointer (some ⟨wd, 0, none⟩), .func (.func 49) #[] #[.pointer (some ⟨md, 0, none⟩)], .int .u64 (rc : Int), .int .u64 (ct : Int), .int .u64 (rk : Int), .int .u64 (lf : Int), .int .i64 (sz : Int), .string sd, .string rv, .bool (fi), .bool (su), .int .u64 (nx : Int)])) 89⟩] w := Mem.startT hL hT
  refine rg_lit ?_
  refine rV 4 ?_
  refine pP M 0 rfl 7 (.string ⟨#[]⟩) (ls [.pointer (some ⟨wd, 0, none⟩), .func (.func 49) #[] #[.pointer (some ⟨md, 0, none⟩)], .int .u64 (rc : Int), .int .u64 (ct : Int), .int .u64 (rk : Int), .int .u64 (lf : Int), .int .i64 (sz : Int), .string ⟨#[]⟩, .string rv, .bool (fi), .bool (su), .int .u64 (nx : Int)]) (by decide) (put_ls _ 7 _ _ rfl) fun u1 M => ?_
  replace M : Mem ⟨w, [e]⟩ [⟨e, .cells (av 12 (ls [.pointer (some ⟨wd, 0, none⟩), .func (.func 49) #[] #[.pointer (some ⟨md, 0, none⟩)], .int .u64 (rc : Int), .int .u64 (ct : Int), .int .u64 (rk : Int), .int .u64 (lf : Int), .int .i64 (sz : Int), .string ⟨#[]⟩, .string rv, .bool (fi), .bool (su), .int .u64 (nx : Int)])) 89⟩] u1 := M
  refine rV 2 ?_
  refine pP M 0 rfl 8 (.string ⟨#[]⟩) (ls [.pointer (some ⟨wd, 0, none⟩), .func (.func 49) #[] #[.pointer (some ⟨md, 0, none⟩)], .int .u64 (rc : Int), .int .u64 (ct : Int), .int .u64 (rk : Int), .int .u64 (lf : Int), .int .i64 (sz : Int), .string ⟨#[]⟩, .string ⟨#[]⟩, .bool (fi), .bool (su), .int .u64 (nx : Int)]) (by decide) (put_ls _ 8 _ _ rfl) fun u2 M => ?_
  replace M : Mem ⟨w, [e]⟩ [⟨e, .cells (av 12 (ls [.pointer (some ⟨wd, 0, none⟩), .func (.func 49) #[] #[.pointer (some ⟨md, 0, none⟩)], .int .u64 (rc : Int), .int .u64 (ct : Int), .int .u64 (rk : Int), .int .u64 (lf : Int), .int .i64 (sz : Int), .string ⟨#[]⟩, .string ⟨#[]⟩, .bool (fi), .bool (su), .int .u64 (nx : Int)])) 89⟩] u2 := M
  refine pl_nil ?_
  exact bodyPost_end (v := .tuple #[]) (results_none Tryz.results52 _ _) (by kernel_rfl) ⟨rfl, M.old, M.get 0 rfl⟩

set_option maxRecDepth 100000 in
set_option maxHeartbeats 4000000 in
set_option linter.unusedSimpArgs false in
theorem c_there {p e : Nat} (w : World) (hL : Laid w)  (hT : There w [⟨p, .cells (av 1 (ls [.pointer (some ⟨e, 0, none⟩)])) 91⟩]) :
    Calls Tryz.prog 30 #[.pointer (some ⟨p, 0, none⟩)] w fun r w' => r = .returned (.bool true) ∧ Below w.heap.size w w' := by
  go_enter Tryz.func30, Tryz.ntmps30
  have M : Mem ⟨w, [p]⟩ [⟨p, .cells (av 1 (ls [.pointer (some ⟨e, 0, none⟩)])) 91⟩] w := Mem.startT hL hT
  refine sq ?_
  refine sR ?_
  refine rV 6 ?_
  refine pl_cell M (want_on 2 true rfl 5 rfl (by kernel_rfl)) (some 9) rfl 85 _ rfl p 0 (by kernel_rfl) (.pointer (some ⟨e, 0, none⟩)) (fun _ => by kernel_rfl) (fun w M => M.cell 0 rfl (by decide) rfl) ?_
  refine rV 3 ?_
  refine nT ?_
  refine wp_ret ?_
  exact bodyPost_ret (v := .bool true) (results_tmp1 Tryz.results30 _ _ _ (by kernel_rfl)) (by kernel_rfl) ⟨rfl, ro_T hT M⟩

set_option maxRecDepth 100000 in
set_option maxHeartbeats 4000000 in
set_option linter.unusedSimpArgs false in
theorem n_there  (w : World) (hL : Laid w)  :
    Calls Tryz.prog 30 #[.pointer none] w fun r w' => r = .returned (.bool false) ∧ Below w.heap.size w w' := by
  go_enter Tryz.func30, Tryz.ntmps30
  have M := Mem.start hL
  refine sq ?_
  refine sq ?_
  refine wp_ret ?_
  exact b1 M


end Go.Proofs.YtenafinbaanicaaGreatDoor
namespace Go.Proofs.YtenafinbaanicaaGreatDoor
open Go.RowKit
set_option maxRecDepth 100000

/-- What one end has. -/
structure TS where
  rc : Nat
  ct : Nat
  rk : Nat
  lf : Nat
  sz : Nat
  nx : Nat
  mt : Nat
  sd : ByteArray
  rv : ByteArray
  fi : Bool
  su : Bool
  q : List Nat
/-- The blocks of a tunnel. -/
def tB (x : TS) (p e wd k md h : Nat) (m : Nat → Int) : List Blk := [⟨p, .cells (av 1 (ls [.pointer (some ⟨e, 0, none⟩)])) 91⟩, ⟨e, .cells (av 12 (ls [.pointer (some ⟨wd, 0, none⟩), .func (.func 49) #[] #[.pointer (some ⟨md, 0, none⟩)], .int .u64 ((x.rc : Nat) : Int), .int .u64 ((x.ct : Nat) : Int), .int .u64 ((x.rk : Nat) : Int), .int .u64 ((x.lf : Nat) : Int), .int .i64 ((x.sz : Nat) : Int), .string x.sd, .string x.rv, .bool (x.fi), .bool (x.su), .int .u64 ((x.nx : Nat) : Int)])) 89⟩, ⟨wd, .cells (av 3 (ls [.int .u64 ((x.sz : Nat) : Int), .int .u64 (h : Int), .slice (some ⟨k, 0, none⟩) (nW x.sz) (nW x.sz)])) 121⟩, ⟨k, .cells (av (nW x.sz) (w64 m)) 24⟩, ⟨md, .cells (av 1 (ls [.int .u64 ((x.mt : Nat) : Int)])) 24⟩]
structure IsT (p : Nat) (x : TS) (T : List Blk) : Prop where
  out : ∃ e wd k md h m, T = tB x p e wd k md h m ∧ Inv x.sz h m x.q ∧ h < 18446744073709551616
structure TS.Ok (x : TS) : Prop where
  s1 : 1 ≤ x.sz
  s2 : x.sz ≤ 4096
  c : x.ct ≤ 1152921504606846976
  n : x.nx ≤ x.ct
def TS.ov (x : TS) (n : Nat) : Bool := ovB x.sd x.lf x.mt n
def TS.wn (x : TS) (n : Nat) : Bool := wnB x.sd x.fi x.rc x.rk x.lf x.nx x.mt n
def TS.sF (x : TS) (n : Nat) : Int := slF x.sd x.su x.ct x.lf x.nx x.mt n
def TS.sE (x : TS) (n : Nat) (s : ByteArray) : Int := if x.sF n = 0 then slZ x.sd x.nx s else x.sF n
def TS.sN (x : TS) (n : Nat) (s : ByteArray) : Nat := if x.sF n = 0 then slN x.sd x.nx s else 0
def TS.sC (x : TS) (n : Nat) (s : ByteArray) : ByteArray := if x.sF n = 0 then slC x.sd x.nx s else ⟨#[]⟩
def TS.sX (x : TS) (n : Nat) (s : ByteArray) : TS := if x.sF n = 0 then { x with nx := slX x.sd x.nx s } else x
def TS.oF (x : TS) (n i : Nat) : Int := opF x.sd x.ct x.lf x.sz x.mt x.q n i
def TS.oE (x : TS) (n i : Nat) (c : ByteArray) : Int := if x.oF n i = 0 then opZ x.rv i c else x.oF n i
def TS.oC (x : TS) (n i : Nat) (c : ByteArray) : ByteArray := if x.oF n i = 0 then opC x.rv i c else ⟨#[]⟩
def TS.oX (x : TS) (n i : Nat) (c : ByteArray) : TS := if x.oF n i = 0 then { x with su := opU x.su x.rv i c, q := opQ x.sz x.q x.rv i c } else x
def TS.wX (x : TS) : TS := { x with sd := ⟨#[]⟩, rv := ⟨#[]⟩ }
/-- Whether limits may be, but for the window's. -/
def mbB (rc ct rk lf : Nat) : Bool := decide (1 ≤ rc ∧ rc ≤ ct ∧ ct ≤ 1152921504606846976 ∧ 1 ≤ rk ∧ rk ≤ lf ∧ lf ≤ 1152921504606846976)
set_option maxRecDepth 100000 in
set_option maxHeartbeats 4000000 in
set_option linter.unusedSimpArgs false in
theorem c_mayBe {rc ct rk lf : Nat} {z : Int} (w : World) (hL : Laid w)  :
    Calls Tryz.prog 23 #[.agg (av 5 (ls [.int .u64 (rc : Int), .int .u64 (ct : Int), .int .u64 (rk : Int), .int .u64 (lf : Int), .int .i64 z]))] w fun r w' => r = .returned (.bool (mbB rc ct rk lf)) ∧ Below w.heap.size w w' := by
  go_enter Tryz.func23, Tryz.ntmps23
  have M := Mem.start hL
  refine sR ?_
  refine pN M 1 (.cells (av 5 (ls [.int .u64 (rc : Int), .int .u64 (ct : Int), .int .u64 (rk : Int), .int .u64 (lf : Int), .int .i64 z])) 26) fun g1 u1 M => ?_
  replace M : Mem ⟨w, []⟩ [⟨g1, .cells (av 5 (ls [.int .u64 (rc : Int), .int .u64 (ct : Int), .int .u64 (rk : Int), .int .u64 (lf : Int), .int .i64 z])) 26⟩] u1 := M
  refine rV 1 ?_
  refine nT ?_
  refine sR ?_
  refine rV 1 ?_
  refine ZE M 4 0 0 ?_
  by_cases c0 : (rc : Int) < 1
  · skip
    refine ZF 5 (1 ≤ (rc : Int)) ?_
    refine rV 30 ?_
    refine nT ?_
    refine wp_ret ?_
    have e0 : mbB rc ct rk lf = false := decide_eq_false (by omega)
    exact bodyPost_ret (v := .bool false) (results_tmp1 Tryz.results23 _ _ _ (by kernel_rfl)) (by kernel_rfl) ⟨by rw [e0], below_grown M.old⟩
  · skip
    refine ZT 5 (1 ≤ (rc : Int)) ?_
    refine rV 2 ?_
    refine pl_cell M (want_on 3 true rfl 6 rfl (by kernel_rfl)) (some 8) rfl 24 _ rfl g1 0 (by kernel_rfl) (.int .u64 (rc : Int)) (fun _ => by kernel_rfl) (fun w M => M.cell 0 rfl (by decide) rfl) ?_
    refine rV 1 ?_
    refine pl_cell M (want_on 3 true rfl 6 rfl (by kernel_rfl)) (some 10) rfl 24 _ rfl g1 1 (by kernel_rfl) (.int .u64 (ct : Int)) (fun _ => by kernel_rfl) (fun w M => M.cell 0 rfl (by decide) rfl) ?_
    by_cases c1 : (ct : Int) < (rc : Int)
    · skip
      refine pl_val (want_on 3 true rfl 6 rfl (by kernel_rfl)) (some 11) rfl (.bool false) (fun w => Eq.trans (b := .ok (.value (.bool (decide ((rc : Int) ≤ (ct : Int))))) w) (by kernel_rfl) (by rw [decide_eq_false (by omega)])) ?_
      refine rV 24 ?_
      refine nT ?_
      refine wp_ret ?_
      have e0 : mbB rc ct rk lf = false := decide_eq_false (by omega)
      exact bodyPost_ret (v := .bool false) (results_tmp1 Tryz.results23 _ _ _ (by kernel_rfl)) (by kernel_rfl) ⟨by rw [e0], below_grown M.old⟩
    · skip
      refine pl_val (want_on 3 true rfl 6 rfl (by kernel_rfl)) (some 11) rfl (.bool true) (fun w => Eq.trans (b := .ok (.value (.bool (decide ((rc : Int) ≤ (ct : Int))))) w) (by kernel_rfl) (by rw [decide_eq_true (by omega)])) ?_
      refine rV 3 ?_
      refine pl_cell M (want_on 10 true rfl 13 rfl (by kernel_rfl)) (some 15) rfl 24 _ rfl g1 1 (by kernel_rfl) (.int .u64 (ct : Int)) (fun _ => by kernel_rfl) (fun w M => M.cell 0 rfl (by decide) rfl) ?_
      by_cases c2 : 1152921504606846976 < (ct : Int)
      · skip
        refine pl_val (want_on 10 true rfl 13 rfl (by kernel_rfl)) (some 16) rfl (.bool false) (fun w => Eq.trans (b := .ok (.value (.bool (decide ((ct : Int) ≤ 1152921504606846976)))) w) (by kernel_rfl) (by rw [decide_eq_false (by omega)])) ?_
        refine rV 19 ?_
        refine nT ?_
        refine wp_ret ?_
        have e0 : mbB rc ct rk lf = false := decide_eq_false (by omega)
        exact bodyPost_ret (v := .bool false) (results_tmp1 Tryz.results23 _ _ _ (by kernel_rfl)) (by kernel_rfl) ⟨by rw [e0], below_grown M.old⟩
      · skip
        refine pl_val (want_on 10 true rfl 13 rfl (by kernel_rfl)) (some 16) rfl (.bool true) (fun w => Eq.trans (b := .ok (.value (.bool (decide ((ct : Int) ≤ 1152921504606846976)))) w) (by kernel_rfl) (by rw [decide_eq_true (by omega)])) ?_
        refine rV 3 ?_
        refine pl_cell M (want_on 15 true rfl 18 rfl (by kernel_rfl)) (some 20) rfl 24 _ rfl g1 2 (by kernel_rfl) (.int .u64 (rk : Int)) (fun _ => by kernel_rfl) (fun w M => M.cell 0 rfl (by decide) rfl) ?_
        by_cases c3 : (rk : Int) < 1
        · skip
          refine pl_val (want_on 15 true rfl 18 rfl (by kernel_rfl)) (some 21) rfl (.bool false) (fun w => Eq.trans (b := .ok (.value (.bool (decide (1 ≤ (rk : Int))))) w) (by kernel_rfl) (by rw [decide_eq_false (by omega)])) ?_
          refine rV 14 ?_
          refine nT ?_
          refine wp_ret ?_
          have e0 : mbB rc ct rk lf = false := decide_eq_false (by omega)
          exact bodyPost_ret (v := .bool false) (results_tmp1 Tryz.results23 _ _ _ (by kernel_rfl)) (by kernel_rfl) ⟨by rw [e0], below_grown M.old⟩
        · skip
          refine pl_val (want_on 15 true rfl 18 rfl (by kernel_rfl)) (some 21) rfl (.bool true) (fun w => Eq.trans (b := .ok (.value (.bool (decide (1 ≤ (rk : Int))))) w) (by kernel_rfl) (by rw [decide_eq_true (by omega)])) ?_
          refine rV 3 ?_
          refine pl_cell M (want_on 20 true rfl 23 rfl (by kernel_rfl)) (some 25) rfl 24 _ rfl g1 2 (by kernel_rfl) (.int .u64 (rk : Int)) (fun _ => by kernel_rfl) (fun w M => M.cell 0 rfl (by decide) rfl) ?_
          refine rV 1 ?_
          refine pl_cell M (want_on 20 true rfl 23 rfl (by kernel_rfl)) (some 27) rfl 24 _ rfl g1 3 (by kernel_rfl) (.int .u64 (lf : Int)) (fun _ => by kernel_rfl) (fun w M => M.cell 0 rfl (by decide) rfl) ?_
          by_cases c4 : (lf : Int) < (rk : Int)
          · skip
            refine pl_val (want_on 20 true rfl 23 rfl (by kernel_rfl)) (some 28) rfl (.bool false) (fun w => Eq.trans (b := .ok (.value (.bool (decide ((rk : Int) ≤ (lf : Int))))) w) (by kernel_rfl) (by rw [decide_eq_false (by omega)])) ?_
            refine rV 7 ?_
            refine nT ?_
            refine wp_ret ?_
            have e0 : mbB rc ct rk lf = false := decide_eq_false (by omega)
            exact bodyPost_ret (v := .bool false) (results_tmp1 Tryz.results23 _ _ _ (by kernel_rfl)) (by kernel_rfl) ⟨by rw [e0], below_grown M.old⟩
          · skip
            refine pl_val (want_on 20 true rfl 23 rfl (by kernel_rfl)) (some 28) rfl (.bool true) (fun w => Eq.trans (b := .ok (.value (.bool (decide ((rk : Int) ≤ (lf : Int))))) w) (by kernel_rfl) (by rw [decide_eq_true (by omega)])) ?_
            refine rV 3 ?_
            refine pl_cell M (want_on 27 true rfl 30 rfl (by kernel_rfl)) (some 32) rfl 24 _ rfl g1 3 (by kernel_rfl) (.int .u64 (lf : Int)) (fun _ => by kernel_rfl) (fun w M => M.cell 0 rfl (by decide) rfl) ?_
            by_cases c5 : 1152921504606846976 < (lf : Int)
            · skip
              refine pl_val (want_on 27 true rfl 30 rfl (by kernel_rfl)) (some 33) rfl (.bool false) (fun w => Eq.trans (b := .ok (.value (.bool (decide ((lf : Int) ≤ 1152921504606846976)))) w) (by kernel_rfl) (by rw [decide_eq_false (by omega)])) ?_
              refine rV 2 ?_
              refine nT ?_
              refine wp_ret ?_
              have e0 : mbB rc ct rk lf = false := decide_eq_false (by omega)
              exact bodyPost_ret (v := .bool false) (results_tmp1 Tryz.results23 _ _ _ (by kernel_rfl)) (by kernel_rfl) ⟨by rw [e0], below_grown M.old⟩
            · skip
              refine pl_val (want_on 27 true rfl 30 rfl (by kernel_rfl)) (some 33) rfl (.bool true) (fun w => Eq.trans (b := .ok (.value (.bool (decide ((lf : Int) ≤ 1152921504606846976)))) w) (by kernel_rfl) (by rw [decide_eq_true (by omega)])) ?_
              refine rV 2 ?_
              refine nT ?_
              refine wp_ret ?_
              have e0 : mbB rc ct rk lf = true := decide_eq_true (by omega)
              exact bodyPost_ret (v := .bool true) (results_tmp1 Tryz.results23 _ _ _ (by kernel_rfl)) (by kernel_rfl) ⟨by rw [e0], below_grown M.old⟩

set_option maxRecDepth 100000 in
set_option maxHeartbeats 4000000 in
set_option linter.unusedSimpArgs false in
theorem c_ageSince {mt : Nat} (w : World) (hL : Laid w)  :
    Calls Tryz.prog 25 #[.int .u64 (mt : Int)] w fun r w' => ∃ md, r = .returned (.func (.func 49) #[] #[.pointer (some ⟨md, 0, none⟩)]) ∧ w.heap.size ≤ md ∧ w'.heap[md]? = some (.cells (av 1 (ls [.int .u64 (mt : Int)])) 24) ∧ Below w.heap.size w w' := by
  go_enter Tryz.func25, Tryz.ntmps25
  have M := Mem.start hL
  refine sR ?_
  refine pN M 1 (.cells (av 1 (ls [.int .u64 (mt : Int)])) 24) fun g1 u1 M => ?_
  replace M : Mem ⟨w, []⟩ [⟨g1, .cells (av 1 (ls [.int .u64 (mt : Int)])) 24⟩] u1 := M
  refine rV 1 ?_
  refine nT ?_
  refine sq ?_
  refine wp_ret ?_
  exact bodyPost_ret (v := .func (.func 49) #[] #[.pointer (some ⟨g1, 0, none⟩)]) (results_tmp1 Tryz.results25 _ _ _ (by kernel_rfl)) (by kernel_rfl) ⟨_, rfl, ((M.ge _ (List.mem_singleton.2 rfl)).resolve_right (by simp)), M.get 0 rfl, below_grown M.old⟩

set_option maxRecDepth 100000 in
set_option maxHeartbeats 4000000 in
set_option linter.unusedSimpArgs false in
theorem c_TNewE {y0 y1 sd rv y4 : ByteArray} {fi : Bool} {mt rc ct rk lf : Nat} {z : Int} (hz : sd.size = 32 → rv.size = 32 → mbB rc ct rk lf = true → z < 1 ∨ 4096 < z) (w : World) (hL : Laid w)  :
    Calls Tryz.prog 7 #[.agg (av 5 (ls [.string y0, .string y1, .string sd, .string rv, .string y4])), .bool (fi), .int .u64 (mt : Int), .agg (av 5 (ls [.int .u64 (rc : Int), .int .u64 (ct : Int), .int .u64 (rk : Int), .int .u64 (lf : Int), .int .i64 z]))] w fun r w' => r = .returned (.tuple #[.pointer none, .int .i64 2]) ∧ Below w.heap.size w w' := by
  go_enter Tryz.func7, Tryz.ntmps7
  have M := Mem.start hL
  refine sR ?_
  refine pN M 4 (.cells (av 5 (ls [.string y0, .string y1, .string sd, .string rv, .string y4])) 23) fun g1 u1 M => ?_
  replace M : Mem ⟨w, []⟩ [⟨g1, .cells (av 5 (ls [.string y0, .string y1, .string sd, .string rv, .string y4])) 23⟩] u1 := M
  refine pN M 7 (.cells (av 5 (ls [.int .u64 (rc : Int), .int .u64 (ct : Int), .int .u64 (rk : Int), .int .u64 (lf : Int), .int .i64 z])) 26) fun g2 u2 M => ?_
  replace M : Mem ⟨w, []⟩ [⟨g1, .cells (av 5 (ls [.string y0, .string y1, .string sd, .string rv, .string y4])) 23⟩, ⟨g2, .cells (av 5 (ls [.int .u64 (rc : Int), .int .u64 (ct : Int), .int .u64 (rk : Int), .int .u64 (lf : Int), .int .i64 z])) 26⟩] u2 := M
  refine rV 2 ?_
  refine nT ?_
  refine wp_seq ?_
  refine sR ?_
  refine rV 1 ?_
  refine ZE M 13 0 2 ?_
  refine rV 1 ?_
  by_cases c0 : (sd.size : Int) = 32
  · skip
    refine pH 15 (.bool false) (jD ((sd.size : Int) = 32) (c0)) ?_
    refine rV 2 ?_
    refine pl_cell M (want_on 4 false rfl 16 rfl (by kernel_rfl)) (some 18) rfl 9 _ rfl g1 3 (by kernel_rfl) (.string rv) (fun _ => by kernel_rfl) (fun w M => M.cell 0 rfl (by decide) rfl) ?_
    refine rV 1 ?_
    by_cases c1 : (rv.size : Int) = 32
    · skip
      refine pl_val (want_on 4 false rfl 16 rfl (by kernel_rfl)) (some 20) rfl (.bool false) (fun w => Eq.trans (b := .ok (.value (.bool (!(decide ((rv.size : Int) = 32))))) w) (by kernel_rfl) (by rw [decide_eq_true (c1)]; rfl)) ?_
      refine rV 2 ?_
      refine pl_load M (want_on 10 false rfl 22 rfl (by kernel_rfl)) (some 23) rfl 26 _ rfl 1 g2 0 (by kernel_rfl) 5 26 (ls [.int .u64 (rc : Int), .int .u64 (ct : Int), .int .u64 (rk : Int), .int .u64 (lf : Int), .int .i64 z]) rfl 5 (ls [.int .u64 (rc : Int), .int .u64 (ct : Int), .int .u64 (rk : Int), .int .u64 (lf : Int), .int .i64 z]) (fun j _ => by rw [Nat.zero_add]) (by decide) _ Tryz.underlying26 rfl inz26 ?_
      rcases Bool.eq_false_or_eq_true (mbB rc ct rk lf) with c2 | c2
      · skip
        refine pl_call M (want_on 10 false rfl 22 rfl (by kernel_rfl)) (some 24) rfl 23 #[.agg (av 5 (ls [.int .u64 (rc : Int), .int .u64 (ct : Int), .int .u64 (rk : Int), .int .u64 (lf : Int), .int .i64 z]))] (.bool true) (fun _ => by kernel_rfl) (fun w M => call_val (c_mayBe w M.laid) (congrArg Value.bool c2)) fun u3 M => ?_
        refine rV 2 ?_
        refine nT ?_
        refine wp_cond_false (by kernel_rfl) ?_
        refine wp_skip ?_
        refine au_then ?_
        refine sR ?_
        refine rV 1 ?_
        refine ZE M 29 1 4 ?_
        refine ZC M 30 (fun w M => c_NewE z (hz (by omega) (by omega) c2) w M.laid) fun u4 M => ?_
        refine rV 5 ?_
        refine nT ?_
        refine wp_seq ?_
        refine sq ?_
        refine wp_cond_true (by kernel_rfl) ?_
        refine sq ?_
        refine wp_ret ?_
        refine au_then_ret ?_
        exact b1 M
      · skip
        refine pl_call M (want_on 10 false rfl 22 rfl (by kernel_rfl)) (some 24) rfl 23 #[.agg (av 5 (ls [.int .u64 (rc : Int), .int .u64 (ct : Int), .int .u64 (rk : Int), .int .u64 (lf : Int), .int .i64 z]))] (.bool false) (fun _ => by kernel_rfl) (fun w M => call_val (c_mayBe w M.laid) (congrArg Value.bool c2)) fun u3 M => ?_
        refine rV 2 ?_
        refine nT ?_
        refine wp_cond_true (by kernel_rfl) ?_
        refine sq ?_
        refine wp_ret ?_
        refine au_then_ret ?_
        exact b1 M
    · skip
      refine pl_val (want_on 4 false rfl 16 rfl (by kernel_rfl)) (some 20) rfl (.bool true) (fun w => Eq.trans (b := .ok (.value (.bool (!(decide ((rv.size : Int) = 32))))) w) (by kernel_rfl) (by rw [decide_eq_false (c1)]; rfl)) ?_
      refine rV 6 ?_
      refine nT ?_
      refine wp_cond_true (by kernel_rfl) ?_
      refine sq ?_
      refine wp_ret ?_
      refine au_then_ret ?_
      exact b1 M
  · skip
    refine pH 15 (.bool true) (jU ((sd.size : Int) = 32) (c0)) ?_
    refine rV 11 ?_
    refine nT ?_
    refine wp_cond_true (by kernel_rfl) ?_
    refine sq ?_
    refine wp_ret ?_
    refine au_then_ret ?_
    exact b1 M

set_option maxRecDepth 100000 in
set_option maxHeartbeats 4000000 in
set_option linter.unusedSimpArgs false in
theorem a_New {y0 y1 sd rv y4 : ByteArray} {fi : Bool} {mt rc ct rk lf : Nat} {s : Nat} (h1 : sd.size = 32) (h2 : rv.size = 32) (h3 : mbB rc ct rk lf = true) (hs : 1 ≤ s) (hs4 : s ≤ 4096) (w : World) (hL : Laid w)  :
    Calls Tryz.prog 7 #[.agg (av 5 (ls [.string y0, .string y1, .string sd, .string rv, .string y4])), .bool (fi), .int .u64 (mt : Int), .agg (av 5 (ls [.int .u64 (rc : Int), .int .u64 (ct : Int), .int .u64 (rk : Int), .int .u64 (lf : Int), .int .i64 (s : Int)]))] w fun r w' => ∃ x : Nat × List Blk, r = .returned (.tuple #[.pointer (some ⟨x.1, 0, none⟩), .int .i64 0]) ∧ IsT x.1 ⟨rc, ct, rk, lf, s, 0, mt, sd, rv, fi, fi, []⟩ x.2 ∧ OkT w w' [] x.2 := by
  go_enter Tryz.func7, Tryz.ntmps7
  have M := Mem.start hL
  refine sR ?_
  refine pN M 4 (.cells (av 5 (ls [.string y0, .string y1, .string sd, .string rv, .string y4])) 23) fun g1 u1 M => ?_
  replace M : Mem ⟨w, []⟩ [⟨g1, .cells (av 5 (ls [.string y0, .string y1, .string sd, .string rv, .string y4])) 23⟩] u1 := M
  refine pN M 7 (.cells (av 5 (ls [.int .u64 (rc : Int), .int .u64 (ct : Int), .int .u64 (rk : Int), .int .u64 (lf : Int), .int .i64 (s : Int)])) 26) fun g2 u2 M => ?_
  replace M : Mem ⟨w, []⟩ [⟨g1, .cells (av 5 (ls [.string y0, .string y1, .string sd, .string rv, .string y4])) 23⟩, ⟨g2, .cells (av 5 (ls [.int .u64 (rc : Int), .int .u64 (ct : Int), .int .u64 (rk : Int), .int .u64 (lf : Int), .int .i64 (s : Int)])) 26⟩] u2 := M
  refine rV 2 ?_
  refine nT ?_
  refine wp_seq ?_
  refine sR ?_
  refine rV 1 ?_
  refine ZE M 13 0 2 ?_
  refine rV 1 ?_
  by_cases c0 : (sd.size : Int) = 32
  · skip
    refine pH 15 (.bool false) (jD ((sd.size : Int) = 32) (c0)) ?_
    refine rV 2 ?_
    refine pl_cell M (want_on 4 false rfl 16 rfl (by kernel_rfl)) (some 18) rfl 9 _ rfl g1 3 (by kernel_rfl) (.string rv) (fun _ => by kernel_rfl) (fun w M => M.cell 0 rfl (by decide) rfl) ?_
    refine rV 1 ?_
    by_cases c1 : (rv.size : Int) = 32
    · skip
      refine pl_val (want_on 4 false rfl 16 rfl (by kernel_rfl)) (some 20) rfl (.bool false) (fun w => Eq.trans (b := .ok (.value (.bool (!(decide ((rv.size : Int) = 32))))) w) (by kernel_rfl) (by rw [decide_eq_true (c1)]; rfl)) ?_
      refine rV 2 ?_
      refine pl_load M (want_on 10 false rfl 22 rfl (by kernel_rfl)) (some 23) rfl 26 _ rfl 1 g2 0 (by kernel_rfl) 5 26 (ls [.int .u64 (rc : Int), .int .u64 (ct : Int), .int .u64 (rk : Int), .int .u64 (lf : Int), .int .i64 (s : Int)]) rfl 5 (ls [.int .u64 (rc : Int), .int .u64 (ct : Int), .int .u64 (rk : Int), .int .u64 (lf : Int), .int .i64 (s : Int)]) (fun j _ => by rw [Nat.zero_add]) (by decide) _ Tryz.underlying26 rfl inz26 ?_
      refine pl_call M (want_on 10 false rfl 22 rfl (by kernel_rfl)) (some 24) rfl 23 #[.agg (av 5 (ls [.int .u64 (rc : Int), .int .u64 (ct : Int), .int .u64 (rk : Int), .int .u64 (lf : Int), .int .i64 (s : Int)]))] (.bool true) (fun _ => by kernel_rfl) (fun w M => call_val (c_mayBe w M.laid) (congrArg Value.bool h3)) fun u3 M => ?_
      refine rV 2 ?_
      refine nT ?_
      refine wp_cond_false (by kernel_rfl) ?_
      refine wp_skip ?_
      refine au_then ?_
      refine sR ?_
      refine rV 1 ?_
      refine ZE M 29 1 4 ?_
      refine pl_callM M (want_no rfl) (some 30) rfl 24 #[.int .i64 (s : Int)] [⟨g1, .cells (av 5 (ls [.string y0, .string y1, .string sd, .string rv, .string y4])) 23⟩, ⟨g2, .cells (av 5 (ls [.int .u64 (rc : Int), .int .u64 (ct : Int), .int .u64 (rk : Int), .int .u64 (lf : Int), .int .i64 (s : Int)])) 26⟩] [] [] (by simp only [List.append_assoc, List.cons_append, List.nil_append, List.append_nil]) (fun x : Nat × Nat => .tuple #[.pointer (some ⟨x.1, 0, none⟩), .int .i64 0]) (fun x : Nat × Nat => [⟨x.1, .cells (av 3 (ls [.int .u64 (s : Int), .int .u64 0, .slice (some ⟨x.2, 0, none⟩) (nW s) (nW s)])) 121⟩, ⟨x.2, .cells (av (nW s) (w64 (fun _ => 0))) 24⟩]) (fun x : Nat × Nat => True) (fun _ => by kernel_rfl) (fun w hL hT => c_WNew s hs hs4 w hL) ?_
      rintro ⟨wd, k⟩ u4 - M
      replace M : Mem ⟨w, []⟩ [⟨g1, .cells (av 5 (ls [.string y0, .string y1, .string sd, .string rv, .string y4])) 23⟩, ⟨g2, .cells (av 5 (ls [.int .u64 (rc : Int), .int .u64 (ct : Int), .int .u64 (rk : Int), .int .u64 (lf : Int), .int .i64 (s : Int)])) 26⟩, ⟨wd, .cells (av 3 (ls [.int .u64 (s : Int), .int .u64 0, .slice (some ⟨k, 0, none⟩) (nW s) (nW s)])) 121⟩, ⟨k, .cells (av (nW s) (w64 (fun _ => 0))) 24⟩] u4 := by simpa only [List.append_assoc, List.cons_append, List.nil_append, List.append_nil] using M
      refine rV 5 ?_
      refine nT ?_
      refine wp_seq ?_
      refine sq ?_
      refine wp_cond_false (by kernel_rfl) ?_
      refine wp_skip ?_
      refine au_then ?_
      refine wp_seq ?_
      refine rg_held M [⟨g1, .cells (av 5 (ls [.string y0, .string y1, .string sd, .string rv, .string y4])) 23⟩, ⟨g2, .cells (av 5 (ls [.int .u64 (rc : Int), .int .u64 (ct : Int), .int .u64 (rk : Int), .int .u64 (lf : Int), .int .i64 (s : Int)])) 26⟩, ⟨wd, .cells (av 3 (ls [.int .u64 (s : Int), .int .u64 0, .slice (some ⟨k, 0, none⟩) (nW s) (nW s)])) 121⟩, ⟨k, .cells (av (nW s) (w64 (fun _ => 0))) 24⟩] 15 rfl (by kernel_rfl) (by kernel_rfl) (fun _ _ d _ _ h => by cases d <;> exact h) fun u5 M => ?_
      replace M : Mem ⟨w, []⟩ [⟨g1, .cells (av 5 (ls [.string y0, .string y1, .string sd, .string rv, .string y4])) 23⟩, ⟨g2, .cells (av 5 (ls [.int .u64 (rc : Int), .int .u64 (ct : Int), .int .u64 (rk : Int), .int .u64 (lf : Int), .int .i64 (s : Int)])) 26⟩, ⟨wd, .cells (av 3 (ls [.int .u64 (s : Int), .int .u64 0, .slice (some ⟨k, 0, none⟩) (nW s) (nW s)])) 121⟩, ⟨k, .cells (av (nW s) (w64 (fun _ => 0))) 24⟩] u5 := M
      refine qV M 0 36 (.pointer (some ⟨wd, 0, none⟩)) ?_
      refine qV M 1 37 (.int .u64 (mt : Int)) ?_
      refine hl_load M 3 rfl (by decide) (by kernel_rfl) (by kernel_rfl) (want_no rfl) (some 39) rfl 26 _ rfl 1 g2 0 (by kernel_rfl) 5 26 (ls [.int .u64 (rc : Int), .int .u64 (ct : Int), .int .u64 (rk : Int), .int .u64 (lf : Int), .int .i64 (s : Int)]) rfl 5 (ls [.int .u64 (rc : Int), .int .u64 (ct : Int), .int .u64 (rk : Int), .int .u64 (lf : Int), .int .i64 (s : Int)]) (fun j _ => by rw [Nat.zero_add]) (by decide) _ Tryz.underlying26 rfl inz26 ?_
      refine qV M 4 40 (.pointer (some ⟨g1, 2, none⟩)) ?_
      refine hl_cell M 5 rfl (by decide) (by kernel_rfl) (by kernel_rfl) (want_no rfl) (some 41) rfl 9 _ rfl g1 2 (by kernel_rfl) (.string sd) (fun _ => by kernel_rfl) (fun w M => M.cell 0 rfl (by decide) rfl) ?_
      refine qV M 6 42 (.pointer (some ⟨g1, 3, none⟩)) ?_
      refine hl_cell M 7 rfl (by decide) (by kernel_rfl) (by kernel_rfl) (want_no rfl) (some 43) rfl 9 _ rfl g1 3 (by kernel_rfl) (.string rv) (fun _ => by kernel_rfl) (fun w M => M.cell 0 rfl (by decide) rfl) ?_
      refine qV M 8 44 (.bool (fi)) ?_
      refine qV M 9 45 (.bool (fi)) ?_
      refine hl_one 2 (by decide) (by kernel_rfl) rfl ?_
      refine pl_calln M (want_no rfl) (some 38) rfl 25 #[.int .u64 (mt : Int)] (fun g3 => .func (.func 49) #[] #[.pointer (some ⟨g3, 0, none⟩)]) (.cells (av 1 (ls [.int .u64 (mt : Int)])) 24) (fun _ => by kernel_rfl) (fun w M => c_ageSince w M.laid) fun g3 u6 M => ?_
      replace M : Mem ⟨w, []⟩ [⟨g1, .cells (av 5 (ls [.string y0, .string y1, .string sd, .string rv, .string y4])) 23⟩, ⟨g2, .cells (av 5 (ls [.int .u64 (rc : Int), .int .u64 (ct : Int), .int .u64 (rk : Int), .int .u64 (lf : Int), .int .i64 (s : Int)])) 26⟩, ⟨wd, .cells (av 3 (ls [.int .u64 (s : Int), .int .u64 0, .slice (some ⟨k, 0, none⟩) (nW s) (nW s)])) 121⟩, ⟨k, .cells (av (nW s) (w64 (fun _ => 0))) 24⟩, ⟨g3, .cells (av 1 (ls [.int .u64 (mt : Int)])) 24⟩] u6 := M
      refine nT ?_
      refine ⟨(M.drop (.cons_cons _ (.cons_cons _ (.cons_cons _ (.cons_cons _ (.cons _ (.slnil))))))), ?_⟩
      refine qV (M.drop (.cons_cons _ (.cons_cons _ (.cons_cons _ (.cons_cons _ (.cons _ (.slnil))))))) 10 46 (.agg (av 12 (ls [.pointer (some ⟨wd, 0, none⟩), .func (.func 49) #[] #[.pointer (some ⟨g3, 0, none⟩)], .int .u64 (rc : Int), .int .u64 (ct : Int), .int .u64 (rk : Int), .int .u64 (lf : Int), .int .i64 (s : Int), .string sd, .string rv, .bool (fi), .bool (fi), .int .u64 0]))) ?_
      refine hl_one 11 (by decide) (by kernel_rfl) rfl ?_
      refine pN M 47 (.cells (av 12 (ls [.pointer (some ⟨wd, 0, none⟩), .func (.func 49) #[] #[.pointer (some ⟨g3, 0, none⟩)], .int .u64 (rc : Int), .int .u64 (ct : Int), .int .u64 (rk : Int), .int .u64 (lf : Int), .int .i64 (s : Int), .string sd, .string rv, .bool (fi), .bool (fi), .int .u64 0])) 89) fun g4 u7 M => ?_
      replace M : Mem ⟨w, []⟩ [⟨g1, .cells (av 5 (ls [.string y0, .string y1, .string sd, .string rv, .string y4])) 23⟩, ⟨g2, .cells (av 5 (ls [.int .u64 (rc : Int), .int .u64 (ct : Int), .int .u64 (rk : Int), .int .u64 (lf : Int), .int .i64 (s : Int)])) 26⟩, ⟨wd, .cells (av 3 (ls [.int .u64 (s : Int), .int .u64 0, .slice (some ⟨k, 0, none⟩) (nW s) (nW s)])) 121⟩, ⟨k, .cells (av (nW s) (w64 (fun _ => 0))) 24⟩, ⟨g3, .cells (av 1 (ls [.int .u64 (mt : Int)])) 24⟩, ⟨g4, .cells (av 12 (ls [.pointer (some ⟨wd, 0, none⟩), .func (.func 49) #[] #[.pointer (some ⟨g3, 0, none⟩)], .int .u64 (rc : Int), .int .u64 (ct : Int), .int .u64 (rk : Int), .int .u64 (lf : Int), .int .i64 (s : Int), .string sd, .string rv, .bool (fi), .bool (fi), .int .u64 0])) 89⟩] u7 := M
      refine nT ?_
      refine ⟨(M.drop (.cons_cons _ (.cons_cons _ (.cons_cons _ (.cons_cons _ (.cons _ (.cons _ (.slnil)))))))), ?_⟩
      refine qV (M.drop (.cons_cons _ (.cons_cons _ (.cons_cons _ (.cons_cons _ (.cons _ (.cons _ (.slnil)))))))) 12 48 (.agg (av 1 (ls [.pointer (some ⟨g4, 0, none⟩)]))) ?_
      refine hl_one 13 (by decide) (by kernel_rfl) rfl ?_
      refine pN M 49 (.cells (av 1 (ls [.pointer (some ⟨g4, 0, none⟩)])) 91) fun g5 u8 M => ?_
      replace M : Mem ⟨w, []⟩ [⟨g1, .cells (av 5 (ls [.string y0, .string y1, .string sd, .string rv, .string y4])) 23⟩, ⟨g2, .cells (av 5 (ls [.int .u64 (rc : Int), .int .u64 (ct : Int), .int .u64 (rk : Int), .int .u64 (lf : Int), .int .i64 (s : Int)])) 26⟩, ⟨wd, .cells (av 3 (ls [.int .u64 (s : Int), .int .u64 0, .slice (some ⟨k, 0, none⟩) (nW s) (nW s)])) 121⟩, ⟨k, .cells (av (nW s) (w64 (fun _ => 0))) 24⟩, ⟨g3, .cells (av 1 (ls [.int .u64 (mt : Int)])) 24⟩, ⟨g4, .cells (av 12 (ls [.pointer (some ⟨wd, 0, none⟩), .func (.func 49) #[] #[.pointer (some ⟨g3, 0, none⟩)], .int .u64 (rc : Int), .int .u64 (ct : Int), .int .u64 (rk : Int), .int .u64 (lf : Int), .int .i64 (s : Int), .string sd, .string rv, .bool (fi), .bool (fi), .int .u64 0])) 89⟩, ⟨g5, .cells (av 1 (ls [.pointer (some ⟨g4, 0, none⟩)])) 91⟩] u8 := M
      refine nT ?_
      refine ⟨(M.drop (.cons_cons _ (.cons_cons _ (.cons_cons _ (.cons_cons _ (.cons _ (.cons _ (.cons _ (.slnil))))))))), ?_⟩
      refine qV (M.drop (.cons_cons _ (.cons_cons _ (.cons_cons _ (.cons_cons _ (.cons _ (.cons _ (.cons _ (.slnil))))))))) 14 8 (.pointer (some ⟨g5, 0, none⟩)) ?_
      refine hl_end (by kernel_rfl) (by kernel_rfl) rfl ?_
      refine rV 1 ?_
      refine nT ?_
      refine au_then ?_
      refine wp_ret ?_
      exact bodyPost_ret (v := .tuple #[.pointer (some ⟨g5, 0, none⟩), .int .i64 0]) (results_tmp2 Tryz.results7 _ _ _ _ (by kernel_rfl) (by kernel_rfl)) (by kernel_rfl) ⟨(_, _), rfl, ⟨_, _, _, _, _, _, rfl, inv_new s, by decide⟩, Mem.okT0 (T := []) ((M.drop (.cons _ (.cons _ (List.Sublist.refl _)))).perm ((List.perm_append_comm (l₁ := [_, _, _]) (l₂ := [_, _])).trans (.swap _ _ _)))⟩
    · exfalso; omega
  · exfalso; omega

set_option maxRecDepth 100000 in
set_option maxHeartbeats 4000000 in
set_option linter.unusedSimpArgs false in
theorem c_TOver {x : TS} {p e wd k md h : Nat} {m : Nat → Int} {n : Nat} (hn : n < 18446744073709551616) (w : World) (hL : Laid w)  (hT : There w [⟨p, .cells (av 1 (ls [.pointer (some ⟨e, 0, none⟩)])) 91⟩, ⟨e, .cells (av 12 (ls [.pointer (some ⟨wd, 0, none⟩), .func (.func 49) #[] #[.pointer (some ⟨md, 0, none⟩)], .int .u64 ((x.rc : Nat) : Int), .int .u64 ((x.ct : Nat) : Int), .int .u64 ((x.rk : Nat) : Int), .int .u64 ((x.lf : Nat) : Int), .int .i64 ((x.sz : Nat) : Int), .string x.sd, .string x.rv, .bool (x.fi), .bool (x.su), .int .u64 ((x.nx : Nat) : Int)])) 89⟩, ⟨wd, .cells (av 3 (ls [.int .u64 ((x.sz : Nat) : Int), .int .u64 (h : Int), .slice (some ⟨k, 0, none⟩) (nW x.sz) (nW x.sz)])) 121⟩, ⟨k, .cells (av (nW x.sz) (w64 m)) 24⟩, ⟨md, .cells (av 1 (ls [.int .u64 ((x.mt : Nat) : Int)])) 24⟩]) :
    Calls Tryz.prog 10 #[.pointer (some ⟨p, 0, none⟩), .int .u64 (n : Int)] w fun r w' => r = .returned (.bool (x.ov n)) ∧ Below w.heap.size w w' := by
  go_enter Tryz.func10, Tryz.ntmps10
  have M : Mem ⟨w, [p, e, wd, k, md]⟩ [⟨p, .cells (av 1 (ls [.pointer (some ⟨e, 0, none⟩)])) 91⟩, ⟨e, .cells (av 12 (ls [.pointer (some ⟨wd, 0, none⟩), .func (.func 49) #[] #[.pointer (some ⟨md, 0, none⟩)], .int .u64 ((x.rc : Nat) : Int), .int .u64 ((x.ct : Nat) : Int), .int .u64 ((x.rk : Nat) : Int), .int .u64 ((x.lf : Nat) : Int), .int .i64 ((x.sz : Nat) : Int), .string x.sd, .string x.rv, .bool (x.fi), .bool (x.su), .int .u64 ((x.nx : Nat) : Int)])) 89⟩, ⟨wd, .cells (av 3 (ls [.int .u64 ((x.sz : Nat) : Int), .int .u64 (h : Int), .slice (some ⟨k, 0, none⟩) (nW x.sz) (nW x.sz)])) 121⟩, ⟨k, .cells (av (nW x.sz) (w64 m)) 24⟩, ⟨md, .cells (av 1 (ls [.int .u64 ((x.mt : Nat) : Int)])) 24⟩] w := Mem.startT hL hT
  refine sq ?_
  refine sR ?_
  refine rV 1 ?_
  refine pC M 6 30 #[.pointer (some ⟨p, 0, none⟩)] (.bool true) (fun w M => c_there w M.laid (M.there (.cons_cons _ (List.nil_sublist _)))) fun u1 M => ?_
  refine rV 5 ?_
  refine pl_cell M (want_on 3 false rfl 8 rfl (by kernel_rfl)) (some 12) rfl 85 _ rfl p 0 (by kernel_rfl) (.pointer (some ⟨e, 0, none⟩)) (fun _ => by kernel_rfl) (fun w M => M.cell 0 rfl (by decide) rfl) ?_
  refine rV 1 ?_
  rcases Bool.eq_false_or_eq_true (x.ov n) with c0 | c0
  · skip
    refine pl_call M (want_on 3 false rfl 8 rfl (by kernel_rfl)) (some 14) rfl 31 #[.pointer (some ⟨e, 0, none⟩), .int .u64 (n : Int)] (.bool true) (fun _ => by kernel_rfl) (fun w M => call_val (c_over hn w M.laid (M.there (.cons _ (.cons_cons _ (.cons _ (.cons _ (.cons_cons _ (List.nil_sublist _)))))))) (congrArg Value.bool c0)) fun u2 M => ?_
    refine rV 2 ?_
    refine nT ?_
    refine wp_ret ?_
    have e0 : x.ov n = true := c0
    exact bodyPost_ret (v := .bool true) (results_tmp1 Tryz.results10 _ _ _ (by kernel_rfl)) (by kernel_rfl) ⟨by rw [e0], ro_T hT M⟩
  · skip
    refine pl_call M (want_on 3 false rfl 8 rfl (by kernel_rfl)) (some 14) rfl 31 #[.pointer (some ⟨e, 0, none⟩), .int .u64 (n : Int)] (.bool false) (fun _ => by kernel_rfl) (fun w M => call_val (c_over hn w M.laid (M.there (.cons _ (.cons_cons _ (.cons _ (.cons _ (.cons_cons _ (List.nil_sublist _)))))))) (congrArg Value.bool c0)) fun u2 M => ?_
    refine rV 2 ?_
    refine nT ?_
    refine wp_ret ?_
    have e0 : x.ov n = false := c0
    exact bodyPost_ret (v := .bool false) (results_tmp1 Tryz.results10 _ _ _ (by kernel_rfl)) (by kernel_rfl) ⟨by rw [e0], ro_T hT M⟩

set_option maxRecDepth 100000 in
set_option maxHeartbeats 4000000 in
set_option linter.unusedSimpArgs false in
theorem c_TWants {x : TS} {p e wd k md h : Nat} {m : Nat → Int} {n : Nat} (hn : n < 18446744073709551616) (w : World) (hL : Laid w)  (hT : There w [⟨p, .cells (av 1 (ls [.pointer (some ⟨e, 0, none⟩)])) 91⟩, ⟨e, .cells (av 12 (ls [.pointer (some ⟨wd, 0, none⟩), .func (.func 49) #[] #[.pointer (some ⟨md, 0, none⟩)], .int .u64 ((x.rc : Nat) : Int), .int .u64 ((x.ct : Nat) : Int), .int .u64 ((x.rk : Nat) : Int), .int .u64 ((x.lf : Nat) : Int), .int .i64 ((x.sz : Nat) : Int), .string x.sd, .string x.rv, .bool (x.fi), .bool (x.su), .int .u64 ((x.nx : Nat) : Int)])) 89⟩, ⟨wd, .cells (av 3 (ls [.int .u64 ((x.sz : Nat) : Int), .int .u64 (h : Int), .slice (some ⟨k, 0, none⟩) (nW x.sz) (nW x.sz)])) 121⟩, ⟨k, .cells (av (nW x.sz) (w64 m)) 24⟩, ⟨md, .cells (av 1 (ls [.int .u64 ((x.mt : Nat) : Int)])) 24⟩]) :
    Calls Tryz.prog 12 #[.pointer (some ⟨p, 0, none⟩), .int .u64 (n : Int)] w fun r w' => r = .returned (.bool (x.wn n)) ∧ Below w.heap.size w w' := by
  go_enter Tryz.func12, Tryz.ntmps12
  have M : Mem ⟨w, [p, e, wd, k, md]⟩ [⟨p, .cells (av 1 (ls [.pointer (some ⟨e, 0, none⟩)])) 91⟩, ⟨e, .cells (av 12 (ls [.pointer (some ⟨wd, 0, none⟩), .func (.func 49) #[] #[.pointer (some ⟨md, 0, none⟩)], .int .u64 ((x.rc : Nat) : Int), .int .u64 ((x.ct : Nat) : Int), .int .u64 ((x.rk : Nat) : Int), .int .u64 ((x.lf : Nat) : Int), .int .i64 ((x.sz : Nat) : Int), .string x.sd, .string x.rv, .bool (x.fi), .bool (x.su), .int .u64 ((x.nx : Nat) : Int)])) 89⟩, ⟨wd, .cells (av 3 (ls [.int .u64 ((x.sz : Nat) : Int), .int .u64 (h : Int), .slice (some ⟨k, 0, none⟩) (nW x.sz) (nW x.sz)])) 121⟩, ⟨k, .cells (av (nW x.sz) (w64 m)) 24⟩, ⟨md, .cells (av 1 (ls [.int .u64 ((x.mt : Nat) : Int)])) 24⟩] w := Mem.startT hL hT
  refine sq ?_
  refine sR ?_
  refine rV 1 ?_
  refine pC M 6 30 #[.pointer (some ⟨p, 0, none⟩)] (.bool true) (fun w M => c_there w M.laid (M.there (.cons_cons _ (List.nil_sublist _)))) fun u1 M => ?_
  refine rV 4 ?_
  refine pl_cell M (want_on 2 true rfl 7 rfl (by kernel_rfl)) (some 11) rfl 85 _ rfl p 0 (by kernel_rfl) (.pointer (some ⟨e, 0, none⟩)) (fun _ => by kernel_rfl) (fun w M => M.cell 0 rfl (by decide) rfl) ?_
  refine rV 1 ?_
  rcases Bool.eq_false_or_eq_true (x.wn n) with c0 | c0
  · skip
    refine pl_call M (want_on 2 true rfl 7 rfl (by kernel_rfl)) (some 13) rfl 33 #[.pointer (some ⟨e, 0, none⟩), .int .u64 (n : Int)] (.bool true) (fun _ => by kernel_rfl) (fun w M => call_val (c_wants hn w M.laid (M.there (.cons _ (.cons_cons _ (.cons _ (.cons _ (.cons_cons _ (List.nil_sublist _)))))))) (congrArg Value.bool c0)) fun u2 M => ?_
    refine rV 2 ?_
    refine nT ?_
    refine wp_ret ?_
    have e0 : x.wn n = true := c0
    exact bodyPost_ret (v := .bool true) (results_tmp1 Tryz.results12 _ _ _ (by kernel_rfl)) (by kernel_rfl) ⟨by rw [e0], ro_T hT M⟩
  · skip
    refine pl_call M (want_on 2 true rfl 7 rfl (by kernel_rfl)) (some 13) rfl 33 #[.pointer (some ⟨e, 0, none⟩), .int .u64 (n : Int)] (.bool false) (fun _ => by kernel_rfl) (fun w M => call_val (c_wants hn w M.laid (M.there (.cons _ (.cons_cons _ (.cons _ (.cons _ (.cons_cons _ (List.nil_sublist _)))))))) (congrArg Value.bool c0)) fun u2 M => ?_
    refine rV 2 ?_
    refine nT ?_
    refine wp_ret ?_
    have e0 : x.wn n = false := c0
    exact bodyPost_ret (v := .bool false) (results_tmp1 Tryz.results12 _ _ _ (by kernel_rfl)) (by kernel_rfl) ⟨by rw [e0], ro_T hT M⟩

set_option maxRecDepth 100000 in
set_option maxHeartbeats 4000000 in
set_option linter.unusedSimpArgs false in
theorem c_TSure {x : TS} {p e wd k md h : Nat} {m : Nat → Int} (w : World) (hL : Laid w)  (hT : There w [⟨p, .cells (av 1 (ls [.pointer (some ⟨e, 0, none⟩)])) 91⟩, ⟨e, .cells (av 12 (ls [.pointer (some ⟨wd, 0, none⟩), .func (.func 49) #[] #[.pointer (some ⟨md, 0, none⟩)], .int .u64 ((x.rc : Nat) : Int), .int .u64 ((x.ct : Nat) : Int), .int .u64 ((x.rk : Nat) : Int), .int .u64 ((x.lf : Nat) : Int), .int .i64 ((x.sz : Nat) : Int), .string x.sd, .string x.rv, .bool (x.fi), .bool (x.su), .int .u64 ((x.nx : Nat) : Int)])) 89⟩, ⟨wd, .cells (av 3 (ls [.int .u64 ((x.sz : Nat) : Int), .int .u64 (h : Int), .slice (some ⟨k, 0, none⟩) (nW x.sz) (nW x.sz)])) 121⟩, ⟨k, .cells (av (nW x.sz) (w64 m)) 24⟩, ⟨md, .cells (av 1 (ls [.int .u64 ((x.mt : Nat) : Int)])) 24⟩]) :
    Calls Tryz.prog 14 #[.pointer (some ⟨p, 0, none⟩)] w fun r w' => r = .returned (.bool (x.su)) ∧ Below w.heap.size w w' := by
  go_enter Tryz.func14, Tryz.ntmps14
  have M : Mem ⟨w, [p, e, wd, k, md]⟩ [⟨p, .cells (av 1 (ls [.pointer (some ⟨e, 0, none⟩)])) 91⟩, ⟨e, .cells (av 12 (ls [.pointer (some ⟨wd, 0, none⟩), .func (.func 49) #[] #[.pointer (some ⟨md, 0, none⟩)], .int .u64 ((x.rc : Nat) : Int), .int .u64 ((x.ct : Nat) : Int), .int .u64 ((x.rk : Nat) : Int), .int .u64 ((x.lf : Nat) : Int), .int .i64 ((x.sz : Nat) : Int), .string x.sd, .string x.rv, .bool (x.fi), .bool (x.su), .int .u64 ((x.nx : Nat) : Int)])) 89⟩, ⟨wd, .cells (av 3 (ls [.int .u64 ((x.sz : Nat) : Int), .int .u64 (h : Int), .slice (some ⟨k, 0, none⟩) (nW x.sz) (nW x.sz)])) 121⟩, ⟨k, .cells (av (nW x.sz) (w64 m)) 24⟩, ⟨md, .cells (av 1 (ls [.int .u64 ((x.mt : Nat) : Int)])) 24⟩] w := Mem.startT hL hT
  refine sq ?_
  refine sR ?_
  refine rV 1 ?_
  refine pC M 4 30 #[.pointer (some ⟨p, 0, none⟩)] (.bool true) (fun w M => c_there w M.laid (M.there (.cons_cons _ (List.nil_sublist _)))) fun u1 M => ?_
  refine rV 4 ?_
  refine pl_cell M (want_on 2 true rfl 5 rfl (by kernel_rfl)) (some 9) rfl 85 _ rfl p 0 (by kernel_rfl) (.pointer (some ⟨e, 0, none⟩)) (fun _ => by kernel_rfl) (fun w M => M.cell 0 rfl (by decide) rfl) ?_
  refine rV 2 ?_
  rcases Bool.eq_false_or_eq_true (x.su) with c0 | c0
  · skip
    refine pl_cell M (want_on 2 true rfl 5 rfl (by kernel_rfl)) (some 12) rfl 4 _ rfl e 10 (by kernel_rfl) (.bool true) (fun _ => by kernel_rfl) (fun w M => M.cell 1 rfl (by decide) (congrArg Value.bool c0)) ?_
    refine rV 2 ?_
    refine nT ?_
    refine wp_ret ?_
    have e0 : x.su = true := c0
    exact bodyPost_ret (v := .bool true) (results_tmp1 Tryz.results14 _ _ _ (by kernel_rfl)) (by kernel_rfl) ⟨by rw [e0], ro_T hT M⟩
  · skip
    refine pl_cell M (want_on 2 true rfl 5 rfl (by kernel_rfl)) (some 12) rfl 4 _ rfl e 10 (by kernel_rfl) (.bool false) (fun _ => by kernel_rfl) (fun w M => M.cell 1 rfl (by decide) (congrArg Value.bool c0)) ?_
    refine rV 2 ?_
    refine nT ?_
    refine wp_ret ?_
    have e0 : x.su = false := c0
    exact bodyPost_ret (v := .bool false) (results_tmp1 Tryz.results14 _ _ _ (by kernel_rfl)) (by kernel_rfl) ⟨by rw [e0], ro_T hT M⟩

set_option maxRecDepth 100000 in
set_option maxHeartbeats 4000000 in
set_option linter.unusedSimpArgs false in
theorem c_TSent {x : TS} {p e wd k md h : Nat} {m : Nat → Int} (w : World) (hL : Laid w)  (hT : There w [⟨p, .cells (av 1 (ls [.pointer (some ⟨e, 0, none⟩)])) 91⟩, ⟨e, .cells (av 12 (ls [.pointer (some ⟨wd, 0, none⟩), .func (.func 49) #[] #[.pointer (some ⟨md, 0, none⟩)], .int .u64 ((x.rc : Nat) : Int), .int .u64 ((x.ct : Nat) : Int), .int .u64 ((x.rk : Nat) : Int), .int .u64 ((x.lf : Nat) : Int), .int .i64 ((x.sz : Nat) : Int), .string x.sd, .string x.rv, .bool (x.fi), .bool (x.su), .int .u64 ((x.nx : Nat) : Int)])) 89⟩, ⟨wd, .cells (av 3 (ls [.int .u64 ((x.sz : Nat) : Int), .int .u64 (h : Int), .slice (some ⟨k, 0, none⟩) (nW x.sz) (nW x.sz)])) 121⟩, ⟨k, .cells (av (nW x.sz) (w64 m)) 24⟩, ⟨md, .cells (av 1 (ls [.int .u64 ((x.mt : Nat) : Int)])) 24⟩]) :
    Calls Tryz.prog 15 #[.pointer (some ⟨p, 0, none⟩)] w fun r w' => r = .returned (.int .u64 ((x.nx : Nat) : Int)) ∧ Below w.heap.size w w' := by
  go_enter Tryz.func15, Tryz.ntmps15
  have M : Mem ⟨w, [p, e, wd, k, md]⟩ [⟨p, .cells (av 1 (ls [.pointer (some ⟨e, 0, none⟩)])) 91⟩, ⟨e, .cells (av 12 (ls [.pointer (some ⟨wd, 0, none⟩), .func (.func 49) #[] #[.pointer (some ⟨md, 0, none⟩)], .int .u64 ((x.rc : Nat) : Int), .int .u64 ((x.ct : Nat) : Int), .int .u64 ((x.rk : Nat) : Int), .int .u64 ((x.lf : Nat) : Int), .int .i64 ((x.sz : Nat) : Int), .string x.sd, .string x.rv, .bool (x.fi), .bool (x.su), .int .u64 ((x.nx : Nat) : Int)])) 89⟩, ⟨wd, .cells (av 3 (ls [.int .u64 ((x.sz : Nat) : Int), .int .u64 (h : Int), .slice (some ⟨k, 0, none⟩) (nW x.sz) (nW x.sz)])) 121⟩, ⟨k, .cells (av (nW x.sz) (w64 m)) 24⟩, ⟨md, .cells (av 1 (ls [.int .u64 ((x.mt : Nat) : Int)])) 24⟩] w := Mem.startT hL hT
  refine sq ?_
  refine wp_seq ?_
  refine sR ?_
  refine rV 1 ?_
  refine pC M 4 30 #[.pointer (some ⟨p, 0, none⟩)] (.bool true) (fun w M => c_there w M.laid (M.there (.cons_cons _ (List.nil_sublist _)))) fun u1 M => ?_
  refine rV 1 ?_
  refine nT ?_
  refine wp_cond_false (by kernel_rfl) ?_
  refine wp_skip ?_
  refine au_then ?_
  refine sR ?_
  refine rV 3 ?_
  refine ZE M 9 0 0 ?_
  refine rV 2 ?_
  refine ZE M 12 1 11 ?_
  refine rV 1 ?_
  refine nT ?_
  refine wp_ret ?_
  exact bodyPost_ret (v := .int .u64 ((x.nx : Nat) : Int)) (results_tmp1 Tryz.results15 _ _ _ (by kernel_rfl)) (by kernel_rfl) ⟨rfl, ro_T hT M⟩

set_option maxRecDepth 100000 in
set_option maxHeartbeats 4000000 in
set_option linter.unusedSimpArgs false in
theorem c_TSeal {x : TS} {p e wd k md h : Nat} {m : Nat → Int} {s : ByteArray} {n : Nat} (hn : n < 18446744073709551616) (hx : x.nx + 1 < 18446744073709551616) (w : World) (hL : Laid w)  (hT : There w [⟨p, .cells (av 1 (ls [.pointer (some ⟨e, 0, none⟩)])) 91⟩, ⟨e, .cells (av 12 (ls [.pointer (some ⟨wd, 0, none⟩), .func (.func 49) #[] #[.pointer (some ⟨md, 0, none⟩)], .int .u64 ((x.rc : Nat) : Int), .int .u64 ((x.ct : Nat) : Int), .int .u64 ((x.rk : Nat) : Int), .int .u64 ((x.lf : Nat) : Int), .int .i64 ((x.sz : Nat) : Int), .string x.sd, .string x.rv, .bool (x.fi), .bool (x.su), .int .u64 ((x.nx : Nat) : Int)])) 89⟩, ⟨wd, .cells (av 3 (ls [.int .u64 ((x.sz : Nat) : Int), .int .u64 (h : Int), .slice (some ⟨k, 0, none⟩) (nW x.sz) (nW x.sz)])) 121⟩, ⟨k, .cells (av (nW x.sz) (w64 m)) 24⟩, ⟨md, .cells (av 1 (ls [.int .u64 ((x.mt : Nat) : Int)])) 24⟩]) :
    Calls Tryz.prog 21 #[.pointer (some ⟨p, 0, none⟩), .int .u64 (n : Int), .string s] w fun r w' => r = .returned (.tuple #[.int .u64 ((x.sN n s : Nat) : Int), .string (x.sC n s), .int .i64 (x.sE n s)]) ∧ OkT w w' (tB x p e wd k md h m) (tB (x.sX n s) p e wd k md h m) := by
  go_enter Tryz.func21, Tryz.ntmps21
  have M : Mem ⟨w, [p, e, wd, k, md]⟩ [⟨p, .cells (av 1 (ls [.pointer (some ⟨e, 0, none⟩)])) 91⟩, ⟨e, .cells (av 12 (ls [.pointer (some ⟨wd, 0, none⟩), .func (.func 49) #[] #[.pointer (some ⟨md, 0, none⟩)], .int .u64 ((x.rc : Nat) : Int), .int .u64 ((x.ct : Nat) : Int), .int .u64 ((x.rk : Nat) : Int), .int .u64 ((x.lf : Nat) : Int), .int .i64 ((x.sz : Nat) : Int), .string x.sd, .string x.rv, .bool (x.fi), .bool (x.su), .int .u64 ((x.nx : Nat) : Int)])) 89⟩, ⟨wd, .cells (av 3 (ls [.int .u64 ((x.sz : Nat) : Int), .int .u64 (h : Int), .slice (some ⟨k, 0, none⟩) (nW x.sz) (nW x.sz)])) 121⟩, ⟨k, .cells (av (nW x.sz) (w64 m)) 24⟩, ⟨md, .cells (av 1 (ls [.int .u64 ((x.mt : Nat) : Int)])) 24⟩] w := Mem.startT hL hT
  refine sq ?_
  refine wp_seq ?_
  refine sR ?_
  refine rV 1 ?_
  refine pC M 11 30 #[.pointer (some ⟨p, 0, none⟩)] (.bool true) (fun w M => c_there w M.laid (M.there (.cons_cons _ (List.nil_sublist _)))) fun u1 M => ?_
  refine rV 1 ?_
  refine nT ?_
  refine wp_cond_false (by kernel_rfl) ?_
  refine wp_skip ?_
  refine au_then ?_
  refine wp_seq ?_
  refine sR ?_
  refine rV 3 ?_
  refine ZE M 16 0 0 ?_
  refine rV 1 ?_
  refine pC M 18 44 #[.pointer (some ⟨e, 0, none⟩), .int .u64 (n : Int)] (.int .i64 (slF x.sd x.su x.ct x.lf x.nx x.mt n)) (fun w M => c_sealFault hn w M.laid (M.there (.cons _ (.cons_cons _ (.cons _ (.cons _ (.cons_cons _ (List.nil_sublist _)))))))) fun u2 M => ?_
  refine rV 1 ?_
  refine nT ?_
  refine sR ?_
  refine rV 1 ?_
  by_cases c0 : (slF x.sd x.su x.ct x.lf x.nx x.mt n) = 0
  · skip
    refine pH 20 (.bool false) (jD ((slF x.sd x.su x.ct x.lf x.nx x.mt n) = 0) (c0)) ?_
    refine nT ?_
    refine wp_cond_false (by kernel_rfl) ?_
    refine wp_skip ?_
    refine au_then ?_
    refine sR ?_
    refine rV 3 ?_
    refine ZE M 25 0 0 ?_
    refine rV 1 ?_
    refine pl_callp M (want_no rfl) (some 27) rfl 45 #[.pointer (some ⟨e, 0, none⟩), .string s] (.tuple #[.int .u64 ((slN x.sd x.nx s : Nat) : Int), .string (slC x.sd x.nx s), .int .i64 (slZ x.sd x.nx s)]) 1 e (.cells (av 12 (ls [.pointer (some ⟨wd, 0, none⟩), .func (.func 49) #[] #[.pointer (some ⟨md, 0, none⟩)], .int .u64 ((x.rc : Nat) : Int), .int .u64 ((x.ct : Nat) : Int), .int .u64 ((x.rk : Nat) : Int), .int .u64 ((x.lf : Nat) : Int), .int .i64 ((x.sz : Nat) : Int), .string x.sd, .string x.rv, .bool (x.fi), .bool (x.su), .int .u64 ((x.nx : Nat) : Int)])) 89) (.cells (av 12 (ls [.pointer (some ⟨wd, 0, none⟩), .func (.func 49) #[] #[.pointer (some ⟨md, 0, none⟩)], .int .u64 ((x.rc : Nat) : Int), .int .u64 ((x.ct : Nat) : Int), .int .u64 ((x.rk : Nat) : Int), .int .u64 ((x.lf : Nat) : Int), .int .i64 ((x.sz : Nat) : Int), .string x.sd, .string x.rv, .bool (x.fi), .bool (x.su), .int .u64 ((slX x.sd x.nx s : Nat) : Int)])) 89) rfl (fun _ => by kernel_rfl) (fun w M => c_seal hx w M.laid (M.there (.cons _ (.cons_cons _ (List.nil_sublist _))))) fun u3 M => ?_
    replace M : Mem ⟨w, [p, e, wd, k, md]⟩ [⟨p, .cells (av 1 (ls [.pointer (some ⟨e, 0, none⟩)])) 91⟩, ⟨e, .cells (av 12 (ls [.pointer (some ⟨wd, 0, none⟩), .func (.func 49) #[] #[.pointer (some ⟨md, 0, none⟩)], .int .u64 ((x.rc : Nat) : Int), .int .u64 ((x.ct : Nat) : Int), .int .u64 ((x.rk : Nat) : Int), .int .u64 ((x.lf : Nat) : Int), .int .i64 ((x.sz : Nat) : Int), .string x.sd, .string x.rv, .bool (x.fi), .bool (x.su), .int .u64 ((slX x.sd x.nx s : Nat) : Int)])) 89⟩, ⟨wd, .cells (av 3 (ls [.int .u64 ((x.sz : Nat) : Int), .int .u64 (h : Int), .slice (some ⟨k, 0, none⟩) (nW x.sz) (nW x.sz)])) 121⟩, ⟨k, .cells (av (nW x.sz) (w64 m)) 24⟩, ⟨md, .cells (av 1 (ls [.int .u64 ((x.mt : Nat) : Int)])) 24⟩] u3 := M
    refine rV 6 ?_
    refine nT ?_
    refine wp_ret ?_
    have e0 : x.sF n = (slF x.sd x.su x.ct x.lf x.nx x.mt n) := rfl
    exact bodyPost_ret (v := .tuple #[.int .u64 ((slN x.sd x.nx s : Nat) : Int), .string (slC x.sd x.nx s), .int .i64 (slZ x.sd x.nx s)]) (results_t3 Tryz.results21 _ _ _ _ _ (by kernel_rfl) (by kernel_rfl) (by kernel_rfl)) (by kernel_rfl) ⟨by unfold TS.sN TS.sC TS.sE; rw [e0, if_pos c0, if_pos c0, if_pos c0], by unfold TS.sX; rw [e0, if_pos c0]; exact M.okT0⟩
  · skip
    refine pH 20 (.bool true) (jU ((slF x.sd x.su x.ct x.lf x.nx x.mt n) = 0) (c0)) ?_
    refine nT ?_
    refine wp_cond_true (by kernel_rfl) ?_
    refine sq ?_
    refine wp_ret ?_
    refine au_then_ret ?_
    have e0 : x.sF n = (slF x.sd x.su x.ct x.lf x.nx x.mt n) := rfl
    exact bodyPost_ret (v := .tuple #[.int .u64 0, .string ⟨#[]⟩, .int .i64 (slF x.sd x.su x.ct x.lf x.nx x.mt n)]) (results_t3 Tryz.results21 _ _ _ _ _ (by kernel_rfl) (by kernel_rfl) (by kernel_rfl)) (by kernel_rfl) ⟨by unfold TS.sN TS.sC TS.sE; rw [e0, if_neg c0, if_neg c0, if_neg c0]; rfl, by unfold TS.sX; rw [e0, if_neg c0]; exact M.okT0⟩

set_option maxRecDepth 100000 in
set_option maxHeartbeats 4000000 in
set_option linter.unusedSimpArgs false in
theorem c_TOpen {x : TS} {p e wd k md h : Nat} {m : Nat → Int} {i : Nat} {c : ByteArray} {n : Nat} (hn : n < 18446744073709551616) (hi : i < 18446744073709551616) (hs : 1 ≤ x.sz) (hh : h < 18446744073709551616) (I : Inv x.sz h m x.q) (w : World) (hL : Laid w)  (hT : There w [⟨p, .cells (av 1 (ls [.pointer (some ⟨e, 0, none⟩)])) 91⟩, ⟨e, .cells (av 12 (ls [.pointer (some ⟨wd, 0, none⟩), .func (.func 49) #[] #[.pointer (some ⟨md, 0, none⟩)], .int .u64 ((x.rc : Nat) : Int), .int .u64 ((x.ct : Nat) : Int), .int .u64 ((x.rk : Nat) : Int), .int .u64 ((x.lf : Nat) : Int), .int .i64 ((x.sz : Nat) : Int), .string x.sd, .string x.rv, .bool (x.fi), .bool (x.su), .int .u64 ((x.nx : Nat) : Int)])) 89⟩, ⟨wd, .cells (av 3 (ls [.int .u64 ((x.sz : Nat) : Int), .int .u64 (h : Int), .slice (some ⟨k, 0, none⟩) (nW x.sz) (nW x.sz)])) 121⟩, ⟨k, .cells (av (nW x.sz) (w64 m)) 24⟩, ⟨md, .cells (av 1 (ls [.int .u64 ((x.mt : Nat) : Int)])) 24⟩]) :
    Calls Tryz.prog 22 #[.pointer (some ⟨p, 0, none⟩), .int .u64 (n : Int), .int .u64 (i : Int), .string c] w fun r w' => ∃ y : Nat × (Nat → Int), r = .returned (.tuple #[.string (x.oC n i c), .int .i64 (x.oE n i c)]) ∧ (Inv (x.oX n i c).sz y.1 y.2 (x.oX n i c).q ∧ y.1 < 18446744073709551616) ∧ OkT w w' (tB x p e wd k md h m) (tB (x.oX n i c) p e wd k md y.1 y.2) := by
  go_enter Tryz.func22, Tryz.ntmps22
  have M : Mem ⟨w, [p, e, wd, k, md]⟩ [⟨p, .cells (av 1 (ls [.pointer (some ⟨e, 0, none⟩)])) 91⟩, ⟨e, .cells (av 12 (ls [.pointer (some ⟨wd, 0, none⟩), .func (.func 49) #[] #[.pointer (some ⟨md, 0, none⟩)], .int .u64 ((x.rc : Nat) : Int), .int .u64 ((x.ct : Nat) : Int), .int .u64 ((x.rk : Nat) : Int), .int .u64 ((x.lf : Nat) : Int), .int .i64 ((x.sz : Nat) : Int), .string x.sd, .string x.rv, .bool (x.fi), .bool (x.su), .int .u64 ((x.nx : Nat) : Int)])) 89⟩, ⟨wd, .cells (av 3 (ls [.int .u64 ((x.sz : Nat) : Int), .int .u64 (h : Int), .slice (some ⟨k, 0, none⟩) (nW x.sz) (nW x.sz)])) 121⟩, ⟨k, .cells (av (nW x.sz) (w64 m)) 24⟩, ⟨md, .cells (av 1 (ls [.int .u64 ((x.mt : Nat) : Int)])) 24⟩] w := Mem.startT hL hT
  refine sq ?_
  refine wp_seq ?_
  refine sR ?_
  refine rV 1 ?_
  refine pC M 12 30 #[.pointer (some ⟨p, 0, none⟩)] (.bool true) (fun w M => c_there w M.laid (M.there (.cons_cons _ (List.nil_sublist _)))) fun u1 M => ?_
  refine rV 1 ?_
  refine nT ?_
  refine wp_cond_false (by kernel_rfl) ?_
  refine wp_skip ?_
  refine au_then ?_
  refine wp_seq ?_
  refine sR ?_
  refine rV 3 ?_
  refine ZE M 17 0 0 ?_
  refine rV 2 ?_
  refine pC M 20 46 #[.pointer (some ⟨e, 0, none⟩), .int .u64 (n : Int), .int .u64 (i : Int)] (.int .i64 (opF x.sd x.ct x.lf x.sz x.mt x.q n i)) (fun w M => c_openFault hs hh I hn hi w M.laid (M.there (.cons _ (.cons_cons _ (.cons_cons _ (.cons_cons _ (.cons_cons _ (List.nil_sublist _)))))))) fun u2 M => ?_
  refine rV 1 ?_
  refine nT ?_
  refine sR ?_
  refine rV 1 ?_
  by_cases c0 : (opF x.sd x.ct x.lf x.sz x.mt x.q n i) = 0
  · skip
    refine pH 22 (.bool false) (jD ((opF x.sd x.ct x.lf x.sz x.mt x.q n i) = 0) (c0)) ?_
    refine nT ?_
    refine wp_cond_false (by kernel_rfl) ?_
    refine wp_skip ?_
    refine au_then ?_
    refine sR ?_
    refine rV 3 ?_
    refine ZE M 27 0 0 ?_
    refine rV 2 ?_
    refine pl_callM M (want_no rfl) (some 30) rfl 47 #[.pointer (some ⟨e, 0, none⟩), .int .u64 (i : Int), .string c] [⟨p, .cells (av 1 (ls [.pointer (some ⟨e, 0, none⟩)])) 91⟩] [⟨e, .cells (av 12 (ls [.pointer (some ⟨wd, 0, none⟩), .func (.func 49) #[] #[.pointer (some ⟨md, 0, none⟩)], .int .u64 ((x.rc : Nat) : Int), .int .u64 ((x.ct : Nat) : Int), .int .u64 ((x.rk : Nat) : Int), .int .u64 ((x.lf : Nat) : Int), .int .i64 ((x.sz : Nat) : Int), .string x.sd, .string x.rv, .bool (x.fi), .bool (x.su), .int .u64 ((x.nx : Nat) : Int)])) 89⟩, ⟨wd, .cells (av 3 (ls [.int .u64 ((x.sz : Nat) : Int), .int .u64 (h : Int), .slice (some ⟨k, 0, none⟩) (nW x.sz) (nW x.sz)])) 121⟩, ⟨k, .cells (av (nW x.sz) (w64 m)) 24⟩] [⟨md, .cells (av 1 (ls [.int .u64 ((x.mt : Nat) : Int)])) 24⟩] (by simp only [List.append_assoc, List.cons_append, List.nil_append, List.append_nil]) (fun y : Nat × (Nat → Int) => .tuple #[.string (opC x.rv i c), .int .i64 (opZ x.rv i c)]) (fun y : Nat × (Nat → Int) => [⟨e, .cells (av 12 (ls [.pointer (some ⟨wd, 0, none⟩), .func (.func 49) #[] #[.pointer (some ⟨md, 0, none⟩)], .int .u64 ((x.rc : Nat) : Int), .int .u64 ((x.ct : Nat) : Int), .int .u64 ((x.rk : Nat) : Int), .int .u64 ((x.lf : Nat) : Int), .int .i64 ((x.sz : Nat) : Int), .string x.sd, .string x.rv, .bool (x.fi), .bool (opU x.su x.rv i c), .int .u64 ((x.nx : Nat) : Int)])) 89⟩, ⟨wd, .cells (av 3 (ls [.int .u64 ((x.sz : Nat) : Int), .int .u64 ((y.1 : Nat) : Int), .slice (some ⟨k, 0, none⟩) (nW x.sz) (nW x.sz)])) 121⟩, ⟨k, .cells (av (nW x.sz) (w64 y.2)) 24⟩]) (fun y : Nat × (Nat → Int) => Inv x.sz y.1 y.2 (opQ x.sz x.q x.rv i c) ∧ y.1 < 18446744073709551616) (fun _ => by kernel_rfl) (fun w hL hT => c_open hs hh I hi w hL hT) ?_
    rintro ⟨h2, m2⟩ u3 ⟨I2, hh2⟩ M
    replace M : Mem ⟨w, [p, e, wd, k, md]⟩ [⟨p, .cells (av 1 (ls [.pointer (some ⟨e, 0, none⟩)])) 91⟩, ⟨e, .cells (av 12 (ls [.pointer (some ⟨wd, 0, none⟩), .func (.func 49) #[] #[.pointer (some ⟨md, 0, none⟩)], .int .u64 ((x.rc : Nat) : Int), .int .u64 ((x.ct : Nat) : Int), .int .u64 ((x.rk : Nat) : Int), .int .u64 ((x.lf : Nat) : Int), .int .i64 ((x.sz : Nat) : Int), .string x.sd, .string x.rv, .bool (x.fi), .bool (opU x.su x.rv i c), .int .u64 ((x.nx : Nat) : Int)])) 89⟩, ⟨wd, .cells (av 3 (ls [.int .u64 ((x.sz : Nat) : Int), .int .u64 (h2 : Int), .slice (some ⟨k, 0, none⟩) (nW x.sz) (nW x.sz)])) 121⟩, ⟨k, .cells (av (nW x.sz) (w64 m2)) 24⟩, ⟨md, .cells (av 1 (ls [.int .u64 ((x.mt : Nat) : Int)])) 24⟩] u3 := by simpa only [List.append_assoc, List.cons_append, List.nil_append, List.append_nil] using M
    refine rV 4 ?_
    refine nT ?_
    refine wp_ret ?_
    have e0 : x.oF n i = (opF x.sd x.ct x.lf x.sz x.mt x.q n i) := rfl
    exact bodyPost_ret (v := .tuple #[.string (opC x.rv i c), .int .i64 (opZ x.rv i c)]) (results_tmp2 Tryz.results22 _ _ _ _ (by kernel_rfl) (by kernel_rfl)) (by kernel_rfl) ⟨(h2, m2), by unfold TS.oC TS.oE; rw [e0, if_pos c0, if_pos c0], by unfold TS.oX; rw [e0, if_pos c0]; exact ⟨I2, hh2⟩, by unfold TS.oX; rw [e0, if_pos c0]; exact M.okT0⟩
  · skip
    refine pH 22 (.bool true) (jU ((opF x.sd x.ct x.lf x.sz x.mt x.q n i) = 0) (c0)) ?_
    refine nT ?_
    refine wp_cond_true (by kernel_rfl) ?_
    refine sq ?_
    refine wp_ret ?_
    refine au_then_ret ?_
    have e0 : x.oF n i = (opF x.sd x.ct x.lf x.sz x.mt x.q n i) := rfl
    exact bodyPost_ret (v := .tuple #[.string ⟨#[]⟩, .int .i64 (opF x.sd x.ct x.lf x.sz x.mt x.q n i)]) (results_tmp2 Tryz.results22 _ _ _ _ (by kernel_rfl) (by kernel_rfl)) (by kernel_rfl) ⟨(h, m), by unfold TS.oC TS.oE; rw [e0, if_neg c0, if_neg c0], by unfold TS.oX; rw [e0, if_neg c0]; exact ⟨I, hh⟩, by unfold TS.oX; rw [e0, if_neg c0]; exact M.okT0⟩

set_option maxRecDepth 100000 in
set_option maxHeartbeats 4000000 in
set_option linter.unusedSimpArgs false in
theorem c_TWipe {x : TS} {p e wd k md h : Nat} {m : Nat → Int} (w : World) (hL : Laid w)  (hT : There w [⟨p, .cells (av 1 (ls [.pointer (some ⟨e, 0, none⟩)])) 91⟩, ⟨e, .cells (av 12 (ls [.pointer (some ⟨wd, 0, none⟩), .func (.func 49) #[] #[.pointer (some ⟨md, 0, none⟩)], .int .u64 ((x.rc : Nat) : Int), .int .u64 ((x.ct : Nat) : Int), .int .u64 ((x.rk : Nat) : Int), .int .u64 ((x.lf : Nat) : Int), .int .i64 ((x.sz : Nat) : Int), .string x.sd, .string x.rv, .bool (x.fi), .bool (x.su), .int .u64 ((x.nx : Nat) : Int)])) 89⟩, ⟨wd, .cells (av 3 (ls [.int .u64 ((x.sz : Nat) : Int), .int .u64 (h : Int), .slice (some ⟨k, 0, none⟩) (nW x.sz) (nW x.sz)])) 121⟩, ⟨k, .cells (av (nW x.sz) (w64 m)) 24⟩, ⟨md, .cells (av 1 (ls [.int .u64 ((x.mt : Nat) : Int)])) 24⟩]) :
    Calls Tryz.prog 28 #[.pointer (some ⟨p, 0, none⟩)] w fun r w' => r = .returned (.tuple #[]) ∧ OkT w w' (tB x p e wd k md h m) (tB x.wX p e wd k md h m) := by
  go_enter Tryz.func28, Tryz.ntmps28
  have M : Mem ⟨w, [p, e, wd, k, md]⟩ [⟨p, .cells (av 1 (ls [.pointer (some ⟨e, 0, none⟩)])) 91⟩, ⟨e, .cells (av 12 (ls [.pointer (some ⟨wd, 0, none⟩), .func (.func 49) #[] #[.pointer (some ⟨md, 0, none⟩)], .int .u64 ((x.rc : Nat) : Int), .int .u64 ((x.ct : Nat) : Int), .int .u64 ((x.rk : Nat) : Int), .int .u64 ((x.lf : Nat) : Int), .int .i64 ((x.sz : Nat) : Int), .string x.sd, .string x.rv, .bool (x.fi), .bool (x.su), .int .u64 ((x.nx : Nat) : Int)])) 89⟩, ⟨wd, .cells (av 3 (ls [.int .u64 ((x.sz : Nat) : Int), .int .u64 (h : Int), .slice (some ⟨k, 0, none⟩) (nW x.sz) (nW x.sz)])) 121⟩, ⟨k, .cells (av (nW x.sz) (w64 m)) 24⟩, ⟨md, .cells (av 1 (ls [.int .u64 ((x.mt : Nat) : Int)])) 24⟩] w := Mem.startT hL hT
  refine sR ?_
  refine rV 1 ?_
  refine pC M 3 30 #[.pointer (some ⟨p, 0, none⟩)] (.bool true) (fun w M => c_there w M.laid (M.there (.cons_cons _ (List.nil_sublist _)))) fun u1 M => ?_
  refine nT ?_
  refine wp_cond_true (by kernel_rfl) ?_
  refine rg_lit ?_
  refine rV 3 ?_
  refine ZE M 7 0 0 ?_
  refine pl_callp M (want_no rfl) (some 8) rfl 52 #[.pointer (some ⟨e, 0, none⟩)] (.tuple #[]) 1 e (.cells (av 12 (ls [.pointer (some ⟨wd, 0, none⟩), .func (.func 49) #[] #[.pointer (some ⟨md, 0, none⟩)], .int .u64 ((x.rc : Nat) : Int), .int .u64 ((x.ct : Nat) : Int), .int .u64 ((x.rk : Nat) : Int), .int .u64 ((x.lf : Nat) : Int), .int .i64 ((x.sz : Nat) : Int), .string x.sd, .string x.rv, .bool (x.fi), .bool (x.su), .int .u64 ((x.nx : Nat) : Int)])) 89) (.cells (av 12 (ls [.pointer (some ⟨wd, 0, none⟩), .func (.func 49) #[] #[.pointer (some ⟨md, 0, none⟩)], .int .u64 ((x.rc : Nat) : Int), .int .u64 ((x.ct : Nat) : Int), .int .u64 ((x.rk : Nat) : Int), .int .u64 ((x.lf : Nat) : Int), .int .i64 ((x.sz : Nat) : Int), .string ⟨#[]⟩, .string ⟨#[]⟩, .bool (x.fi), .bool (x.su), .int .u64 ((x.nx : Nat) : Int)])) 89) rfl (fun _ => by kernel_rfl) (fun w M => c_wipeE w M.laid (M.there (.cons _ (.cons_cons _ (List.nil_sublist _))))) fun u2 M => ?_
  replace M : Mem ⟨w, [p, e, wd, k, md]⟩ [⟨p, .cells (av 1 (ls [.pointer (some ⟨e, 0, none⟩)])) 91⟩, ⟨e, .cells (av 12 (ls [.pointer (some ⟨wd, 0, none⟩), .func (.func 49) #[] #[.pointer (some ⟨md, 0, none⟩)], .int .u64 ((x.rc : Nat) : Int), .int .u64 ((x.ct : Nat) : Int), .int .u64 ((x.rk : Nat) : Int), .int .u64 ((x.lf : Nat) : Int), .int .i64 ((x.sz : Nat) : Int), .string ⟨#[]⟩, .string ⟨#[]⟩, .bool (x.fi), .bool (x.su), .int .u64 ((x.nx : Nat) : Int)])) 89⟩, ⟨wd, .cells (av 3 (ls [.int .u64 ((x.sz : Nat) : Int), .int .u64 (h : Int), .slice (some ⟨k, 0, none⟩) (nW x.sz) (nW x.sz)])) 121⟩, ⟨k, .cells (av (nW x.sz) (w64 m)) 24⟩, ⟨md, .cells (av 1 (ls [.int .u64 ((x.mt : Nat) : Int)])) 24⟩] u2 := M
  refine pl_nil ?_
  exact bodyPost_end (v := .tuple #[]) (results_none Tryz.results28 _ _) (by kernel_rfl) ⟨rfl, M.okT0⟩


end Go.Proofs.YtenafinbaanicaaGreatDoor
namespace Go.Proofs.YtenafinbaanicaaGreatDoor
open Go.RowKit
set_option maxRecDepth 100000

theorem a_Over {p : Nat} {x : TS} {T : List Blk} {n : Nat} (hI : IsT p x T) (hn : n < 18446744073709551616) (w : World) (hL : Laid w) (hT : There w T) : Calls Tryz.prog 10 #[.pointer (some ⟨p, 0, none⟩), .int .u64 (n : Int)] w fun r w' => r = .returned (.bool (x.ov n)) ∧ Below w.heap.size w w' := by
  obtain ⟨e, wd, k, md, h, m, rfl, I, hh⟩ := hI.out
  exact c_TOver hn w hL hT
theorem a_Wants {p : Nat} {x : TS} {T : List Blk} {n : Nat} (hI : IsT p x T) (hn : n < 18446744073709551616) (w : World) (hL : Laid w) (hT : There w T) : Calls Tryz.prog 12 #[.pointer (some ⟨p, 0, none⟩), .int .u64 (n : Int)] w fun r w' => r = .returned (.bool (x.wn n)) ∧ Below w.heap.size w w' := by
  obtain ⟨e, wd, k, md, h, m, rfl, I, hh⟩ := hI.out
  exact c_TWants hn w hL hT
theorem a_Sure {p : Nat} {x : TS} {T : List Blk} (hI : IsT p x T) (w : World) (hL : Laid w) (hT : There w T) : Calls Tryz.prog 14 #[.pointer (some ⟨p, 0, none⟩)] w fun r w' => r = .returned (.bool x.su) ∧ Below w.heap.size w w' := by
  obtain ⟨e, wd, k, md, h, m, rfl, I, hh⟩ := hI.out
  exact c_TSure w hL hT
theorem a_Sent {p : Nat} {x : TS} {T : List Blk} (hI : IsT p x T) (w : World) (hL : Laid w) (hT : There w T) : Calls Tryz.prog 15 #[.pointer (some ⟨p, 0, none⟩)] w fun r w' => r = .returned (.int .u64 ((x.nx : Nat) : Int)) ∧ Below w.heap.size w w' := by
  obtain ⟨e, wd, k, md, h, m, rfl, I, hh⟩ := hI.out
  exact c_TSent w hL hT
theorem sX_same (x : TS) (n : Nat) (s : ByteArray) : (x.sX n s).sz = x.sz ∧ (x.sX n s).q = x.q ∧ (x.sX n s).ct = x.ct := by
  unfold TS.sX
  split <;> exact ⟨rfl, rfl, rfl⟩
theorem oX_same (x : TS) (n i : Nat) (c : ByteArray) : (x.oX n i c).sz = x.sz ∧ (x.oX n i c).nx = x.nx ∧ (x.oX n i c).ct = x.ct := by
  unfold TS.oX
  split <;> exact ⟨rfl, rfl, rfl⟩
theorem sF_zero {x : TS} {n : Nat} (h : x.sF n = 0) : x.ov n = false ∧ x.nx < x.ct ∧ x.su = true := by
  unfold TS.sF slF at h
  unfold TS.ov
  cases h1 : ovB x.sd x.lf x.mt n
  · rw [h1, if_neg (by decide)] at h
    by_cases h2 : x.ct ≤ x.nx
    · rw [if_pos h2] at h
      cases h
    · rw [if_neg h2] at h
      cases h3 : x.su
      · rw [h3] at h
        cases h
      · exact ⟨rfl, by omega, rfl⟩
  · rw [h1, if_pos rfl] at h
    cases h
theorem TS.Ok.seal {x : TS} (h : x.Ok) (n : Nat) (s : ByteArray) : (x.sX n s).Ok := by
  unfold TS.sX
  by_cases h0 : x.sF n = 0
  · rw [if_pos h0]
    have h3 := (sF_zero h0).2.1
    refine ⟨h.s1, h.s2, h.c, ?_⟩
    show slX x.sd x.nx s ≤ x.ct
    unfold slX
    split <;> omega
  · rw [if_neg h0]
    exact h
theorem TS.Ok.open {x : TS} (h : x.Ok) (n i : Nat) (c : ByteArray) : (x.oX n i c).Ok := by
  obtain ⟨h1, h2, h3⟩ := oX_same x n i c
  exact ⟨by rw [h1]; exact h.s1, by rw [h1]; exact h.s2, by rw [h3]; exact h.c, by rw [h2, h3]; exact h.n⟩
theorem TS.Ok.wipe {x : TS} (h : x.Ok) : x.wX.Ok := ⟨h.s1, h.s2, h.c, h.n⟩
theorem a_Seal {p : Nat} {x : TS} {T : List Blk} {n : Nat} {s : ByteArray} (hI : IsT p x T) (ok : x.Ok) (hn : n < 18446744073709551616) (w : World) (hL : Laid w) (hT : There w T) : Calls Tryz.prog 21 #[.pointer (some ⟨p, 0, none⟩), .int .u64 (n : Int), .string s] w fun r w' => ∃ T', r = .returned (.tuple #[.int .u64 ((x.sN n s : Nat) : Int), .string (x.sC n s), .int .i64 (x.sE n s)]) ∧ IsT p (x.sX n s) T' ∧ OkT w w' T T' := by
  obtain ⟨e, wd, k, md, h, m, rfl, I, hh⟩ := hI.out
  have hx := ok.n
  have hc := ok.c
  obtain ⟨h1, h2, _⟩ := sX_same x n s
  exact (c_TSeal hn (by omega) w hL hT).mono fun _ _ ⟨he, hk⟩ => ⟨_, he, ⟨e, wd, k, md, h, m, rfl, by rw [h1, h2]; exact I, hh⟩, hk⟩
theorem a_Open {p : Nat} {x : TS} {T : List Blk} {n i : Nat} {c : ByteArray} (hI : IsT p x T) (ok : x.Ok) (hn : n < 18446744073709551616) (hi : i < 18446744073709551616) (w : World) (hL : Laid w) (hT : There w T) : Calls Tryz.prog 22 #[.pointer (some ⟨p, 0, none⟩), .int .u64 (n : Int), .int .u64 (i : Int), .string c] w fun r w' => ∃ T', r = .returned (.tuple #[.string (x.oC n i c), .int .i64 (x.oE n i c)]) ∧ IsT p (x.oX n i c) T' ∧ OkT w w' T T' := by
  obtain ⟨e, wd, k, md, h, m, rfl, I, hh⟩ := hI.out
  exact (c_TOpen hn hi ok.s1 hh I w hL hT).mono fun _ _ ⟨y, he, ⟨h1, h2⟩, hk⟩ => ⟨_, he, ⟨e, wd, k, md, y.1, y.2, rfl, h1, h2⟩, hk⟩
theorem a_Wipe {p : Nat} {x : TS} {T : List Blk} (hI : IsT p x T) (w : World) (hL : Laid w) (hT : There w T) : Calls Tryz.prog 28 #[.pointer (some ⟨p, 0, none⟩)] w fun r w' => ∃ T', r = .returned (.tuple #[]) ∧ IsT p x.wX T' ∧ OkT w w' T T' := by
  obtain ⟨e, wd, k, md, h, m, rfl, I, hh⟩ := hI.out
  exact (c_TWipe w hL hT).mono fun _ _ ⟨he, hk⟩ => ⟨_, he, ⟨e, wd, k, md, h, m, rfl, I, hh⟩, hk⟩
theorem ne_empty {s : ByteArray} {n : Nat} (h : s.size = n) (hn : n ≠ 0) : s ≠ ⟨#[]⟩ := fun e => hn (by rw [← h, e]; rfl)
theorem ov_no {x : TS} {n : Nat} (h1 : x.sd.size = 32) (h2 : n - x.mt < x.lf) : x.ov n = false := decide_eq_false (by
  rintro (h | h)
  · exact ne_empty h1 (by decide) h
  · omega)
theorem ov_yes {x : TS} {n : Nat} (h2 : x.lf ≤ n - x.mt) : x.ov n = true := decide_eq_true (.inr h2)
theorem sF_ok {x : TS} {n : Nat} (h1 : x.ov n = false) (h3 : x.nx < x.ct) (h4 : x.su = true) : x.sF n = 0 := by
  unfold TS.sF slF
  unfold TS.ov at h1
  rw [h1, if_neg (by decide), if_neg (by omega), if_pos h4]
theorem slZ_ok {sd s : ByteArray} {nx : Nat} (h : sd.size = 32) (hs : s.size ≤ 65536) : slZ sd nx s = 0 := sf_ok ⟨h, nS_size _⟩ (Nat.zero_le _) (by omega) (Nat.zero_le _)
/-- A text is sealed. -/
theorem s_ok {p : Nat} {x : TS} {T : List Blk} {n : Nat} {s : ByteArray} (hI : IsT p x T) (ok : x.Ok) (hn : n < 18446744073709551616) (h1 : x.sd.size = 32) (h2 : n - x.mt < x.lf) (h3 : x.nx < x.ct) (h4 : x.su = true) (h5 : s.size ≤ 65536) (w : World) (hL : Laid w) (hT : There w T) : Calls Tryz.prog 21 #[.pointer (some ⟨p, 0, none⟩), .int .u64 (n : Int), .string s] w fun r w' => ∃ T', r = .returned (.tuple #[.int .u64 ((x.nx : Nat) : Int), .string (sealS x.sd (nS (x.nx : Int)) ⟨#[]⟩ s), .int .i64 0]) ∧ IsT p { x with nx := x.nx + 1 } T' ∧ OkT w w' T T' := by
  have e0 := sF_ok (ov_no h1 h2) h3 h4
  have e1 := slZ_ok (nx := x.nx) h1 h5
  have h := a_Seal (s := s) hI ok hn w hL hT
  unfold TS.sN TS.sC TS.sE TS.sX slN slC slX at h
  rw [if_pos e0, if_pos e0, if_pos e0, if_pos e0, if_pos e1, if_pos e1, if_pos e1, e1] at h
  exact h
/-- None is sealed by who is not sure. -/
theorem s_no {p : Nat} {x : TS} {T : List Blk} {n : Nat} {s : ByteArray} (hI : IsT p x T) (ok : x.Ok) (hn : n < 18446744073709551616) (h1 : x.sd.size = 32) (h2 : n - x.mt < x.lf) (h3 : x.nx < x.ct) (h4 : x.su = false) (w : World) (hL : Laid w) (hT : There w T) : Calls Tryz.prog 21 #[.pointer (some ⟨p, 0, none⟩), .int .u64 (n : Int), .string s] w fun r w' => ∃ T', r = .returned (.tuple #[.int .u64 0, .string ⟨#[]⟩, .int .i64 3]) ∧ IsT p x T' ∧ OkT w w' T T' := by
  have e0 : x.sF n = 3 := by
    have h5 := ov_no h1 h2
    unfold TS.ov at h5
    unfold TS.sF slF
    rw [h5, if_neg (by decide), if_neg (by omega), h4]
    rfl
  have e1 : ¬ (3 : Int) = 0 := by decide
  have h := a_Seal (s := s) hI ok hn w hL hT
  unfold TS.sN TS.sC TS.sE TS.sX at h
  rw [e0, if_neg e1, if_neg e1, if_neg e1, if_neg e1] at h
  exact h
theorem oF_ok {x : TS} {n i : Nat} (h1 : x.ov n = false) (h3 : i < x.ct) : x.oF n i = my x.sz x.q i := by
  unfold TS.oF opF
  unfold TS.ov at h1
  rw [h1, if_neg (by decide), if_neg (by omega)]
theorem opZ_seal {rv s : ByteArray} {i : Nat} (h : rv.size = 32) (hs : s.size ≤ 65536) : opZ rv i (sealS rv (nS (i : Int)) ⟨#[]⟩ s) = 0 := by
  unfold opZ
  rw [if_pos (seal_ok (slZ_ok (nx := i) h hs)), if_pos (seal_tg _ _ _ _)]
theorem mk_yes' {s n : Nat} {l : List Nat} (h : my s l n = 0) : mk s l n = l ++ [n] := by
  unfold mk
  rw [if_pos h]
/-- What was sealed opens, as it was. -/
theorem o_ok {p : Nat} {x : TS} {T : List Blk} {n i : Nat} {s : ByteArray} (hI : IsT p x T) (ok : x.Ok) (hn : n < 18446744073709551616) (hi : i < 18446744073709551616) (h1 : x.sd.size = 32) (hr : x.rv.size = 32) (h2 : n - x.mt < x.lf) (h3 : i < x.ct) (h4 : my x.sz x.q i = 0) (h5 : s.size ≤ 65536) (w : World) (hL : Laid w) (hT : There w T) : Calls Tryz.prog 22 #[.pointer (some ⟨p, 0, none⟩), .int .u64 (n : Int), .int .u64 (i : Int), .string (sealS x.rv (nS (i : Int)) ⟨#[]⟩ s)] w fun r w' => ∃ T', r = .returned (.tuple #[.string s, .int .i64 0]) ∧ IsT p { x with su := true, q := x.q ++ [i] } T' ∧ OkT w w' T T' := by
  have e0 : x.oF n i = 0 := by rw [oF_ok (ov_no h1 h2) h3, h4]
  have e1 := opZ_seal (i := i) hr h5
  have h := a_Open (i := i) (c := sealS x.rv (nS (i : Int)) ⟨#[]⟩ s) hI ok hn hi w hL hT
  unfold TS.oC TS.oE TS.oX opC opU opQ at h
  rw [if_pos e0, if_pos e0, if_pos e0, if_pos e1, if_pos e1, if_pos e1, e1, seal_op, mk_yes' h4] at h
  exact h
/-- A number that may not be is refused, whatever is with it. -/
theorem o_no {p : Nat} {x : TS} {T : List Blk} {n i : Nat} {c : ByteArray} (hI : IsT p x T) (ok : x.Ok) (hn : n < 18446744073709551616) (hi : i < 18446744073709551616) (h1 : x.sd.size = 32) (h2 : n - x.mt < x.lf) (h3 : i < x.ct) (h4 : ¬ my x.sz x.q i = 0) (w : World) (hL : Laid w) (hT : There w T) : Calls Tryz.prog 22 #[.pointer (some ⟨p, 0, none⟩), .int .u64 (n : Int), .int .u64 (i : Int), .string c] w fun r w' => ∃ T', r = .returned (.tuple #[.string ⟨#[]⟩, .int .i64 (my x.sz x.q i)]) ∧ IsT p x T' ∧ OkT w w' T T' := by
  have e0 : x.oF n i = my x.sz x.q i := oF_ok (ov_no h1 h2) h3
  have h := a_Open (i := i) (c := c) hI ok hn hi w hL hT
  unfold TS.oC TS.oE TS.oX at h
  rw [e0, if_neg h4, if_neg h4, if_neg h4] at h
  exact h

end Go.Proofs.YtenafinbaanicaaGreatDoor
namespace Go.Proofs.YtenafinbaanicaaGreatDoor
open Go.RowKit
set_option maxRecDepth 100000

theorem results_c3 {P : Program} {fn : Func} {p q r : Tmp} {tp tq tr : TypeId} (h : fn.results = #[.cell p tp, .cell q tq, .cell r tr]) (tmps : Array Value) (w : World) (g1 : Nat) (v : Value) (g2 : Nat) (u : Value) (g3 : Nat) (x : Value) (hp : tmps.getD p undef = .pointer (some ⟨g1, 0, none⟩)) (hq : tmps.getD q undef = .pointer (some ⟨g2, 0, none⟩)) (hr : tmps.getD r undef = .pointer (some ⟨g3, 0, none⟩))
    (a1 : ∀ w, (isAgg tp).run P w = .ok false w) (a2 : ∀ w, (isAgg tq).run P w = .ok false w) (a3 : ∀ w, (isAgg tr).run P w = .ok false w) (c1 : w.cell? ⟨g1, 0, none⟩ = some v) (c2 : w.cell? ⟨g2, 0, none⟩ = some u) (c3 : w.cell? ⟨g3, 0, none⟩ = some x) : (results fn tmps).run P w = .ok (.tuple #[v, u, x]) w := by
  have hp' : tmps[p]?.getD undef = .pointer (some ⟨g1, 0, none⟩) := by simpa using hp
  have hq' : tmps[q]?.getD undef = .pointer (some ⟨g2, 0, none⟩) := by simpa using hq
  have hr' : tmps[r]?.getD undef = .pointer (some ⟨g3, 0, none⟩) := by simpa using hr
  simp [results, h, hp', hq', hr', asAddr, loadVar, a1, a2, a3, c1, c2, c3]
set_option maxRecDepth 100000 in
set_option maxHeartbeats 4000000 in
set_option linter.unusedSimpArgs false in
theorem n_Wipe  (w : World) (hL : Laid w)  :
    Calls Tryz.prog 28 #[.pointer none] w fun r w' => r = .returned (.tuple #[]) ∧ Below w.heap.size w w' := by
  go_enter Tryz.func28, Tryz.ntmps28
  have M := Mem.start hL
  refine sR ?_
  refine rV 1 ?_
  refine pC M 3 30 #[.pointer none] (.bool false) (fun w M => n_there w M.laid) fun u1 M => ?_
  refine nT ?_
  refine wp_cond_false (by kernel_rfl) ?_
  refine wp_skip ?_
  exact bodyPost_end (v := .tuple #[]) (results_none Tryz.results28 _ _) (by kernel_rfl) ⟨rfl, below_grown M.old⟩

set_option maxRecDepth 100000 in
set_option maxHeartbeats 4000000 in
set_option linter.unusedSimpArgs false in
theorem n_Seal {n : Nat} {s : ByteArray} (w : World) (hL : Laid w)  :
    Calls Tryz.prog 21 #[.pointer none, .int .u64 (n : Int), .string s] w fun r w' => r = .returned (.tuple #[.int .u64 0, .string ⟨#[]⟩, .int .i64 1]) ∧ Below w.heap.size w w' := by
  go_enter Tryz.func21, Tryz.ntmps21
  have M := Mem.start hL
  refine sq ?_
  refine wp_seq ?_
  refine sR ?_
  refine rV 1 ?_
  refine pC M 11 30 #[.pointer none] (.bool false) (fun w M => n_there w M.laid) fun u1 M => ?_
  refine rV 1 ?_
  refine nT ?_
  refine wp_cond_true (by kernel_rfl) ?_
  refine sq ?_
  refine wp_ret ?_
  refine au_then_ret ?_
  exact bodyPost_ret (v := .tuple #[.int .u64 0, .string ⟨#[]⟩, .int .i64 1]) (results_t3 Tryz.results21 _ _ _ _ _ (by kernel_rfl) (by kernel_rfl) (by kernel_rfl)) (by kernel_rfl) ⟨rfl, below_grown M.old⟩

set_option maxRecDepth 100000 in
set_option maxHeartbeats 4000000 in
set_option linter.unusedSimpArgs false in
theorem n_Open {n i : Nat} {s : ByteArray} (w : World) (hL : Laid w)  :
    Calls Tryz.prog 22 #[.pointer none, .int .u64 (n : Int), .int .u64 (i : Int), .string s] w fun r w' => r = .returned (.tuple #[.string ⟨#[]⟩, .int .i64 1]) ∧ Below w.heap.size w w' := by
  go_enter Tryz.func22, Tryz.ntmps22
  have M := Mem.start hL
  refine sq ?_
  refine wp_seq ?_
  refine sR ?_
  refine rV 1 ?_
  refine pC M 12 30 #[.pointer none] (.bool false) (fun w M => n_there w M.laid) fun u1 M => ?_
  refine rV 1 ?_
  refine nT ?_
  refine wp_cond_true (by kernel_rfl) ?_
  refine sq ?_
  refine wp_ret ?_
  refine au_then_ret ?_
  exact b1 M

set_option maxRecDepth 100000 in
set_option maxHeartbeats 4000000 in
set_option linter.unusedSimpArgs false in
theorem n_Over {n : Nat} (w : World) (hL : Laid w)  :
    Calls Tryz.prog 10 #[.pointer none, .int .u64 (n : Int)] w fun r w' => r = .returned (.bool true) ∧ Below w.heap.size w w' := by
  go_enter Tryz.func10, Tryz.ntmps10
  have M := Mem.start hL
  refine sq ?_
  refine sR ?_
  refine rV 1 ?_
  refine pC M 6 30 #[.pointer none] (.bool false) (fun w M => n_there w M.laid) fun u1 M => ?_
  refine rV 10 ?_
  refine nT ?_
  refine wp_ret ?_
  exact b1 M

set_option maxRecDepth 100000 in
set_option maxHeartbeats 4000000 in
set_option linter.unusedSimpArgs false in
theorem n_Wants {n : Nat} (w : World) (hL : Laid w)  :
    Calls Tryz.prog 12 #[.pointer none, .int .u64 (n : Int)] w fun r w' => r = .returned (.bool false) ∧ Below w.heap.size w w' := by
  go_enter Tryz.func12, Tryz.ntmps12
  have M := Mem.start hL
  refine sq ?_
  refine sR ?_
  refine rV 1 ?_
  refine pC M 6 30 #[.pointer none] (.bool false) (fun w M => n_there w M.laid) fun u1 M => ?_
  refine rV 9 ?_
  refine nT ?_
  refine wp_ret ?_
  exact b1 M

set_option maxRecDepth 100000 in
set_option maxHeartbeats 4000000 in
set_option linter.unusedSimpArgs false in
theorem n_Sure  (w : World) (hL : Laid w)  :
    Calls Tryz.prog 14 #[.pointer none] w fun r w' => r = .returned (.bool false) ∧ Below w.heap.size w w' := by
  go_enter Tryz.func14, Tryz.ntmps14
  have M := Mem.start hL
  refine sq ?_
  refine sR ?_
  refine rV 1 ?_
  refine pC M 4 30 #[.pointer none] (.bool false) (fun w M => n_there w M.laid) fun u1 M => ?_
  refine rV 10 ?_
  refine nT ?_
  refine wp_ret ?_
  exact b1 M

set_option maxRecDepth 100000 in
set_option maxHeartbeats 4000000 in
set_option linter.unusedSimpArgs false in
theorem n_Sent  (w : World) (hL : Laid w)  :
    Calls Tryz.prog 15 #[.pointer none] w fun r w' => r = .returned (.int .u64 0) ∧ Below w.heap.size w w' := by
  go_enter Tryz.func15, Tryz.ntmps15
  have M := Mem.start hL
  refine sq ?_
  refine wp_seq ?_
  refine sR ?_
  refine rV 1 ?_
  refine pC M 4 30 #[.pointer none] (.bool false) (fun w M => n_there w M.laid) fun u1 M => ?_
  refine rV 1 ?_
  refine nT ?_
  refine wp_cond_true (by kernel_rfl) ?_
  refine sq ?_
  refine wp_ret ?_
  refine au_then_ret ?_
  exact b1 M

set_option maxRecDepth 100000 in
set_option maxHeartbeats 4000000 in
set_option linter.unusedSimpArgs false in
theorem n_sthere  (w : World) (hL : Laid w)  :
    Calls Tryz.prog 43 #[.pointer none] w fun r w' => r = .returned (.bool false) ∧ Below w.heap.size w w' := by
  go_enter Tryz.func43, Tryz.ntmps43
  have M := Mem.start hL
  refine sq ?_
  refine sq ?_
  refine wp_ret ?_
  exact b1 M

set_option maxRecDepth 100000 in
set_option maxHeartbeats 4000000 in
set_option linter.unusedSimpArgs false in
theorem n_Get  (w : World) (hL : Laid w)  :
    Calls Tryz.prog 35 #[.pointer none, .int .u32 1] w fun r w' => r = .returned (.tuple #[.pointer none, .int .i64 1]) ∧ Below w.heap.size w w' := by
  go_enter Tryz.func35, Tryz.ntmps35
  have M := Mem.start hL
  refine sq ?_
  refine wp_seq ?_
  refine sR ?_
  refine rV 1 ?_
  refine pC M 8 43 #[.pointer none] (.bool false) (fun w M => n_sthere w M.laid) fun u1 M => ?_
  refine rV 1 ?_
  refine nT ?_
  refine wp_cond_true (by kernel_rfl) ?_
  refine sq ?_
  refine wp_ret ?_
  refine au_then_ret ?_
  exact b1 M

set_option maxRecDepth 100000 in
set_option maxHeartbeats 4000000 in
set_option linter.unusedSimpArgs false in
theorem n_Best {n : Nat} (w : World) (hL : Laid w)  :
    Calls Tryz.prog 37 #[.pointer none, .int .u64 (n : Int)] w fun r w' => r = .returned (.tuple #[.int .u32 0, .pointer none, .int .i64 1]) ∧ Below w.heap.size w w' := by
  go_enter Tryz.func37, Tryz.ntmps37
  have M := Mem.start hL
  refine sR ?_
  refine pN M 3 (.cells (av 1 (ls [.int .u64 (n : Int)])) 24) fun g1 u1 M => ?_
  replace M : Mem ⟨w, []⟩ [⟨g1, .cells (av 1 (ls [.int .u64 (n : Int)])) 24⟩] u1 := M
  refine pN M 4 (.cells (av 1 (ls [.int .u32 0])) 67) fun g2 u2 M => ?_
  replace M : Mem ⟨w, []⟩ [⟨g1, .cells (av 1 (ls [.int .u64 (n : Int)])) 24⟩, ⟨g2, .cells (av 1 (ls [.int .u32 0])) 67⟩] u2 := M
  refine pN M 5 (.cells (av 1 (ls [.pointer none])) 30) fun g3 u3 M => ?_
  replace M : Mem ⟨w, []⟩ [⟨g1, .cells (av 1 (ls [.int .u64 (n : Int)])) 24⟩, ⟨g2, .cells (av 1 (ls [.int .u32 0])) 67⟩, ⟨g3, .cells (av 1 (ls [.pointer none])) 30⟩] u3 := M
  refine pN M 6 (.cells (av 1 (ls [.int .i64 0])) 38) fun g4 u4 M => ?_
  replace M : Mem ⟨w, []⟩ [⟨g1, .cells (av 1 (ls [.int .u64 (n : Int)])) 24⟩, ⟨g2, .cells (av 1 (ls [.int .u32 0])) 67⟩, ⟨g3, .cells (av 1 (ls [.pointer none])) 30⟩, ⟨g4, .cells (av 1 (ls [.int .i64 0])) 38⟩] u4 := M
  refine nT ?_
  refine wp_seq ?_
  refine sR ?_
  refine rV 1 ?_
  refine pC M 10 43 #[.pointer none] (.bool false) (fun w M => n_sthere w M.laid) fun u5 M => ?_
  refine rV 1 ?_
  refine nT ?_
  refine wp_cond_true (by kernel_rfl) ?_
  refine sR ?_
  refine pP M 1 rfl 0 (.int .u32 0) (ls [.int .u32 0]) (by decide) (put_ls _ 0 _ _ rfl) fun u6 M => ?_
  replace M : Mem ⟨w, []⟩ [⟨g1, .cells (av 1 (ls [.int .u64 (n : Int)])) 24⟩, ⟨g2, .cells (av 1 (ls [.int .u32 0])) 67⟩, ⟨g3, .cells (av 1 (ls [.pointer none])) 30⟩, ⟨g4, .cells (av 1 (ls [.int .i64 0])) 38⟩] u6 := M
  refine pP M 2 rfl 0 (.pointer none) (ls [.pointer none]) (by decide) (put_ls _ 0 _ _ rfl) fun u7 M => ?_
  replace M : Mem ⟨w, []⟩ [⟨g1, .cells (av 1 (ls [.int .u64 (n : Int)])) 24⟩, ⟨g2, .cells (av 1 (ls [.int .u32 0])) 67⟩, ⟨g3, .cells (av 1 (ls [.pointer none])) 30⟩, ⟨g4, .cells (av 1 (ls [.int .i64 0])) 38⟩] u7 := M
  refine pP M 3 rfl 0 (.int .i64 1) (ls [.int .i64 1]) (by decide) (put_ls _ 0 _ _ rfl) fun u8 M => ?_
  replace M : Mem ⟨w, []⟩ [⟨g1, .cells (av 1 (ls [.int .u64 (n : Int)])) 24⟩, ⟨g2, .cells (av 1 (ls [.int .u32 0])) 67⟩, ⟨g3, .cells (av 1 (ls [.pointer none])) 30⟩, ⟨g4, .cells (av 1 (ls [.int .i64 1])) 38⟩] u8 := M
  refine nT ?_
  refine wp_ret ?_
  refine au_then_ret ?_
  exact bodyPost_ret (v := .tuple #[.int .u32 0, .pointer none, .int .i64 1]) (results_c3 Tryz.results37 _ _ g2 (.int .u32 0) g3 (.pointer none) g4 (.int .i64 1) (by kernel_rfl) (by kernel_rfl) (by kernel_rfl) (fun _ => by kernel_rfl) (fun _ => by kernel_rfl) (fun _ => by kernel_rfl)  (M.cell 1 rfl (by decide) rfl) (M.cell 2 rfl (by decide) rfl) (M.cell 3 rfl (by decide) rfl)) (by kernel_rfl) ⟨rfl, below_grown M.old⟩

set_option maxRecDepth 100000 in
set_option maxHeartbeats 4000000 in
set_option linter.unusedSimpArgs false in
theorem n_Tidy {n : Nat} (w : World) (hL : Laid w)  :
    Calls Tryz.prog 39 #[.pointer none, .int .u64 (n : Int)] w fun r w' => r = .returned (.slice none 0 0) ∧ Below w.heap.size w w' := by
  go_enter Tryz.func39, Tryz.ntmps39
  have M := Mem.start hL
  refine sR ?_
  refine pN M 3 (.cells (av 1 (ls [.int .u64 (n : Int)])) 24) fun g1 u1 M => ?_
  replace M : Mem ⟨w, []⟩ [⟨g1, .cells (av 1 (ls [.int .u64 (n : Int)])) 24⟩] u1 := M
  refine rV 1 ?_
  refine nT ?_
  refine wp_seq ?_
  refine sR ?_
  refine rV 1 ?_
  refine pC M 6 43 #[.pointer none] (.bool false) (fun w M => n_sthere w M.laid) fun u2 M => ?_
  refine rV 1 ?_
  refine nT ?_
  refine wp_cond_true (by kernel_rfl) ?_
  refine sq ?_
  refine wp_ret ?_
  refine au_then_ret ?_
  exact b1 M

set_option maxRecDepth 100000 in
set_option maxHeartbeats 4000000 in
set_option linter.unusedSimpArgs false in
theorem n_IDs  (w : World) (hL : Laid w)  :
    Calls Tryz.prog 19 #[.pointer none] w fun r w' => r = .returned (.slice none 0 0) ∧ Below w.heap.size w w' := by
  go_enter Tryz.func19, Tryz.ntmps19
  have M := Mem.start hL
  refine sq ?_
  refine wp_seq ?_
  refine sR ?_
  refine rV 1 ?_
  refine pC M 7 43 #[.pointer none] (.bool false) (fun w M => n_sthere w M.laid) fun u1 M => ?_
  refine rV 1 ?_
  refine nT ?_
  refine wp_cond_true (by kernel_rfl) ?_
  refine sq ?_
  refine wp_ret ?_
  refine au_then_ret ?_
  exact b1 M

set_option maxRecDepth 100000 in
set_option maxHeartbeats 4000000 in
set_option linter.unusedSimpArgs false in
theorem n_Put  (w : World) (hL : Laid w)  :
    Calls Tryz.prog 41 #[.pointer none, .int .u32 1, .pointer none] w fun r w' => r = .returned (.int .i64 1) ∧ Below w.heap.size w w' := by
  go_enter Tryz.func41, Tryz.ntmps41
  have M := Mem.start hL
  refine sq ?_
  refine wp_seq ?_
  refine wp_block ?_
  refine sR ?_
  refine rV 1 ?_
  refine pC M 9 43 #[.pointer none] (.bool false) (fun w M => n_sthere w M.laid) fun u1 M => ?_
  refine rV 2 ?_
  refine nT ?_
  refine wp_cond_true (by kernel_rfl) ?_
  refine sq ?_
  refine wp_ret ?_
  refine au_block_ret ?_
  refine au_then_ret ?_
  exact b1 M

def keyA : ByteArray := (bs [0, 0, 0, 0, 0, 0, 0, 0, 0, 0, 0, 0, 0, 0, 0, 0, 0, 0, 0, 0, 0, 0, 0, 0, 0, 0, 0, 0, 0, 0, 0]) ++ ⟨#[97]⟩
def keyB : ByteArray := (bs [0, 0, 0, 0, 0, 0, 0, 0, 0, 0, 0, 0, 0, 0, 0, 0, 0, 0, 0, 0, 0, 0, 0, 0, 0, 0, 0, 0, 0, 0, 0]) ++ ⟨#[98]⟩
theorem keyA_size : keyA.size = 32 := by decide +kernel
theorem keyB_size : keyB.size = 32 := by decide +kernel
set_option maxRecDepth 100000 in
set_option maxHeartbeats 4000000 in
set_option linter.unusedSimpArgs false in
theorem c_gotA  (w : World) (hL : Laid w)  :
    Calls Tryz.prog 20 #[.bool true] w fun r w' => r = .returned (.agg (av 5 (ls [.string ⟨#[]⟩, .string ⟨#[]⟩, .string keyA, .string keyB, .string ⟨#[]⟩]))) ∧ Below w.heap.size w w' := by
  go_enter Tryz.func20, Tryz.ntmps20
  have M := Mem.start hL
  refine sR ?_
  refine pN M 2 (.cells (av 5 (ls [.string ⟨#[]⟩, .string ⟨#[]⟩, .string ⟨#[]⟩, .string ⟨#[]⟩, .string ⟨#[]⟩])) 23) fun g1 u1 M => ?_
  replace M : Mem ⟨w, []⟩ [⟨g1, .cells (av 5 (ls [.string ⟨#[]⟩, .string ⟨#[]⟩, .string ⟨#[]⟩, .string ⟨#[]⟩, .string ⟨#[]⟩])) 23⟩] u1 := M
  refine nT ?_
  refine sR ?_
  refine ZM M 5 (fun g2 => .slice (some ⟨g2, 0, none⟩) 31 31) (.cells (av 31 (ls [.int .u8 0, .int .u8 0, .int .u8 0, .int .u8 0, .int .u8 0, .int .u8 0, .int .u8 0, .int .u8 0, .int .u8 0, .int .u8 0, .int .u8 0, .int .u8 0, .int .u8 0, .int .u8 0, .int .u8 0, .int .u8 0, .int .u8 0, .int .u8 0, .int .u8 0, .int .u8 0, .int .u8 0, .int .u8 0, .int .u8 0, .int .u8 0, .int .u8 0, .int .u8 0, .int .u8 0, .int .u8 0, .int .u8 0, .int .u8 0, .int .u8 0])) 5) fun g2 u2 M => ?_
  replace M : Mem ⟨w, []⟩ [⟨g1, .cells (av 5 (ls [.string ⟨#[]⟩, .string ⟨#[]⟩, .string ⟨#[]⟩, .string ⟨#[]⟩, .string ⟨#[]⟩])) 23⟩, ⟨g2, .cells (av 31 (ls [.int .u8 0, .int .u8 0, .int .u8 0, .int .u8 0, .int .u8 0, .int .u8 0, .int .u8 0, .int .u8 0, .int .u8 0, .int .u8 0, .int .u8 0, .int .u8 0, .int .u8 0, .int .u8 0, .int .u8 0, .int .u8 0, .int .u8 0, .int .u8 0, .int .u8 0, .int .u8 0, .int .u8 0, .int .u8 0, .int .u8 0, .int .u8 0, .int .u8 0, .int .u8 0, .int .u8 0, .int .u8 0, .int .u8 0, .int .u8 0, .int .u8 0])) 5⟩] u2 := M
  refine pl_back M (want_no rfl) (some 6) rfl _ rfl 1 g2 31 31 (by kernel_rfl) _ rfl [0, 0, 0, 0, 0, 0, 0, 0, 0, 0, 0, 0, 0, 0, 0, 0, 0, 0, 0, 0, 0, 0, 0, 0, 0, 0, 0, 0, 0, 0, 0] 31 (sb_ls [0, 0, 0, 0, 0, 0, 0, 0, 0, 0, 0, 0, 0, 0, 0, 0, 0, 0, 0, 0, 0, 0, 0, 0, 0, 0, 0, 0, 0, 0, 0] _) rfl (by decide) ?_
  refine pH 7 (.string ((bs [0, 0, 0, 0, 0, 0, 0, 0, 0, 0, 0, 0, 0, 0, 0, 0, 0, 0, 0, 0, 0, 0, 0, 0, 0, 0, 0, 0, 0, 0, 0]) ++ (⟨#[97]⟩ : ByteArray))) (run_cat 9 9 _ _ rfl (bs [0, 0, 0, 0, 0, 0, 0, 0, 0, 0, 0, 0, 0, 0, 0, 0, 0, 0, 0, 0, 0, 0, 0, 0, 0, 0, 0, 0, 0, 0, 0]) ⟨#[97]⟩ (by kernel_rfl) (by kernel_rfl) (by decide +kernel)) ?_
  refine rV 1 ?_
  refine nT ?_
  refine sR ?_
  refine ZM M 8 (fun g3 => .slice (some ⟨g3, 0, none⟩) 31 31) (.cells (av 31 (ls [.int .u8 0, .int .u8 0, .int .u8 0, .int .u8 0, .int .u8 0, .int .u8 0, .int .u8 0, .int .u8 0, .int .u8 0, .int .u8 0, .int .u8 0, .int .u8 0, .int .u8 0, .int .u8 0, .int .u8 0, .int .u8 0, .int .u8 0, .int .u8 0, .int .u8 0, .int .u8 0, .int .u8 0, .int .u8 0, .int .u8 0, .int .u8 0, .int .u8 0, .int .u8 0, .int .u8 0, .int .u8 0, .int .u8 0, .int .u8 0, .int .u8 0])) 5) fun g3 u3 M => ?_
  replace M : Mem ⟨w, []⟩ [⟨g1, .cells (av 5 (ls [.string ⟨#[]⟩, .string ⟨#[]⟩, .string ⟨#[]⟩, .string ⟨#[]⟩, .string ⟨#[]⟩])) 23⟩, ⟨g2, .cells (av 31 (ls [.int .u8 0, .int .u8 0, .int .u8 0, .int .u8 0, .int .u8 0, .int .u8 0, .int .u8 0, .int .u8 0, .int .u8 0, .int .u8 0, .int .u8 0, .int .u8 0, .int .u8 0, .int .u8 0, .int .u8 0, .int .u8 0, .int .u8 0, .int .u8 0, .int .u8 0, .int .u8 0, .int .u8 0, .int .u8 0, .int .u8 0, .int .u8 0, .int .u8 0, .int .u8 0, .int .u8 0, .int .u8 0, .int .u8 0, .int .u8 0, .int .u8 0])) 5⟩, ⟨g3, .cells (av 31 (ls [.int .u8 0, .int .u8 0, .int .u8 0, .int .u8 0, .int .u8 0, .int .u8 0, .int .u8 0, .int .u8 0, .int .u8 0, .int .u8 0, .int .u8 0, .int .u8 0, .int .u8 0, .int .u8 0, .int .u8 0, .int .u8 0, .int .u8 0, .int .u8 0, .int .u8 0, .int .u8 0, .int .u8 0, .int .u8 0, .int .u8 0, .int .u8 0, .int .u8 0, .int .u8 0, .int .u8 0, .int .u8 0, .int .u8 0, .int .u8 0, .int .u8 0])) 5⟩] u3 := M
  refine pl_back M (want_no rfl) (some 9) rfl _ rfl 2 g3 31 31 (by kernel_rfl) _ rfl [0, 0, 0, 0, 0, 0, 0, 0, 0, 0, 0, 0, 0, 0, 0, 0, 0, 0, 0, 0, 0, 0, 0, 0, 0, 0, 0, 0, 0, 0, 0] 31 (sb_ls [0, 0, 0, 0, 0, 0, 0, 0, 0, 0, 0, 0, 0, 0, 0, 0, 0, 0, 0, 0, 0, 0, 0, 0, 0, 0, 0, 0, 0, 0, 0] _) rfl (by decide) ?_
  refine pH 10 (.string ((bs [0, 0, 0, 0, 0, 0, 0, 0, 0, 0, 0, 0, 0, 0, 0, 0, 0, 0, 0, 0, 0, 0, 0, 0, 0, 0, 0, 0, 0, 0, 0]) ++ (⟨#[98]⟩ : ByteArray))) (run_cat 9 9 _ _ rfl (bs [0, 0, 0, 0, 0, 0, 0, 0, 0, 0, 0, 0, 0, 0, 0, 0, 0, 0, 0, 0, 0, 0, 0, 0, 0, 0, 0, 0, 0, 0, 0]) ⟨#[98]⟩ (by kernel_rfl) (by kernel_rfl) (by decide +kernel)) ?_
  refine rV 1 ?_
  refine nT ?_
  refine wp_seq ?_
  refine sq ?_
  refine wp_cond_true (by kernel_rfl) ?_
  refine sR ?_
  refine rV 3 ?_
  refine pl_put M (want_no rfl) rfl 23 _ _ rfl 0 g1 0 (by kernel_rfl) 5 23 (ls [.string ⟨#[]⟩, .string ⟨#[]⟩, .string ⟨#[]⟩, .string ⟨#[]⟩, .string ⟨#[]⟩]) rfl 5 (ls [.string ⟨#[]⟩, .string ⟨#[]⟩, .string ((bs [0, 0, 0, 0, 0, 0, 0, 0, 0, 0, 0, 0, 0, 0, 0, 0, 0, 0, 0, 0, 0, 0, 0, 0, 0, 0, 0, 0, 0, 0, 0]) ++ (⟨#[97]⟩ : ByteArray)), .string ((bs [0, 0, 0, 0, 0, 0, 0, 0, 0, 0, 0, 0, 0, 0, 0, 0, 0, 0, 0, 0, 0, 0, 0, 0, 0, 0, 0, 0, 0, 0, 0]) ++ (⟨#[98]⟩ : ByteArray)), .string ⟨#[]⟩]) (ls [.string ⟨#[]⟩, .string ⟨#[]⟩, .string ((bs [0, 0, 0, 0, 0, 0, 0, 0, 0, 0, 0, 0, 0, 0, 0, 0, 0, 0, 0, 0, 0, 0, 0, 0, 0, 0, 0, 0, 0, 0, 0]) ++ (⟨#[97]⟩ : ByteArray)), .string ((bs [0, 0, 0, 0, 0, 0, 0, 0, 0, 0, 0, 0, 0, 0, 0, 0, 0, 0, 0, 0, 0, 0, 0, 0, 0, 0, 0, 0, 0, 0, 0]) ++ (⟨#[98]⟩ : ByteArray)), .string ⟨#[]⟩]) (by kernel_rfl) inz23 (by decide) (one_ls _ rfl) (fun j hj => by rw [if_pos (by omega), Nat.sub_zero]) fun u4 M => ?_
  replace M : Mem ⟨w, []⟩ [⟨g1, .cells (av 5 (ls [.string ⟨#[]⟩, .string ⟨#[]⟩, .string ((bs [0, 0, 0, 0, 0, 0, 0, 0, 0, 0, 0, 0, 0, 0, 0, 0, 0, 0, 0, 0, 0, 0, 0, 0, 0, 0, 0, 0, 0, 0, 0]) ++ (⟨#[97]⟩ : ByteArray)), .string ((bs [0, 0, 0, 0, 0, 0, 0, 0, 0, 0, 0, 0, 0, 0, 0, 0, 0, 0, 0, 0, 0, 0, 0, 0, 0, 0, 0, 0, 0, 0, 0]) ++ (⟨#[98]⟩ : ByteArray)), .string ⟨#[]⟩])) 23⟩, ⟨g2, .cells (av 31 (ls [.int .u8 0, .int .u8 0, .int .u8 0, .int .u8 0, .int .u8 0, .int .u8 0, .int .u8 0, .int .u8 0, .int .u8 0, .int .u8 0, .int .u8 0, .int .u8 0, .int .u8 0, .int .u8 0, .int .u8 0, .int .u8 0, .int .u8 0, .int .u8 0, .int .u8 0, .int .u8 0, .int .u8 0, .int .u8 0, .int .u8 0, .int .u8 0, .int .u8 0, .int .u8 0, .int .u8 0, .int .u8 0, .int .u8 0, .int .u8 0, .int .u8 0])) 5⟩, ⟨g3, .cells (av 31 (ls [.int .u8 0, .int .u8 0, .int .u8 0, .int .u8 0, .int .u8 0, .int .u8 0, .int .u8 0, .int .u8 0, .int .u8 0, .int .u8 0, .int .u8 0, .int .u8 0, .int .u8 0, .int .u8 0, .int .u8 0, .int .u8 0, .int .u8 0, .int .u8 0, .int .u8 0, .int .u8 0, .int .u8 0, .int .u8 0, .int .u8 0, .int .u8 0, .int .u8 0, .int .u8 0, .int .u8 0, .int .u8 0, .int .u8 0, .int .u8 0, .int .u8 0])) 5⟩] u4 := M
  refine nT ?_
  refine wp_ret ?_
  refine au_then_ret ?_
  have e0 : keyA = ((bs [0, 0, 0, 0, 0, 0, 0, 0, 0, 0, 0, 0, 0, 0, 0, 0, 0, 0, 0, 0, 0, 0, 0, 0, 0, 0, 0, 0, 0, 0, 0]) ++ (⟨#[97]⟩ : ByteArray)) := rfl
  have e1 : keyB = ((bs [0, 0, 0, 0, 0, 0, 0, 0, 0, 0, 0, 0, 0, 0, 0, 0, 0, 0, 0, 0, 0, 0, 0, 0, 0, 0, 0, 0, 0, 0, 0]) ++ (⟨#[98]⟩ : ByteArray)) := rfl
  exact bodyPost_ret (v := .agg (av 5 (ls [.string ⟨#[]⟩, .string ⟨#[]⟩, .string ((bs [0, 0, 0, 0, 0, 0, 0, 0, 0, 0, 0, 0, 0, 0, 0, 0, 0, 0, 0, 0, 0, 0, 0, 0, 0, 0, 0, 0, 0, 0, 0]) ++ (⟨#[97]⟩ : ByteArray)), .string ((bs [0, 0, 0, 0, 0, 0, 0, 0, 0, 0, 0, 0, 0, 0, 0, 0, 0, 0, 0, 0, 0, 0, 0, 0, 0, 0, 0, 0, 0, 0, 0]) ++ (⟨#[98]⟩ : ByteArray)), .string ⟨#[]⟩]))) (results_cell_row Tryz.results20 _ _ g1 23 (av 5 (ls [.string ⟨#[]⟩, .string ⟨#[]⟩, .string ((bs [0, 0, 0, 0, 0, 0, 0, 0, 0, 0, 0, 0, 0, 0, 0, 0, 0, 0, 0, 0, 0, 0, 0, 0, 0, 0, 0, 0, 0, 0, 0]) ++ (⟨#[97]⟩ : ByteArray)), .string ((bs [0, 0, 0, 0, 0, 0, 0, 0, 0, 0, 0, 0, 0, 0, 0, 0, 0, 0, 0, 0, 0, 0, 0, 0, 0, 0, 0, 0, 0, 0, 0]) ++ (⟨#[98]⟩ : ByteArray)), .string ⟨#[]⟩])) (0, 0) _ (by kernel_rfl) (M.get 0 rfl) Tryz.underlying23 rfl (by rw [av_size]; exact inz23)) (by kernel_rfl) ⟨by rw [e0, e1], below_grown M.old⟩

set_option maxRecDepth 100000 in
set_option maxHeartbeats 4000000 in
set_option linter.unusedSimpArgs false in
theorem c_gotB  (w : World) (hL : Laid w)  :
    Calls Tryz.prog 20 #[.bool false] w fun r w' => r = .returned (.agg (av 5 (ls [.string ⟨#[]⟩, .string ⟨#[]⟩, .string keyB, .string keyA, .string ⟨#[]⟩]))) ∧ Below w.heap.size w w' := by
  go_enter Tryz.func20, Tryz.ntmps20
  have M := Mem.start hL
  refine sR ?_
  refine pN M 2 (.cells (av 5 (ls [.string ⟨#[]⟩, .string ⟨#[]⟩, .string ⟨#[]⟩, .string ⟨#[]⟩, .string ⟨#[]⟩])) 23) fun g1 u1 M => ?_
  replace M : Mem ⟨w, []⟩ [⟨g1, .cells (av 5 (ls [.string ⟨#[]⟩, .string ⟨#[]⟩, .string ⟨#[]⟩, .string ⟨#[]⟩, .string ⟨#[]⟩])) 23⟩] u1 := M
  refine nT ?_
  refine sR ?_
  refine ZM M 5 (fun g2 => .slice (some ⟨g2, 0, none⟩) 31 31) (.cells (av 31 (ls [.int .u8 0, .int .u8 0, .int .u8 0, .int .u8 0, .int .u8 0, .int .u8 0, .int .u8 0, .int .u8 0, .int .u8 0, .int .u8 0, .int .u8 0, .int .u8 0, .int .u8 0, .int .u8 0, .int .u8 0, .int .u8 0, .int .u8 0, .int .u8 0, .int .u8 0, .int .u8 0, .int .u8 0, .int .u8 0, .int .u8 0, .int .u8 0, .int .u8 0, .int .u8 0, .int .u8 0, .int .u8 0, .int .u8 0, .int .u8 0, .int .u8 0])) 5) fun g2 u2 M => ?_
  replace M : Mem ⟨w, []⟩ [⟨g1, .cells (av 5 (ls [.string ⟨#[]⟩, .string ⟨#[]⟩, .string ⟨#[]⟩, .string ⟨#[]⟩, .string ⟨#[]⟩])) 23⟩, ⟨g2, .cells (av 31 (ls [.int .u8 0, .int .u8 0, .int .u8 0, .int .u8 0, .int .u8 0, .int .u8 0, .int .u8 0, .int .u8 0, .int .u8 0, .int .u8 0, .int .u8 0, .int .u8 0, .int .u8 0, .int .u8 0, .int .u8 0, .int .u8 0, .int .u8 0, .int .u8 0, .int .u8 0, .int .u8 0, .int .u8 0, .int .u8 0, .int .u8 0, .int .u8 0, .int .u8 0, .int .u8 0, .int .u8 0, .int .u8 0, .int .u8 0, .int .u8 0, .int .u8 0])) 5⟩] u2 := M
  refine pl_back M (want_no rfl) (some 6) rfl _ rfl 1 g2 31 31 (by kernel_rfl) _ rfl [0, 0, 0, 0, 0, 0, 0, 0, 0, 0, 0, 0, 0, 0, 0, 0, 0, 0, 0, 0, 0, 0, 0, 0, 0, 0, 0, 0, 0, 0, 0] 31 (sb_ls [0, 0, 0, 0, 0, 0, 0, 0, 0, 0, 0, 0, 0, 0, 0, 0, 0, 0, 0, 0, 0, 0, 0, 0, 0, 0, 0, 0, 0, 0, 0] _) rfl (by decide) ?_
  refine pH 7 (.string ((bs [0, 0, 0, 0, 0, 0, 0, 0, 0, 0, 0, 0, 0, 0, 0, 0, 0, 0, 0, 0, 0, 0, 0, 0, 0, 0, 0, 0, 0, 0, 0]) ++ (⟨#[97]⟩ : ByteArray))) (run_cat 9 9 _ _ rfl (bs [0, 0, 0, 0, 0, 0, 0, 0, 0, 0, 0, 0, 0, 0, 0, 0, 0, 0, 0, 0, 0, 0, 0, 0, 0, 0, 0, 0, 0, 0, 0]) ⟨#[97]⟩ (by kernel_rfl) (by kernel_rfl) (by decide +kernel)) ?_
  refine rV 1 ?_
  refine nT ?_
  refine sR ?_
  refine ZM M 8 (fun g3 => .slice (some ⟨g3, 0, none⟩) 31 31) (.cells (av 31 (ls [.int .u8 0, .int .u8 0, .int .u8 0, .int .u8 0, .int .u8 0, .int .u8 0, .int .u8 0, .int .u8 0, .int .u8 0, .int .u8 0, .int .u8 0, .int .u8 0, .int .u8 0, .int .u8 0, .int .u8 0, .int .u8 0, .int .u8 0, .int .u8 0, .int .u8 0, .int .u8 0, .int .u8 0, .int .u8 0, .int .u8 0, .int .u8 0, .int .u8 0, .int .u8 0, .int .u8 0, .int .u8 0, .int .u8 0, .int .u8 0, .int .u8 0])) 5) fun g3 u3 M => ?_
  replace M : Mem ⟨w, []⟩ [⟨g1, .cells (av 5 (ls [.string ⟨#[]⟩, .string ⟨#[]⟩, .string ⟨#[]⟩, .string ⟨#[]⟩, .string ⟨#[]⟩])) 23⟩, ⟨g2, .cells (av 31 (ls [.int .u8 0, .int .u8 0, .int .u8 0, .int .u8 0, .int .u8 0, .int .u8 0, .int .u8 0, .int .u8 0, .int .u8 0, .int .u8 0, .int .u8 0, .int .u8 0, .int .u8 0, .int .u8 0, .int .u8 0, .int .u8 0, .int .u8 0, .int .u8 0, .int .u8 0, .int .u8 0, .int .u8 0, .int .u8 0, .int .u8 0, .int .u8 0, .int .u8 0, .int .u8 0, .int .u8 0, .int .u8 0, .int .u8 0, .int .u8 0, .int .u8 0])) 5⟩, ⟨g3, .cells (av 31 (ls [.int .u8 0, .int .u8 0, .int .u8 0, .int .u8 0, .int .u8 0, .int .u8 0, .int .u8 0, .int .u8 0, .int .u8 0, .int .u8 0, .int .u8 0, .int .u8 0, .int .u8 0, .int .u8 0, .int .u8 0, .int .u8 0, .int .u8 0, .int .u8 0, .int .u8 0, .int .u8 0, .int .u8 0, .int .u8 0, .int .u8 0, .int .u8 0, .int .u8 0, .int .u8 0, .int .u8 0, .int .u8 0, .int .u8 0, .int .u8 0, .int .u8 0])) 5⟩] u3 := M
  refine pl_back M (want_no rfl) (some 9) rfl _ rfl 2 g3 31 31 (by kernel_rfl) _ rfl [0, 0, 0, 0, 0, 0, 0, 0, 0, 0, 0, 0, 0, 0, 0, 0, 0, 0, 0, 0, 0, 0, 0, 0, 0, 0, 0, 0, 0, 0, 0] 31 (sb_ls [0, 0, 0, 0, 0, 0, 0, 0, 0, 0, 0, 0, 0, 0, 0, 0, 0, 0, 0, 0, 0, 0, 0, 0, 0, 0, 0, 0, 0, 0, 0] _) rfl (by decide) ?_
  refine pH 10 (.string ((bs [0, 0, 0, 0, 0, 0, 0, 0, 0, 0, 0, 0, 0, 0, 0, 0, 0, 0, 0, 0, 0, 0, 0, 0, 0, 0, 0, 0, 0, 0, 0]) ++ (⟨#[98]⟩ : ByteArray))) (run_cat 9 9 _ _ rfl (bs [0, 0, 0, 0, 0, 0, 0, 0, 0, 0, 0, 0, 0, 0, 0, 0, 0, 0, 0, 0, 0, 0, 0, 0, 0, 0, 0, 0, 0, 0, 0]) ⟨#[98]⟩ (by kernel_rfl) (by kernel_rfl) (by decide +kernel)) ?_
  refine rV 1 ?_
  refine nT ?_
  refine wp_seq ?_
  refine sq ?_
  refine wp_cond_false (by kernel_rfl) ?_
  refine wp_skip ?_
  refine au_then ?_
  refine sR ?_
  refine rV 3 ?_
  refine pl_put M (want_no rfl) rfl 23 _ _ rfl 0 g1 0 (by kernel_rfl) 5 23 (ls [.string ⟨#[]⟩, .string ⟨#[]⟩, .string ⟨#[]⟩, .string ⟨#[]⟩, .string ⟨#[]⟩]) rfl 5 (ls [.string ⟨#[]⟩, .string ⟨#[]⟩, .string ((bs [0, 0, 0, 0, 0, 0, 0, 0, 0, 0, 0, 0, 0, 0, 0, 0, 0, 0, 0, 0, 0, 0, 0, 0, 0, 0, 0, 0, 0, 0, 0]) ++ (⟨#[98]⟩ : ByteArray)), .string ((bs [0, 0, 0, 0, 0, 0, 0, 0, 0, 0, 0, 0, 0, 0, 0, 0, 0, 0, 0, 0, 0, 0, 0, 0, 0, 0, 0, 0, 0, 0, 0]) ++ (⟨#[97]⟩ : ByteArray)), .string ⟨#[]⟩]) (ls [.string ⟨#[]⟩, .string ⟨#[]⟩, .string ((bs [0, 0, 0, 0, 0, 0, 0, 0, 0, 0, 0, 0, 0, 0, 0, 0, 0, 0, 0, 0, 0, 0, 0, 0, 0, 0, 0, 0, 0, 0, 0]) ++ (⟨#[98]⟩ : ByteArray)), .string ((bs [0, 0, 0, 0, 0, 0, 0, 0, 0, 0, 0, 0, 0, 0, 0, 0, 0, 0, 0, 0, 0, 0, 0, 0, 0, 0, 0, 0, 0, 0, 0]) ++ (⟨#[97]⟩ : ByteArray)), .string ⟨#[]⟩]) (by kernel_rfl) inz23 (by decide) (one_ls _ rfl) (fun j hj => by rw [if_pos (by omega), Nat.sub_zero]) fun u4 M => ?_
  replace M : Mem ⟨w, []⟩ [⟨g1, .cells (av 5 (ls [.string ⟨#[]⟩, .string ⟨#[]⟩, .string ((bs [0, 0, 0, 0, 0, 0, 0, 0, 0, 0, 0, 0, 0, 0, 0, 0, 0, 0, 0, 0, 0, 0, 0, 0, 0, 0, 0, 0, 0, 0, 0]) ++ (⟨#[98]⟩ : ByteArray)), .string ((bs [0, 0, 0, 0, 0, 0, 0, 0, 0, 0, 0, 0, 0, 0, 0, 0, 0, 0, 0, 0, 0, 0, 0, 0, 0, 0, 0, 0, 0, 0, 0]) ++ (⟨#[97]⟩ : ByteArray)), .string ⟨#[]⟩])) 23⟩, ⟨g2, .cells (av 31 (ls [.int .u8 0, .int .u8 0, .int .u8 0, .int .u8 0, .int .u8 0, .int .u8 0, .int .u8 0, .int .u8 0, .int .u8 0, .int .u8 0, .int .u8 0, .int .u8 0, .int .u8 0, .int .u8 0, .int .u8 0, .int .u8 0, .int .u8 0, .int .u8 0, .int .u8 0, .int .u8 0, .int .u8 0, .int .u8 0, .int .u8 0, .int .u8 0, .int .u8 0, .int .u8 0, .int .u8 0, .int .u8 0, .int .u8 0, .int .u8 0, .int .u8 0])) 5⟩, ⟨g3, .cells (av 31 (ls [.int .u8 0, .int .u8 0, .int .u8 0, .int .u8 0, .int .u8 0, .int .u8 0, .int .u8 0, .int .u8 0, .int .u8 0, .int .u8 0, .int .u8 0, .int .u8 0, .int .u8 0, .int .u8 0, .int .u8 0, .int .u8 0, .int .u8 0, .int .u8 0, .int .u8 0, .int .u8 0, .int .u8 0, .int .u8 0, .int .u8 0, .int .u8 0, .int .u8 0, .int .u8 0, .int .u8 0, .int .u8 0, .int .u8 0, .int .u8 0, .int .u8 0])) 5⟩] u4 := M
  refine nT ?_
  refine wp_ret ?_
  have e0 : keyB = ((bs [0, 0, 0, 0, 0, 0, 0, 0, 0, 0, 0, 0, 0, 0, 0, 0, 0, 0, 0, 0, 0, 0, 0, 0, 0, 0, 0, 0, 0, 0, 0]) ++ (⟨#[98]⟩ : ByteArray)) := rfl
  have e1 : keyA = ((bs [0, 0, 0, 0, 0, 0, 0, 0, 0, 0, 0, 0, 0, 0, 0, 0, 0, 0, 0, 0, 0, 0, 0, 0, 0, 0, 0, 0, 0, 0, 0]) ++ (⟨#[97]⟩ : ByteArray)) := rfl
  exact bodyPost_ret (v := .agg (av 5 (ls [.string ⟨#[]⟩, .string ⟨#[]⟩, .string ((bs [0, 0, 0, 0, 0, 0, 0, 0, 0, 0, 0, 0, 0, 0, 0, 0, 0, 0, 0, 0, 0, 0, 0, 0, 0, 0, 0, 0, 0, 0, 0]) ++ (⟨#[98]⟩ : ByteArray)), .string ((bs [0, 0, 0, 0, 0, 0, 0, 0, 0, 0, 0, 0, 0, 0, 0, 0, 0, 0, 0, 0, 0, 0, 0, 0, 0, 0, 0, 0, 0, 0, 0]) ++ (⟨#[97]⟩ : ByteArray)), .string ⟨#[]⟩]))) (results_cell_row Tryz.results20 _ _ g1 23 (av 5 (ls [.string ⟨#[]⟩, .string ⟨#[]⟩, .string ((bs [0, 0, 0, 0, 0, 0, 0, 0, 0, 0, 0, 0, 0, 0, 0, 0, 0, 0, 0, 0, 0, 0, 0, 0, 0, 0, 0, 0, 0, 0, 0]) ++ (⟨#[98]⟩ : ByteArray)), .string ((bs [0, 0, 0, 0, 0, 0, 0, 0, 0, 0, 0, 0, 0, 0, 0, 0, 0, 0, 0, 0, 0, 0, 0, 0, 0, 0, 0, 0, 0, 0, 0]) ++ (⟨#[97]⟩ : ByteArray)), .string ⟨#[]⟩])) (0, 0) _ (by kernel_rfl) (M.get 0 rfl) Tryz.underlying23 rfl (by rw [av_size]; exact inz23)) (by kernel_rfl) ⟨by rw [e0, e1], below_grown M.old⟩

set_option maxRecDepth 100000 in
set_option maxHeartbeats 4000000 in
set_option linter.unusedSimpArgs false in
theorem c_alive  (w : World) (hL : Laid w)  :
    Calls Tryz.prog 6 #[] w fun r w' => r = .returned (.bool true) ∧ Below w.heap.size w w' := by
  go_enter Tryz.func6, Tryz.ntmps6
  have M := Mem.start hL
  refine sq ?_
  refine sR ?_
  refine rV 1 ?_
  refine pN M 1 (.cells (av 5 (ls [.int .u64 0, .int .u64 0, .int .u64 0, .int .u64 0, .int .i64 0])) 26) fun g1 u1 M => ?_
  replace M : Mem ⟨w, []⟩ [⟨g1, .cells (av 5 (ls [.int .u64 0, .int .u64 0, .int .u64 0, .int .u64 0, .int .i64 0])) 26⟩] u1 := M
  refine pl_put M (want_no rfl) rfl 26 _ _ rfl 0 g1 0 (by kernel_rfl) 5 26 (ls [.int .u64 0, .int .u64 0, .int .u64 0, .int .u64 0, .int .i64 0]) rfl 5 (ls [.int .u64 2, .int .u64 3, .int .u64 10, .int .u64 20, .int .i64 8]) (ls [.int .u64 2, .int .u64 3, .int .u64 10, .int .u64 20, .int .i64 8]) (by kernel_rfl) inz26 (by decide) (one_ls _ rfl) (fun j hj => by rw [if_pos (by omega), Nat.sub_zero]) fun u2 M => ?_
  replace M : Mem ⟨w, []⟩ [⟨g1, .cells (av 5 (ls [.int .u64 2, .int .u64 3, .int .u64 10, .int .u64 20, .int .i64 8])) 26⟩] u2 := M
  refine nT ?_
  refine wp_seq ?_
  refine rg_held M [⟨g1, .cells (av 5 (ls [.int .u64 2, .int .u64 3, .int .u64 10, .int .u64 20, .int .i64 8])) 26⟩] 7 rfl (by kernel_rfl) (by kernel_rfl) (fun _ _ d _ _ h => by cases d <;> exact h) fun u3 M => ?_
  replace M : Mem ⟨w, []⟩ [⟨g1, .cells (av 5 (ls [.int .u64 2, .int .u64 3, .int .u64 10, .int .u64 20, .int .i64 8])) 26⟩] u3 := M
  refine hl_load M 1 rfl (by decide) (by kernel_rfl) (by kernel_rfl) (want_no rfl) (some 22) rfl 26 _ rfl 0 g1 0 (by kernel_rfl) 5 26 (ls [.int .u64 2, .int .u64 3, .int .u64 10, .int .u64 20, .int .i64 8]) rfl 5 (ls [.int .u64 2, .int .u64 3, .int .u64 10, .int .u64 20, .int .i64 8]) (fun j _ => by rw [Nat.zero_add]) (by decide) _ Tryz.underlying26 rfl inz26 ?_
  refine hl_one 0 (by decide) (by kernel_rfl) rfl ?_
  refine ZC M 21 (fun w M => c_gotA w M.laid) fun u4 M => ?_
  refine nT ?_
  refine ⟨M, ?_⟩
  refine hl_one 2 (by decide) (by kernel_rfl) rfl ?_
  refine pl_callM M (want_no rfl) (some 23) rfl 7 #[.agg (av 5 (ls [.string ⟨#[]⟩, .string ⟨#[]⟩, .string keyA, .string keyB, .string ⟨#[]⟩])), .bool true, .int .u64 5, .agg (av 5 (ls [.int .u64 2, .int .u64 3, .int .u64 10, .int .u64 20, .int .i64 8]))] [⟨g1, .cells (av 5 (ls [.int .u64 2, .int .u64 3, .int .u64 10, .int .u64 20, .int .i64 8])) 26⟩] [] [] (by simp only [List.append_assoc, List.cons_append, List.nil_append, List.append_nil]) (fun x : Nat × List Blk => .tuple #[.pointer (some ⟨x.1, 0, none⟩), .int .i64 0]) (fun x : Nat × List Blk => x.2) (fun x : Nat × List Blk => IsT x.1 ⟨2, 3, 10, 20, 8, 0, 5, keyA, keyB, true, true, []⟩ x.2) (fun _ => by kernel_rfl) (fun w hL hT => a_New keyA_size keyB_size (by decide) (by decide) (by decide) w hL) ?_
  rintro ⟨pa, Tpa⟩ u5 Hpa M
  replace M : Mem ⟨w, []⟩ (⟨g1, .cells (av 5 (ls [.int .u64 2, .int .u64 3, .int .u64 10, .int .u64 20, .int .i64 8])) 26⟩ :: Tpa) u5 := by simpa only [List.append_assoc, List.cons_append, List.nil_append, List.append_nil] using M
  refine nT ?_
  refine ⟨(M.drop (.cons_cons _ (List.nil_sublist _))), ?_⟩
  refine qV (M.drop (.cons_cons _ (List.nil_sublist _))) 3 20 (.tuple #[.pointer (some ⟨pa, 0, none⟩), .int .i64 0]) ?_
  refine qV (M.drop (.cons_cons _ (List.nil_sublist _))) 4 24 (.pointer (some ⟨pa, 0, none⟩)) ?_
  refine qV (M.drop (.cons_cons _ (List.nil_sublist _))) 5 25 (.int .i64 0) ?_
  refine qV (M.drop (.cons_cons _ (List.nil_sublist _))) 6 2 (.pointer (some ⟨pa, 0, none⟩)) ?_
  refine hl_end (by kernel_rfl) (by kernel_rfl) rfl ?_
  refine rV 1 ?_
  refine nT ?_
  refine au_then ?_
  refine wp_seq ?_
  refine rg_held M [⟨g1, .cells (av 5 (ls [.int .u64 2, .int .u64 3, .int .u64 10, .int .u64 20, .int .i64 8])) 26⟩] 7 rfl (by kernel_rfl) (by kernel_rfl) (fun _ _ d _ _ h => by cases d <;> exact h) fun u6 M => ?_
  replace M : Mem ⟨w, []⟩ (⟨g1, .cells (av 5 (ls [.int .u64 2, .int .u64 3, .int .u64 10, .int .u64 20, .int .i64 8])) 26⟩ :: Tpa) u6 := M
  refine hl_load (M.drop (.cons_cons _ (List.nil_sublist _))) 1 rfl (by decide) (by kernel_rfl) (by kernel_rfl) (want_no rfl) (some 28) rfl 26 _ rfl 0 g1 0 (by kernel_rfl) 5 26 (ls [.int .u64 2, .int .u64 3, .int .u64 10, .int .u64 20, .int .i64 8]) rfl 5 (ls [.int .u64 2, .int .u64 3, .int .u64 10, .int .u64 20, .int .i64 8]) (fun j _ => by rw [Nat.zero_add]) (by decide) _ Tryz.underlying26 rfl inz26 ?_
  refine hl_one 0 (by decide) (by kernel_rfl) rfl ?_
  refine ZC M 27 (fun w M => c_gotB w M.laid) fun u7 M => ?_
  refine nT ?_
  refine ⟨(M.drop (.cons_cons _ (List.nil_sublist _))), ?_⟩
  refine hl_one 2 (by decide) (by kernel_rfl) rfl ?_
  refine pl_callM M (want_no rfl) (some 29) rfl 7 #[.agg (av 5 (ls [.string ⟨#[]⟩, .string ⟨#[]⟩, .string keyB, .string keyA, .string ⟨#[]⟩])), .bool false, .int .u64 5, .agg (av 5 (ls [.int .u64 2, .int .u64 3, .int .u64 10, .int .u64 20, .int .i64 8]))] [⟨g1, .cells (av 5 (ls [.int .u64 2, .int .u64 3, .int .u64 10, .int .u64 20, .int .i64 8])) 26⟩] [] (Tpa) (by simp only [List.append_assoc, List.cons_append, List.nil_append, List.append_nil]) (fun x : Nat × List Blk => .tuple #[.pointer (some ⟨x.1, 0, none⟩), .int .i64 0]) (fun x : Nat × List Blk => x.2) (fun x : Nat × List Blk => IsT x.1 ⟨2, 3, 10, 20, 8, 0, 5, keyB, keyA, false, false, []⟩ x.2) (fun _ => by kernel_rfl) (fun w hL hT => a_New keyB_size keyA_size (by decide) (by decide) (by decide) w hL) ?_
  rintro ⟨pb, Tpb⟩ u8 Hpb M
  replace M : Mem ⟨w, []⟩ (⟨g1, .cells (av 5 (ls [.int .u64 2, .int .u64 3, .int .u64 10, .int .u64 20, .int .i64 8])) 26⟩ :: (Tpb ++ Tpa)) u8 := by simpa only [List.append_assoc, List.cons_append, List.nil_append, List.append_nil] using M
  refine nT ?_
  refine ⟨(M.drop (.cons_cons _ (List.nil_sublist _))), ?_⟩
  refine qV (M.drop (.cons_cons _ (List.nil_sublist _))) 3 26 (.tuple #[.pointer (some ⟨pb, 0, none⟩), .int .i64 0]) ?_
  refine qV (M.drop (.cons_cons _ (List.nil_sublist _))) 4 30 (.pointer (some ⟨pb, 0, none⟩)) ?_
  refine qV (M.drop (.cons_cons _ (List.nil_sublist _))) 5 31 (.int .i64 0) ?_
  refine qV (M.drop (.cons_cons _ (List.nil_sublist _))) 6 4 (.pointer (some ⟨pb, 0, none⟩)) ?_
  refine hl_end (by kernel_rfl) (by kernel_rfl) rfl ?_
  refine rV 1 ?_
  refine nT ?_
  refine au_then ?_
  refine wp_seq ?_
  refine sq ?_
  refine wp_cond_false (by kernel_rfl) ?_
  refine wp_skip ?_
  refine au_then ?_
  refine sR ?_
  refine rV 1 ?_
  refine pl_callM M (want_no rfl) (some 48) rfl 21 #[.pointer (some ⟨pb, 0, none⟩), .int .u64 5, .string ⟨#[120]⟩] [⟨g1, .cells (av 5 (ls [.int .u64 2, .int .u64 3, .int .u64 10, .int .u64 20, .int .i64 8])) 26⟩] (Tpb) (Tpa) (by simp only [List.append_assoc, List.cons_append, List.nil_append, List.append_nil]) (fun T0 => .tuple #[.int .u64 0, .string ⟨#[]⟩, .int .i64 3]) (fun T0 => T0) (fun T0 => IsT pb ⟨2, 3, 10, 20, 8, 0, 5, keyB, keyA, false, false, []⟩ T0) (fun _ => by kernel_rfl) (fun w hL hT => s_no Hpb ⟨by decide, by decide, by decide, by decide⟩ (by decide) keyB_size (by decide) (by decide) rfl w hL hT) ?_
  rintro Y1 u9 J1 M
  replace M : Mem ⟨w, []⟩ (⟨g1, .cells (av 5 (ls [.int .u64 2, .int .u64 3, .int .u64 10, .int .u64 20, .int .i64 8])) 26⟩ :: (Y1 ++ Tpa)) u9 := by simpa only [List.append_assoc, List.cons_append, List.nil_append, List.append_nil] using M
  refine rV 7 ?_
  refine nT ?_
  refine sR ?_
  refine rV 1 ?_
  refine pl_callM M (want_no rfl) (some 53) rfl 21 #[.pointer (some ⟨pa, 0, none⟩), .int .u64 5, .string ⟨#[111, 110, 101]⟩] (⟨g1, .cells (av 5 (ls [.int .u64 2, .int .u64 3, .int .u64 10, .int .u64 20, .int .i64 8])) 26⟩ :: Y1) (Tpa) [] (by simp only [List.append_assoc, List.cons_append, List.nil_append, List.append_nil]) (fun T0 => .tuple #[.int .u64 0, .string (sealS keyA (nS 0) ⟨#[]⟩ ⟨#[111, 110, 101]⟩), .int .i64 0]) (fun T0 => T0) (fun T0 => IsT pa ⟨2, 3, 10, 20, 8, 1, 5, keyA, keyB, true, true, []⟩ T0) (fun _ => by kernel_rfl) (fun w hL hT => s_ok Hpa ⟨by decide, by decide, by decide, by decide⟩ (by decide) keyA_size (by decide) (by decide) rfl (by decide) w hL hT) ?_
  rintro Y2 u10 J2 M
  replace M : Mem ⟨w, []⟩ (⟨g1, .cells (av 5 (ls [.int .u64 2, .int .u64 3, .int .u64 10, .int .u64 20, .int .i64 8])) 26⟩ :: (Y1 ++ Y2)) u10 := by simpa only [List.append_assoc, List.cons_append, List.nil_append, List.append_nil] using M
  refine nT ?_
  refine sR ?_
  refine rV 1 ?_
  refine pl_callM M (want_no rfl) (some 56) rfl 21 #[.pointer (some ⟨pa, 0, none⟩), .int .u64 5, .string ⟨#[116, 119, 111]⟩] (⟨g1, .cells (av 5 (ls [.int .u64 2, .int .u64 3, .int .u64 10, .int .u64 20, .int .i64 8])) 26⟩ :: Y1) (Y2) [] (by simp only [List.append_assoc, List.cons_append, List.nil_append, List.append_nil]) (fun T0 => .tuple #[.int .u64 1, .string (sealS keyA (nS 1) ⟨#[]⟩ ⟨#[116, 119, 111]⟩), .int .i64 0]) (fun T0 => T0) (fun T0 => IsT pa ⟨2, 3, 10, 20, 8, 2, 5, keyA, keyB, true, true, []⟩ T0) (fun _ => by kernel_rfl) (fun w hL hT => s_ok J2 ⟨by decide, by decide, by decide, by decide⟩ (by decide) keyA_size (by decide) (by decide) rfl (by decide) w hL hT) ?_
  rintro Y3 u11 J3 M
  replace M : Mem ⟨w, []⟩ (⟨g1, .cells (av 5 (ls [.int .u64 2, .int .u64 3, .int .u64 10, .int .u64 20, .int .i64 8])) 26⟩ :: (Y1 ++ Y3)) u11 := by simpa only [List.append_assoc, List.cons_append, List.nil_append, List.append_nil] using M
  refine rV 7 ?_
  refine nT ?_
  refine sR ?_
  refine rV 3 ?_
  refine pl_callM M (want_no rfl) (some 64) rfl 22 #[.pointer (some ⟨pb, 0, none⟩), .int .u64 5, .int .u64 1, .string (sealS keyA (nS 1) ⟨#[]⟩ ⟨#[116, 119, 111]⟩)] [⟨g1, .cells (av 5 (ls [.int .u64 2, .int .u64 3, .int .u64 10, .int .u64 20, .int .i64 8])) 26⟩] (Y1) (Y3) (by simp only [List.append_assoc, List.cons_append, List.nil_append, List.append_nil]) (fun T0 => .tuple #[.string ⟨#[116, 119, 111]⟩, .int .i64 0]) (fun T0 => T0) (fun T0 => IsT pb ⟨2, 3, 10, 20, 8, 0, 5, keyB, keyA, false, true, [1]⟩ T0) (fun _ => by kernel_rfl) (fun w hL hT => o_ok (s := ⟨#[116, 119, 111]⟩) J1 ⟨by decide, by decide, by decide, by decide⟩ (by decide) (by decide) keyB_size keyA_size (by decide) (by decide) (by decide) (by decide) w hL hT) ?_
  rintro Y4 u12 J4 M
  replace M : Mem ⟨w, []⟩ (⟨g1, .cells (av 5 (ls [.int .u64 2, .int .u64 3, .int .u64 10, .int .u64 20, .int .i64 8])) 26⟩ :: (Y4 ++ Y3)) u12 := by simpa only [List.append_assoc, List.cons_append, List.nil_append, List.append_nil] using M
  refine rV 5 ?_
  refine nT ?_
  refine sR ?_
  refine rV 3 ?_
  refine pl_callM M (want_no rfl) (some 71) rfl 22 #[.pointer (some ⟨pb, 0, none⟩), .int .u64 5, .int .u64 1, .string (sealS keyA (nS 1) ⟨#[]⟩ ⟨#[116, 119, 111]⟩)] [⟨g1, .cells (av 5 (ls [.int .u64 2, .int .u64 3, .int .u64 10, .int .u64 20, .int .i64 8])) 26⟩] (Y4) (Y3) (by simp only [List.append_assoc, List.cons_append, List.nil_append, List.append_nil]) (fun T0 => .tuple #[.string ⟨#[]⟩, .int .i64 9]) (fun T0 => T0) (fun T0 => IsT pb ⟨2, 3, 10, 20, 8, 0, 5, keyB, keyA, false, true, [1]⟩ T0) (fun _ => by kernel_rfl) (fun w hL hT => o_no J4 ⟨by decide, by decide, by decide, by decide⟩ (by decide) (by decide) keyB_size (by decide) (by decide) (by decide) w hL hT) ?_
  rintro Y5 u13 J5 M
  replace M : Mem ⟨w, []⟩ (⟨g1, .cells (av 5 (ls [.int .u64 2, .int .u64 3, .int .u64 10, .int .u64 20, .int .i64 8])) 26⟩ :: (Y5 ++ Y3)) u13 := by simpa only [List.append_assoc, List.cons_append, List.nil_append, List.append_nil] using M
  refine rV 5 ?_
  refine nT ?_
  refine sR ?_
  refine rV 1 ?_
  refine pl_callM M (want_no rfl) (some 76) rfl 21 #[.pointer (some ⟨pb, 0, none⟩), .int .u64 5, .string ⟨#[120]⟩] [⟨g1, .cells (av 5 (ls [.int .u64 2, .int .u64 3, .int .u64 10, .int .u64 20, .int .i64 8])) 26⟩] (Y5) (Y3) (by simp only [List.append_assoc, List.cons_append, List.nil_append, List.append_nil]) (fun T0 => .tuple #[.int .u64 0, .string (sealS keyB (nS 0) ⟨#[]⟩ ⟨#[120]⟩), .int .i64 0]) (fun T0 => T0) (fun T0 => IsT pb ⟨2, 3, 10, 20, 8, 1, 5, keyB, keyA, false, true, [1]⟩ T0) (fun _ => by kernel_rfl) (fun w hL hT => s_ok J5 ⟨by decide, by decide, by decide, by decide⟩ (by decide) keyB_size (by decide) (by decide) rfl (by decide) w hL hT) ?_
  rintro Y6 u14 J6 M
  replace M : Mem ⟨w, []⟩ (⟨g1, .cells (av 5 (ls [.int .u64 2, .int .u64 3, .int .u64 10, .int .u64 20, .int .i64 8])) 26⟩ :: (Y6 ++ Y3)) u14 := by simpa only [List.append_assoc, List.cons_append, List.nil_append, List.append_nil] using M
  refine rV 7 ?_
  refine nT ?_
  refine sR ?_
  refine rV 28 ?_
  refine pl_call M (want_on 26 true rfl 106 rfl (by kernel_rfl)) (some 108) rfl 12 #[.pointer (some ⟨pa, 0, none⟩), .int .u64 5] (.bool true) (fun _ => by kernel_rfl) (fun w M => call_val (a_Wants J3 (by decide) w M.laid (M.thereM (pre := (⟨g1, .cells (av 5 (ls [.int .u64 2, .int .u64 3, .int .u64 10, .int .u64 20, .int .i64 8])) 26⟩ :: Y6)) (T := Y3) (suf := []) (by simp only [List.append_assoc, List.cons_append, List.nil_append, List.append_nil]))) (congrArg Value.bool (by unfold TS.wn wnB; rw [show ovB keyA 20 5 5 = false from ov_no (x := ⟨2, 3, 10, 20, 8, 2, 5, keyA, keyB, true, true, []⟩) keyA_size (by decide)]; rfl))) fun u15 M => ?_
  refine rV 3 ?_
  refine pl_call M (want_on 30 true rfl 110 rfl (by kernel_rfl)) (some 112) rfl 12 #[.pointer (some ⟨pb, 0, none⟩), .int .u64 5] (.bool false) (fun _ => by kernel_rfl) (fun w M => call_val (a_Wants J6 (by decide) w M.laid (M.thereM (pre := [⟨g1, .cells (av 5 (ls [.int .u64 2, .int .u64 3, .int .u64 10, .int .u64 20, .int .i64 8])) 26⟩]) (T := Y6) (suf := Y3) (by simp only [List.append_assoc, List.cons_append, List.nil_append, List.append_nil]))) (rfl)) fun u16 M => ?_
  refine rV 4 ?_
  refine pl_call M (want_on 35 true rfl 115 rfl (by kernel_rfl)) (some 117) rfl 10 #[.pointer (some ⟨pa, 0, none⟩), .int .u64 24] (.bool false) (fun _ => by kernel_rfl) (fun w M => call_val (a_Over J3 (by decide) w M.laid (M.thereM (pre := (⟨g1, .cells (av 5 (ls [.int .u64 2, .int .u64 3, .int .u64 10, .int .u64 20, .int .i64 8])) 26⟩ :: Y6)) (T := Y3) (suf := []) (by simp only [List.append_assoc, List.cons_append, List.nil_append, List.append_nil]))) (congrArg Value.bool (ov_no keyA_size (by decide)))) fun u17 M => ?_
  refine rV 4 ?_
  refine pl_call M (want_on 40 true rfl 120 rfl (by kernel_rfl)) (some 122) rfl 10 #[.pointer (some ⟨pa, 0, none⟩), .int .u64 25] (.bool true) (fun _ => by kernel_rfl) (fun w M => call_val (a_Over J3 (by decide) w M.laid (M.thereM (pre := (⟨g1, .cells (av 5 (ls [.int .u64 2, .int .u64 3, .int .u64 10, .int .u64 20, .int .i64 8])) 26⟩ :: Y6)) (T := Y3) (suf := []) (by simp only [List.append_assoc, List.cons_append, List.nil_append, List.append_nil]))) (congrArg Value.bool (ov_yes (by decide)))) fun u18 M => ?_
  refine rV 3 ?_
  refine pl_call M (want_on 44 true rfl 124 rfl (by kernel_rfl)) (some 126) rfl 15 #[.pointer (some ⟨pa, 0, none⟩)] (.int .u64 2) (fun _ => by kernel_rfl) (fun w M => call_val (a_Sent J3  w M.laid (M.thereM (pre := (⟨g1, .cells (av 5 (ls [.int .u64 2, .int .u64 3, .int .u64 10, .int .u64 20, .int .i64 8])) 26⟩ :: Y6)) (T := Y3) (suf := []) (by simp only [List.append_assoc, List.cons_append, List.nil_append, List.append_nil]))) (rfl)) fun u19 M => ?_
  refine rV 4 ?_
  refine pl_call M (want_on 49 true rfl 129 rfl (by kernel_rfl)) (some 131) rfl 14 #[.pointer (some ⟨pa, 0, none⟩)] (.bool true) (fun _ => by kernel_rfl) (fun w M => call_val (a_Sure J3  w M.laid (M.thereM (pre := (⟨g1, .cells (av 5 (ls [.int .u64 2, .int .u64 3, .int .u64 10, .int .u64 20, .int .i64 8])) 26⟩ :: Y6)) (T := Y3) (suf := []) (by simp only [List.append_assoc, List.cons_append, List.nil_append, List.append_nil]))) (rfl)) fun u20 M => ?_
  refine rV 3 ?_
  refine pl_call M (want_on 53 true rfl 133 rfl (by kernel_rfl)) (some 135) rfl 14 #[.pointer (some ⟨pb, 0, none⟩)] (.bool true) (fun _ => by kernel_rfl) (fun w M => call_val (a_Sure J6  w M.laid (M.thereM (pre := [⟨g1, .cells (av 5 (ls [.int .u64 2, .int .u64 3, .int .u64 10, .int .u64 20, .int .i64 8])) 26⟩]) (T := Y6) (suf := Y3) (by simp only [List.append_assoc, List.cons_append, List.nil_append, List.append_nil]))) (rfl)) fun u21 M => ?_
  refine rV 2 ?_
  refine nT ?_
  refine wp_ret ?_
  exact b1 M


end Go.Proofs.YtenafinbaanicaaGreatDoor
namespace Go.Proofs.YtenafinbaanicaaGreatDoor
open Go.RowKit
set_option maxRecDepth 100000

def InfoK (P : Program) (e : TypeId) (K : Nat) (zv : Value) : Prop := ∃ i, P.info? e = some i ∧ i.zero = some zv ∧ i.size = K ∧ i.bytes ≤ 64
theorem infoK {P : Program} {e : TypeId} {K : Nat} {zv : Value} {b : Nat} (h1 : (P.info? e).map (·.zero) = some (some zv)) (h2 : (P.info? e).map (·.size) = some K) (h3 : (P.info? e).map (·.bytes) = some b) (hb : b ≤ 64) : InfoK P e K zv := by
  cases h : P.info? e with
  | none => rw [h] at h2; cases h2
  | some i =>
    rw [h] at h1 h2 h3
    simp only [Option.map_some, Option.some.injEq] at h1 h2 h3
    exact ⟨i, h, h1, h2, by omega⟩
/-- A slice of one's own: nil, or in a block of its own; l: its cells, K for each of its n elements. -/
structure SlV (K : Nat) (l : List Value) (n : Nat) (v : Value) (T : List Blk) : Prop where
  len : l.length = n * K
  ex : (n = 0 ∧ v = .slice none 0 0 ∧ T = []) ∨ ∃ g cap Z, 0 < n ∧ v = .slice (some ⟨g, 0, none⟩) n cap ∧ n ≤ cap ∧ SB Z (cap * K) l ∧ T = [⟨g, Z⟩]
theorem slv_nil (K : Nat) : SlV K [] 0 (.slice none 0 0) [] := ⟨by simp, .inl ⟨rfl, rfl, rfl⟩⟩
theorem slv_one {K : Nat} {l : List Value} {n : Nat} {v : Value} {T : List Blk} (h : SlV K l n v T) : v.oneCell' = true := by
  rcases h.ex with ⟨_, rfl, _⟩ | ⟨_, _, _, _, rfl, _⟩ <;> rfl
theorem slv_cells {K : Nat} {l : List Value} {n : Nat} {v : Value} {T : List Blk} (h : SlV K l n v T) : v.cells = #[v] := by
  rcases h.ex with ⟨_, rfl, _⟩ | ⟨_, _, _, _, rfl, _⟩ <;> rfl
theorem Mem.fetch {c : Ctx} {L pre suf : List Blk} {b : Blk} {W : World} (M : Mem c L W) (hp : L = pre ++ ([b] ++ suf)) : Mem c (b :: (pre ++ suf)) W := by
  subst hp
  exact M.perm List.perm_middle
section
variable {P : Program} {ops : Array Oper} {rest : List Oper} {o : Oper} {a : Act} {w : World} {c : Ctx} {L : List Blk} {Q : Exit → Act → World → Prop}
/-- An element is put behind the others. -/
theorem pl_appS (M : Mem c L w) (hw : Region.wanted o (yielded ops a.tmps) = true) (d : Option Tmp) (hd : o.dst = d) (t ty e : TypeId) (K : Nat) (zv : Value) (ht : P.underlying t = some (.slice e)) (hin : InfoK P e K zv) (hzc : zv.cells.size = K) (pre T suf : List Blk) (hp : L = pre ++ (T ++ suf)) (sv : Value) (n : Nat) (l : List Value) (hS : SlV K l n sv T) (hle : n < 1000000) (j gx Tx : Nat) (F : Nat → Value) (hj : L[j]? = some ⟨gx, .cells (av K F) Tx⟩) (h1 : ∀ k, k < K → (F k).oneCell' = true)
    (hrun : ∀ w, (execOp a.eval o).run P w = (do pure (Next.value (← Builtin.append_ #[t, t] ty #[sv, .slice (some ⟨gx, 0, none⟩) 1 1]))).run P w)
    (h : ∀ sv' T' w', SlV K (l ++ (List.range K).map F) (n + 1) sv' T' → Mem c (pre ++ (T' ++ suf)) w' → PL P ops Q rest (a.put d sv') w') : PL P ops Q (o :: rest) a w := by
  obtain ⟨info, i1, i2, i3, i4⟩ := hin
  subst i3
  have hnl : ((List.range info.size).map F).length = info.size := by simp
  have hR := M.get j hj
  have hnews : ∀ k u, ((List.range info.size).map F)[k]? = some u → w.cell? ((⟨gx, 0, none⟩ : Addr).add k) = some u := fun k u hu => by
    have hk : k < info.size := by simpa using (List.getElem?_eq_some_iff.1 hu).1
    rw [add_at, Nat.zero_add, cell_av hR hk]
    rw [List.getElem?_map, List.getElem?_range hk] at hu
    exact hu
  have hone : ∀ u ∈ (List.range info.size).map F, u.oneCell' = true := fun u hu => by
    obtain ⟨k, hk, rfl⟩ := List.mem_map.1 hu
    exact h1 k (List.mem_range.1 hk)
  have hsrc : Src P info.size t (.slice (some ⟨gx, 0, none⟩) 1 1) 1 ((List.range info.size).map F) w := Src.ofSlice w ht ⟨gx, 0, none⟩ 1 1 _ (by rw [hnl, Nat.one_mul]) hnews hone
  have hlen := hS.len
  have grow : ∀ (base : Option Addr) (cap : Nat), sv = .slice base n cap → ¬ n < cap → n ≤ cap → (Builtin.firstCells info.size n (.slice base n cap)).run P w.drew = .ok l.toArray w.drew → PL P ops Q (o :: rest) a w := fun base cap hsv hroom hnc hold => by
    have hr := run_append_grow_src (P := P) w t t ty e info zv ht i1 i2 base n cap l hold (.slice (some ⟨gx, 0, none⟩) 1 1) 1 _ hsrc (by omega) (by omega) (growslice_fits (by omega) (by
        have := Nat.mul_le_mul (show n + 1 ≤ 1000000 by omega) i4
        omega))
    have hge := grownCap_ge w (n + 1) cap e
    generalize grownCap w (n + 1) cap e = nc at hr hge
    have hr2 : (execOp a.eval o).run P w = .ok (.value (.slice (some ⟨w.heap.size, 0, none⟩) (n + 1) nc)) (w.drew.alloc (.cells ((l ++ (List.range info.size).map F).toArray ++ Builtin.zeroCells zv.cells (nc - (n + 1))) e)) := by
      rw [hrun, hsv]
      simp only [Sem.run_bind, hr, Result.andThen_ok, Sem.run_pure]
    have hll : (l ++ (List.range info.size).map F).length = (n + 1) * info.size := by rw [List.length_append, hnl, hlen, Nat.succ_mul]
    obtain ⟨q, rfl⟩ : ∃ q, nc = n + 1 + q := ⟨nc - (n + 1), by omega⟩
    have hsz : ((l ++ (List.range info.size).map F).toArray ++ Builtin.zeroCells zv.cells (n + 1 + q - (n + 1))).size = (n + 1 + q) * info.size := by
      rw [Array.size_append, List.size_toArray, hll, size_zeroCells, hzc, Nat.add_sub_cancel_left, ← Nat.add_mul]
    have hcm : (n + 1) * info.size ≤ (n + 1 + q) * info.size := Nat.mul_le_mul_right _ (by omega)
    refine pl_to hw d hd _ _ hr2 (h _ [⟨w.heap.size, _⟩] _ ⟨hll, .inr ⟨w.heap.size, n + 1 + q, _, by omega, rfl, by omega, ⟨_, e, (0, 0), rfl, by rw [hll]; exact hcm, by rw [hsz]; exact Nat.le_refl _, fun k hk => ?_, fun k _ => by simp⟩, rfl⟩⟩ (M.drew.mid hp ⟨grown_below (new_below w.drew _) _, ?_, by simp, by simp⟩))
    · rw [Array.getElem?_append_left (by simpa using hk)]
      simp
    · simpa using heap_alloc_new w.drew _
  rcases hS.ex with ⟨hn0, hv, rfl⟩ | ⟨g, cap, Z, hn0, hv, hnc, hs, rfl⟩
  · subst hn0
    have hl0 : l = [] := List.length_eq_zero_iff.1 (by simpa using hlen)
    subst hl0
    exact grow none 0 hv (by omega) (by omega) (run_firstCells_none w.drew info.size 0 0 0)
  · have hz : w.heap[g]? = some Z := (M.thereM hp).at_ ⟨g, Z⟩ (by simp)
    by_cases hroom : n < cap
    · obtain ⟨cs, T, fr, hZ, h4, h5, h6, h7⟩ := hs.ex
      have hcm : n * info.size + info.size ≤ cap * info.size := by rw [← Nat.succ_mul]; exact Nat.mul_le_mul_right _ hroom
      obtain ⟨Z', h2, h3⟩ := hs.sets ((List.range info.size).map F) (by rw [hnl, hlen]; exact hcm) hz
      have hg := hz
      rw [hZ] at hg
      have hr := run_append_room_src (P := P) w t t ty e info ht i1 g 0 n cap (.slice (some ⟨gx, 0, none⟩) 1 1) 1 _ hsrc hroom (fun k hk => by
          rw [hnl] at hk
          rw [Nat.zero_add]
          unfold World.cell?
          rw [hg]
          simp
          omega) (fun k hk => by
          rw [hnl] at hk
          rw [Nat.zero_add]
          unfold World.frozen?
          rw [hg]
          exact h7 _ (by show n * info.size + k < cap * info.size; omega))
      rw [Nat.zero_add, ← hlen] at hr
      have hr2 : (execOp a.eval o).run P w = .ok (.value (.slice (some ⟨g, 0, none⟩) (n + 1) cap)) (w.setCells g l.length ((List.range info.size).map F)) := by
        rw [hrun, hv]
        simp only [Sem.run_bind, hr, Result.andThen_ok, Sem.run_pure]
      exact pl_to hw d hd _ _ hr2 (h _ [⟨g, Z'⟩] _ ⟨by rw [List.length_append, hnl, hlen, Nat.succ_mul], .inr ⟨g, cap, Z', by omega, rfl, by omega, h3, rfl⟩⟩ (M.mid hp ⟨grown_setCells g _ _ _, by simpa using h2, by simp, by simp⟩))
    · exact grow _ cap hv hroom hnc (run_firstCells_some w.drew info.size n ⟨g, 0, none⟩ n cap l hlen (fun k u hu => by rw [add_at, Nat.zero_add]; exact hs.cell (W := w.drew) hz hu))
end
/-- Pairs of cells, one behind the other. -/
def fl2 (f g : Nat → Value) : Nat → List Value
  | 0 => []
  | k + 1 => fl2 f g k ++ [f k, g k]
theorem fl2_len (f g : Nat → Value) : ∀ k, (fl2 f g k).length = k * 2
  | 0 => rfl
  | k + 1 => by simp only [fl2, List.length_append, fl2_len f g k, List.length_cons, List.length_nil]; omega
theorem fl2_at (f g : Nat → Value) : ∀ k j, j < k → (fl2 f g k)[j * 2]? = some (f j) ∧ (fl2 f g k)[j * 2 + 1]? = some (g j)
  | 0, j, h => absurd h (by omega)
  | k + 1, j, h => by
    have hl := fl2_len f g k
    simp only [fl2]
    by_cases e : j = k
    · subst e
      rw [List.getElem?_append_right (by omega), List.getElem?_append_right (by omega), hl, Nat.sub_self, show j * 2 + 1 - j * 2 = 1 by omega]
      exact ⟨rfl, rfl⟩
    · rw [List.getElem?_append_left (by omega), List.getElem?_append_left (by omega)]
      exact fl2_at f g k j (by omega)

end Go.Proofs.YtenafinbaanicaaGreatDoor
