/- Windows: what each call answers, and leaves. -/
import Derived.Test.YtenafinbaanicaaDoorW1
namespace Go.Proofs.YtenafinbaanicaaDoor
open Go.RowKit
set_option maxRecDepth 100000

theorem wrapU_add (a b : Nat) (h : a + b < 18446744073709551616) : IntKind.wrap .u64 ((a : Int) + (b : Int)) = ((a + b : Nat) : Int) := by
  rw [IntKind.wrap_u64]
  omega
theorem wrapU_sub (a b : Nat) (h : b ≤ a) (ha : a < 18446744073709551616) : IntKind.wrap .u64 ((a : Int) - (b : Int)) = ((a - b : Nat) : Int) := by
  rw [IntKind.wrap_u64]
  omega
/-- The places of the numbers h + 1 .. h + j are wiped. -/
def wps (s h : Nat) (m : Nat → Int) : Nat → (Nat → Int)
  | 0 => m
  | j + 1 => wpM (wps s h m j) ((h + 1 + j) % s)
def lvM (s h : Nat) (m : Nat → Int) (y : Nat) : Nat → Int := if s ≤ y then clF (nW s) m else wps s h m y
def myF (s h : Nat) (m : Nat → Int) (n : Nat) : Int := if h < n then 0 else if s ≤ h - n then 170 else if hb m (n % s) = true then 9 else 0
def mkH (s h : Nat) (m : Nat → Int) (n : Nat) : Nat := if myF s h m n = 0 then if h < n then n else h else h
def mkM (s h : Nat) (m : Nat → Int) (n : Nat) : Nat → Int := if myF s h m n = 0 then stM (if h < n then lvM s h m (n - h) else m) (n % s) else m
def hiV (s h : Nat) (m : Nat → Int) : Nat := if hb m (h % s) = true then h else 0
/-- What was there ahead is as it was; these blocks are new. -/
theorem ro_okT {w W : World} {T N : List Blk} (hT : ∀ b ∈ T, w.heap[b.g]? = some b.Z) (M : Mem ⟨w, T.map Blk.g⟩ (T ++ N) W) : OkT w W [] N := by
  have hn := M.nodup
  rw [List.map_append, List.nodup_append] at hn
  refine ⟨⟨M.old.os, M.old.tape, M.old.output, M.old.size, fun k hk _ => ?_⟩, fun b hb => M.at_ b (List.mem_append_right _ hb), hn.2.1, fun b hb => .inr ?_⟩
  · by_cases e : k ∈ T.map Blk.g
    · obtain ⟨b, hb, rfl⟩ := List.mem_map.1 e
      rw [hT b hb]
      exact M.at_ b (List.mem_append_left _ hb)
    · exact M.old.block k hk e
  · rcases M.ge b (List.mem_append_right _ hb) with h | h
    · exact h
    · exact absurd rfl (hn.2.2 _ h _ (List.mem_map_of_mem hb))
set_option maxRecDepth 100000 in
set_option maxHeartbeats 4000000 in
set_option linter.unusedSimpArgs false in
theorem c_leave (g k s h cap : Nat) (m : Nat → Int) (y : Nat) (hs : 1 ≤ s) (hc : nW s ≤ cap) (hy : h + y < 18446744073709551616) (w : World) (hL : Laid w)  (hT : There w [⟨g, .cells (av 3 (ls [.int .u64 (s : Int), .int .u64 (h : Int), .slice (some ⟨k, 0, none⟩) (nW s) cap])) 88⟩, ⟨k, .cells (av cap (w64 m)) 22⟩]) :
    Calls Tryd.prog 58 #[.pointer (some ⟨g, 0, none⟩), .int .u64 (y : Int)] w fun r w' => r = .returned (.tuple #[]) ∧ Grw w w' [g, k] ∧ w'.heap[g]? = some (.cells (av 3 (ls [.int .u64 (s : Int), .int .u64 (h : Int), .slice (some ⟨k, 0, none⟩) (nW s) cap])) 88) ∧ w'.heap[k]? = some (.cells (av cap (w64 (lvM s h m y))) 22) := by
  go_enter Tryd.func58, Tryd.ntmps58
  have M : Mem ⟨w, [g, k]⟩ [⟨g, .cells (av 3 (ls [.int .u64 (s : Int), .int .u64 (h : Int), .slice (some ⟨k, 0, none⟩) (nW s) cap])) 88⟩, ⟨k, .cells (av cap (w64 m)) 22⟩] w := Mem.startT hL hT
  refine wp_seq ?_
  refine wp_seq ?_
  refine rg_lit ?_
  refine pl_val (want_no rfl) (some 5) rfl (.int .u64 (y : Int)) (fun _ => by kernel_rfl) ?_
  refine pl_val (want_no rfl) (some 6) rfl (.pointer (some ⟨g, 0, none⟩)) (fun _ => by kernel_rfl) ?_
  refine pl_val (want_no rfl) (some 7) rfl (.pointer (some ⟨g, 0, none⟩)) (fun _ => by kernel_rfl) ?_
  refine pl_val (want_no rfl) (some 8) rfl (.pointer (some ⟨g, 0, none⟩)) (fun _ => by kernel_rfl) ?_
  refine pl_cell M (want_no rfl) (some 9) rfl 22 _ rfl g 0 (by kernel_rfl) (.int .u64 (s : Int)) (fun _ => by kernel_rfl) (fun w M => M.cell 0 rfl (by decide) rfl) ?_
  by_cases c0 : (y : Int) < (s : Int)
  · skip
    refine pl_val (want_no rfl) (some 10) rfl (.bool false) (fun w => Eq.trans (b := .ok (.value (.bool (decide ((s : Int) ≤ (y : Int))))) w) (by kernel_rfl) (by rw [decide_eq_false (by omega)])) ?_
    refine pl_nil ?_
    refine au_then ?_
    refine wp_cond_false (by kernel_rfl) ?_
    refine wp_skip ?_
    refine au_then ?_
    refine wp_seq ?_
    refine rg_lit ?_
    refine pl_val (want_no rfl) (some 15) rfl (.int .u64 (y : Int)) (fun _ => by kernel_rfl) ?_
    refine pl_val (want_no rfl) (some 16) rfl (.int .u64 0) (fun _ => by kernel_rfl) ?_
    refine pl_nil ?_
    refine au_then ?_
    refine wp_block ?_
    refine au_loop (fun j a w' => ∃ v1 : Nat → Value, a = ⟨#[.pointer (some ⟨g, 0, none⟩), .int .u64 (y : Int), undef, undef, v1 4, .int .u64 (y : Int), .pointer (some ⟨g, 0, none⟩), .pointer (some ⟨g, 0, none⟩), .pointer (some ⟨g, 0, none⟩), .int .u64 (s : Int), .bool false, undef, undef, undef, undef, .int .u64 (y : Int), .int .u64 (j : Int), v1 17, v1 18, v1 19, v1 20, v1 21, v1 22, v1 23, v1 24, v1 25, v1 26, v1 27, v1 28, v1 29, v1 30, v1 31, v1 32, v1 33], []⟩ ∧ Mem ⟨w, [g, k]⟩ [⟨g, .cells (av 3 (ls [.int .u64 (s : Int), .int .u64 (h : Int), .slice (some ⟨k, 0, none⟩) (nW s) cap])) 88⟩, ⟨k, .cells (av cap (w64 (wps s h m j))) 22⟩] w') y ⟨fun k_ => ([undef, undef, undef, undef, undef, undef, undef, undef, undef, undef, undef, undef, undef, undef, undef, undef, undef, undef, undef, undef, undef, undef, undef, undef, undef, undef, undef, undef, undef, undef] : List Value).getD (k_ - 4) undef, by kernel_rfl, M⟩ ?_ ?_
    · intro j a u0 hj hI
      obtain ⟨v1, rfl, M⟩ := hI
      refine wp_seq ?_
      refine rg_lit ?_
      refine pl_val (want_no rfl) (some 17) rfl (.bool true) (fun w => Eq.trans (b := .ok (.value (.bool (decide ((j : Int) < (y : Int))))) w) (by kernel_rfl) (by rw [decide_eq_true (by omega)])) ?_
      refine pl_nil ?_
      refine au_then ?_
      refine wp_seq ?_
      refine wp_cond_true (by kernel_rfl) ?_
      refine wp_skip ?_
      refine au_then ?_
      refine wp_seq ?_
      refine wp_block ?_
      refine wp_seq ?_
      refine rg_lit ?_
      refine pl_val (want_no rfl) (some 18) rfl (.int .u64 (j : Int)) (fun _ => by kernel_rfl) ?_
      refine pl_val (want_no rfl) (some 4) rfl (.int .u64 (j : Int)) (fun _ => by kernel_rfl) ?_
      refine pl_nil ?_
      refine au_then ?_
      refine rg_tail M 13 (by kernel_rfl) (by kernel_rfl) ?_
      simp only [List.take_succ_cons, List.take_zero]
      refine k_val (want_no rfl) (some 19) rfl (.pointer (some ⟨g, 0, none⟩)) (fun _ => by kernel_rfl) ?_
      refine k_val (want_no rfl) (some 20) rfl (.pointer (some ⟨g, 0, none⟩)) (fun _ => by kernel_rfl) ?_
      refine k_val (want_no rfl) (some 21) rfl (.pointer (some ⟨g, 2, none⟩)) (fun _ => by kernel_rfl) ?_
      refine k_cell M (want_no rfl) (some 22) rfl 85 _ rfl g 2 (by kernel_rfl) (.slice (some ⟨k, 0, none⟩) (nW s) cap) (fun _ => by kernel_rfl) (fun w M => M.cell 0 rfl (by decide) rfl) ?_
      refine k_val (want_no rfl) (some 23) rfl (.pointer (some ⟨g, 0, none⟩)) (fun _ => by kernel_rfl) ?_
      refine k_val (want_no rfl) (some 24) rfl (.pointer (some ⟨g, 0, none⟩)) (fun _ => by kernel_rfl) ?_
      refine k_val (want_no rfl) (some 25) rfl (.pointer (some ⟨g, 0, none⟩)) (fun _ => by kernel_rfl) ?_
      refine k_val (want_no rfl) (some 26) rfl (.pointer (some ⟨g, 1, none⟩)) (fun _ => by kernel_rfl) ?_
      refine k_cell M (want_no rfl) (some 27) rfl 22 _ rfl g 1 (by kernel_rfl) (.int .u64 (h : Int)) (fun _ => by kernel_rfl) (fun w M => M.cell 0 rfl (by decide) rfl) ?_
      refine k_val (want_no rfl) (some 28) rfl (.int .u64 ((h + 1 : Nat) : Int)) (fun w => Eq.trans (b := .ok (.value (.int .u64 (IntKind.wrap .u64 (((h : Nat) : Int) + ((1 : Nat) : Int))))) w) (by kernel_rfl) (by rw [wrapU_add h 1 (by omega)])) ?_
      refine k_val (want_no rfl) (some 29) rfl (.int .u64 (j : Int)) (fun _ => by kernel_rfl) ?_
      refine k_val (want_no rfl) (some 30) rfl (.int .u64 ((h + 1 + j : Nat) : Int)) (fun w => Eq.trans (b := .ok (.value (.int .u64 (IntKind.wrap .u64 ((((h + 1) : Nat) : Int) + ((j : Nat) : Int))))) w) (by kernel_rfl) (by rw [wrapU_add (h + 1) j (by omega)])) ?_
      refine k_call M (want_no rfl) (some 31) rfl 56 #[.pointer (some ⟨g, 0, none⟩), .int .u64 ((h + 1 + j : Nat) : Int)] (.int .u64 (((h + 1 + j) % s : Nat) : Int)) (fun _ => by kernel_rfl) (fun w M => c_place g k s h cap (h + 1 + j) hs w M.laid (M.there (.cons_cons _ (List.nil_sublist _)))) ?_
      refine kl_nil ?_
      intro u1 M
      replace M : Mem ⟨w, [g, k]⟩ [⟨g, .cells (av 3 (ls [.int .u64 (s : Int), .int .u64 (h : Int), .slice (some ⟨k, 0, none⟩) (nW s) cap])) 88⟩, ⟨k, .cells (av cap (w64 (wps s h m j))) 22⟩] u1 := M
      refine pl_callp M (want_no rfl) (some 32) rfl 68 #[.slice (some ⟨k, 0, none⟩) (nW s) cap, .int .u64 (((h + 1 + j) % s : Nat) : Int)] (.tuple #[]) 1 k (.cells (av cap (w64 (wps s h m j))) 22) (.cells (av cap (w64 (wpM (wps s h m j) ((h + 1 + j) % s)))) 22) rfl (fun _ => by kernel_rfl) (fun w M => c_wipe k ((h + 1 + j) % s) (nW s) cap (wps s h m j) (Nat.lt_of_le_of_lt (Nat.mod_le (h + 1 + j) s) (by omega)) (by have := Nat.mod_lt (h + 1 + j) (show 0 < s by omega); unfold nW; omega) hc w M.laid (M.there (.cons _ (.cons_cons _ (List.nil_sublist _))))) ?_
      intro u2 M
      replace M : Mem ⟨w, [g, k]⟩ [⟨g, .cells (av 3 (ls [.int .u64 (s : Int), .int .u64 (h : Int), .slice (some ⟨k, 0, none⟩) (nW s) cap])) 88⟩, ⟨k, .cells (av cap (w64 (wpM (wps s h m j) ((h + 1 + j) % s)))) 22⟩] u2 := M
      refine pl_nil ?_
      refine au_block ?_
      refine au_then ?_
      refine rg_lit ?_
      refine pl_val (want_no rfl) (some 33) rfl (.int .u64 ((j + 1 : Nat) : Int)) (fun w => Eq.trans (b := .ok (.value (.int .u64 (IntKind.wrap .u64 (((j : Nat) : Int) + ((1 : Nat) : Int))))) w) (by kernel_rfl) (by rw [wrapU_add j 1 (by omega)])) ?_
      refine pl_val (want_no rfl) (some 16) rfl (.int .u64 ((j + 1 : Nat) : Int)) (fun _ => by kernel_rfl) ?_
      refine pl_nil ?_
      refine au_then ?_
      exact ⟨fun k_ => ([.int .u64 (j : Int), undef, undef, undef, undef, undef, undef, undef, undef, undef, undef, undef, undef, .bool true, .int .u64 (j : Int), .pointer (some ⟨g, 0, none⟩), .pointer (some ⟨g, 0, none⟩), .pointer (some ⟨g, 2, none⟩), .slice (some ⟨k, 0, none⟩) (nW s) cap, .pointer (some ⟨g, 0, none⟩), .pointer (some ⟨g, 0, none⟩), .pointer (some ⟨g, 0, none⟩), .pointer (some ⟨g, 1, none⟩), .int .u64 (h : Int), .int .u64 ((h + 1 : Nat) : Int), .int .u64 (j : Int), .int .u64 ((h + 1 + j : Nat) : Int), .int .u64 (((h + 1 + j) % s : Nat) : Int), .tuple #[], .int .u64 ((j + 1 : Nat) : Int)] : List Value).getD (k_ - 4) undef, by kernel_rfl, M⟩
    · intro a u0 hI
      obtain ⟨v1, rfl, M⟩ := hI
      refine wp_seq ?_
      refine rg_lit ?_
      refine pl_val (want_no rfl) (some 17) rfl (.bool false) (fun w => Eq.trans (b := .ok (.value (.bool (decide ((y : Int) < (y : Int))))) w) (by kernel_rfl) (by rw [decide_eq_false (by omega)])) ?_
      refine pl_nil ?_
      refine au_then ?_
      refine wp_seq ?_
      refine wp_cond_false (by kernel_rfl) ?_
      refine wp_exit ?_
      refine au_then_exit ?_
      refine au_then_exit ?_
      refine au_block_exit ?_
      have e0 : lvM s h m y = (wps s h m y) := by unfold lvM; rw [if_neg (by omega)]
      exact bodyPost_end (v := .tuple #[]) (results_none Tryd.results58 _ _) (by kernel_rfl) ⟨rfl, M.old, M.get 0 rfl, by rw [e0]; exact M.get 1 rfl⟩
  · skip
    refine pl_val (want_no rfl) (some 10) rfl (.bool true) (fun w => Eq.trans (b := .ok (.value (.bool (decide ((s : Int) ≤ (y : Int))))) w) (by kernel_rfl) (by rw [decide_eq_true (by omega)])) ?_
    refine pl_nil ?_
    refine au_then ?_
    refine wp_cond_true (by kernel_rfl) ?_
    refine wp_seq ?_
    refine rg_lit ?_
    refine pl_val (want_no rfl) (some 11) rfl (.pointer (some ⟨g, 0, none⟩)) (fun _ => by kernel_rfl) ?_
    refine pl_val (want_no rfl) (some 12) rfl (.pointer (some ⟨g, 0, none⟩)) (fun _ => by kernel_rfl) ?_
    refine pl_val (want_no rfl) (some 13) rfl (.pointer (some ⟨g, 2, none⟩)) (fun _ => by kernel_rfl) ?_
    refine pl_cell M (want_no rfl) (some 14) rfl 85 _ rfl g 2 (by kernel_rfl) (.slice (some ⟨k, 0, none⟩) (nW s) cap) (fun _ => by kernel_rfl) (fun w M => M.cell 0 rfl (by decide) rfl) ?_
    refine pl_clearW M (want_no rfl) rfl 1 k cap m rfl (nW s) cap (by unfold nW; omega) hc (fun _ => by kernel_rfl) ?_
    intro u1 M
    replace M : Mem ⟨w, [g, k]⟩ [⟨g, .cells (av 3 (ls [.int .u64 (s : Int), .int .u64 (h : Int), .slice (some ⟨k, 0, none⟩) (nW s) cap])) 88⟩, ⟨k, .cells (av cap (w64 (clF (nW s) m))) 22⟩] u1 := M
    refine pl_nil ?_
    refine au_then ?_
    refine wp_ret ?_
    refine au_then_ret ?_
    have e0 : lvM s h m y = (clF (nW s) m) := by unfold lvM; rw [if_pos (by omega)]
    exact bodyPost_ret (v := .tuple #[]) (results_none Tryd.results58 _ _) (by kernel_rfl) ⟨rfl, M.old, M.get 0 rfl, by rw [e0]; exact M.get 1 rfl⟩

set_option maxRecDepth 100000 in
set_option maxHeartbeats 4000000 in
set_option linter.unusedSimpArgs false in
theorem c_May (g k s h cap : Nat) (m : Nat → Int) (n : Nat) (hs : 1 ≤ s) (hc : nW s ≤ cap) (hh : h < 18446744073709551616) (hn : n < 18446744073709551616) (w : World) (hL : Laid w)  (hT : There w [⟨g, .cells (av 3 (ls [.int .u64 (s : Int), .int .u64 (h : Int), .slice (some ⟨k, 0, none⟩) (nW s) cap])) 88⟩, ⟨k, .cells (av cap (w64 m)) 22⟩]) :
    Calls Tryd.prog 43 #[.pointer (some ⟨g, 0, none⟩), .int .u64 (n : Int)] w fun r w' => r = .returned (.int .i64 (myF s h m n)) ∧ Below w.heap.size w w' := by
  go_enter Tryd.func43, Tryd.ntmps43
  have M : Mem ⟨w, [g, k]⟩ [⟨g, .cells (av 3 (ls [.int .u64 (s : Int), .int .u64 (h : Int), .slice (some ⟨k, 0, none⟩) (nW s) cap])) 88⟩, ⟨k, .cells (av cap (w64 m)) 22⟩] w := Mem.startT hL hT
  refine wp_seq ?_
  refine rg_lit ?_
  refine pl_val (want_no rfl) (some 4) rfl (.int .i64 0) (fun _ => by kernel_rfl) ?_
  refine pl_nil ?_
  refine au_then ?_
  refine wp_seq ?_
  refine wp_block ?_
  refine wp_seq ?_
  refine rg_lit ?_
  refine pl_val (want_no rfl) (some 6) rfl (.pointer (some ⟨g, 0, none⟩)) (fun _ => by kernel_rfl) ?_
  refine pl_call M (want_no rfl) (some 7) rfl 54 #[.pointer (some ⟨g, 0, none⟩)] (.bool true) (fun _ => by kernel_rfl) (fun w M => c_made g k s h cap hs w M.laid (M.there (.cons_cons _ (List.nil_sublist _)))) ?_
  intro u1 M
  refine pl_val (want_no rfl) (some 8) rfl (.bool false) (fun _ => by kernel_rfl) ?_
  refine pl_val (want_no rfl) (some 5) rfl (.bool false) (fun _ => by kernel_rfl) ?_
  refine pl_nil ?_
  refine au_then ?_
  refine wp_cond_false (by kernel_rfl) ?_
  refine wp_seq ?_
  refine rg_lit ?_
  refine pl_val (want_no rfl) (some 10) rfl (.int .u64 (n : Int)) (fun _ => by kernel_rfl) ?_
  refine pl_val (want_no rfl) (some 11) rfl (.pointer (some ⟨g, 0, none⟩)) (fun _ => by kernel_rfl) ?_
  refine pl_val (want_no rfl) (some 12) rfl (.pointer (some ⟨g, 0, none⟩)) (fun _ => by kernel_rfl) ?_
  refine pl_val (want_no rfl) (some 13) rfl (.pointer (some ⟨g, 1, none⟩)) (fun _ => by kernel_rfl) ?_
  refine pl_cell M (want_no rfl) (some 14) rfl 22 _ rfl g 1 (by kernel_rfl) (.int .u64 (h : Int)) (fun _ => by kernel_rfl) (fun w M => M.cell 0 rfl (by decide) rfl) ?_
  by_cases c0 : (h : Int) < (n : Int)
  · skip
    refine pl_val (want_no rfl) (some 15) rfl (.bool true) (fun w => Eq.trans (b := .ok (.value (.bool (decide ((h : Int) < (n : Int))))) w) (by kernel_rfl) (by rw [decide_eq_true (c0)])) ?_
    refine pl_val (want_no rfl) (some 9) rfl (.bool true) (fun _ => by kernel_rfl) ?_
    refine pl_nil ?_
    refine au_then ?_
    refine wp_cond_true (by kernel_rfl) ?_
    refine wp_seq ?_
    refine rg_lit ?_
    refine pl_val (want_no rfl) (some 4) rfl (.int .i64 0) (fun _ => by kernel_rfl) ?_
    refine pl_nil ?_
    refine au_then ?_
    refine wp_ret ?_
    refine au_block_ret ?_
    refine au_then_ret ?_
    have e0 : (myF s h m n) = 0 := by unfold myF; rw [if_pos (by omega)]
    exact bodyPost_ret (v := .int .i64 0) (results_tmp1 Tryd.results43 _ _ _ (by kernel_rfl)) (by kernel_rfl) ⟨by rw [e0], ro_T hT M⟩
  · skip
    refine pl_val (want_no rfl) (some 15) rfl (.bool false) (fun w => Eq.trans (b := .ok (.value (.bool (decide ((h : Int) < (n : Int))))) w) (by kernel_rfl) (by rw [decide_eq_false (c0)])) ?_
    refine pl_val (want_no rfl) (some 9) rfl (.bool false) (fun _ => by kernel_rfl) ?_
    refine pl_nil ?_
    refine au_then ?_
    refine wp_cond_false (by kernel_rfl) ?_
    refine wp_seq ?_
    refine rg_tail M 11 (by kernel_rfl) (by kernel_rfl) ?_
    simp only [List.take_succ_cons, List.take_zero]
    refine k_val (want_no rfl) (some 17) rfl (.pointer (some ⟨g, 0, none⟩)) (fun _ => by kernel_rfl) ?_
    refine k_val (want_no rfl) (some 18) rfl (.pointer (some ⟨g, 0, none⟩)) (fun _ => by kernel_rfl) ?_
    refine k_val (want_no rfl) (some 19) rfl (.pointer (some ⟨g, 1, none⟩)) (fun _ => by kernel_rfl) ?_
    refine k_cell M (want_no rfl) (some 20) rfl 22 _ rfl g 1 (by kernel_rfl) (.int .u64 (h : Int)) (fun _ => by kernel_rfl) (fun w M => M.cell 0 rfl (by decide) rfl) ?_
    refine k_val (want_no rfl) (some 21) rfl (.int .u64 (n : Int)) (fun _ => by kernel_rfl) ?_
    refine k_val (want_no rfl) (some 22) rfl (.int .u64 ((h - n : Nat) : Int)) (fun w => Eq.trans (b := .ok (.value (.int .u64 (IntKind.wrap .u64 (((h : Nat) : Int) - ((n : Nat) : Int))))) w) (by kernel_rfl) (by rw [wrapU_sub h n (by omega) (by omega)])) ?_
    refine k_val (want_no rfl) (some 23) rfl (.pointer (some ⟨g, 0, none⟩)) (fun _ => by kernel_rfl) ?_
    refine k_val (want_no rfl) (some 24) rfl (.pointer (some ⟨g, 0, none⟩)) (fun _ => by kernel_rfl) ?_
    refine k_val (want_no rfl) (some 25) rfl (.pointer (some ⟨g, 0, none⟩)) (fun _ => by kernel_rfl) ?_
    refine k_cell M (want_no rfl) (some 26) rfl 22 _ rfl g 0 (by kernel_rfl) (.int .u64 (s : Int)) (fun _ => by kernel_rfl) (fun w M => M.cell 0 rfl (by decide) rfl) ?_
    by_cases c1 : ((h - n : Nat) : Int) < (s : Int)
    · skip
      refine k_val (want_no rfl) (some 27) rfl (.bool false) (fun w => Eq.trans (b := .ok (.value (.bool (decide ((s : Int) ≤ ((h - n : Nat) : Int))))) w) (by kernel_rfl) (by rw [decide_eq_false (by omega)])) ?_
      refine kl_nil ?_
      intro u2 M
      replace M : Mem ⟨w, [g, k]⟩ [⟨g, .cells (av 3 (ls [.int .u64 (s : Int), .int .u64 (h : Int), .slice (some ⟨k, 0, none⟩) (nW s) cap])) 88⟩, ⟨k, .cells (av cap (w64 m)) 22⟩] u2 := M
      refine pl_val (want_no rfl) (some 16) rfl (.bool false) (fun _ => by kernel_rfl) ?_
      refine pl_nil ?_
      refine au_then ?_
      refine wp_cond_false (by kernel_rfl) ?_
      refine wp_seq ?_
      refine rg_tail M 8 (by kernel_rfl) (by kernel_rfl) ?_
      simp only [List.take_succ_cons, List.take_zero]
      refine k_val (want_no rfl) (some 29) rfl (.pointer (some ⟨g, 0, none⟩)) (fun _ => by kernel_rfl) ?_
      refine k_val (want_no rfl) (some 30) rfl (.pointer (some ⟨g, 0, none⟩)) (fun _ => by kernel_rfl) ?_
      refine k_val (want_no rfl) (some 31) rfl (.pointer (some ⟨g, 2, none⟩)) (fun _ => by kernel_rfl) ?_
      refine k_cell M (want_no rfl) (some 32) rfl 85 _ rfl g 2 (by kernel_rfl) (.slice (some ⟨k, 0, none⟩) (nW s) cap) (fun _ => by kernel_rfl) (fun w M => M.cell 0 rfl (by decide) rfl) ?_
      refine k_val (want_no rfl) (some 33) rfl (.pointer (some ⟨g, 0, none⟩)) (fun _ => by kernel_rfl) ?_
      refine k_val (want_no rfl) (some 34) rfl (.int .u64 (n : Int)) (fun _ => by kernel_rfl) ?_
      refine k_call M (want_no rfl) (some 35) rfl 56 #[.pointer (some ⟨g, 0, none⟩), .int .u64 (n : Int)] (.int .u64 ((n % s : Nat) : Int)) (fun _ => by kernel_rfl) (fun w M => c_place g k s h cap n hs w M.laid (M.there (.cons_cons _ (List.nil_sublist _)))) ?_
      rcases Bool.eq_false_or_eq_true (hb m (n % s)) with c2 | c2
      · skip
        refine k_call M (want_no rfl) (some 36) rfl 55 #[.slice (some ⟨k, 0, none⟩) (nW s) cap, .int .u64 ((n % s : Nat) : Int)] (.bool true) (fun _ => by kernel_rfl) (fun w M => call_val (c_has k (n % s) (nW s) cap m (Nat.lt_of_le_of_lt (Nat.mod_le n s) (by omega)) (by have := Nat.mod_lt n (show 0 < s by omega); unfold nW; omega) hc w M.laid (M.there (.cons _ (.cons_cons _ (List.nil_sublist _))))) (congrArg Value.bool c2)) ?_
        refine kl_nil ?_
        intro u3 M
        replace M : Mem ⟨w, [g, k]⟩ [⟨g, .cells (av 3 (ls [.int .u64 (s : Int), .int .u64 (h : Int), .slice (some ⟨k, 0, none⟩) (nW s) cap])) 88⟩, ⟨k, .cells (av cap (w64 m)) 22⟩] u3 := M
        refine pl_val (want_no rfl) (some 28) rfl (.bool true) (fun _ => by kernel_rfl) ?_
        refine pl_nil ?_
        refine au_then ?_
        refine wp_cond_true (by kernel_rfl) ?_
        refine wp_seq ?_
        refine rg_lit ?_
        refine pl_val (want_no rfl) (some 4) rfl (.int .i64 9) (fun _ => by kernel_rfl) ?_
        refine pl_nil ?_
        refine au_then ?_
        refine wp_ret ?_
        refine au_block_ret ?_
        refine au_then_ret ?_
        have e0 : (myF s h m n) = 9 := by unfold myF; rw [if_neg (by omega), if_neg (by omega), if_pos c2]
        exact bodyPost_ret (v := .int .i64 9) (results_tmp1 Tryd.results43 _ _ _ (by kernel_rfl)) (by kernel_rfl) ⟨by rw [e0], ro_T hT M⟩
      · skip
        refine k_call M (want_no rfl) (some 36) rfl 55 #[.slice (some ⟨k, 0, none⟩) (nW s) cap, .int .u64 ((n % s : Nat) : Int)] (.bool false) (fun _ => by kernel_rfl) (fun w M => call_val (c_has k (n % s) (nW s) cap m (Nat.lt_of_le_of_lt (Nat.mod_le n s) (by omega)) (by have := Nat.mod_lt n (show 0 < s by omega); unfold nW; omega) hc w M.laid (M.there (.cons _ (.cons_cons _ (List.nil_sublist _))))) (congrArg Value.bool c2)) ?_
        refine kl_nil ?_
        intro u3 M
        replace M : Mem ⟨w, [g, k]⟩ [⟨g, .cells (av 3 (ls [.int .u64 (s : Int), .int .u64 (h : Int), .slice (some ⟨k, 0, none⟩) (nW s) cap])) 88⟩, ⟨k, .cells (av cap (w64 m)) 22⟩] u3 := M
        refine pl_val (want_no rfl) (some 28) rfl (.bool false) (fun _ => by kernel_rfl) ?_
        refine pl_nil ?_
        refine au_then ?_
        refine wp_cond_false (by kernel_rfl) ?_
        refine wp_skip ?_
        refine au_block ?_
        refine au_then ?_
        refine wp_seq ?_
        refine rg_lit ?_
        refine pl_val (want_no rfl) (some 4) rfl (.int .i64 0) (fun _ => by kernel_rfl) ?_
        refine pl_nil ?_
        refine au_then ?_
        refine wp_ret ?_
        have e0 : (myF s h m n) = 0 := by unfold myF; rw [if_neg (by omega), if_neg (by omega), if_neg (Bool.eq_false_iff.1 c2)]
        exact bodyPost_ret (v := .int .i64 0) (results_tmp1 Tryd.results43 _ _ _ (by kernel_rfl)) (by kernel_rfl) ⟨by rw [e0], ro_T hT M⟩
    · skip
      refine k_val (want_no rfl) (some 27) rfl (.bool true) (fun w => Eq.trans (b := .ok (.value (.bool (decide ((s : Int) ≤ ((h - n : Nat) : Int))))) w) (by kernel_rfl) (by rw [decide_eq_true (by omega)])) ?_
      refine kl_nil ?_
      intro u2 M
      replace M : Mem ⟨w, [g, k]⟩ [⟨g, .cells (av 3 (ls [.int .u64 (s : Int), .int .u64 (h : Int), .slice (some ⟨k, 0, none⟩) (nW s) cap])) 88⟩, ⟨k, .cells (av cap (w64 m)) 22⟩] u2 := M
      refine pl_val (want_no rfl) (some 16) rfl (.bool true) (fun _ => by kernel_rfl) ?_
      refine pl_nil ?_
      refine au_then ?_
      refine wp_cond_true (by kernel_rfl) ?_
      refine wp_seq ?_
      refine rg_lit ?_
      refine pl_val (want_no rfl) (some 4) rfl (.int .i64 170) (fun _ => by kernel_rfl) ?_
      refine pl_nil ?_
      refine au_then ?_
      refine wp_ret ?_
      refine au_block_ret ?_
      refine au_then_ret ?_
      have e0 : (myF s h m n) = 170 := by unfold myF; rw [if_neg (by omega), if_pos (by omega)]
      exact bodyPost_ret (v := .int .i64 170) (results_tmp1 Tryd.results43 _ _ _ (by kernel_rfl)) (by kernel_rfl) ⟨by rw [e0], ro_T hT M⟩

set_option maxRecDepth 100000 in
set_option maxHeartbeats 4000000 in
set_option linter.unusedSimpArgs false in
theorem c_Mark (g k s h cap : Nat) (m : Nat → Int) (n : Nat) (hs : 1 ≤ s) (hc : nW s ≤ cap) (hh : h < 18446744073709551616) (hn : n < 18446744073709551616) (w : World) (hL : Laid w)  (hT : There w [⟨g, .cells (av 3 (ls [.int .u64 (s : Int), .int .u64 (h : Int), .slice (some ⟨k, 0, none⟩) (nW s) cap])) 88⟩, ⟨k, .cells (av cap (w64 m)) 22⟩]) :
    Calls Tryd.prog 45 #[.pointer (some ⟨g, 0, none⟩), .int .u64 (n : Int)] w fun r w' => r = .returned (.int .i64 (myF s h m n)) ∧ Grw w w' [g, k] ∧ w'.heap[g]? = some (.cells (av 3 (ls [.int .u64 (s : Int), .int .u64 ((mkH s h m n : Nat) : Int), .slice (some ⟨k, 0, none⟩) (nW s) cap])) 88) ∧ w'.heap[k]? = some (.cells (av cap (w64 (mkM s h m n))) 22) := by
  go_enter Tryd.func45, Tryd.ntmps45
  have M : Mem ⟨w, [g, k]⟩ [⟨g, .cells (av 3 (ls [.int .u64 (s : Int), .int .u64 (h : Int), .slice (some ⟨k, 0, none⟩) (nW s) cap])) 88⟩, ⟨k, .cells (av cap (w64 m)) 22⟩] w := Mem.startT hL hT
  refine wp_seq ?_
  refine rg_lit ?_
  refine pl_val (want_no rfl) (some 4) rfl (.int .i64 0) (fun _ => by kernel_rfl) ?_
  refine pl_nil ?_
  refine au_then ?_
  refine wp_seq ?_
  refine wp_seq ?_
  refine rg_lit ?_
  refine pl_val (want_no rfl) (some 6) rfl (.pointer (some ⟨g, 0, none⟩)) (fun _ => by kernel_rfl) ?_
  refine pl_val (want_no rfl) (some 7) rfl (.int .u64 (n : Int)) (fun _ => by kernel_rfl) ?_
  refine pl_call M (want_no rfl) (some 8) rfl 43 #[.pointer (some ⟨g, 0, none⟩), .int .u64 (n : Int)] (.int .i64 (myF s h m n)) (fun _ => by kernel_rfl) (fun w M => c_May g k s h cap m n hs hc hh hn w M.laid (M.there (.cons_cons _ (.cons_cons _ (List.nil_sublist _))))) ?_
  intro u1 M
  refine pl_val (want_no rfl) (some 5) rfl (.int .i64 (myF s h m n)) (fun _ => by kernel_rfl) ?_
  refine pl_nil ?_
  refine au_then ?_
  refine wp_seq ?_
  refine rg_lit ?_
  refine pl_val (want_no rfl) (some 9) rfl (.int .i64 (myF s h m n)) (fun _ => by kernel_rfl) ?_
  by_cases c0 : (myF s h m n) = 0
  · skip
    refine pl_val (want_no rfl) (some 10) rfl (.bool false) (fun w => Eq.trans (b := .ok (.value (.bool (!(decide ((myF s h m n) = 0))))) w) (by kernel_rfl) (by rw [decide_eq_true (c0)]; rfl)) ?_
    refine pl_nil ?_
    refine au_then ?_
    refine wp_cond_false (by kernel_rfl) ?_
    refine wp_skip ?_
    refine au_then ?_
    refine wp_seq ?_
    refine wp_seq ?_
    refine rg_lit ?_
    refine pl_val (want_no rfl) (some 12) rfl (.int .u64 (n : Int)) (fun _ => by kernel_rfl) ?_
    refine pl_val (want_no rfl) (some 13) rfl (.pointer (some ⟨g, 0, none⟩)) (fun _ => by kernel_rfl) ?_
    refine pl_val (want_no rfl) (some 14) rfl (.pointer (some ⟨g, 0, none⟩)) (fun _ => by kernel_rfl) ?_
    refine pl_val (want_no rfl) (some 15) rfl (.pointer (some ⟨g, 1, none⟩)) (fun _ => by kernel_rfl) ?_
    refine pl_cell M (want_no rfl) (some 16) rfl 22 _ rfl g 1 (by kernel_rfl) (.int .u64 (h : Int)) (fun _ => by kernel_rfl) (fun w M => M.cell 0 rfl (by decide) rfl) ?_
    by_cases c1 : (h : Int) < (n : Int)
    · skip
      refine pl_val (want_no rfl) (some 17) rfl (.bool true) (fun w => Eq.trans (b := .ok (.value (.bool (decide ((h : Int) < (n : Int))))) w) (by kernel_rfl) (by rw [decide_eq_true (c1)])) ?_
      refine pl_nil ?_
      refine au_then ?_
      refine wp_cond_true (by kernel_rfl) ?_
      refine wp_seq ?_
      refine rg_lit ?_
      refine pl_val (want_no rfl) (some 18) rfl (.pointer (some ⟨g, 0, none⟩)) (fun _ => by kernel_rfl) ?_
      refine pl_val (want_no rfl) (some 19) rfl (.int .u64 (n : Int)) (fun _ => by kernel_rfl) ?_
      refine pl_val (want_no rfl) (some 20) rfl (.pointer (some ⟨g, 0, none⟩)) (fun _ => by kernel_rfl) ?_
      refine pl_val (want_no rfl) (some 21) rfl (.pointer (some ⟨g, 0, none⟩)) (fun _ => by kernel_rfl) ?_
      refine pl_val (want_no rfl) (some 22) rfl (.pointer (some ⟨g, 1, none⟩)) (fun _ => by kernel_rfl) ?_
      refine pl_cell M (want_no rfl) (some 23) rfl 22 _ rfl g 1 (by kernel_rfl) (.int .u64 (h : Int)) (fun _ => by kernel_rfl) (fun w M => M.cell 0 rfl (by decide) rfl) ?_
      refine pl_val (want_no rfl) (some 24) rfl (.int .u64 ((n - h : Nat) : Int)) (fun w => Eq.trans (b := .ok (.value (.int .u64 (IntKind.wrap .u64 (((n : Nat) : Int) - ((h : Nat) : Int))))) w) (by kernel_rfl) (by rw [wrapU_sub n h (by omega) (by omega)])) ?_
      refine pl_call2 M (want_no rfl) (some 25) rfl 58 #[.pointer (some ⟨g, 0, none⟩), .int .u64 ((n - h : Nat) : Int)] (.tuple #[]) 0 1 g k (.cells (av 3 (ls [.int .u64 (s : Int), .int .u64 (h : Int), .slice (some ⟨k, 0, none⟩) (nW s) cap])) 88) (.cells (av cap (w64 m)) 22) (.cells (av 3 (ls [.int .u64 (s : Int), .int .u64 (h : Int), .slice (some ⟨k, 0, none⟩) (nW s) cap])) 88) (.cells (av cap (w64 (lvM s h m (n - h)))) 22) rfl rfl (fun _ => by kernel_rfl) (fun w M => c_leave g k s h cap m (n - h) hs hc (by omega) w M.laid (M.there (.cons_cons _ (.cons_cons _ (List.nil_sublist _))))) ?_
      intro u2 M
      replace M : Mem ⟨w, [g, k]⟩ [⟨g, .cells (av 3 (ls [.int .u64 (s : Int), .int .u64 (h : Int), .slice (some ⟨k, 0, none⟩) (nW s) cap])) 88⟩, ⟨k, .cells (av cap (w64 (lvM s h m (n - h)))) 22⟩] u2 := M
      refine pl_nil ?_
      refine au_then ?_
      refine rg_lit ?_
      refine pl_val (want_no rfl) (some 26) rfl (.pointer (some ⟨g, 0, none⟩)) (fun _ => by kernel_rfl) ?_
      refine pl_val (want_no rfl) (some 27) rfl (.int .u64 (n : Int)) (fun _ => by kernel_rfl) ?_
      refine pl_val (want_no rfl) (some 28) rfl (.pointer (some ⟨g, 0, none⟩)) (fun _ => by kernel_rfl) ?_
      refine pl_val (want_no rfl) (some 29) rfl (.pointer (some ⟨g, 1, none⟩)) (fun _ => by kernel_rfl) ?_
      refine pl_put1 M (want_no rfl) rfl 22 _ _ rfl 0 g 1 (by kernel_rfl) 3 88 (ls [.int .u64 (s : Int), .int .u64 (h : Int), .slice (some ⟨k, 0, none⟩) (nW s) cap]) rfl (.int .u64 (n : Int)) (ls [.int .u64 (s : Int), .int .u64 (n : Int), .slice (some ⟨k, 0, none⟩) (nW s) cap]) (by kernel_rfl) inz22 (by decide) rfl rfl (put_ls _ 1 _ _ rfl) ?_
      intro u3 M
      replace M : Mem ⟨w, [g, k]⟩ [⟨g, .cells (av 3 (ls [.int .u64 (s : Int), .int .u64 (n : Int), .slice (some ⟨k, 0, none⟩) (nW s) cap])) 88⟩, ⟨k, .cells (av cap (w64 (lvM s h m (n - h)))) 22⟩] u3 := M
      refine pl_nil ?_
      refine au_then ?_
      refine wp_seq ?_
      refine rg_tail M 7 (by kernel_rfl) (by kernel_rfl) ?_
      simp only [List.take_succ_cons, List.take_zero]
      refine k_val (want_no rfl) (some 30) rfl (.pointer (some ⟨g, 0, none⟩)) (fun _ => by kernel_rfl) ?_
      refine k_val (want_no rfl) (some 31) rfl (.pointer (some ⟨g, 0, none⟩)) (fun _ => by kernel_rfl) ?_
      refine k_val (want_no rfl) (some 32) rfl (.pointer (some ⟨g, 2, none⟩)) (fun _ => by kernel_rfl) ?_
      refine k_cell M (want_no rfl) (some 33) rfl 85 _ rfl g 2 (by kernel_rfl) (.slice (some ⟨k, 0, none⟩) (nW s) cap) (fun _ => by kernel_rfl) (fun w M => M.cell 0 rfl (by decide) rfl) ?_
      refine k_val (want_no rfl) (some 34) rfl (.pointer (some ⟨g, 0, none⟩)) (fun _ => by kernel_rfl) ?_
      refine k_val (want_no rfl) (some 35) rfl (.int .u64 (n : Int)) (fun _ => by kernel_rfl) ?_
      refine k_call M (want_no rfl) (some 36) rfl 56 #[.pointer (some ⟨g, 0, none⟩), .int .u64 (n : Int)] (.int .u64 ((n % s : Nat) : Int)) (fun _ => by kernel_rfl) (fun w M => c_place g k s n cap n hs w M.laid (M.there (.cons_cons _ (List.nil_sublist _)))) ?_
      refine kl_nil ?_
      intro u4 M
      replace M : Mem ⟨w, [g, k]⟩ [⟨g, .cells (av 3 (ls [.int .u64 (s : Int), .int .u64 (n : Int), .slice (some ⟨k, 0, none⟩) (nW s) cap])) 88⟩, ⟨k, .cells (av cap (w64 (lvM s h m (n - h)))) 22⟩] u4 := M
      refine pl_callp M (want_no rfl) (some 37) rfl 59 #[.slice (some ⟨k, 0, none⟩) (nW s) cap, .int .u64 ((n % s : Nat) : Int)] (.tuple #[]) 1 k (.cells (av cap (w64 (lvM s h m (n - h)))) 22) (.cells (av cap (w64 (stM (lvM s h m (n - h)) (n % s)))) 22) rfl (fun _ => by kernel_rfl) (fun w M => c_set k (n % s) (nW s) cap (lvM s h m (n - h)) (Nat.lt_of_le_of_lt (Nat.mod_le n s) (by omega)) (by have := Nat.mod_lt n (show 0 < s by omega); unfold nW; omega) hc w M.laid (M.there (.cons _ (.cons_cons _ (List.nil_sublist _))))) ?_
      intro u5 M
      replace M : Mem ⟨w, [g, k]⟩ [⟨g, .cells (av 3 (ls [.int .u64 (s : Int), .int .u64 (n : Int), .slice (some ⟨k, 0, none⟩) (nW s) cap])) 88⟩, ⟨k, .cells (av cap (w64 (stM (lvM s h m (n - h)) (n % s)))) 22⟩] u5 := M
      refine pl_nil ?_
      refine au_then ?_
      refine wp_seq ?_
      refine rg_lit ?_
      refine pl_val (want_no rfl) (some 4) rfl (.int .i64 0) (fun _ => by kernel_rfl) ?_
      refine pl_nil ?_
      refine au_then ?_
      refine wp_ret ?_
      have e0 : mkH s h m n = n := by unfold mkH; rw [if_pos c0, if_pos (by omega)]
      have e1 : mkM s h m n = (stM (lvM s h m (n - h)) (n % s)) := by unfold mkM; rw [if_pos c0, if_pos (by omega)]
      exact bodyPost_ret (v := .int .i64 0) (results_tmp1 Tryd.results45 _ _ _ (by kernel_rfl)) (by kernel_rfl) ⟨by rw [c0], M.old, by rw [e0]; exact M.get 0 rfl, by rw [e1]; exact M.get 1 rfl⟩
    · skip
      refine pl_val (want_no rfl) (some 17) rfl (.bool false) (fun w => Eq.trans (b := .ok (.value (.bool (decide ((h : Int) < (n : Int))))) w) (by kernel_rfl) (by rw [decide_eq_false (c1)])) ?_
      refine pl_nil ?_
      refine au_then ?_
      refine wp_cond_false (by kernel_rfl) ?_
      refine wp_skip ?_
      refine au_then ?_
      refine wp_seq ?_
      refine rg_tail M 7 (by kernel_rfl) (by kernel_rfl) ?_
      simp only [List.take_succ_cons, List.take_zero]
      refine k_val (want_no rfl) (some 30) rfl (.pointer (some ⟨g, 0, none⟩)) (fun _ => by kernel_rfl) ?_
      refine k_val (want_no rfl) (some 31) rfl (.pointer (some ⟨g, 0, none⟩)) (fun _ => by kernel_rfl) ?_
      refine k_val (want_no rfl) (some 32) rfl (.pointer (some ⟨g, 2, none⟩)) (fun _ => by kernel_rfl) ?_
      refine k_cell M (want_no rfl) (some 33) rfl 85 _ rfl g 2 (by kernel_rfl) (.slice (some ⟨k, 0, none⟩) (nW s) cap) (fun _ => by kernel_rfl) (fun w M => M.cell 0 rfl (by decide) rfl) ?_
      refine k_val (want_no rfl) (some 34) rfl (.pointer (some ⟨g, 0, none⟩)) (fun _ => by kernel_rfl) ?_
      refine k_val (want_no rfl) (some 35) rfl (.int .u64 (n : Int)) (fun _ => by kernel_rfl) ?_
      refine k_call M (want_no rfl) (some 36) rfl 56 #[.pointer (some ⟨g, 0, none⟩), .int .u64 (n : Int)] (.int .u64 ((n % s : Nat) : Int)) (fun _ => by kernel_rfl) (fun w M => c_place g k s h cap n hs w M.laid (M.there (.cons_cons _ (List.nil_sublist _)))) ?_
      refine kl_nil ?_
      intro u2 M
      replace M : Mem ⟨w, [g, k]⟩ [⟨g, .cells (av 3 (ls [.int .u64 (s : Int), .int .u64 (h : Int), .slice (some ⟨k, 0, none⟩) (nW s) cap])) 88⟩, ⟨k, .cells (av cap (w64 m)) 22⟩] u2 := M
      refine pl_callp M (want_no rfl) (some 37) rfl 59 #[.slice (some ⟨k, 0, none⟩) (nW s) cap, .int .u64 ((n % s : Nat) : Int)] (.tuple #[]) 1 k (.cells (av cap (w64 m)) 22) (.cells (av cap (w64 (stM m (n % s)))) 22) rfl (fun _ => by kernel_rfl) (fun w M => c_set k (n % s) (nW s) cap m (Nat.lt_of_le_of_lt (Nat.mod_le n s) (by omega)) (by have := Nat.mod_lt n (show 0 < s by omega); unfold nW; omega) hc w M.laid (M.there (.cons _ (.cons_cons _ (List.nil_sublist _))))) ?_
      intro u3 M
      replace M : Mem ⟨w, [g, k]⟩ [⟨g, .cells (av 3 (ls [.int .u64 (s : Int), .int .u64 (h : Int), .slice (some ⟨k, 0, none⟩) (nW s) cap])) 88⟩, ⟨k, .cells (av cap (w64 (stM m (n % s)))) 22⟩] u3 := M
      refine pl_nil ?_
      refine au_then ?_
      refine wp_seq ?_
      refine rg_lit ?_
      refine pl_val (want_no rfl) (some 4) rfl (.int .i64 0) (fun _ => by kernel_rfl) ?_
      refine pl_nil ?_
      refine au_then ?_
      refine wp_ret ?_
      have e0 : mkH s h m n = h := by unfold mkH; rw [if_pos c0, if_neg (by omega)]
      have e1 : mkM s h m n = (stM m (n % s)) := by unfold mkM; rw [if_pos c0, if_neg (by omega)]
      exact bodyPost_ret (v := .int .i64 0) (results_tmp1 Tryd.results45 _ _ _ (by kernel_rfl)) (by kernel_rfl) ⟨by rw [c0], M.old, by rw [e0]; exact M.get 0 rfl, by rw [e1]; exact M.get 1 rfl⟩
  · skip
    refine pl_val (want_no rfl) (some 10) rfl (.bool true) (fun w => Eq.trans (b := .ok (.value (.bool (!(decide ((myF s h m n) = 0))))) w) (by kernel_rfl) (by rw [decide_eq_false (c0)]; rfl)) ?_
    refine pl_nil ?_
    refine au_then ?_
    refine wp_cond_true (by kernel_rfl) ?_
    refine wp_seq ?_
    refine rg_lit ?_
    refine pl_val (want_no rfl) (some 11) rfl (.int .i64 (myF s h m n)) (fun _ => by kernel_rfl) ?_
    refine pl_val (want_no rfl) (some 4) rfl (.int .i64 (myF s h m n)) (fun _ => by kernel_rfl) ?_
    refine pl_nil ?_
    refine au_then ?_
    refine wp_ret ?_
    refine au_then_ret ?_
    have e0 : mkH s h m n = h := by unfold mkH; rw [if_neg c0]
    have e1 : mkM s h m n = m := by unfold mkM; rw [if_neg c0]
    exact bodyPost_ret (v := .int .i64 (myF s h m n)) (results_tmp1 Tryd.results45 _ _ _ (by kernel_rfl)) (by kernel_rfl) ⟨rfl, M.old, by rw [e0]; exact M.get 0 rfl, by rw [e1]; exact M.get 1 rfl⟩

set_option maxRecDepth 100000 in
set_option maxHeartbeats 4000000 in
set_option linter.unusedSimpArgs false in
theorem c_NewE (z : Int) (hz : z < 1 ∨ 4096 < z) (w : World) (hL : Laid w)  :
    Calls Tryd.prog 21 #[.int .i64 z] w fun r w' => r = .returned (.tuple #[.pointer none, .int .i64 2]) ∧ Below w.heap.size w w' := by
  go_enter Tryd.func21, Tryd.ntmps21
  have M := Mem.start hL
  refine wp_seq ?_
  refine rg_lit ?_
  refine pl_val (want_no rfl) (some 2) rfl (.pointer none) (fun _ => by kernel_rfl) ?_
  refine pl_val (want_no rfl) (some 3) rfl (.int .i64 0) (fun _ => by kernel_rfl) ?_
  refine pl_nil ?_
  refine au_then ?_
  refine wp_seq ?_
  refine wp_seq ?_
  refine rg_lit ?_
  refine pl_val (want_no rfl) (some 4) rfl (.int .i64 z) (fun _ => by kernel_rfl) ?_
  by_cases c0 : z < 1
  · skip
    refine pl_val (want_no rfl) (some 5) rfl (.bool true) (fun w => Eq.trans (b := .ok (.value (.bool (decide (z < 1)))) w) (by kernel_rfl) (by rw [decide_eq_true (c0)])) ?_
    refine pl_val (want_no rfl) (some 6) rfl (.bool true) (fun _ => by kernel_rfl) ?_
    refine pl_skip (want_off 2 false rfl 6 rfl (by kernel_rfl)) (some 7) rfl ?_
    refine pl_skip (want_off 2 false rfl 6 rfl (by kernel_rfl)) (some 8) rfl ?_
    refine pl_val (want_no rfl) (some 9) rfl (.bool true) (fun _ => by kernel_rfl) ?_
    refine pl_nil ?_
    refine au_then ?_
    refine wp_cond_true (by kernel_rfl) ?_
    refine wp_seq ?_
    refine rg_lit ?_
    refine pl_val (want_no rfl) (some 2) rfl (.pointer none) (fun _ => by kernel_rfl) ?_
    refine pl_val (want_no rfl) (some 3) rfl (.int .i64 2) (fun _ => by kernel_rfl) ?_
    refine pl_nil ?_
    refine au_then ?_
    refine wp_ret ?_
    refine au_then_ret ?_
    exact bodyPost_ret (v := .tuple #[.pointer none, .int .i64 2]) (results_tmp2 Tryd.results21 _ _ _ _ (by kernel_rfl) (by kernel_rfl)) (by kernel_rfl) ⟨rfl, below_grown M.old⟩
  · skip
    refine pl_val (want_no rfl) (some 5) rfl (.bool false) (fun w => Eq.trans (b := .ok (.value (.bool (decide (z < 1)))) w) (by kernel_rfl) (by rw [decide_eq_false (c0)])) ?_
    refine pl_val (want_no rfl) (some 6) rfl (.bool false) (fun _ => by kernel_rfl) ?_
    refine pl_val (want_on 2 false rfl 6 rfl (by kernel_rfl)) (some 7) rfl (.int .i64 z) (fun _ => by kernel_rfl) ?_
    by_cases c1 : 4096 < z
    · skip
      refine pl_val (want_on 2 false rfl 6 rfl (by kernel_rfl)) (some 8) rfl (.bool true) (fun w => Eq.trans (b := .ok (.value (.bool (decide (4096 < z)))) w) (by kernel_rfl) (by rw [decide_eq_true (c1)])) ?_
      refine pl_val (want_no rfl) (some 9) rfl (.bool true) (fun _ => by kernel_rfl) ?_
      refine pl_nil ?_
      refine au_then ?_
      refine wp_cond_true (by kernel_rfl) ?_
      refine wp_seq ?_
      refine rg_lit ?_
      refine pl_val (want_no rfl) (some 2) rfl (.pointer none) (fun _ => by kernel_rfl) ?_
      refine pl_val (want_no rfl) (some 3) rfl (.int .i64 2) (fun _ => by kernel_rfl) ?_
      refine pl_nil ?_
      refine au_then ?_
      refine wp_ret ?_
      refine au_then_ret ?_
      exact bodyPost_ret (v := .tuple #[.pointer none, .int .i64 2]) (results_tmp2 Tryd.results21 _ _ _ _ (by kernel_rfl) (by kernel_rfl)) (by kernel_rfl) ⟨rfl, below_grown M.old⟩
    · exfalso; omega

set_option maxRecDepth 100000 in
set_option maxHeartbeats 4000000 in
set_option linter.unusedSimpArgs false in
theorem c_WNew (s : Nat) (hs : 1 ≤ s) (hs4 : s ≤ 4096) (w : World) (hL : Laid w)  :
    Calls Tryd.prog 21 #[.int .i64 (s : Int)] w fun r w' => ∃ x : Nat × Nat, r = .returned (.tuple #[.pointer (some ⟨x.1, 0, none⟩), .int .i64 0]) ∧ True ∧ OkT w w' [] [⟨x.1, (.cells (av 3 (ls [.int .u64 (s : Int), .int .u64 0, .slice (some ⟨x.2, 0, none⟩) (nW s) (nW s)])) 88)⟩, ⟨x.2, .cells (av (nW s) (w64 (fun _ => 0))) 22⟩] := by
  go_enter Tryd.func21, Tryd.ntmps21
  have M := Mem.start hL
  refine wp_seq ?_
  refine rg_lit ?_
  refine pl_val (want_no rfl) (some 2) rfl (.pointer none) (fun _ => by kernel_rfl) ?_
  refine pl_val (want_no rfl) (some 3) rfl (.int .i64 0) (fun _ => by kernel_rfl) ?_
  refine pl_nil ?_
  refine au_then ?_
  refine wp_seq ?_
  refine wp_seq ?_
  refine rg_lit ?_
  refine pl_val (want_no rfl) (some 4) rfl (.int .i64 (s : Int)) (fun _ => by kernel_rfl) ?_
  by_cases c0 : (s : Int) < 1
  · exfalso; omega
  · skip
    refine pl_val (want_no rfl) (some 5) rfl (.bool false) (fun w => Eq.trans (b := .ok (.value (.bool (decide ((s : Int) < 1)))) w) (by kernel_rfl) (by rw [decide_eq_false (c0)])) ?_
    refine pl_val (want_no rfl) (some 6) rfl (.bool false) (fun _ => by kernel_rfl) ?_
    refine pl_val (want_on 2 false rfl 6 rfl (by kernel_rfl)) (some 7) rfl (.int .i64 (s : Int)) (fun _ => by kernel_rfl) ?_
    by_cases c1 : 4096 < (s : Int)
    · exfalso; omega
    · skip
      refine pl_val (want_on 2 false rfl 6 rfl (by kernel_rfl)) (some 8) rfl (.bool false) (fun w => Eq.trans (b := .ok (.value (.bool (decide (4096 < (s : Int))))) w) (by kernel_rfl) (by rw [decide_eq_false (c1)])) ?_
      refine pl_val (want_no rfl) (some 9) rfl (.bool false) (fun _ => by kernel_rfl) ?_
      refine pl_nil ?_
      refine au_then ?_
      refine wp_cond_false (by kernel_rfl) ?_
      refine wp_skip ?_
      refine au_then ?_
      refine wp_seq ?_
      refine rg_lit ?_
      refine pl_val (want_no rfl) (some 10) rfl (.int .i64 (s : Int)) (fun _ => by kernel_rfl) ?_
      refine pl_val (want_no rfl) (some 11) rfl (.int .u64 (s : Int)) (fun w => Eq.trans (b := .ok (.value (.int .u64 (cv .u64 (s : Int)))) w) (by kernel_rfl) (by rw [cv_u64, Int.emod_eq_of_lt (by omega) (by omega)])) ?_
      refine pl_val (want_no rfl) (some 12) rfl (.int .i64 (s : Int)) (fun _ => by kernel_rfl) ?_
      refine pl_calln M (want_no rfl) (some 13) rfl 38 #[.int .i64 (s : Int)] (fun g1 => .slice (some ⟨g1, 0, none⟩) (nW s) (nW s)) (.cells (av (nW s) (w64 (fun _ => 0))) 22) (fun _ => by kernel_rfl) (fun w M => c_room s hs4 w M.laid) ?_
      intro g1 u1 M
      replace M : Mem ⟨w, []⟩ [⟨g1, .cells (av (nW s) (w64 (fun _ => 0))) 22⟩] u1 := M
      refine pl_val (want_no rfl) (some 14) rfl (.agg (av 3 (ls [.int .u64 (s : Int), .int .u64 0, .slice (some ⟨g1, 0, none⟩) (nW s) (nW s)]))) (fun _ => by kernel_rfl) ?_
      refine pl_new M (want_no rfl) (some 15) rfl (.cells (av 3 (ls [.int .u64 (s : Int), .int .u64 0, .slice (some ⟨g1, 0, none⟩) (nW s) (nW s)])) 88) (fun _ => by kernel_rfl) ?_
      intro g2 u2 M
      replace M : Mem ⟨w, []⟩ [⟨g1, .cells (av (nW s) (w64 (fun _ => 0))) 22⟩, ⟨g2, .cells (av 3 (ls [.int .u64 (s : Int), .int .u64 0, .slice (some ⟨g1, 0, none⟩) (nW s) (nW s)])) 88⟩] u2 := M
      refine pl_val (want_no rfl) (some 2) rfl (.pointer (some ⟨g2, 0, none⟩)) (fun _ => by kernel_rfl) ?_
      refine pl_val (want_no rfl) (some 3) rfl (.int .i64 0) (fun _ => by kernel_rfl) ?_
      refine pl_nil ?_
      refine au_then ?_
      refine wp_ret ?_
      exact bodyPost_ret (v := .tuple #[.pointer (some ⟨g2, 0, none⟩), .int .i64 0]) (results_tmp2 Tryd.results21 _ _ _ _ (by kernel_rfl) (by kernel_rfl)) (by kernel_rfl) ⟨(_, _), rfl, trivial, Mem.okT0 (T := []) (M.perm (.swap _ _ _))⟩


end Go.Proofs.YtenafinbaanicaaDoor
