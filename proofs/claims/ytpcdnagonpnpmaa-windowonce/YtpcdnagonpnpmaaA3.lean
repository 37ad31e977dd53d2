/- Windows that are made, and copied. -/
import Derived.Test.YtpcdnagonpnpmaaA2
namespace Go.Proofs.Ytpcdnagonpnpmaa
open Go.RowKit

set_option maxRecDepth 100000 in
set_option maxHeartbeats 4000000 in
set_option linter.unusedSimpArgs false in
theorem c_NewE (z : Int) (hz : z < 1 ∨ 4096 < z) (w : World) (hL : Laid w)  :
    Calls Try.prog 7 #[.int .i64 z] w fun r w' => r = .returned (.tuple #[.pointer none, .int .i64 2]) ∧ Below w.heap.size w w' := by
  go_enter Try.func7, Try.ntmps7
  have M := Mem.start hL
  refine wp_seq ?_
  refine rg_lit ?_
  refine pl_val (want_no rfl) (some 2) rfl (.pointer none) (fun _ => by kernel_rfl) ?_
  refine pl_val (want_no rfl) (some 3) rfl (.int .i64 0) (fun _ => by kernel_rfl) ?_
  refine pl_nil ?_
  refine au_then ?_
  refine wp_seq ?_
  refine wp_seq ?_
  refine rg_lit ?_
  refine pl_val (want_no rfl) (some 4) rfl (.int .i64 z) (fun _ => by kernel_rfl) ?_
  by_cases c0 : z < 1
  · skip
    refine pl_val (want_no rfl) (some 5) rfl (.bool true) (fun w => Eq.trans (b := .ok (.value (.bool (decide (z < 1)))) w) (by kernel_rfl) (by rw [decide_eq_true (c0)])) ?_
    refine pl_val (want_no rfl) (some 6) rfl (.bool true) (fun _ => by kernel_rfl) ?_
    refine pl_skip (want_off 2 false rfl 6 rfl (by kernel_rfl)) (some 7) rfl ?_
    refine pl_skip (want_off 2 false rfl 6 rfl (by kernel_rfl)) (some 8) rfl ?_
    refine pl_val (want_no rfl) (some 9) rfl (.bool true) (fun _ => by kernel_rfl) ?_
    refine pl_nil ?_
    refine au_then ?_
    refine wp_cond_true (by kernel_rfl) ?_
    refine wp_seq ?_
    refine rg_lit ?_
    refine pl_val (want_no rfl) (some 2) rfl (.pointer none) (fun _ => by kernel_rfl) ?_
    refine pl_val (want_no rfl) (some 3) rfl (.int .i64 2) (fun _ => by kernel_rfl) ?_
    refine pl_nil ?_
    refine au_then ?_
    refine wp_ret ?_
    refine au_then_ret ?_
    exact bodyPost_ret (v := .tuple #[.pointer none, .int .i64 2]) (results_tmp2 Try.results7 _ _ _ _ (by kernel_rfl) (by kernel_rfl)) (by kernel_rfl) ⟨rfl, below_grown M.old⟩
  · skip
    refine pl_val (want_no rfl) (some 5) rfl (.bool false) (fun w => Eq.trans (b := .ok (.value (.bool (decide (z < 1)))) w) (by kernel_rfl) (by rw [decide_eq_false (c0)])) ?_
    refine pl_val (want_no rfl) (some 6) rfl (.bool false) (fun _ => by kernel_rfl) ?_
    refine pl_val (want_on 2 false rfl 6 rfl (by kernel_rfl)) (some 7) rfl (.int .i64 z) (fun _ => by kernel_rfl) ?_
    by_cases c1 : 4096 < z
    · skip
      refine pl_val (want_on 2 false rfl 6 rfl (by kernel_rfl)) (some 8) rfl (.bool true) (fun w => Eq.trans (b := .ok (.value (.bool (decide (4096 < z)))) w) (by kernel_rfl) (by rw [decide_eq_true (c1)])) ?_
      refine pl_val (want_no rfl) (some 9) rfl (.bool true) (fun _ => by kernel_rfl) ?_
      refine pl_nil ?_
      refine au_then ?_
      refine wp_cond_true (by kernel_rfl) ?_
      refine wp_seq ?_
      refine rg_lit ?_
      refine pl_val (want_no rfl) (some 2) rfl (.pointer none) (fun _ => by kernel_rfl) ?_
      refine pl_val (want_no rfl) (some 3) rfl (.int .i64 2) (fun _ => by kernel_rfl) ?_
      refine pl_nil ?_
      refine au_then ?_
      refine wp_ret ?_
      refine au_then_ret ?_
      exact bodyPost_ret (v := .tuple #[.pointer none, .int .i64 2]) (results_tmp2 Try.results7 _ _ _ _ (by kernel_rfl) (by kernel_rfl)) (by kernel_rfl) ⟨rfl, below_grown M.old⟩
    · exfalso; omega

set_option maxRecDepth 100000 in
set_option maxHeartbeats 4000000 in
set_option linter.unusedSimpArgs false in
theorem c_New (s : Nat) (hs : 1 ≤ s) (hs4 : s ≤ 4096) (w : World) (hL : Laid w)  :
    Calls Try.prog 7 #[.int .i64 (s : Int)] w fun r w' => ∃ g k, r = .returned (.tuple #[.pointer (some ⟨g, 0, none⟩), .int .i64 0]) ∧ OkT w w' [] [⟨g, (.cells (av 3 (ls [.int .u64 (s : Int), .int .u64 0, .slice (some ⟨k, 0, none⟩) (nW s) (nW s)])) 44)⟩, ⟨k, .cells (av (nW s) (w64 (fun _ => 0))) 23⟩] := by
  go_enter Try.func7, Try.ntmps7
  have M := Mem.start hL
  refine wp_seq ?_
  refine rg_lit ?_
  refine pl_val (want_no rfl) (some 2) rfl (.pointer none) (fun _ => by kernel_rfl) ?_
  refine pl_val (want_no rfl) (some 3) rfl (.int .i64 0) (fun _ => by kernel_rfl) ?_
  refine pl_nil ?_
  refine au_then ?_
  refine wp_seq ?_
  refine wp_seq ?_
  refine rg_lit ?_
  refine pl_val (want_no rfl) (some 4) rfl (.int .i64 (s : Int)) (fun _ => by kernel_rfl) ?_
  by_cases c0 : (s : Int) < 1
  · exfalso; omega
  · skip
    refine pl_val (want_no rfl) (some 5) rfl (.bool false) (fun w => Eq.trans (b := .ok (.value (.bool (decide ((s : Int) < 1)))) w) (by kernel_rfl) (by rw [decide_eq_false (c0)])) ?_
    refine pl_val (want_no rfl) (some 6) rfl (.bool false) (fun _ => by kernel_rfl) ?_
    refine pl_val (want_on 2 false rfl 6 rfl (by kernel_rfl)) (some 7) rfl (.int .i64 (s : Int)) (fun _ => by kernel_rfl) ?_
    by_cases c1 : 4096 < (s : Int)
    · exfalso; omega
    · skip
      refine pl_val (want_on 2 false rfl 6 rfl (by kernel_rfl)) (some 8) rfl (.bool false) (fun w => Eq.trans (b := .ok (.value (.bool (decide (4096 < (s : Int))))) w) (by kernel_rfl) (by rw [decide_eq_false (c1)])) ?_
      refine pl_val (want_no rfl) (some 9) rfl (.bool false) (fun _ => by kernel_rfl) ?_
      refine pl_nil ?_
      refine au_then ?_
      refine wp_cond_false (by kernel_rfl) ?_
      refine wp_skip ?_
      refine au_then ?_
      refine wp_seq ?_
      refine rg_lit ?_
      refine pl_val (want_no rfl) (some 10) rfl (.int .i64 (s : Int)) (fun _ => by kernel_rfl) ?_
      refine pl_val (want_no rfl) (some 11) rfl (.int .u64 (s : Int)) (fun w => Eq.trans (b := .ok (.value (.int .u64 (cv .u64 (s : Int)))) w) (by kernel_rfl) (by rw [cv_u64, Int.emod_eq_of_lt (by omega) (by omega)])) ?_
      refine pl_val (want_no rfl) (some 12) rfl (.int .i64 (s : Int)) (fun _ => by kernel_rfl) ?_
      refine pl_calln M (want_no rfl) (some 13) rfl 15 #[.int .i64 (s : Int)] (fun g1 => .slice (some ⟨g1, 0, none⟩) (nW s) (nW s)) (.cells (av (nW s) (w64 (fun _ => 0))) 23) (fun _ => by kernel_rfl) (fun w M => c_room s hs4 w M.laid) ?_
      intro g1 u1 M
      replace M : Mem ⟨w, []⟩ [⟨g1, .cells (av (nW s) (w64 (fun _ => 0))) 23⟩] u1 := M
      refine pl_val (want_no rfl) (some 14) rfl (.agg (av 3 (ls [.int .u64 (s : Int), .int .u64 0, .slice (some ⟨g1, 0, none⟩) (nW s) (nW s)]))) (fun _ => by kernel_rfl) ?_
      refine pl_new M (want_no rfl) (some 15) rfl (.cells (av 3 (ls [.int .u64 (s : Int), .int .u64 0, .slice (some ⟨g1, 0, none⟩) (nW s) (nW s)])) 44) (fun _ => by kernel_rfl) ?_
      intro g2 u2 M
      replace M : Mem ⟨w, []⟩ [⟨g1, .cells (av (nW s) (w64 (fun _ => 0))) 23⟩, ⟨g2, .cells (av 3 (ls [.int .u64 (s : Int), .int .u64 0, .slice (some ⟨g1, 0, none⟩) (nW s) (nW s)])) 44⟩] u2 := M
      refine pl_val (want_no rfl) (some 2) rfl (.pointer (some ⟨g2, 0, none⟩)) (fun _ => by kernel_rfl) ?_
      refine pl_val (want_no rfl) (some 3) rfl (.int .i64 0) (fun _ => by kernel_rfl) ?_
      refine pl_nil ?_
      refine au_then ?_
      refine wp_ret ?_
      exact bodyPost_ret (v := .tuple #[.pointer (some ⟨g2, 0, none⟩), .int .i64 0]) (results_tmp2 Try.results7 _ _ _ _ (by kernel_rfl) (by kernel_rfl)) (by kernel_rfl) ⟨_, _, rfl, Mem.okT (L := []) (T := []) (M.perm (.swap _ _ _))⟩

theorem new_ge {w W : World} {g : Nat} {Z : Obj} {L : List Blk} (M : Mem ⟨w, [g]⟩ L W) (_ : w.heap[g]? = some Z) (i j : Nat) (hij : i ≠ j) {b d : Blk} (hi : L[i]? = some b) (hb : b.g = g) (hj : L[j]? = some d := by rfl) : w.heap.size ≤ d.g := by
  rcases M.ge d (List.mem_of_getElem? hj) with h | h
  · exact h
  · exact absurd (hb.trans (List.mem_singleton.1 h).symm) (nodup_at M.nodup hi hj hij)
set_option maxRecDepth 100000 in
set_option maxHeartbeats 4000000 in
set_option linter.unusedSimpArgs false in
theorem c_Clone (k n cap : Nat) (m : Nat → Int) (hn : 0 < n) (hc : n ≤ cap) (hm : n < 1000000) (w : World) (hL : Laid w)  (hg : w.heap[k]? = some (.cells (av cap (w64 m)) 23)) :
    Calls Try.prog 17 #[.slice (some ⟨k, 0, none⟩) n cap] w fun r w' => ∃ (cap1 : Nat) (k1 : Nat), r = .returned (.slice (some ⟨k1, 0, none⟩) n cap1) ∧ n ≤ cap1 ∧ w.heap.size ≤ k1 ∧ w'.heap[k1]? = some (.cells (av cap1 (w64 (cpF n m))) 23) ∧ Below w.heap.size w w' := by
  go_enter Try.func17, Try.ntmps17
  have M := Mem.startp hL hg
  refine wp_seq ?_
  refine rg_lit ?_
  refine pl_val (want_no rfl) (some 2) rfl (.slice none 0 0) (fun _ => by kernel_rfl) ?_
  refine pl_nil ?_
  refine au_then ?_
  refine wp_seq ?_
  refine wp_seq ?_
  refine rg_lit ?_
  refine pl_val (want_no rfl) (some 3) rfl (.slice (some ⟨k, 0, none⟩) n cap) (fun _ => by kernel_rfl) ?_
  refine pl_val (want_no rfl) (some 4) rfl (.bool false) (fun _ => by kernel_rfl) ?_
  refine pl_nil ?_
  refine au_then ?_
  refine wp_cond_false (by kernel_rfl) ?_
  refine wp_skip ?_
  refine au_then ?_
  refine wp_seq ?_
  refine rg_lit ?_
  refine pl_mk M (want_no rfl) (some 5) rfl (fun g1 => .slice (some ⟨g1, 0, none⟩) 0 0) (.cells (av 0 (ls [])) 23) (fun _ => by kernel_rfl) ?_
  intro g1 u1 M
  replace M : Mem ⟨w, [k]⟩ [⟨k, .cells (av cap (w64 m)) 23⟩, ⟨g1, .cells (av 0 (ls [])) 23⟩] u1 := M
  refine pl_val (want_no rfl) (some 6) rfl (.slice (some ⟨k, 0, none⟩) n cap) (fun _ => by kernel_rfl) ?_
  refine pl_clone M (want_no rfl) (some 7) rfl 0 k cap m rfl g1 n cap (by omega) (by omega) (by omega) (fun _ => by kernel_rfl) ?_
  intro g2 cap1 u2 hcap M
  replace M : Mem ⟨w, [k]⟩ [⟨k, .cells (av cap (w64 m)) 23⟩, ⟨g1, .cells (av 0 (ls [])) 23⟩, ⟨g2, .cells (av cap1 (w64 (cpF n m))) 23⟩] u2 := M
  refine pl_val (want_no rfl) (some 2) rfl (.slice (some ⟨g2, 0, none⟩) n cap1) (fun _ => by kernel_rfl) ?_
  refine pl_nil ?_
  refine au_then ?_
  refine wp_ret ?_
  exact bodyPost_ret (v := .slice (some ⟨g2, 0, none⟩) n cap1) (results_tmp1 Try.results17 _ _ _ (by kernel_rfl)) (by kernel_rfl) ⟨_, _, rfl, hcap, new_ge M hg 0 2 (by decide) rfl rfl, M.get 2 rfl, ro_below1 M.old hg (M.get 0 rfl)⟩

set_option maxRecDepth 100000 in
set_option maxHeartbeats 4000000 in
set_option linter.unusedSimpArgs false in
theorem c_Copy (g k s h cap : Nat) (m : Nat → Int) (hs : 1 ≤ s) (hs4 : s ≤ 4096) (hc : nW s ≤ cap) (w : World) (hL : Laid w)  (hg0 : w.heap[g]? = some (.cells (av 3 (ls [.int .u64 (s : Int), .int .u64 (h : Int), .slice (some ⟨k, 0, none⟩) (nW s) cap])) 44)) (hg1 : w.heap[k]? = some (.cells (av cap (w64 m)) 23)) (hne : g ≠ k) :
    Calls Try.prog 8 #[.pointer (some ⟨g, 0, none⟩)] w fun r w' => ∃ (g1 k1 cap1 : Nat), r = .returned (.pointer (some ⟨g1, 0, none⟩)) ∧ nW s ≤ cap1 ∧ OkT w w' [] [⟨g1, (.cells (av 3 (ls [.int .u64 (s : Int), .int .u64 (h : Int), .slice (some ⟨k1, 0, none⟩) (nW s) cap1])) 44)⟩, ⟨k1, .cells (av cap1 (w64 (cpF (nW s) m))) 23⟩] := by
  go_enter Try.func8, Try.ntmps8
  have M := Mem.startp2 hL hg0 hg1 hne
  refine wp_seq ?_
  refine rg_lit ?_
  refine pl_val (want_no rfl) (some 2) rfl (.pointer none) (fun _ => by kernel_rfl) ?_
  refine pl_nil ?_
  refine au_then ?_
  refine wp_seq ?_
  refine wp_seq ?_
  refine rg_lit ?_
  refine pl_val (want_no rfl) (some 3) rfl (.pointer (some ⟨g, 0, none⟩)) (fun _ => by kernel_rfl) ?_
  refine pl_call M (want_no rfl) (some 4) rfl 16 #[.pointer (some ⟨g, 0, none⟩)] (.bool true) (fun _ => by kernel_rfl) (fun w M => c_made g k s h cap hs w M.laid (M.get 0 rfl)) ?_
  intro u1 M
  refine pl_val (want_no rfl) (some 5) rfl (.bool false) (fun _ => by kernel_rfl) ?_
  refine pl_nil ?_
  refine au_then ?_
  refine wp_cond_false (by kernel_rfl) ?_
  refine wp_skip ?_
  refine au_then ?_
  refine wp_seq ?_
  refine rg_held M [⟨g, .cells (av 3 (ls [.int .u64 (s : Int), .int .u64 (h : Int), .slice (some ⟨k, 0, none⟩) (nW s) cap])) 44⟩, ⟨k, .cells (av cap (w64 m)) 23⟩] 15 rfl (by kernel_rfl) (by kernel_rfl) (fun _ _ d _ _ h => by cases d <;> exact h) ?_
  intro u2 M
  replace M : Mem ⟨w, [g, k]⟩ [⟨g, .cells (av 3 (ls [.int .u64 (s : Int), .int .u64 (h : Int), .slice (some ⟨k, 0, none⟩) (nW s) cap])) 44⟩, ⟨k, .cells (av cap (w64 m)) 23⟩] u2 := M
  refine hl_val M 0 rfl (by decide) (by kernel_rfl) (by kernel_rfl) (want_no rfl) (some 6) rfl (.pointer (some ⟨g, 0, none⟩)) (fun _ _ => by kernel_rfl) ?_
  refine hl_val M 1 rfl (by decide) (by kernel_rfl) (by kernel_rfl) (want_no rfl) (some 7) rfl (.pointer (some ⟨g, 0, none⟩)) (fun _ _ => by kernel_rfl) ?_
  refine hl_val M 2 rfl (by decide) (by kernel_rfl) (by kernel_rfl) (want_no rfl) (some 8) rfl (.pointer (some ⟨g, 0, none⟩)) (fun _ _ => by kernel_rfl) ?_
  refine hl_cell M 3 rfl (by decide) (by kernel_rfl) (by kernel_rfl) (want_no rfl) (some 9) rfl 23 _ rfl g 0 (by kernel_rfl) (.int .u64 (s : Int)) (fun _ => by kernel_rfl) (fun w M => M.cell 0 rfl (by decide) rfl) ?_
  refine hl_val M 4 rfl (by decide) (by kernel_rfl) (by kernel_rfl) (want_no rfl) (some 10) rfl (.pointer (some ⟨g, 0, none⟩)) (fun _ _ => by kernel_rfl) ?_
  refine hl_val M 5 rfl (by decide) (by kernel_rfl) (by kernel_rfl) (want_no rfl) (some 11) rfl (.pointer (some ⟨g, 0, none⟩)) (fun _ _ => by kernel_rfl) ?_
  refine hl_val M 6 rfl (by decide) (by kernel_rfl) (by kernel_rfl) (want_no rfl) (some 12) rfl (.pointer (some ⟨g, 1, none⟩)) (fun _ _ => by kernel_rfl) ?_
  refine hl_cell M 7 rfl (by decide) (by kernel_rfl) (by kernel_rfl) (want_no rfl) (some 13) rfl 23 _ rfl g 1 (by kernel_rfl) (.int .u64 (h : Int)) (fun _ => by kernel_rfl) (fun w M => M.cell 0 rfl (by decide) rfl) ?_
  refine hl_val M 8 rfl (by decide) (by kernel_rfl) (by kernel_rfl) (want_no rfl) (some 14) rfl (.pointer (some ⟨g, 0, none⟩)) (fun _ _ => by kernel_rfl) ?_
  refine hl_val M 9 rfl (by decide) (by kernel_rfl) (by kernel_rfl) (want_no rfl) (some 15) rfl (.pointer (some ⟨g, 0, none⟩)) (fun _ _ => by kernel_rfl) ?_
  refine hl_val M 10 rfl (by decide) (by kernel_rfl) (by kernel_rfl) (want_no rfl) (some 16) rfl (.pointer (some ⟨g, 2, none⟩)) (fun _ _ => by kernel_rfl) ?_
  refine hl_cell M 11 rfl (by decide) (by kernel_rfl) (by kernel_rfl) (want_no rfl) (some 17) rfl 41 _ rfl g 2 (by kernel_rfl) (.slice (some ⟨k, 0, none⟩) (nW s) cap) (fun _ => by kernel_rfl) (fun w M => M.cell 0 rfl (by decide) rfl) ?_
  refine hl_one 12 (by decide) (by kernel_rfl) rfl ?_
  refine pl_callE M (want_no rfl) (some 18) rfl 17 #[.slice (some ⟨k, 0, none⟩) (nW s) cap] (fun cap1 k1 => .slice (some ⟨k1, 0, none⟩) (nW s) cap1) (fun cap1 => .cells (av cap1 (w64 (cpF (nW s) m))) 23) (fun cap1 => nW s ≤ cap1) (fun _ => by kernel_rfl) (fun w M => c_Clone k (nW s) cap m (by unfold nW; omega) hc (by unfold nW; omega) w M.laid (M.get 1 rfl)) ?_
  intro cap1 g1 u3 hcap M
  replace M : Mem ⟨w, [g, k]⟩ [⟨g, .cells (av 3 (ls [.int .u64 (s : Int), .int .u64 (h : Int), .slice (some ⟨k, 0, none⟩) (nW s) cap])) 44⟩, ⟨k, .cells (av cap (w64 m)) 23⟩, ⟨g1, .cells (av cap1 (w64 (cpF (nW s) m))) 23⟩] u3 := M
  refine pl_nil ?_
  refine au_then ?_
  refine ⟨(M.drop (.cons_cons _ (.cons_cons _ (.cons _ (.slnil))))), ?_⟩
  refine hl_val (M.drop (.cons_cons _ (.cons_cons _ (.cons _ (.slnil))))) 13 rfl (by decide) (by kernel_rfl) (by kernel_rfl) (want_no rfl) (some 19) rfl (.agg (av 3 (ls [.int .u64 (s : Int), .int .u64 (h : Int), .slice (some ⟨g1, 0, none⟩) (nW s) cap1]))) (fun _ _ => by kernel_rfl) ?_
  refine hl_one 14 (by decide) (by kernel_rfl) rfl ?_
  refine pl_new M (want_no rfl) (some 20) rfl (.cells (av 3 (ls [.int .u64 (s : Int), .int .u64 (h : Int), .slice (some ⟨g1, 0, none⟩) (nW s) cap1])) 44) (fun _ => by kernel_rfl) ?_
  intro g2 u4 M
  replace M : Mem ⟨w, [g, k]⟩ [⟨g, .cells (av 3 (ls [.int .u64 (s : Int), .int .u64 (h : Int), .slice (some ⟨k, 0, none⟩) (nW s) cap])) 44⟩, ⟨k, .cells (av cap (w64 m)) 23⟩, ⟨g1, .cells (av cap1 (w64 (cpF (nW s) m))) 23⟩, ⟨g2, .cells (av 3 (ls [.int .u64 (s : Int), .int .u64 (h : Int), .slice (some ⟨g1, 0, none⟩) (nW s) cap1])) 44⟩] u4 := M
  refine pl_nil ?_
  refine au_then ?_
  refine ⟨(M.drop (.cons_cons _ (.cons_cons _ (.cons _ (.cons _ (.slnil)))))), ?_⟩
  refine hl_end (by kernel_rfl) (by kernel_rfl) rfl ?_
  refine pl_val (want_no rfl) (some 2) rfl (.pointer (some ⟨g2, 0, none⟩)) (fun _ => by kernel_rfl) ?_
  refine pl_nil ?_
  refine au_then ?_
  refine au_then ?_
  refine wp_ret ?_
  exact bodyPost_ret (v := .pointer (some ⟨g2, 0, none⟩)) (results_tmp1 Try.results8 _ _ _ (by kernel_rfl)) (by kernel_rfl) ⟨_, _, cap1, rfl, hcap, ro_okT (T := [⟨g, _⟩, ⟨k, _⟩]) (by simpa using ⟨hg0, hg1⟩) (M.perm (.cons _ (.cons _ (.swap _ _ _))))⟩


end Go.Proofs.Ytpcdnagonpnpmaa
