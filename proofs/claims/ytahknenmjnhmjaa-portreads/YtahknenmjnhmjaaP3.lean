/- The document's Decode. -/
import Derived.Test.YtahknenmjnhmjaaP2
namespace Go.Proofs.Ytahknenmjnhmjaa
open Go.RowKit

theorem eP_6 {p : Int} {v0 : Bool} (hv : v0 = true) (hp : p = 58) : p = eP v0 := by rw [hv, hp]; rfl
theorem eP_4 {p : Int} {v0 : Bool} (hv : v0 = false) (hp : p = 1) : p = eP v0 := by rw [hv, hp]; rfl
theorem eP_6n {p : Int} {v0 : Bool} (hv : v0 = true) (hp : p = 1) : ¬ p = eP v0 := by rw [hv, hp]; decide
theorem eP_4n {p : Int} {v0 : Bool} (hv : v0 = false) (hp : p = 58) : ¬ p = eP v0 := by rw [hv, hp]; decide
theorem ec_4 (k p : Int) (hp : p = 1) : ec p k = (decide (k = 8) || decide (k = 0)) := by rw [hp]; rfl
theorem ec_6 (k p : Int) (hp : p = 58) : ec p k = (decide (k = 128) || decide (k = 129)) := by rw [hp]; rfl
set_option maxRecDepth 100000 in
set_option maxHeartbeats 4000000 in
set_option linter.unusedSimpArgs false in
theorem d_Decode (v0 : Bool) (h0 l0 : Int) (v1 : Bool) (h1 l1 p t : Int) (s : ByteArray) (hs : s.size ≤ 9000) (hp : 0 ≤ p ∧ p < 256) (w : World) (hL : Laid w)  :
    Calls Try.prog 9 #[.agg (av 9 (ls [.bool (v0), .int .u64 h0, .int .u64 l0, .bool (v1), .int .u64 h1, .int .u64 l1, .int .u8 p, .int .u8 t, .string s]))] w fun r w' => r = .returned (.tuple #[.agg (av 13 (ls [.int .u8 (zI (dE v0 h0 l0 v1 h1 l1 p s) p), .bool (zB (dE v0 h0 l0 v1 h1 l1 p s) v0), .int .u64 (zI (dE v0 h0 l0 v1 h1 l1 p s) h0), .int .u64 (zI (dE v0 h0 l0 v1 h1 l1 p s) l0), .bool (zB (dE v0 h0 l0 v1 h1 l1 p s) v1), .int .u64 (zI (dE v0 h0 l0 v1 h1 l1 p s) h1), .int .u64 (zI (dE v0 h0 l0 v1 h1 l1 p s) l1), .int .u16 (zI (dE v0 h0 l0 v1 h1 l1 p s) (hFr p s)), .int .u16 (zI (dE v0 h0 l0 v1 h1 l1 p s) (hTo p s)), .int .u8 (zI (dE v0 h0 l0 v1 h1 l1 p s) (hFl p s)), .int .u8 (zI (dE v0 h0 l0 v1 h1 l1 p s) (hKi p s)), .int .u8 (zI (dE v0 h0 l0 v1 h1 l1 p s) (hCo p s)), .int .i64 (zI (dE v0 h0 l0 v1 h1 l1 p s) (hSz p s))])), .int .i64 (dE v0 h0 l0 v1 h1 l1 p s)]) ∧ Below w.heap.size w w' := by
  go_enter Try.func9, Try.ntmps9
  have M := Mem.start hL
  have hb := bt_nn s 12
  refine wp_seq ?_
  refine rg_lit ?_
  refine pl_new M (want_no rfl) (some 1) rfl (.cells (av 9 (ls [.bool (v0), .int .u64 h0, .int .u64 l0, .bool (v1), .int .u64 h1, .int .u64 l1, .int .u8 p, .int .u8 t, .string s])) 26) (fun _ => by kernel_rfl) ?_
  intro g1 u1 M
  replace M : Mem ⟨w, []⟩ [⟨g1, .cells (av 9 (ls [.bool (v0), .int .u64 h0, .int .u64 l0, .bool (v1), .int .u64 h1, .int .u64 l1, .int .u8 p, .int .u8 t, .string s])) 26⟩] u1 := M
  refine pl_new M (want_no rfl) (some 2) rfl (.cells (av 13 (ls [.int .u8 0, .bool false, .int .u64 0, .int .u64 0, .bool false, .int .u64 0, .int .u64 0, .int .u16 0, .int .u16 0, .int .u8 0, .int .u8 0, .int .u8 0, .int .i64 0])) 32) (fun _ => by kernel_rfl) ?_
  intro g2 u2 M
  replace M : Mem ⟨w, []⟩ [⟨g1, .cells (av 9 (ls [.bool (v0), .int .u64 h0, .int .u64 l0, .bool (v1), .int .u64 h1, .int .u64 l1, .int .u8 p, .int .u8 t, .string s])) 26⟩, ⟨g2, .cells (av 13 (ls [.int .u8 0, .bool false, .int .u64 0, .int .u64 0, .bool false, .int .u64 0, .int .u64 0, .int .u16 0, .int .u16 0, .int .u8 0, .int .u8 0, .int .u8 0, .int .i64 0])) 32⟩] u2 := M
  refine pl_val (want_no rfl) (some 3) rfl (.int .i64 0) (fun _ => by kernel_rfl) ?_
  refine pl_nil ?_
  refine au_then ?_
  refine wp_seq ?_
  refine rg_lit ?_
  refine pl_load M (want_no rfl) (some 8) rfl 26 _ rfl 0 g1 0 (by kernel_rfl) 9 26 (ls [.bool (v0), .int .u64 h0, .int .u64 l0, .bool (v1), .int .u64 h1, .int .u64 l1, .int .u8 p, .int .u8 t, .string s]) rfl 9 (ls [.bool (v0), .int .u64 h0, .int .u64 l0, .bool (v1), .int .u64 h1, .int .u64 l1, .int .u8 p, .int .u8 t, .string s]) (fun j _ => by rw [Nat.zero_add]) (by decide) _ Try.underlying26 rfl inz26 ?_
  refine pl_call M (want_no rfl) (some 9) rfl 24 #[.agg (av 9 (ls [.bool (v0), .int .u64 h0, .int .u64 l0, .bool (v1), .int .u64 h1, .int .u64 l1, .int .u8 p, .int .u8 t, .string s]))] (.int .i64 (my v0 h0 l0 v1 h1 l1 (s.size : Int))) (fun _ => by kernel_rfl) (fun w M => d_May v0 h0 l0 v1 h1 l1 p t s (by omega) w M.laid) ?_
  intro u3 M
  refine pl_val (want_no rfl) (some 4) rfl (.int .i64 (my v0 h0 l0 v1 h1 l1 (s.size : Int))) (fun _ => by kernel_rfl) ?_
  refine pl_nil ?_
  refine au_then ?_
  refine wp_seq ?_
  refine wp_seq ?_
  refine rg_lit ?_
  refine pl_val (want_no rfl) (some 10) rfl (.int .i64 (my v0 h0 l0 v1 h1 l1 (s.size : Int))) (fun _ => by kernel_rfl) ?_
  by_cases c0 : (my v0 h0 l0 v1 h1 l1 (s.size : Int)) = 0
  · skip
    refine pl_val (want_no rfl) (some 11) rfl (.bool false) (fun w => Eq.trans (b := .ok (.value (.bool (!(decide ((my v0 h0 l0 v1 h1 l1 (s.size : Int)) = 0))))) w) (by kernel_rfl) (by rw [decide_eq_true (c0)]; rfl)) ?_
    refine pl_nil ?_
    refine au_then ?_
    refine wp_cond_false (by kernel_rfl) ?_
    refine wp_skip ?_
    refine au_then ?_
    refine wp_seq ?_
    refine rg_lit ?_
    refine pl_val (want_no rfl) (some 14) rfl (.pointer (some ⟨g1, 6, none⟩)) (fun _ => by kernel_rfl) ?_
    refine pl_cell M (want_no rfl) (some 15) rfl 5 _ rfl g1 6 (by kernel_rfl) (.int .u8 p) (fun _ => by kernel_rfl) (fun w M => M.cell 0 rfl (by decide) rfl) ?_
    refine pl_val (want_no rfl) (some 16) rfl (.pointer (some ⟨g1, 0, none⟩)) (fun _ => by kernel_rfl) ?_
    refine pl_load M (want_no rfl) (some 17) rfl 24 _ rfl 0 g1 0 (by kernel_rfl) 9 26 (ls [.bool (v0), .int .u64 h0, .int .u64 l0, .bool (v1), .int .u64 h1, .int .u64 l1, .int .u8 p, .int .u8 t, .string s]) rfl 3 (ls [.bool (v0), .int .u64 h0, .int .u64 l0]) (part_ls _ 0 3 _ rfl) (by decide) _ Try.underlying24 rfl inz24 ?_
    refine pl_val (want_no rfl) (some 18) rfl (.pointer (some ⟨g1, 3, none⟩)) (fun _ => by kernel_rfl) ?_
    refine pl_load M (want_no rfl) (some 19) rfl 24 _ rfl 0 g1 3 (by kernel_rfl) 9 26 (ls [.bool (v0), .int .u64 h0, .int .u64 l0, .bool (v1), .int .u64 h1, .int .u64 l1, .int .u8 p, .int .u8 t, .string s]) rfl 3 (ls [.bool (v1), .int .u64 h1, .int .u64 l1]) (part_ls _ 3 3 _ rfl) (by decide) _ Try.underlying24 rfl inz24 ?_
    refine pl_val (want_no rfl) (some 20) rfl (.agg (av 9 (ls [.int .u8 p, .bool (v0), .int .u64 h0, .int .u64 l0, .bool (v1), .int .u64 h1, .int .u64 l1, .int .u16 0, .int .u16 0]))) (fun _ => by kernel_rfl) ?_
    refine pl_val (want_no rfl) (some 21) rfl (.agg (av 13 (ls [.int .u8 p, .bool (v0), .int .u64 h0, .int .u64 l0, .bool (v1), .int .u64 h1, .int .u64 l1, .int .u16 0, .int .u16 0, .int .u8 0, .int .u8 0, .int .u8 0, .int .i64 0]))) (fun _ => by kernel_rfl) ?_
    refine pl_new M (want_no rfl) (some 5) rfl (.cells (av 13 (ls [.int .u8 0, .bool false, .int .u64 0, .int .u64 0, .bool false, .int .u64 0, .int .u64 0, .int .u16 0, .int .u16 0, .int .u8 0, .int .u8 0, .int .u8 0, .int .i64 0])) 32) (fun _ => by kernel_rfl) ?_
    intro g3 u4 M
    replace M : Mem ⟨w, []⟩ [⟨g1, .cells (av 9 (ls [.bool (v0), .int .u64 h0, .int .u64 l0, .bool (v1), .int .u64 h1, .int .u64 l1, .int .u8 p, .int .u8 t, .string s])) 26⟩, ⟨g2, .cells (av 13 (ls [.int .u8 0, .bool false, .int .u64 0, .int .u64 0, .bool false, .int .u64 0, .int .u64 0, .int .u16 0, .int .u16 0, .int .u8 0, .int .u8 0, .int .u8 0, .int .i64 0])) 32⟩, ⟨g3, .cells (av 13 (ls [.int .u8 0, .bool false, .int .u64 0, .int .u64 0, .bool false, .int .u64 0, .int .u64 0, .int .u16 0, .int .u16 0, .int .u8 0, .int .u8 0, .int .u8 0, .int .i64 0])) 32⟩] u4 := M
    refine pl_put M (want_no rfl) rfl 32 _ _ rfl 2 g3 0 (by kernel_rfl) 13 32 (ls [.int .u8 0, .bool false, .int .u64 0, .int .u64 0, .bool false, .int .u64 0, .int .u64 0, .int .u16 0, .int .u16 0, .int .u8 0, .int .u8 0, .int .u8 0, .int .i64 0]) rfl 13 (ls [.int .u8 p, .bool (v0), .int .u64 h0, .int .u64 l0, .bool (v1), .int .u64 h1, .int .u64 l1, .int .u16 0, .int .u16 0, .int .u8 0, .int .u8 0, .int .u8 0, .int .i64 0]) (ls [.int .u8 p, .bool (v0), .int .u64 h0, .int .u64 l0, .bool (v1), .int .u64 h1, .int .u64 l1, .int .u16 0, .int .u16 0, .int .u8 0, .int .u8 0, .int .u8 0, .int .i64 0]) (by kernel_rfl) inz32 (by decide) (one_ls _ rfl) (fun j hj => by rw [if_pos (by omega), Nat.sub_zero]) ?_
    intro u5 M
    replace M : Mem ⟨w, []⟩ [⟨g1, .cells (av 9 (ls [.bool (v0), .int .u64 h0, .int .u64 l0, .bool (v1), .int .u64 h1, .int .u64 l1, .int .u8 p, .int .u8 t, .string s])) 26⟩, ⟨g2, .cells (av 13 (ls [.int .u8 0, .bool false, .int .u64 0, .int .u64 0, .bool false, .int .u64 0, .int .u64 0, .int .u16 0, .int .u16 0, .int .u8 0, .int .u8 0, .int .u8 0, .int .i64 0])) 32⟩, ⟨g3, .cells (av 13 (ls [.int .u8 p, .bool (v0), .int .u64 h0, .int .u64 l0, .bool (v1), .int .u64 h1, .int .u64 l1, .int .u16 0, .int .u16 0, .int .u8 0, .int .u8 0, .int .u8 0, .int .i64 0])) 32⟩] u5 := M
    refine pl_nil ?_
    refine au_then ?_
    refine wp_seq ?_
    refine rg_lit ?_
    refine pl_val (want_no rfl) (some 22) rfl (.pointer (some ⟨g1, 8, none⟩)) (fun _ => by kernel_rfl) ?_
    refine pl_cell M (want_no rfl) (some 23) rfl 9 _ rfl g1 8 (by kernel_rfl) (.string s) (fun _ => by kernel_rfl) (fun w M => M.cell 0 rfl (by decide) rfl) ?_
    refine pl_val (want_no rfl) (some 6) rfl (.string s) (fun _ => by kernel_rfl) ?_
    refine pl_nil ?_
    refine au_then ?_
    refine wp_seq ?_
    refine wp_seq ?_
    refine rg_lit ?_
    refine pl_val (want_no rfl) (some 24) rfl (.pointer (some ⟨g1, 6, none⟩)) (fun _ => by kernel_rfl) ?_
    refine pl_cell M (want_no rfl) (some 25) rfl 5 _ rfl g1 6 (by kernel_rfl) (.int .u8 p) (fun _ => by kernel_rfl) (fun w M => M.cell 0 rfl (by decide) rfl) ?_
    refine pl_nil ?_
    refine au_then ?_
    refine wp_block ?_
    refine wp_seq ?_
    refine rg_lit ?_
    by_cases c1 : p = 17
    · skip
      refine pl_val (want_no rfl) (some 30) rfl (.bool true) (fun w => Eq.trans (b := .ok (.value (.bool (decide (p = 17)))) w) (by kernel_rfl) (by rw [decide_eq_true (c1)])) ?_
      refine pl_val (want_no rfl) (some 29) rfl (.bool true) (fun _ => by kernel_rfl) ?_
      refine pl_nil ?_
      refine au_then ?_
      refine wp_cond_true (by kernel_rfl) ?_
      refine wp_seq ?_
      refine wp_seq ?_
      refine rg_lit ?_
      refine pl_val (want_no rfl) (some 31) rfl (.string s) (fun _ => by kernel_rfl) ?_
      refine pl_val (want_no rfl) (some 32) rfl (.int .i64 (s.size : Int)) (fun _ => by kernel_rfl) ?_
      by_cases c2 : (s.size : Int) < 8
      · skip
        refine pl_val (want_no rfl) (some 33) rfl (.bool true) (fun w => Eq.trans (b := .ok (.value (.bool (decide ((s.size : Int) < 8)))) w) (by kernel_rfl) (by rw [decide_eq_true (c2)])) ?_
        refine pl_nil ?_
        refine au_then ?_
        refine wp_cond_true (by kernel_rfl) ?_
        refine wp_seq ?_
        refine rg_lit ?_
        refine pl_val (want_no rfl) (some 34) rfl (.agg (av 13 (ls [.int .u8 0, .bool false, .int .u64 0, .int .u64 0, .bool false, .int .u64 0, .int .u64 0, .int .u16 0, .int .u16 0, .int .u8 0, .int .u8 0, .int .u8 0, .int .i64 0]))) (fun _ => by kernel_rfl) ?_
        refine pl_put M (want_no rfl) rfl 32 _ _ rfl 1 g2 0 (by kernel_rfl) 13 32 (ls [.int .u8 0, .bool false, .int .u64 0, .int .u64 0, .bool false, .int .u64 0, .int .u64 0, .int .u16 0, .int .u16 0, .int .u8 0, .int .u8 0, .int .u8 0, .int .i64 0]) rfl 13 (ls [.int .u8 0, .bool false, .int .u64 0, .int .u64 0, .bool false, .int .u64 0, .int .u64 0, .int .u16 0, .int .u16 0, .int .u8 0, .int .u8 0, .int .u8 0, .int .i64 0]) (ls [.int .u8 0, .bool false, .int .u64 0, .int .u64 0, .bool false, .int .u64 0, .int .u64 0, .int .u16 0, .int .u16 0, .int .u8 0, .int .u8 0, .int .u8 0, .int .i64 0]) (by kernel_rfl) inz32 (by decide) (one_ls _ rfl) (fun j hj => by rw [if_pos (by omega), Nat.sub_zero]) ?_
        intro u6 M
        replace M : Mem ⟨w, []⟩ [⟨g1, .cells (av 9 (ls [.bool (v0), .int .u64 h0, .int .u64 l0, .bool (v1), .int .u64 h1, .int .u64 l1, .int .u8 p, .int .u8 t, .string s])) 26⟩, ⟨g2, .cells (av 13 (ls [.int .u8 0, .bool false, .int .u64 0, .int .u64 0, .bool false, .int .u64 0, .int .u64 0, .int .u16 0, .int .u16 0, .int .u8 0, .int .u8 0, .int .u8 0, .int .i64 0])) 32⟩, ⟨g3, .cells (av 13 (ls [.int .u8 p, .bool (v0), .int .u64 h0, .int .u64 l0, .bool (v1), .int .u64 h1, .int .u64 l1, .int .u16 0, .int .u16 0, .int .u8 0, .int .u8 0, .int .u8 0, .int .i64 0])) 32⟩] u6 := M
        refine pl_val (want_no rfl) (some 3) rfl (.int .i64 7) (fun _ => by kernel_rfl) ?_
        refine pl_nil ?_
        refine au_then ?_
        refine wp_ret ?_
        refine au_then_ret ?_
        refine au_block_ret ?_
        refine au_then_ret ?_
        have hE : dE v0 h0 l0 v1 h1 l1 p s = 7 := by unfold dE fO fU fS; simp only [ite_self, if_pos c0, if_neg (show ¬ p = 6 by omega), if_neg (show ¬ p = 1 by omega), if_neg (show ¬ p = 58 by omega), if_pos c1, if_pos c2]
        have hn : ∀ x : Int, zI 7 x = 0 := fun x => if_neg (by decide)
        have hm : ∀ x : Bool, zB 7 x = false := fun x => if_neg (by decide)
        exact bodyPost_ret (v := .tuple #[.agg (av 13 (ls [.int .u8 0, .bool false, .int .u64 0, .int .u64 0, .bool false, .int .u64 0, .int .u64 0, .int .u16 0, .int .u16 0, .int .u8 0, .int .u8 0, .int .u8 0, .int .i64 0])), .int .i64 7]) (results_cell_tmp Try.results9 _ _ g2 32 (av 13 (ls [.int .u8 0, .bool false, .int .u64 0, .int .u64 0, .bool false, .int .u64 0, .int .u64 0, .int .u16 0, .int .u16 0, .int .u8 0, .int .u8 0, .int .u8 0, .int .i64 0])) (0, 0) _ _ (by kernel_rfl) (by kernel_rfl) (M.get 1 rfl) Try.underlying32 rfl (by rw [av_size]; exact inz32)) (by kernel_rfl) ⟨by simp only [hE, hn, hm], below_grown M.old⟩
      · skip
        refine pl_val (want_no rfl) (some 33) rfl (.bool false) (fun w => Eq.trans (b := .ok (.value (.bool (decide ((s.size : Int) < 8)))) w) (by kernel_rfl) (by rw [decide_eq_false (c2)])) ?_
        refine pl_nil ?_
        refine au_then ?_
        refine wp_cond_false (by kernel_rfl) ?_
        refine wp_skip ?_
        refine au_then ?_
        refine wp_seq ?_
        refine wp_seq ?_
        refine rg_lit ?_
        refine pl_val (want_no rfl) (some 35) rfl (.string s) (fun _ => by kernel_rfl) ?_
        refine pl_val (want_no rfl) (some 36) rfl (.string (s.extract 4 s.size)) (run_strl 9 Try.underlying9 _ _ rfl s (by kernel_rfl) .i64 4 (by kernel_rfl) (by omega) _ rfl) ?_
        refine pl_call M (want_no rfl) (some 37) rfl 25 #[.string (s.extract 4 s.size)] (.int .u16 (pr s 4)) (fun _ => by kernel_rfl) (fun w M => call_val (d_num16 (s.extract 4 s.size) (by rw [ByteArray.size_extract]; omega) w M.laid) (by rw [pr_ext s 4 (by omega)])) ?_
        intro u6 M
        refine pl_val (want_no rfl) (some 38) rfl (.int .i64 (pr s 4)) (fun w => Eq.trans (b := .ok (.value (.int .i64 (cv .i64 (pr s 4)))) w) (by kernel_rfl) (by have := pr_nn s 4; rw [cv_i64 (by omega) (by omega)])) ?_
        refine pl_val (want_no rfl) (some 39) rfl (.string s) (fun _ => by kernel_rfl) ?_
        refine pl_val (want_no rfl) (some 40) rfl (.int .i64 (s.size : Int)) (fun _ => by kernel_rfl) ?_
        by_cases c3 : (pr s 4) = (s.size : Int)
        · skip
          refine pl_val (want_no rfl) (some 41) rfl (.bool false) (fun w => Eq.trans (b := .ok (.value (.bool (!(decide ((pr s 4) = (s.size : Int)))))) w) (by kernel_rfl) (by rw [decide_eq_true (c3)]; rfl)) ?_
          refine pl_nil ?_
          refine au_then ?_
          refine wp_cond_false (by kernel_rfl) ?_
          refine wp_skip ?_
          refine au_then ?_
          refine wp_seq ?_
          refine wp_seq ?_
          refine rg_lit ?_
          refine pl_load M (want_no rfl) (some 43) rfl 26 _ rfl 0 g1 0 (by kernel_rfl) 9 26 (ls [.bool (v0), .int .u64 h0, .int .u64 l0, .bool (v1), .int .u64 h1, .int .u64 l1, .int .u8 p, .int .u8 t, .string s]) rfl 9 (ls [.bool (v0), .int .u64 h0, .int .u64 l0, .bool (v1), .int .u64 h1, .int .u64 l1, .int .u8 p, .int .u8 t, .string s]) (fun j _ => by rw [Nat.zero_add]) (by decide) _ Try.underlying26 rfl inz26 ?_
          refine pl_call M (want_no rfl) (some 44) rfl 26 #[.agg (av 9 (ls [.bool (v0), .int .u64 h0, .int .u64 l0, .bool (v1), .int .u64 h1, .int .u64 l1, .int .u8 p, .int .u8 t, .string s]))] (.int .u16 (sO v0 h0 l0 v1 h1 l1 p s)) (fun _ => by kernel_rfl) (fun w M => d_sum v0 h0 l0 v1 h1 l1 p t s (by omega) (by omega) w M.laid) ?_
          intro u7 M
          by_cases c4 : (sO v0 h0 l0 v1 h1 l1 p s) = 0
          · skip
            refine pl_val (want_no rfl) (some 45) rfl (.bool false) (fun w => Eq.trans (b := .ok (.value (.bool (!(decide ((sO v0 h0 l0 v1 h1 l1 p s) = 0))))) w) (by kernel_rfl) (by rw [decide_eq_true (c4)]; rfl)) ?_
            refine pl_val (want_no rfl) (some 46) rfl (.bool false) (fun _ => by kernel_rfl) ?_
            refine pl_skip (want_off 3 true rfl 46 rfl (by kernel_rfl)) (some 47) rfl ?_
            refine pl_skip (want_off 3 true rfl 46 rfl (by kernel_rfl)) (some 48) rfl ?_
            refine pl_skip (want_off 3 true rfl 46 rfl (by kernel_rfl)) (some 49) rfl ?_
            refine pl_skip (want_off 3 true rfl 46 rfl (by kernel_rfl)) (some 50) rfl ?_
            refine pl_skip (want_off 3 true rfl 46 rfl (by kernel_rfl)) (some 51) rfl ?_
            refine pl_skip (want_und 8 false rfl 51 rfl (by kernel_rfl)) (some 52) rfl ?_
            refine pl_skip (want_und 8 false rfl 51 rfl (by kernel_rfl)) (some 53) rfl ?_
            refine pl_skip (want_und 8 false rfl 51 rfl (by kernel_rfl)) (some 54) rfl ?_
            refine pl_skip (want_off 3 true rfl 46 rfl (by kernel_rfl)) (some 55) rfl ?_
            refine pl_val (want_no rfl) (some 56) rfl (.bool false) (fun _ => by kernel_rfl) ?_
            refine pl_nil ?_
            refine au_then ?_
            refine wp_cond_false (by kernel_rfl) ?_
            refine wp_skip ?_
            refine au_then ?_
            refine wp_seq ?_
            refine rg_lit ?_
            refine pl_val (want_no rfl) (some 58) rfl (.string s) (fun _ => by kernel_rfl) ?_
            refine pl_call M (want_no rfl) (some 59) rfl 25 #[.string s] (.int .u16 (pr s 0)) (fun _ => by kernel_rfl) (fun w M => d_num16 s (by omega) w M.laid) ?_
            intro u8 M
            refine pl_val (want_no rfl) (some 60) rfl (.pointer (some ⟨g3, 0, none⟩)) (fun _ => by kernel_rfl) ?_
            refine pl_val (want_no rfl) (some 61) rfl (.pointer (some ⟨g3, 7, none⟩)) (fun _ => by kernel_rfl) ?_
            refine pl_put1 M (want_no rfl) rfl 27 _ _ rfl 2 g3 7 (by kernel_rfl) 13 32 (ls [.int .u8 p, .bool (v0), .int .u64 h0, .int .u64 l0, .bool (v1), .int .u64 h1, .int .u64 l1, .int .u16 0, .int .u16 0, .int .u8 0, .int .u8 0, .int .u8 0, .int .i64 0]) rfl (.int .u16 (pr s 0)) (ls [.int .u8 p, .bool (v0), .int .u64 h0, .int .u64 l0, .bool (v1), .int .u64 h1, .int .u64 l1, .int .u16 (pr s 0), .int .u16 0, .int .u8 0, .int .u8 0, .int .u8 0, .int .i64 0]) (by kernel_rfl) inz27 (by decide) rfl rfl (put_ls _ 7 _ _ rfl) ?_
            intro u9 M
            replace M : Mem ⟨w, []⟩ [⟨g1, .cells (av 9 (ls [.bool (v0), .int .u64 h0, .int .u64 l0, .bool (v1), .int .u64 h1, .int .u64 l1, .int .u8 p, .int .u8 t, .string s])) 26⟩, ⟨g2, .cells (av 13 (ls [.int .u8 0, .bool false, .int .u64 0, .int .u64 0, .bool false, .int .u64 0, .int .u64 0, .int .u16 0, .int .u16 0, .int .u8 0, .int .u8 0, .int .u8 0, .int .i64 0])) 32⟩, ⟨g3, .cells (av 13 (ls [.int .u8 p, .bool (v0), .int .u64 h0, .int .u64 l0, .bool (v1), .int .u64 h1, .int .u64 l1, .int .u16 (pr s 0), .int .u16 0, .int .u8 0, .int .u8 0, .int .u8 0, .int .i64 0])) 32⟩] u9 := M
            refine pl_nil ?_
            refine au_then ?_
            refine wp_seq ?_
            refine rg_lit ?_
            refine pl_val (want_no rfl) (some 62) rfl (.string s) (fun _ => by kernel_rfl) ?_
            refine pl_val (want_no rfl) (some 63) rfl (.string (s.extract 2 s.size)) (run_strl 9 Try.underlying9 _ _ rfl s (by kernel_rfl) .i64 2 (by kernel_rfl) (by omega) _ rfl) ?_
            refine pl_call M (want_no rfl) (some 64) rfl 25 #[.string (s.extract 2 s.size)] (.int .u16 (pr s 2)) (fun _ => by kernel_rfl) (fun w M => call_val (d_num16 (s.extract 2 s.size) (by rw [ByteArray.size_extract]; omega) w M.laid) (by rw [pr_ext s 2 (by omega)])) ?_
            intro u10 M
            refine pl_val (want_no rfl) (some 65) rfl (.pointer (some ⟨g3, 0, none⟩)) (fun _ => by kernel_rfl) ?_
            refine pl_val (want_no rfl) (some 66) rfl (.pointer (some ⟨g3, 8, none⟩)) (fun _ => by kernel_rfl) ?_
            refine pl_put1 M (want_no rfl) rfl 27 _ _ rfl 2 g3 8 (by kernel_rfl) 13 32 (ls [.int .u8 p, .bool (v0), .int .u64 h0, .int .u64 l0, .bool (v1), .int .u64 h1, .int .u64 l1, .int .u16 (pr s 0), .int .u16 0, .int .u8 0, .int .u8 0, .int .u8 0, .int .i64 0]) rfl (.int .u16 (pr s 2)) (ls [.int .u8 p, .bool (v0), .int .u64 h0, .int .u64 l0, .bool (v1), .int .u64 h1, .int .u64 l1, .int .u16 (pr s 0), .int .u16 (pr s 2), .int .u8 0, .int .u8 0, .int .u8 0, .int .i64 0]) (by kernel_rfl) inz27 (by decide) rfl rfl (put_ls _ 8 _ _ rfl) ?_
            intro u11 M
            replace M : Mem ⟨w, []⟩ [⟨g1, .cells (av 9 (ls [.bool (v0), .int .u64 h0, .int .u64 l0, .bool (v1), .int .u64 h1, .int .u64 l1, .int .u8 p, .int .u8 t, .string s])) 26⟩, ⟨g2, .cells (av 13 (ls [.int .u8 0, .bool false, .int .u64 0, .int .u64 0, .bool false, .int .u64 0, .int .u64 0, .int .u16 0, .int .u16 0, .int .u8 0, .int .u8 0, .int .u8 0, .int .i64 0])) 32⟩, ⟨g3, .cells (av 13 (ls [.int .u8 p, .bool (v0), .int .u64 h0, .int .u64 l0, .bool (v1), .int .u64 h1, .int .u64 l1, .int .u16 (pr s 0), .int .u16 (pr s 2), .int .u8 0, .int .u8 0, .int .u8 0, .int .i64 0])) 32⟩] u11 := M
            refine pl_nil ?_
            refine au_then ?_
            refine rg_lit ?_
            refine pl_val (want_no rfl) (some 67) rfl (.string s) (fun _ => by kernel_rfl) ?_
            refine pl_val (want_no rfl) (some 68) rfl (.int .i64 (s.size : Int)) (fun _ => by kernel_rfl) ?_
            refine pl_val (want_no rfl) (some 69) rfl (.int .i64 ((s.size : Int) - 8)) (fun w => Eq.trans (b := .ok (.value (.int .i64 (IntKind.wrap .i64 ((s.size : Int) - 8)))) w) (by kernel_rfl) (by rw [wrap64 (by omega) (by omega)])) ?_
            refine pl_val (want_no rfl) (some 70) rfl (.pointer (some ⟨g3, 12, none⟩)) (fun _ => by kernel_rfl) ?_
            refine pl_put1 M (want_no rfl) rfl 3 _ _ rfl 2 g3 12 (by kernel_rfl) 13 32 (ls [.int .u8 p, .bool (v0), .int .u64 h0, .int .u64 l0, .bool (v1), .int .u64 h1, .int .u64 l1, .int .u16 (pr s 0), .int .u16 (pr s 2), .int .u8 0, .int .u8 0, .int .u8 0, .int .i64 0]) rfl (.int .i64 ((s.size : Int) - 8)) (ls [.int .u8 p, .bool (v0), .int .u64 h0, .int .u64 l0, .bool (v1), .int .u64 h1, .int .u64 l1, .int .u16 (pr s 0), .int .u16 (pr s 2), .int .u8 0, .int .u8 0, .int .u8 0, .int .i64 ((s.size : Int) - 8)]) (by kernel_rfl) inz3 (by decide) rfl rfl (put_ls _ 12 _ _ rfl) ?_
            intro u12 M
            replace M : Mem ⟨w, []⟩ [⟨g1, .cells (av 9 (ls [.bool (v0), .int .u64 h0, .int .u64 l0, .bool (v1), .int .u64 h1, .int .u64 l1, .int .u8 p, .int .u8 t, .string s])) 26⟩, ⟨g2, .cells (av 13 (ls [.int .u8 0, .bool false, .int .u64 0, .int .u64 0, .bool false, .int .u64 0, .int .u64 0, .int .u16 0, .int .u16 0, .int .u8 0, .int .u8 0, .int .u8 0, .int .i64 0])) 32⟩, ⟨g3, .cells (av 13 (ls [.int .u8 p, .bool (v0), .int .u64 h0, .int .u64 l0, .bool (v1), .int .u64 h1, .int .u64 l1, .int .u16 (pr s 0), .int .u16 (pr s 2), .int .u8 0, .int .u8 0, .int .u8 0, .int .i64 ((s.size : Int) - 8)])) 32⟩] u12 := M
            refine pl_nil ?_
            refine au_block ?_
            refine au_then ?_
            refine wp_seq ?_
            refine rg_lit ?_
            refine pl_load M (want_no rfl) (some 186) rfl 32 _ rfl 2 g3 0 (by kernel_rfl) 13 32 (ls [.int .u8 p, .bool (v0), .int .u64 h0, .int .u64 l0, .bool (v1), .int .u64 h1, .int .u64 l1, .int .u16 (pr s 0), .int .u16 (pr s 2), .int .u8 0, .int .u8 0, .int .u8 0, .int .i64 ((s.size : Int) - 8)]) rfl 13 (ls [.int .u8 p, .bool (v0), .int .u64 h0, .int .u64 l0, .bool (v1), .int .u64 h1, .int .u64 l1, .int .u16 (pr s 0), .int .u16 (pr s 2), .int .u8 0, .int .u8 0, .int .u8 0, .int .i64 ((s.size : Int) - 8)]) (fun j _ => by rw [Nat.zero_add]) (by decide) _ Try.underlying32 rfl inz32 ?_
            refine pl_put M (want_no rfl) rfl 32 _ _ rfl 1 g2 0 (by kernel_rfl) 13 32 (ls [.int .u8 0, .bool false, .int .u64 0, .int .u64 0, .bool false, .int .u64 0, .int .u64 0, .int .u16 0, .int .u16 0, .int .u8 0, .int .u8 0, .int .u8 0, .int .i64 0]) rfl 13 (ls [.int .u8 p, .bool (v0), .int .u64 h0, .int .u64 l0, .bool (v1), .int .u64 h1, .int .u64 l1, .int .u16 (pr s 0), .int .u16 (pr s 2), .int .u8 0, .int .u8 0, .int .u8 0, .int .i64 ((s.size : Int) - 8)]) (ls [.int .u8 p, .bool (v0), .int .u64 h0, .int .u64 l0, .bool (v1), .int .u64 h1, .int .u64 l1, .int .u16 (pr s 0), .int .u16 (pr s 2), .int .u8 0, .int .u8 0, .int .u8 0, .int .i64 ((s.size : Int) - 8)]) (by kernel_rfl) inz32 (by decide) (one_ls _ rfl) (fun j hj => by rw [if_pos (by omega), Nat.sub_zero]) ?_
            intro u13 M
            replace M : Mem ⟨w, []⟩ [⟨g1, .cells (av 9 (ls [.bool (v0), .int .u64 h0, .int .u64 l0, .bool (v1), .int .u64 h1, .int .u64 l1, .int .u8 p, .int .u8 t, .string s])) 26⟩, ⟨g2, .cells (av 13 (ls [.int .u8 p, .bool (v0), .int .u64 h0, .int .u64 l0, .bool (v1), .int .u64 h1, .int .u64 l1, .int .u16 (pr s 0), .int .u16 (pr s 2), .int .u8 0, .int .u8 0, .int .u8 0, .int .i64 ((s.size : Int) - 8)])) 32⟩, ⟨g3, .cells (av 13 (ls [.int .u8 p, .bool (v0), .int .u64 h0, .int .u64 l0, .bool (v1), .int .u64 h1, .int .u64 l1, .int .u16 (pr s 0), .int .u16 (pr s 2), .int .u8 0, .int .u8 0, .int .u8 0, .int .i64 ((s.size : Int) - 8)])) 32⟩] u13 := M
            refine pl_val (want_no rfl) (some 3) rfl (.int .i64 0) (fun _ => by kernel_rfl) ?_
            refine pl_nil ?_
            refine au_then ?_
            refine wp_ret ?_
            have hE : dE v0 h0 l0 v1 h1 l1 p s = 0 := by unfold dE fO fU fS; simp only [ite_self, if_pos c0, if_neg (show ¬ p = 6 by omega), if_neg (show ¬ p = 1 by omega), if_neg (show ¬ p = 58 by omega), if_pos c1, if_neg c2, if_pos c3, if_pos c4]
            have hn : ∀ x : Int, zI 0 x = x := fun x => if_pos rfl
            have hm : ∀ x : Bool, zB 0 x = x := fun x => if_pos rfl
            have e7 : (hFr p s) = (pr s 0) := by simp only [hFr, hTo, hFl, hKi, hCo, hSz, hdO, if_pos c0, if_neg (show ¬ p = 6 by omega), if_neg (show ¬ p = 1 by omega), if_neg (show ¬ p = 58 by omega), if_pos c1, if_neg c2, if_pos c3, if_pos c4]
            have e8 : (hTo p s) = (pr s 2) := by simp only [hFr, hTo, hFl, hKi, hCo, hSz, hdO, if_pos c0, if_neg (show ¬ p = 6 by omega), if_neg (show ¬ p = 1 by omega), if_neg (show ¬ p = 58 by omega), if_pos c1, if_neg c2, if_pos c3, if_pos c4]
            have e9 : (hFl p s) = 0 := by simp only [hFr, hTo, hFl, hKi, hCo, hSz, hdO, if_pos c0, if_neg (show ¬ p = 6 by omega), if_neg (show ¬ p = 1 by omega), if_neg (show ¬ p = 58 by omega), if_pos c1, if_neg c2, if_pos c3, if_pos c4]
            have e10 : (hKi p s) = 0 := by simp only [hFr, hTo, hFl, hKi, hCo, hSz, hdO, if_pos c0, if_neg (show ¬ p = 6 by omega), if_neg (show ¬ p = 1 by omega), if_neg (show ¬ p = 58 by omega), if_pos c1, if_neg c2, if_pos c3, if_pos c4]
            have e11 : (hCo p s) = 0 := by simp only [hFr, hTo, hFl, hKi, hCo, hSz, hdO, if_pos c0, if_neg (show ¬ p = 6 by omega), if_neg (show ¬ p = 1 by omega), if_neg (show ¬ p = 58 by omega), if_pos c1, if_neg c2, if_pos c3, if_pos c4]
            have e12 : (hSz p s) = ((s.size : Int) - 8) := by simp only [hFr, hTo, hFl, hKi, hCo, hSz, hdO, if_pos c0, if_neg (show ¬ p = 6 by omega), if_neg (show ¬ p = 1 by omega), if_neg (show ¬ p = 58 by omega), if_pos c1, if_neg c2, if_pos c3, if_pos c4]
            exact bodyPost_ret (v := .tuple #[.agg (av 13 (ls [.int .u8 p, .bool (v0), .int .u64 h0, .int .u64 l0, .bool (v1), .int .u64 h1, .int .u64 l1, .int .u16 (pr s 0), .int .u16 (pr s 2), .int .u8 0, .int .u8 0, .int .u8 0, .int .i64 ((s.size : Int) - 8)])), .int .i64 0]) (results_cell_tmp Try.results9 _ _ g2 32 (av 13 (ls [.int .u8 p, .bool (v0), .int .u64 h0, .int .u64 l0, .bool (v1), .int .u64 h1, .int .u64 l1, .int .u16 (pr s 0), .int .u16 (pr s 2), .int .u8 0, .int .u8 0, .int .u8 0, .int .i64 ((s.size : Int) - 8)])) (0, 0) _ _ (by kernel_rfl) (by kernel_rfl) (M.get 1 rfl) Try.underlying32 rfl (by rw [av_size]; exact inz32)) (by kernel_rfl) ⟨by simp only [hE, hn, hm, e7, e8, e9, e10, e11, e12], below_grown M.old⟩
          · skip
            refine pl_val (want_no rfl) (some 45) rfl (.bool true) (fun w => Eq.trans (b := .ok (.value (.bool (!(decide ((sO v0 h0 l0 v1 h1 l1 p s) = 0))))) w) (by kernel_rfl) (by rw [decide_eq_false (c4)]; rfl)) ?_
            refine pl_val (want_no rfl) (some 46) rfl (.bool true) (fun _ => by kernel_rfl) ?_
            refine pl_val (want_on 3 true rfl 46 rfl (by kernel_rfl)) (some 47) rfl (.string s) (fun _ => by kernel_rfl) ?_
            refine pl_val (want_on 3 true rfl 46 rfl (by kernel_rfl)) (some 48) rfl (.string (s.extract 6 s.size)) (run_strl 9 Try.underlying9 _ _ rfl s (by kernel_rfl) .i64 6 (by kernel_rfl) (by omega) _ rfl) ?_
            refine pl_call M (want_on 3 true rfl 46 rfl (by kernel_rfl)) (some 49) rfl 25 #[.string (s.extract 6 s.size)] (.int .u16 (pr s 6)) (fun _ => by kernel_rfl) (fun w M => call_val (d_num16 (s.extract 6 s.size) (by rw [ByteArray.size_extract]; omega) w M.laid) (by rw [pr_ext s 6 (by omega)])) ?_
            intro u8 M
            by_cases c5 : (pr s 6) = 0
            · skip
              refine pl_val (want_on 3 true rfl 46 rfl (by kernel_rfl)) (some 50) rfl (.bool false) (fun w => Eq.trans (b := .ok (.value (.bool (!(decide ((pr s 6) = 0))))) w) (by kernel_rfl) (by rw [decide_eq_true (c5)]; rfl)) ?_
              refine pl_val (want_on 3 true rfl 46 rfl (by kernel_rfl)) (some 51) rfl (.bool false) (fun _ => by kernel_rfl) ?_
              refine pl_val (want_on 8 false rfl 51 rfl (by kernel_rfl)) (some 52) rfl (.pointer (some ⟨g1, 0, none⟩)) (fun _ => by kernel_rfl) ?_
              refine pl_val (want_on 8 false rfl 51 rfl (by kernel_rfl)) (some 53) rfl (.pointer (some ⟨g1, 0, none⟩)) (fun _ => by kernel_rfl) ?_
              rcases Bool.eq_false_or_eq_true (v0) with c6 | c6
              · skip
                refine pl_cell M (want_on 8 false rfl 51 rfl (by kernel_rfl)) (some 54) rfl 4 _ rfl g1 0 (by kernel_rfl) (.bool true) (fun _ => by kernel_rfl) (fun w M => M.cell 0 rfl (by decide) (congrArg Value.bool c6)) ?_
                refine pl_val (want_on 3 true rfl 46 rfl (by kernel_rfl)) (some 55) rfl (.bool true) (fun _ => by kernel_rfl) ?_
                refine pl_val (want_no rfl) (some 56) rfl (.bool true) (fun _ => by kernel_rfl) ?_
                refine pl_nil ?_
                refine au_then ?_
                refine wp_cond_true (by kernel_rfl) ?_
                refine wp_seq ?_
                refine rg_lit ?_
                refine pl_val (want_no rfl) (some 57) rfl (.agg (av 13 (ls [.int .u8 0, .bool false, .int .u64 0, .int .u64 0, .bool false, .int .u64 0, .int .u64 0, .int .u16 0, .int .u16 0, .int .u8 0, .int .u8 0, .int .u8 0, .int .i64 0]))) (fun _ => by kernel_rfl) ?_
                refine pl_put M (want_no rfl) rfl 32 _ _ rfl 1 g2 0 (by kernel_rfl) 13 32 (ls [.int .u8 0, .bool false, .int .u64 0, .int .u64 0, .bool false, .int .u64 0, .int .u64 0, .int .u16 0, .int .u16 0, .int .u8 0, .int .u8 0, .int .u8 0, .int .i64 0]) rfl 13 (ls [.int .u8 0, .bool false, .int .u64 0, .int .u64 0, .bool false, .int .u64 0, .int .u64 0, .int .u16 0, .int .u16 0, .int .u8 0, .int .u8 0, .int .u8 0, .int .i64 0]) (ls [.int .u8 0, .bool false, .int .u64 0, .int .u64 0, .bool false, .int .u64 0, .int .u64 0, .int .u16 0, .int .u16 0, .int .u8 0, .int .u8 0, .int .u8 0, .int .i64 0]) (by kernel_rfl) inz32 (by decide) (one_ls _ rfl) (fun j hj => by rw [if_pos (by omega), Nat.sub_zero]) ?_
                intro u9 M
                replace M : Mem ⟨w, []⟩ [⟨g1, .cells (av 9 (ls [.bool (v0), .int .u64 h0, .int .u64 l0, .bool (v1), .int .u64 h1, .int .u64 l1, .int .u8 p, .int .u8 t, .string s])) 26⟩, ⟨g2, .cells (av 13 (ls [.int .u8 0, .bool false, .int .u64 0, .int .u64 0, .bool false, .int .u64 0, .int .u64 0, .int .u16 0, .int .u16 0, .int .u8 0, .int .u8 0, .int .u8 0, .int .i64 0])) 32⟩, ⟨g3, .cells (av 13 (ls [.int .u8 p, .bool (v0), .int .u64 h0, .int .u64 l0, .bool (v1), .int .u64 h1, .int .u64 l1, .int .u16 0, .int .u16 0, .int .u8 0, .int .u8 0, .int .u8 0, .int .i64 0])) 32⟩] u9 := M
                refine pl_val (want_no rfl) (some 3) rfl (.int .i64 131) (fun _ => by kernel_rfl) ?_
                refine pl_nil ?_
                refine au_then ?_
                refine wp_ret ?_
                refine au_then_ret ?_
                refine au_block_ret ?_
                refine au_then_ret ?_
                have hE : dE v0 h0 l0 v1 h1 l1 p s = 131 := by unfold dE fO fU fS; simp only [ite_self, if_pos c0, if_neg (show ¬ p = 6 by omega), if_neg (show ¬ p = 1 by omega), if_neg (show ¬ p = 58 by omega), if_pos c1, if_neg c2, if_pos c3, if_neg c4, if_pos c5, if_pos c6]
                have hn : ∀ x : Int, zI 131 x = 0 := fun x => if_neg (by decide)
                have hm : ∀ x : Bool, zB 131 x = false := fun x => if_neg (by decide)
                exact bodyPost_ret (v := .tuple #[.agg (av 13 (ls [.int .u8 0, .bool false, .int .u64 0, .int .u64 0, .bool false, .int .u64 0, .int .u64 0, .int .u16 0, .int .u16 0, .int .u8 0, .int .u8 0, .int .u8 0, .int .i64 0])), .int .i64 131]) (results_cell_tmp Try.results9 _ _ g2 32 (av 13 (ls [.int .u8 0, .bool false, .int .u64 0, .int .u64 0, .bool false, .int .u64 0, .int .u64 0, .int .u16 0, .int .u16 0, .int .u8 0, .int .u8 0, .int .u8 0, .int .i64 0])) (0, 0) _ _ (by kernel_rfl) (by kernel_rfl) (M.get 1 rfl) Try.underlying32 rfl (by rw [av_size]; exact inz32)) (by kernel_rfl) ⟨by simp only [hE, hn, hm], below_grown M.old⟩
              · skip
                refine pl_cell M (want_on 8 false rfl 51 rfl (by kernel_rfl)) (some 54) rfl 4 _ rfl g1 0 (by kernel_rfl) (.bool false) (fun _ => by kernel_rfl) (fun w M => M.cell 0 rfl (by decide) (congrArg Value.bool c6)) ?_
                refine pl_val (want_on 3 true rfl 46 rfl (by kernel_rfl)) (some 55) rfl (.bool false) (fun _ => by kernel_rfl) ?_
                refine pl_val (want_no rfl) (some 56) rfl (.bool false) (fun _ => by kernel_rfl) ?_
                refine pl_nil ?_
                refine au_then ?_
                refine wp_cond_false (by kernel_rfl) ?_
                refine wp_skip ?_
                refine au_then ?_
                refine wp_seq ?_
                refine rg_lit ?_
                refine pl_val (want_no rfl) (some 58) rfl (.string s) (fun _ => by kernel_rfl) ?_
                refine pl_call M (want_no rfl) (some 59) rfl 25 #[.string s] (.int .u16 (pr s 0)) (fun _ => by kernel_rfl) (fun w M => d_num16 s (by omega) w M.laid) ?_
                intro u9 M
                refine pl_val (want_no rfl) (some 60) rfl (.pointer (some ⟨g3, 0, none⟩)) (fun _ => by kernel_rfl) ?_
                refine pl_val (want_no rfl) (some 61) rfl (.pointer (some ⟨g3, 7, none⟩)) (fun _ => by kernel_rfl) ?_
                refine pl_put1 M (want_no rfl) rfl 27 _ _ rfl 2 g3 7 (by kernel_rfl) 13 32 (ls [.int .u8 p, .bool (v0), .int .u64 h0, .int .u64 l0, .bool (v1), .int .u64 h1, .int .u64 l1, .int .u16 0, .int .u16 0, .int .u8 0, .int .u8 0, .int .u8 0, .int .i64 0]) rfl (.int .u16 (pr s 0)) (ls [.int .u8 p, .bool (v0), .int .u64 h0, .int .u64 l0, .bool (v1), .int .u64 h1, .int .u64 l1, .int .u16 (pr s 0), .int .u16 0, .int .u8 0, .int .u8 0, .int .u8 0, .int .i64 0]) (by kernel_rfl) inz27 (by decide) rfl rfl (put_ls _ 7 _ _ rfl) ?_
                intro u10 M
                replace M : Mem ⟨w, []⟩ [⟨g1, .cells (av 9 (ls [.bool (v0), .int .u64 h0, .int .u64 l0, .bool (v1), .int .u64 h1, .int .u64 l1, .int .u8 p, .int .u8 t, .string s])) 26⟩, ⟨g2, .cells (av 13 (ls [.int .u8 0, .bool false, .int .u64 0, .int .u64 0, .bool false, .int .u64 0, .int .u64 0, .int .u16 0, .int .u16 0, .int .u8 0, .int .u8 0, .int .u8 0, .int .i64 0])) 32⟩, ⟨g3, .cells (av 13 (ls [.int .u8 p, .bool (v0), .int .u64 h0, .int .u64 l0, .bool (v1), .int .u64 h1, .int .u64 l1, .int .u16 (pr s 0), .int .u16 0, .int .u8 0, .int .u8 0, .int .u8 0, .int .i64 0])) 32⟩] u10 := M
                refine pl_nil ?_
                refine au_then ?_
                refine wp_seq ?_
                refine rg_lit ?_
                refine pl_val (want_no rfl) (some 62) rfl (.string s) (fun _ => by kernel_rfl) ?_
                refine pl_val (want_no rfl) (some 63) rfl (.string (s.extract 2 s.size)) (run_strl 9 Try.underlying9 _ _ rfl s (by kernel_rfl) .i64 2 (by kernel_rfl) (by omega) _ rfl) ?_
                refine pl_call M (want_no rfl) (some 64) rfl 25 #[.string (s.extract 2 s.size)] (.int .u16 (pr s 2)) (fun _ => by kernel_rfl) (fun w M => call_val (d_num16 (s.extract 2 s.size) (by rw [ByteArray.size_extract]; omega) w M.laid) (by rw [pr_ext s 2 (by omega)])) ?_
                intro u11 M
                refine pl_val (want_no rfl) (some 65) rfl (.pointer (some ⟨g3, 0, none⟩)) (fun _ => by kernel_rfl) ?_
                refine pl_val (want_no rfl) (some 66) rfl (.pointer (some ⟨g3, 8, none⟩)) (fun _ => by kernel_rfl) ?_
                refine pl_put1 M (want_no rfl) rfl 27 _ _ rfl 2 g3 8 (by kernel_rfl) 13 32 (ls [.int .u8 p, .bool (v0), .int .u64 h0, .int .u64 l0, .bool (v1), .int .u64 h1, .int .u64 l1, .int .u16 (pr s 0), .int .u16 0, .int .u8 0, .int .u8 0, .int .u8 0, .int .i64 0]) rfl (.int .u16 (pr s 2)) (ls [.int .u8 p, .bool (v0), .int .u64 h0, .int .u64 l0, .bool (v1), .int .u64 h1, .int .u64 l1, .int .u16 (pr s 0), .int .u16 (pr s 2), .int .u8 0, .int .u8 0, .int .u8 0, .int .i64 0]) (by kernel_rfl) inz27 (by decide) rfl rfl (put_ls _ 8 _ _ rfl) ?_
                intro u12 M
                replace M : Mem ⟨w, []⟩ [⟨g1, .cells (av 9 (ls [.bool (v0), .int .u64 h0, .int .u64 l0, .bool (v1), .int .u64 h1, .int .u64 l1, .int .u8 p, .int .u8 t, .string s])) 26⟩, ⟨g2, .cells (av 13 (ls [.int .u8 0, .bool false, .int .u64 0, .int .u64 0, .bool false, .int .u64 0, .int .u64 0, .int .u16 0, .int .u16 0, .int .u8 0, .int .u8 0, .int .u8 0, .int .i64 0])) 32⟩, ⟨g3, .cells (av 13 (ls [.int .u8 p, .bool (v0), .int .u64 h0, .int .u64 l0, .bool (v1), .int .u64 h1, .int .u64 l1, .int .u16 (pr s 0), .int .u16 (pr s 2), .int .u8 0, .int .u8 0, .int .u8 0, .int .i64 0])) 32⟩] u12 := M
                refine pl_nil ?_
                refine au_then ?_
                refine rg_lit ?_
                refine pl_val (want_no rfl) (some 67) rfl (.string s) (fun _ => by kernel_rfl) ?_
                refine pl_val (want_no rfl) (some 68) rfl (.int .i64 (s.size : Int)) (fun _ => by kernel_rfl) ?_
                refine pl_val (want_no rfl) (some 69) rfl (.int .i64 ((s.size : Int) - 8)) (fun w => Eq.trans (b := .ok (.value (.int .i64 (IntKind.wrap .i64 ((s.size : Int) - 8)))) w) (by kernel_rfl) (by rw [wrap64 (by omega) (by omega)])) ?_
                refine pl_val (want_no rfl) (some 70) rfl (.pointer (some ⟨g3, 12, none⟩)) (fun _ => by kernel_rfl) ?_
                refine pl_put1 M (want_no rfl) rfl 3 _ _ rfl 2 g3 12 (by kernel_rfl) 13 32 (ls [.int .u8 p, .bool (v0), .int .u64 h0, .int .u64 l0, .bool (v1), .int .u64 h1, .int .u64 l1, .int .u16 (pr s 0), .int .u16 (pr s 2), .int .u8 0, .int .u8 0, .int .u8 0, .int .i64 0]) rfl (.int .i64 ((s.size : Int) - 8)) (ls [.int .u8 p, .bool (v0), .int .u64 h0, .int .u64 l0, .bool (v1), .int .u64 h1, .int .u64 l1, .int .u16 (pr s 0), .int .u16 (pr s 2), .int .u8 0, .int .u8 0, .int .u8 0, .int .i64 ((s.size : Int) - 8)]) (by kernel_rfl) inz3 (by decide) rfl rfl (put_ls _ 12 _ _ rfl) ?_
                intro u13 M
                replace M : Mem ⟨w, []⟩ [⟨g1, .cells (av 9 (ls [.bool (v0), .int .u64 h0, .int .u64 l0, .bool (v1), .int .u64 h1, .int .u64 l1, .int .u8 p, .int .u8 t, .string s])) 26⟩, ⟨g2, .cells (av 13 (ls [.int .u8 0, .bool false, .int .u64 0, .int .u64 0, .bool false, .int .u64 0, .int .u64 0, .int .u16 0, .int .u16 0, .int .u8 0, .int .u8 0, .int .u8 0, .int .i64 0])) 32⟩, ⟨g3, .cells (av 13 (ls [.int .u8 p, .bool (v0), .int .u64 h0, .int .u64 l0, .bool (v1), .int .u64 h1, .int .u64 l1, .int .u16 (pr s 0), .int .u16 (pr s 2), .int .u8 0, .int .u8 0, .int .u8 0, .int .i64 ((s.size : Int) - 8)])) 32⟩] u13 := M
                refine pl_nil ?_
                refine au_block ?_
                refine au_then ?_
                refine wp_seq ?_
                refine rg_lit ?_
                refine pl_load M (want_no rfl) (some 186) rfl 32 _ rfl 2 g3 0 (by kernel_rfl) 13 32 (ls [.int .u8 p, .bool (v0), .int .u64 h0, .int .u64 l0, .bool (v1), .int .u64 h1, .int .u64 l1, .int .u16 (pr s 0), .int .u16 (pr s 2), .int .u8 0, .int .u8 0, .int .u8 0, .int .i64 ((s.size : Int) - 8)]) rfl 13 (ls [.int .u8 p, .bool (v0), .int .u64 h0, .int .u64 l0, .bool (v1), .int .u64 h1, .int .u64 l1, .int .u16 (pr s 0), .int .u16 (pr s 2), .int .u8 0, .int .u8 0, .int .u8 0, .int .i64 ((s.size : Int) - 8)]) (fun j _ => by rw [Nat.zero_add]) (by decide) _ Try.underlying32 rfl inz32 ?_
                refine pl_put M (want_no rfl) rfl 32 _ _ rfl 1 g2 0 (by kernel_rfl) 13 32 (ls [.int .u8 0, .bool false, .int .u64 0, .int .u64 0, .bool false, .int .u64 0, .int .u64 0, .int .u16 0, .int .u16 0, .int .u8 0, .int .u8 0, .int .u8 0, .int .i64 0]) rfl 13 (ls [.int .u8 p, .bool (v0), .int .u64 h0, .int .u64 l0, .bool (v1), .int .u64 h1, .int .u64 l1, .int .u16 (pr s 0), .int .u16 (pr s 2), .int .u8 0, .int .u8 0, .int .u8 0, .int .i64 ((s.size : Int) - 8)]) (ls [.int .u8 p, .bool (v0), .int .u64 h0, .int .u64 l0, .bool (v1), .int .u64 h1, .int .u64 l1, .int .u16 (pr s 0), .int .u16 (pr s 2), .int .u8 0, .int .u8 0, .int .u8 0, .int .i64 ((s.size : Int) - 8)]) (by kernel_rfl) inz32 (by decide) (one_ls _ rfl) (fun j hj => by rw [if_pos (by omega), Nat.sub_zero]) ?_
                intro u14 M
                replace M : Mem ⟨w, []⟩ [⟨g1, .cells (av 9 (ls [.bool (v0), .int .u64 h0, .int .u64 l0, .bool (v1), .int .u64 h1, .int .u64 l1, .int .u8 p, .int .u8 t, .string s])) 26⟩, ⟨g2, .cells (av 13 (ls [.int .u8 p, .bool (v0), .int .u64 h0, .int .u64 l0, .bool (v1), .int .u64 h1, .int .u64 l1, .int .u16 (pr s 0), .int .u16 (pr s 2), .int .u8 0, .int .u8 0, .int .u8 0, .int .i64 ((s.size : Int) - 8)])) 32⟩, ⟨g3, .cells (av 13 (ls [.int .u8 p, .bool (v0), .int .u64 h0, .int .u64 l0, .bool (v1), .int .u64 h1, .int .u64 l1, .int .u16 (pr s 0), .int .u16 (pr s 2), .int .u8 0, .int .u8 0, .int .u8 0, .int .i64 ((s.size : Int) - 8)])) 32⟩] u14 := M
                refine pl_val (want_no rfl) (some 3) rfl (.int .i64 0) (fun _ => by kernel_rfl) ?_
                refine pl_nil ?_
                refine au_then ?_
                refine wp_ret ?_
                have hE : dE v0 h0 l0 v1 h1 l1 p s = 0 := by unfold dE fO fU fS; simp only [ite_self, if_pos c0, if_neg (show ¬ p = 6 by omega), if_neg (show ¬ p = 1 by omega), if_neg (show ¬ p = 58 by omega), if_pos c1, if_neg c2, if_pos c3, if_neg c4, if_pos c5, if_neg (Bool.eq_false_iff.mp c6)]
                have hn : ∀ x : Int, zI 0 x = x := fun x => if_pos rfl
                have hm : ∀ x : Bool, zB 0 x = x := fun x => if_pos rfl
                have e7 : (hFr p s) = (pr s 0) := by simp only [hFr, hTo, hFl, hKi, hCo, hSz, hdO, if_pos c0, if_neg (show ¬ p = 6 by omega), if_neg (show ¬ p = 1 by omega), if_neg (show ¬ p = 58 by omega), if_pos c1, if_neg c2, if_pos c3, if_neg c4, if_pos c5, if_neg (Bool.eq_false_iff.mp c6)]
                have e8 : (hTo p s) = (pr s 2) := by simp only [hFr, hTo, hFl, hKi, hCo, hSz, hdO, if_pos c0, if_neg (show ¬ p = 6 by omega), if_neg (show ¬ p = 1 by omega), if_neg (show ¬ p = 58 by omega), if_pos c1, if_neg c2, if_pos c3, if_neg c4, if_pos c5, if_neg (Bool.eq_false_iff.mp c6)]
                have e9 : (hFl p s) = 0 := by simp only [hFr, hTo, hFl, hKi, hCo, hSz, hdO, if_pos c0, if_neg (show ¬ p = 6 by omega), if_neg (show ¬ p = 1 by omega), if_neg (show ¬ p = 58 by omega), if_pos c1, if_neg c2, if_pos c3, if_neg c4, if_pos c5, if_neg (Bool.eq_false_iff.mp c6)]
                have e10 : (hKi p s) = 0 := by simp only [hFr, hTo, hFl, hKi, hCo, hSz, hdO, if_pos c0, if_neg (show ¬ p = 6 by omega), if_neg (show ¬ p = 1 by omega), if_neg (show ¬ p = 58 by omega), if_pos c1, if_neg c2, if_pos c3, if_neg c4, if_pos c5, if_neg (Bool.eq_false_iff.mp c6)]
                have e11 : (hCo p s) = 0 := by simp only [hFr, hTo, hFl, hKi, hCo, hSz, hdO, if_pos c0, if_neg (show ¬ p = 6 by omega), if_neg (show ¬ p = 1 by omega), if_neg (show ¬ p = 58 by omega), if_pos c1, if_neg c2, if_pos c3, if_neg c4, if_pos c5, if_neg (Bool.eq_false_iff.mp c6)]
                have e12 : (hSz p s) = ((s.size : Int) - 8) := by simp only [hFr, hTo, hFl, hKi, hCo, hSz, hdO, if_pos c0, if_neg (show ¬ p = 6 by omega), if_neg (show ¬ p = 1 by omega), if_neg (show ¬ p = 58 by omega), if_pos c1, if_neg c2, if_pos c3, if_neg c4, if_pos c5, if_neg (Bool.eq_false_iff.mp c6)]
                exact bodyPost_ret (v := .tuple #[.agg (av 13 (ls [.int .u8 p, .bool (v0), .int .u64 h0, .int .u64 l0, .bool (v1), .int .u64 h1, .int .u64 l1, .int .u16 (pr s 0), .int .u16 (pr s 2), .int .u8 0, .int .u8 0, .int .u8 0, .int .i64 ((s.size : Int) - 8)])), .int .i64 0]) (results_cell_tmp Try.results9 _ _ g2 32 (av 13 (ls [.int .u8 p, .bool (v0), .int .u64 h0, .int .u64 l0, .bool (v1), .int .u64 h1, .int .u64 l1, .int .u16 (pr s 0), .int .u16 (pr s 2), .int .u8 0, .int .u8 0, .int .u8 0, .int .i64 ((s.size : Int) - 8)])) (0, 0) _ _ (by kernel_rfl) (by kernel_rfl) (M.get 1 rfl) Try.underlying32 rfl (by rw [av_size]; exact inz32)) (by kernel_rfl) ⟨by simp only [hE, hn, hm, e7, e8, e9, e10, e11, e12], below_grown M.old⟩
            · skip
              refine pl_val (want_on 3 true rfl 46 rfl (by kernel_rfl)) (some 50) rfl (.bool true) (fun w => Eq.trans (b := .ok (.value (.bool (!(decide ((pr s 6) = 0))))) w) (by kernel_rfl) (by rw [decide_eq_false (c5)]; rfl)) ?_
              refine pl_val (want_on 3 true rfl 46 rfl (by kernel_rfl)) (some 51) rfl (.bool true) (fun _ => by kernel_rfl) ?_
              refine pl_skip (want_off 8 false rfl 51 rfl (by kernel_rfl)) (some 52) rfl ?_
              refine pl_skip (want_off 8 false rfl 51 rfl (by kernel_rfl)) (some 53) rfl ?_
              refine pl_skip (want_off 8 false rfl 51 rfl (by kernel_rfl)) (some 54) rfl ?_
              refine pl_val (want_on 3 true rfl 46 rfl (by kernel_rfl)) (some 55) rfl (.bool true) (fun _ => by kernel_rfl) ?_
              refine pl_val (want_no rfl) (some 56) rfl (.bool true) (fun _ => by kernel_rfl) ?_
              refine pl_nil ?_
              refine au_then ?_
              refine wp_cond_true (by kernel_rfl) ?_
              refine wp_seq ?_
              refine rg_lit ?_
              refine pl_val (want_no rfl) (some 57) rfl (.agg (av 13 (ls [.int .u8 0, .bool false, .int .u64 0, .int .u64 0, .bool false, .int .u64 0, .int .u64 0, .int .u16 0, .int .u16 0, .int .u8 0, .int .u8 0, .int .u8 0, .int .i64 0]))) (fun _ => by kernel_rfl) ?_
              refine pl_put M (want_no rfl) rfl 32 _ _ rfl 1 g2 0 (by kernel_rfl) 13 32 (ls [.int .u8 0, .bool false, .int .u64 0, .int .u64 0, .bool false, .int .u64 0, .int .u64 0, .int .u16 0, .int .u16 0, .int .u8 0, .int .u8 0, .int .u8 0, .int .i64 0]) rfl 13 (ls [.int .u8 0, .bool false, .int .u64 0, .int .u64 0, .bool false, .int .u64 0, .int .u64 0, .int .u16 0, .int .u16 0, .int .u8 0, .int .u8 0, .int .u8 0, .int .i64 0]) (ls [.int .u8 0, .bool false, .int .u64 0, .int .u64 0, .bool false, .int .u64 0, .int .u64 0, .int .u16 0, .int .u16 0, .int .u8 0, .int .u8 0, .int .u8 0, .int .i64 0]) (by kernel_rfl) inz32 (by decide) (one_ls _ rfl) (fun j hj => by rw [if_pos (by omega), Nat.sub_zero]) ?_
              intro u9 M
              replace M : Mem ⟨w, []⟩ [⟨g1, .cells (av 9 (ls [.bool (v0), .int .u64 h0, .int .u64 l0, .bool (v1), .int .u64 h1, .int .u64 l1, .int .u8 p, .int .u8 t, .string s])) 26⟩, ⟨g2, .cells (av 13 (ls [.int .u8 0, .bool false, .int .u64 0, .int .u64 0, .bool false, .int .u64 0, .int .u64 0, .int .u16 0, .int .u16 0, .int .u8 0, .int .u8 0, .int .u8 0, .int .i64 0])) 32⟩, ⟨g3, .cells (av 13 (ls [.int .u8 p, .bool (v0), .int .u64 h0, .int .u64 l0, .bool (v1), .int .u64 h1, .int .u64 l1, .int .u16 0, .int .u16 0, .int .u8 0, .int .u8 0, .int .u8 0, .int .i64 0])) 32⟩] u9 := M
              refine pl_val (want_no rfl) (some 3) rfl (.int .i64 131) (fun _ => by kernel_rfl) ?_
              refine pl_nil ?_
              refine au_then ?_
              refine wp_ret ?_
              refine au_then_ret ?_
              refine au_block_ret ?_
              refine au_then_ret ?_
              have hE : dE v0 h0 l0 v1 h1 l1 p s = 131 := by unfold dE fO fU fS; simp only [ite_self, if_pos c0, if_neg (show ¬ p = 6 by omega), if_neg (show ¬ p = 1 by omega), if_neg (show ¬ p = 58 by omega), if_pos c1, if_neg c2, if_pos c3, if_neg c4, if_neg c5]
              have hn : ∀ x : Int, zI 131 x = 0 := fun x => if_neg (by decide)
              have hm : ∀ x : Bool, zB 131 x = false := fun x => if_neg (by decide)
              exact bodyPost_ret (v := .tuple #[.agg (av 13 (ls [.int .u8 0, .bool false, .int .u64 0, .int .u64 0, .bool false, .int .u64 0, .int .u64 0, .int .u16 0, .int .u16 0, .int .u8 0, .int .u8 0, .int .u8 0, .int .i64 0])), .int .i64 131]) (results_cell_tmp Try.results9 _ _ g2 32 (av 13 (ls [.int .u8 0, .bool false, .int .u64 0, .int .u64 0, .bool false, .int .u64 0, .int .u64 0, .int .u16 0, .int .u16 0, .int .u8 0, .int .u8 0, .int .u8 0, .int .i64 0])) (0, 0) _ _ (by kernel_rfl) (by kernel_rfl) (M.get 1 rfl) Try.underlying32 rfl (by rw [av_size]; exact inz32)) (by kernel_rfl) ⟨by simp only [hE, hn, hm], below_grown M.old⟩
        · skip
          refine pl_val (want_no rfl) (some 41) rfl (.bool true) (fun w => Eq.trans (b := .ok (.value (.bool (!(decide ((pr s 4) = (s.size : Int)))))) w) (by kernel_rfl) (by rw [decide_eq_false (c3)]; rfl)) ?_
          refine pl_nil ?_
          refine au_then ?_
          refine wp_cond_true (by kernel_rfl) ?_
          refine wp_seq ?_
          refine rg_lit ?_
          refine pl_val (want_no rfl) (some 42) rfl (.agg (av 13 (ls [.int .u8 0, .bool false, .int .u64 0, .int .u64 0, .bool false, .int .u64 0, .int .u64 0, .int .u16 0, .int .u16 0, .int .u8 0, .int .u8 0, .int .u8 0, .int .i64 0]))) (fun _ => by kernel_rfl) ?_
          refine pl_put M (want_no rfl) rfl 32 _ _ rfl 1 g2 0 (by kernel_rfl) 13 32 (ls [.int .u8 0, .bool false, .int .u64 0, .int .u64 0, .bool false, .int .u64 0, .int .u64 0, .int .u16 0, .int .u16 0, .int .u8 0, .int .u8 0, .int .u8 0, .int .i64 0]) rfl 13 (ls [.int .u8 0, .bool false, .int .u64 0, .int .u64 0, .bool false, .int .u64 0, .int .u64 0, .int .u16 0, .int .u16 0, .int .u8 0, .int .u8 0, .int .u8 0, .int .i64 0]) (ls [.int .u8 0, .bool false, .int .u64 0, .int .u64 0, .bool false, .int .u64 0, .int .u64 0, .int .u16 0, .int .u16 0, .int .u8 0, .int .u8 0, .int .u8 0, .int .i64 0]) (by kernel_rfl) inz32 (by decide) (one_ls _ rfl) (fun j hj => by rw [if_pos (by omega), Nat.sub_zero]) ?_
          intro u7 M
          replace M : Mem ⟨w, []⟩ [⟨g1, .cells (av 9 (ls [.bool (v0), .int .u64 h0, .int .u64 l0, .bool (v1), .int .u64 h1, .int .u64 l1, .int .u8 p, .int .u8 t, .string s])) 26⟩, ⟨g2, .cells (av 13 (ls [.int .u8 0, .bool false, .int .u64 0, .int .u64 0, .bool false, .int .u64 0, .int .u64 0, .int .u16 0, .int .u16 0, .int .u8 0, .int .u8 0, .int .u8 0, .int .i64 0])) 32⟩, ⟨g3, .cells (av 13 (ls [.int .u8 p, .bool (v0), .int .u64 h0, .int .u64 l0, .bool (v1), .int .u64 h1, .int .u64 l1, .int .u16 0, .int .u16 0, .int .u8 0, .int .u8 0, .int .u8 0, .int .i64 0])) 32⟩] u7 := M
          refine pl_val (want_no rfl) (some 3) rfl (.int .i64 8) (fun _ => by kernel_rfl) ?_
          refine pl_nil ?_
          refine au_then ?_
          refine wp_ret ?_
          refine au_then_ret ?_
          refine au_block_ret ?_
          refine au_then_ret ?_
          have hE : dE v0 h0 l0 v1 h1 l1 p s = 8 := by unfold dE fO fU fS; simp only [ite_self, if_pos c0, if_neg (show ¬ p = 6 by omega), if_neg (show ¬ p = 1 by omega), if_neg (show ¬ p = 58 by omega), if_pos c1, if_neg c2, if_neg c3]
          have hn : ∀ x : Int, zI 8 x = 0 := fun x => if_neg (by decide)
          have hm : ∀ x : Bool, zB 8 x = false := fun x => if_neg (by decide)
          exact bodyPost_ret (v := .tuple #[.agg (av 13 (ls [.int .u8 0, .bool false, .int .u64 0, .int .u64 0, .bool false, .int .u64 0, .int .u64 0, .int .u16 0, .int .u16 0, .int .u8 0, .int .u8 0, .int .u8 0, .int .i64 0])), .int .i64 8]) (results_cell_tmp Try.results9 _ _ g2 32 (av 13 (ls [.int .u8 0, .bool false, .int .u64 0, .int .u64 0, .bool false, .int .u64 0, .int .u64 0, .int .u16 0, .int .u16 0, .int .u8 0, .int .u8 0, .int .u8 0, .int .i64 0])) (0, 0) _ _ (by kernel_rfl) (by kernel_rfl) (M.get 1 rfl) Try.underlying32 rfl (by rw [av_size]; exact inz32)) (by kernel_rfl) ⟨by simp only [hE, hn, hm], below_grown M.old⟩
    · skip
      refine pl_val (want_no rfl) (some 30) rfl (.bool false) (fun w => Eq.trans (b := .ok (.value (.bool (decide (p = 17)))) w) (by kernel_rfl) (by rw [decide_eq_false (c1)])) ?_
      refine pl_val (want_no rfl) (some 29) rfl (.bool false) (fun _ => by kernel_rfl) ?_
      refine pl_nil ?_
      refine au_then ?_
      refine wp_cond_false (by kernel_rfl) ?_
      refine wp_seq ?_
      refine rg_lit ?_
      by_cases c2 : p = 6
      · skip
        refine pl_val (want_no rfl) (some 72) rfl (.bool true) (fun w => Eq.trans (b := .ok (.value (.bool (decide (p = 6)))) w) (by kernel_rfl) (by rw [decide_eq_true (c2)])) ?_
        refine pl_val (want_no rfl) (some 71) rfl (.bool true) (fun _ => by kernel_rfl) ?_
        refine pl_nil ?_
        refine au_then ?_
        refine wp_cond_true (by kernel_rfl) ?_
        refine wp_seq ?_
        refine wp_seq ?_
        refine rg_lit ?_
        refine pl_val (want_no rfl) (some 73) rfl (.string s) (fun _ => by kernel_rfl) ?_
        refine pl_val (want_no rfl) (some 74) rfl (.int .i64 (s.size : Int)) (fun _ => by kernel_rfl) ?_
        by_cases c3 : (s.size : Int) < 20
        · skip
          refine pl_val (want_no rfl) (some 75) rfl (.bool true) (fun w => Eq.trans (b := .ok (.value (.bool (decide ((s.size : Int) < 20)))) w) (by kernel_rfl) (by rw [decide_eq_true (c3)])) ?_
          refine pl_nil ?_
          refine au_then ?_
          refine wp_cond_true (by kernel_rfl) ?_
          refine wp_seq ?_
          refine rg_lit ?_
          refine pl_val (want_no rfl) (some 76) rfl (.agg (av 13 (ls [.int .u8 0, .bool false, .int .u64 0, .int .u64 0, .bool false, .int .u64 0, .int .u64 0, .int .u16 0, .int .u16 0, .int .u8 0, .int .u8 0, .int .u8 0, .int .i64 0]))) (fun _ => by kernel_rfl) ?_
          refine pl_put M (want_no rfl) rfl 32 _ _ rfl 1 g2 0 (by kernel_rfl) 13 32 (ls [.int .u8 0, .bool false, .int .u64 0, .int .u64 0, .bool false, .int .u64 0, .int .u64 0, .int .u16 0, .int .u16 0, .int .u8 0, .int .u8 0, .int .u8 0, .int .i64 0]) rfl 13 (ls [.int .u8 0, .bool false, .int .u64 0, .int .u64 0, .bool false, .int .u64 0, .int .u64 0, .int .u16 0, .int .u16 0, .int .u8 0, .int .u8 0, .int .u8 0, .int .i64 0]) (ls [.int .u8 0, .bool false, .int .u64 0, .int .u64 0, .bool false, .int .u64 0, .int .u64 0, .int .u16 0, .int .u16 0, .int .u8 0, .int .u8 0, .int .u8 0, .int .i64 0]) (by kernel_rfl) inz32 (by decide) (one_ls _ rfl) (fun j hj => by rw [if_pos (by omega), Nat.sub_zero]) ?_
          intro u6 M
          replace M : Mem ⟨w, []⟩ [⟨g1, .cells (av 9 (ls [.bool (v0), .int .u64 h0, .int .u64 l0, .bool (v1), .int .u64 h1, .int .u64 l1, .int .u8 p, .int .u8 t, .string s])) 26⟩, ⟨g2, .cells (av 13 (ls [.int .u8 0, .bool false, .int .u64 0, .int .u64 0, .bool false, .int .u64 0, .int .u64 0, .int .u16 0, .int .u16 0, .int .u8 0, .int .u8 0, .int .u8 0, .int .i64 0])) 32⟩, ⟨g3, .cells (av 13 (ls [.int .u8 p, .bool (v0), .int .u64 h0, .int .u64 l0, .bool (v1), .int .u64 h1, .int .u64 l1, .int .u16 0, .int .u16 0, .int .u8 0, .int .u8 0, .int .u8 0, .int .i64 0])) 32⟩] u6 := M
          refine pl_val (want_no rfl) (some 3) rfl (.int .i64 7) (fun _ => by kernel_rfl) ?_
          refine pl_nil ?_
          refine au_then ?_
          refine wp_ret ?_
          refine au_then_ret ?_
          refine au_block_ret ?_
          refine au_then_ret ?_
          have hE : dE v0 h0 l0 v1 h1 l1 p s = 7 := by have hh : hdO p s = bt s 12 / 16 * 4 := (by unfold hdO; rw [if_neg (by omega), if_pos c2]); unfold dE fO fT fS; simp only [ite_self, hh, if_pos c0, if_neg c1, if_neg (show ¬ p = 1 by omega), if_neg (show ¬ p = 58 by omega), if_pos c2, if_pos c3]
          have hn : ∀ x : Int, zI 7 x = 0 := fun x => if_neg (by decide)
          have hm : ∀ x : Bool, zB 7 x = false := fun x => if_neg (by decide)
          exact bodyPost_ret (v := .tuple #[.agg (av 13 (ls [.int .u8 0, .bool false, .int .u64 0, .int .u64 0, .bool false, .int .u64 0, .int .u64 0, .int .u16 0, .int .u16 0, .int .u8 0, .int .u8 0, .int .u8 0, .int .i64 0])), .int .i64 7]) (results_cell_tmp Try.results9 _ _ g2 32 (av 13 (ls [.int .u8 0, .bool false, .int .u64 0, .int .u64 0, .bool false, .int .u64 0, .int .u64 0, .int .u16 0, .int .u16 0, .int .u8 0, .int .u8 0, .int .u8 0, .int .i64 0])) (0, 0) _ _ (by kernel_rfl) (by kernel_rfl) (M.get 1 rfl) Try.underlying32 rfl (by rw [av_size]; exact inz32)) (by kernel_rfl) ⟨by simp only [hE, hn, hm], below_grown M.old⟩
        · skip
          refine pl_val (want_no rfl) (some 75) rfl (.bool false) (fun w => Eq.trans (b := .ok (.value (.bool (decide ((s.size : Int) < 20)))) w) (by kernel_rfl) (by rw [decide_eq_false (c3)])) ?_
          refine pl_nil ?_
          refine au_then ?_
          refine wp_cond_false (by kernel_rfl) ?_
          refine wp_skip ?_
          refine au_then ?_
          refine wp_seq ?_
          refine rg_lit ?_
          refine pl_val (want_no rfl) (some 77) rfl (.string s) (fun _ => by kernel_rfl) ?_
          refine pl_val (want_no rfl) (some 78) rfl (.int .u8 (bt s 12)) (run_ixS 9 Try.underlying9 _ _ rfl s (by kernel_rfl) .i64 12 (by kernel_rfl) (by omega)) ?_
          refine pl_val (want_no rfl) (some 79) rfl (.int .u8 (sr (bt s 12) 4)) (fun _ => by kernel_rfl) ?_
          refine pl_val (want_no rfl) (some 80) rfl (.int .i64 (bt s 12 / 16)) (fun w => Eq.trans (b := .ok (.value (.int .i64 (cv .i64 (sr (bt s 12) 4)))) w) (by kernel_rfl) (by rw [sr_4, cv_i64 (by omega) (by omega)])) ?_
          refine pl_val (want_no rfl) (some 81) rfl (.int .i64 ((bt s 12 / 16) * 4)) (fun w => Eq.trans (b := .ok (.value (.int .i64 (IntKind.wrap .i64 ((bt s 12 / 16) * 4)))) w) (by kernel_rfl) (by rw [wrap64 (by omega) (by omega)])) ?_
          refine pl_val (want_no rfl) (some 7) rfl (.int .i64 ((bt s 12 / 16) * 4)) (fun _ => by kernel_rfl) ?_
          refine pl_nil ?_
          refine au_then ?_
          refine wp_seq ?_
          refine wp_seq ?_
          refine rg_lit ?_
          refine pl_val (want_no rfl) (some 82) rfl (.int .i64 ((bt s 12 / 16) * 4)) (fun _ => by kernel_rfl) ?_
          by_cases c4 : ((bt s 12 / 16) * 4) < 20
          · skip
            refine pl_val (want_no rfl) (some 83) rfl (.bool true) (fun w => Eq.trans (b := .ok (.value (.bool (decide (((bt s 12 / 16) * 4) < 20)))) w) (by kernel_rfl) (by rw [decide_eq_true (c4)])) ?_
            refine pl_val (want_no rfl) (some 84) rfl (.bool true) (fun _ => by kernel_rfl) ?_
            refine pl_skip (want_off 2 false rfl 84 rfl (by kernel_rfl)) (some 85) rfl ?_
            refine pl_skip (want_off 2 false rfl 84 rfl (by kernel_rfl)) (some 86) rfl ?_
            refine pl_skip (want_off 2 false rfl 84 rfl (by kernel_rfl)) (some 87) rfl ?_
            refine pl_skip (want_off 2 false rfl 84 rfl (by kernel_rfl)) (some 88) rfl ?_
            refine pl_val (want_no rfl) (some 89) rfl (.bool true) (fun _ => by kernel_rfl) ?_
            refine pl_nil ?_
            refine au_then ?_
            refine wp_cond_true (by kernel_rfl) ?_
            refine wp_seq ?_
            refine rg_lit ?_
            refine pl_val (want_no rfl) (some 90) rfl (.agg (av 13 (ls [.int .u8 0, .bool false, .int .u64 0, .int .u64 0, .bool false, .int .u64 0, .int .u64 0, .int .u16 0, .int .u16 0, .int .u8 0, .int .u8 0, .int .u8 0, .int .i64 0]))) (fun _ => by kernel_rfl) ?_
            refine pl_put M (want_no rfl) rfl 32 _ _ rfl 1 g2 0 (by kernel_rfl) 13 32 (ls [.int .u8 0, .bool false, .int .u64 0, .int .u64 0, .bool false, .int .u64 0, .int .u64 0, .int .u16 0, .int .u16 0, .int .u8 0, .int .u8 0, .int .u8 0, .int .i64 0]) rfl 13 (ls [.int .u8 0, .bool false, .int .u64 0, .int .u64 0, .bool false, .int .u64 0, .int .u64 0, .int .u16 0, .int .u16 0, .int .u8 0, .int .u8 0, .int .u8 0, .int .i64 0]) (ls [.int .u8 0, .bool false, .int .u64 0, .int .u64 0, .bool false, .int .u64 0, .int .u64 0, .int .u16 0, .int .u16 0, .int .u8 0, .int .u8 0, .int .u8 0, .int .i64 0]) (by kernel_rfl) inz32 (by decide) (one_ls _ rfl) (fun j hj => by rw [if_pos (by omega), Nat.sub_zero]) ?_
            intro u6 M
            replace M : Mem ⟨w, []⟩ [⟨g1, .cells (av 9 (ls [.bool (v0), .int .u64 h0, .int .u64 l0, .bool (v1), .int .u64 h1, .int .u64 l1, .int .u8 p, .int .u8 t, .string s])) 26⟩, ⟨g2, .cells (av 13 (ls [.int .u8 0, .bool false, .int .u64 0, .int .u64 0, .bool false, .int .u64 0, .int .u64 0, .int .u16 0, .int .u16 0, .int .u8 0, .int .u8 0, .int .u8 0, .int .i64 0])) 32⟩, ⟨g3, .cells (av 13 (ls [.int .u8 p, .bool (v0), .int .u64 h0, .int .u64 l0, .bool (v1), .int .u64 h1, .int .u64 l1, .int .u16 0, .int .u16 0, .int .u8 0, .int .u8 0, .int .u8 0, .int .i64 0])) 32⟩] u6 := M
            refine pl_val (want_no rfl) (some 3) rfl (.int .i64 8) (fun _ => by kernel_rfl) ?_
            refine pl_nil ?_
            refine au_then ?_
            refine wp_ret ?_
            refine au_then_ret ?_
            refine au_block_ret ?_
            refine au_then_ret ?_
            have hE : dE v0 h0 l0 v1 h1 l1 p s = 8 := by have hh : hdO p s = bt s 12 / 16 * 4 := (by unfold hdO; rw [if_neg (by omega), if_pos c2]); unfold dE fO fT fS; simp only [ite_self, hh, if_pos c0, if_neg c1, if_neg (show ¬ p = 1 by omega), if_neg (show ¬ p = 58 by omega), if_pos c2, if_neg c3, if_pos c4]
            have hn : ∀ x : Int, zI 8 x = 0 := fun x => if_neg (by decide)
            have hm : ∀ x : Bool, zB 8 x = false := fun x => if_neg (by decide)
            exact bodyPost_ret (v := .tuple #[.agg (av 13 (ls [.int .u8 0, .bool false, .int .u64 0, .int .u64 0, .bool false, .int .u64 0, .int .u64 0, .int .u16 0, .int .u16 0, .int .u8 0, .int .u8 0, .int .u8 0, .int .i64 0])), .int .i64 8]) (results_cell_tmp Try.results9 _ _ g2 32 (av 13 (ls [.int .u8 0, .bool false, .int .u64 0, .int .u64 0, .bool false, .int .u64 0, .int .u64 0, .int .u16 0, .int .u16 0, .int .u8 0, .int .u8 0, .int .u8 0, .int .i64 0])) (0, 0) _ _ (by kernel_rfl) (by kernel_rfl) (M.get 1 rfl) Try.underlying32 rfl (by rw [av_size]; exact inz32)) (by kernel_rfl) ⟨by simp only [hE, hn, hm], below_grown M.old⟩
          · skip
            refine pl_val (want_no rfl) (some 83) rfl (.bool false) (fun w => Eq.trans (b := .ok (.value (.bool (decide (((bt s 12 / 16) * 4) < 20)))) w) (by kernel_rfl) (by rw [decide_eq_false (c4)])) ?_
            refine pl_val (want_no rfl) (some 84) rfl (.bool false) (fun _ => by kernel_rfl) ?_
            refine pl_val (want_on 2 false rfl 84 rfl (by kernel_rfl)) (some 85) rfl (.int .i64 ((bt s 12 / 16) * 4)) (fun _ => by kernel_rfl) ?_
            refine pl_val (want_on 2 false rfl 84 rfl (by kernel_rfl)) (some 86) rfl (.string s) (fun _ => by kernel_rfl) ?_
            refine pl_val (want_on 2 false rfl 84 rfl (by kernel_rfl)) (some 87) rfl (.int .i64 (s.size : Int)) (fun _ => by kernel_rfl) ?_
            by_cases c5 : (s.size : Int) < ((bt s 12 / 16) * 4)
            · skip
              refine pl_val (want_on 2 false rfl 84 rfl (by kernel_rfl)) (some 88) rfl (.bool true) (fun w => Eq.trans (b := .ok (.value (.bool (decide ((s.size : Int) < ((bt s 12 / 16) * 4))))) w) (by kernel_rfl) (by rw [decide_eq_true (c5)])) ?_
              refine pl_val (want_no rfl) (some 89) rfl (.bool true) (fun _ => by kernel_rfl) ?_
              refine pl_nil ?_
              refine au_then ?_
              refine wp_cond_true (by kernel_rfl) ?_
              refine wp_seq ?_
              refine rg_lit ?_
              refine pl_val (want_no rfl) (some 90) rfl (.agg (av 13 (ls [.int .u8 0, .bool false, .int .u64 0, .int .u64 0, .bool false, .int .u64 0, .int .u64 0, .int .u16 0, .int .u16 0, .int .u8 0, .int .u8 0, .int .u8 0, .int .i64 0]))) (fun _ => by kernel_rfl) ?_
              refine pl_put M (want_no rfl) rfl 32 _ _ rfl 1 g2 0 (by kernel_rfl) 13 32 (ls [.int .u8 0, .bool false, .int .u64 0, .int .u64 0, .bool false, .int .u64 0, .int .u64 0, .int .u16 0, .int .u16 0, .int .u8 0, .int .u8 0, .int .u8 0, .int .i64 0]) rfl 13 (ls [.int .u8 0, .bool false, .int .u64 0, .int .u64 0, .bool false, .int .u64 0, .int .u64 0, .int .u16 0, .int .u16 0, .int .u8 0, .int .u8 0, .int .u8 0, .int .i64 0]) (ls [.int .u8 0, .bool false, .int .u64 0, .int .u64 0, .bool false, .int .u64 0, .int .u64 0, .int .u16 0, .int .u16 0, .int .u8 0, .int .u8 0, .int .u8 0, .int .i64 0]) (by kernel_rfl) inz32 (by decide) (one_ls _ rfl) (fun j hj => by rw [if_pos (by omega), Nat.sub_zero]) ?_
              intro u6 M
              replace M : Mem ⟨w, []⟩ [⟨g1, .cells (av 9 (ls [.bool (v0), .int .u64 h0, .int .u64 l0, .bool (v1), .int .u64 h1, .int .u64 l1, .int .u8 p, .int .u8 t, .string s])) 26⟩, ⟨g2, .cells (av 13 (ls [.int .u8 0, .bool false, .int .u64 0, .int .u64 0, .bool false, .int .u64 0, .int .u64 0, .int .u16 0, .int .u16 0, .int .u8 0, .int .u8 0, .int .u8 0, .int .i64 0])) 32⟩, ⟨g3, .cells (av 13 (ls [.int .u8 p, .bool (v0), .int .u64 h0, .int .u64 l0, .bool (v1), .int .u64 h1, .int .u64 l1, .int .u16 0, .int .u16 0, .int .u8 0, .int .u8 0, .int .u8 0, .int .i64 0])) 32⟩] u6 := M
              refine pl_val (want_no rfl) (some 3) rfl (.int .i64 8) (fun _ => by kernel_rfl) ?_
              refine pl_nil ?_
              refine au_then ?_
              refine wp_ret ?_
              refine au_then_ret ?_
              refine au_block_ret ?_
              refine au_then_ret ?_
              have hE : dE v0 h0 l0 v1 h1 l1 p s = 8 := by have hh : hdO p s = bt s 12 / 16 * 4 := (by unfold hdO; rw [if_neg (by omega), if_pos c2]); unfold dE fO fT fS; simp only [ite_self, hh, if_pos c0, if_neg c1, if_neg (show ¬ p = 1 by omega), if_neg (show ¬ p = 58 by omega), if_pos c2, if_neg c3, if_neg c4, if_pos c5]
              have hn : ∀ x : Int, zI 8 x = 0 := fun x => if_neg (by decide)
              have hm : ∀ x : Bool, zB 8 x = false := fun x => if_neg (by decide)
              exact bodyPost_ret (v := .tuple #[.agg (av 13 (ls [.int .u8 0, .bool false, .int .u64 0, .int .u64 0, .bool false, .int .u64 0, .int .u64 0, .int .u16 0, .int .u16 0, .int .u8 0, .int .u8 0, .int .u8 0, .int .i64 0])), .int .i64 8]) (results_cell_tmp Try.results9 _ _ g2 32 (av 13 (ls [.int .u8 0, .bool false, .int .u64 0, .int .u64 0, .bool false, .int .u64 0, .int .u64 0, .int .u16 0, .int .u16 0, .int .u8 0, .int .u8 0, .int .u8 0, .int .i64 0])) (0, 0) _ _ (by kernel_rfl) (by kernel_rfl) (M.get 1 rfl) Try.underlying32 rfl (by rw [av_size]; exact inz32)) (by kernel_rfl) ⟨by simp only [hE, hn, hm], below_grown M.old⟩
            · skip
              refine pl_val (want_on 2 false rfl 84 rfl (by kernel_rfl)) (some 88) rfl (.bool false) (fun w => Eq.trans (b := .ok (.value (.bool (decide ((s.size : Int) < ((bt s 12 / 16) * 4))))) w) (by kernel_rfl) (by rw [decide_eq_false (c5)])) ?_
              refine pl_val (want_no rfl) (some 89) rfl (.bool false) (fun _ => by kernel_rfl) ?_
              refine pl_nil ?_
              refine au_then ?_
              refine wp_cond_false (by kernel_rfl) ?_
              refine wp_skip ?_
              refine au_then ?_
              refine wp_seq ?_
              refine wp_seq ?_
              refine rg_lit ?_
              refine pl_load M (want_no rfl) (some 91) rfl 26 _ rfl 0 g1 0 (by kernel_rfl) 9 26 (ls [.bool (v0), .int .u64 h0, .int .u64 l0, .bool (v1), .int .u64 h1, .int .u64 l1, .int .u8 p, .int .u8 t, .string s]) rfl 9 (ls [.bool (v0), .int .u64 h0, .int .u64 l0, .bool (v1), .int .u64 h1, .int .u64 l1, .int .u8 p, .int .u8 t, .string s]) (fun j _ => by rw [Nat.zero_add]) (by decide) _ Try.underlying26 rfl inz26 ?_
              refine pl_call M (want_no rfl) (some 92) rfl 26 #[.agg (av 9 (ls [.bool (v0), .int .u64 h0, .int .u64 l0, .bool (v1), .int .u64 h1, .int .u64 l1, .int .u8 p, .int .u8 t, .string s]))] (.int .u16 (sO v0 h0 l0 v1 h1 l1 p s)) (fun _ => by kernel_rfl) (fun w M => d_sum v0 h0 l0 v1 h1 l1 p t s (by omega) (by omega) w M.laid) ?_
              intro u6 M
              by_cases c6 : (sO v0 h0 l0 v1 h1 l1 p s) = 0
              · skip
                refine pl_val (want_no rfl) (some 93) rfl (.bool false) (fun w => Eq.trans (b := .ok (.value (.bool (!(decide ((sO v0 h0 l0 v1 h1 l1 p s) = 0))))) w) (by kernel_rfl) (by rw [decide_eq_true (c6)]; rfl)) ?_
                refine pl_nil ?_
                refine au_then ?_
                refine wp_cond_false (by kernel_rfl) ?_
                refine wp_skip ?_
                refine au_then ?_
                refine wp_seq ?_
                refine rg_lit ?_
                refine pl_val (want_no rfl) (some 95) rfl (.string s) (fun _ => by kernel_rfl) ?_
                refine pl_call M (want_no rfl) (some 96) rfl 25 #[.string s] (.int .u16 (pr s 0)) (fun _ => by kernel_rfl) (fun w M => d_num16 s (by omega) w M.laid) ?_
                intro u7 M
                refine pl_val (want_no rfl) (some 97) rfl (.pointer (some ⟨g3, 0, none⟩)) (fun _ => by kernel_rfl) ?_
                refine pl_val (want_no rfl) (some 98) rfl (.pointer (some ⟨g3, 7, none⟩)) (fun _ => by kernel_rfl) ?_
                refine pl_put1 M (want_no rfl) rfl 27 _ _ rfl 2 g3 7 (by kernel_rfl) 13 32 (ls [.int .u8 p, .bool (v0), .int .u64 h0, .int .u64 l0, .bool (v1), .int .u64 h1, .int .u64 l1, .int .u16 0, .int .u16 0, .int .u8 0, .int .u8 0, .int .u8 0, .int .i64 0]) rfl (.int .u16 (pr s 0)) (ls [.int .u8 p, .bool (v0), .int .u64 h0, .int .u64 l0, .bool (v1), .int .u64 h1, .int .u64 l1, .int .u16 (pr s 0), .int .u16 0, .int .u8 0, .int .u8 0, .int .u8 0, .int .i64 0]) (by kernel_rfl) inz27 (by decide) rfl rfl (put_ls _ 7 _ _ rfl) ?_
                intro u8 M
                replace M : Mem ⟨w, []⟩ [⟨g1, .cells (av 9 (ls [.bool (v0), .int .u64 h0, .int .u64 l0, .bool (v1), .int .u64 h1, .int .u64 l1, .int .u8 p, .int .u8 t, .string s])) 26⟩, ⟨g2, .cells (av 13 (ls [.int .u8 0, .bool false, .int .u64 0, .int .u64 0, .bool false, .int .u64 0, .int .u64 0, .int .u16 0, .int .u16 0, .int .u8 0, .int .u8 0, .int .u8 0, .int .i64 0])) 32⟩, ⟨g3, .cells (av 13 (ls [.int .u8 p, .bool (v0), .int .u64 h0, .int .u64 l0, .bool (v1), .int .u64 h1, .int .u64 l1, .int .u16 (pr s 0), .int .u16 0, .int .u8 0, .int .u8 0, .int .u8 0, .int .i64 0])) 32⟩] u8 := M
                refine pl_nil ?_
                refine au_then ?_
                refine wp_seq ?_
                refine rg_lit ?_
                refine pl_val (want_no rfl) (some 99) rfl (.string s) (fun _ => by kernel_rfl) ?_
                refine pl_val (want_no rfl) (some 100) rfl (.string (s.extract 2 s.size)) (run_strl 9 Try.underlying9 _ _ rfl s (by kernel_rfl) .i64 2 (by kernel_rfl) (by omega) _ rfl) ?_
                refine pl_call M (want_no rfl) (some 101) rfl 25 #[.string (s.extract 2 s.size)] (.int .u16 (pr s 2)) (fun _ => by kernel_rfl) (fun w M => call_val (d_num16 (s.extract 2 s.size) (by rw [ByteArray.size_extract]; omega) w M.laid) (by rw [pr_ext s 2 (by omega)])) ?_
                intro u9 M
                refine pl_val (want_no rfl) (some 102) rfl (.pointer (some ⟨g3, 0, none⟩)) (fun _ => by kernel_rfl) ?_
                refine pl_val (want_no rfl) (some 103) rfl (.pointer (some ⟨g3, 8, none⟩)) (fun _ => by kernel_rfl) ?_
                refine pl_put1 M (want_no rfl) rfl 27 _ _ rfl 2 g3 8 (by kernel_rfl) 13 32 (ls [.int .u8 p, .bool (v0), .int .u64 h0, .int .u64 l0, .bool (v1), .int .u64 h1, .int .u64 l1, .int .u16 (pr s 0), .int .u16 0, .int .u8 0, .int .u8 0, .int .u8 0, .int .i64 0]) rfl (.int .u16 (pr s 2)) (ls [.int .u8 p, .bool (v0), .int .u64 h0, .int .u64 l0, .bool (v1), .int .u64 h1, .int .u64 l1, .int .u16 (pr s 0), .int .u16 (pr s 2), .int .u8 0, .int .u8 0, .int .u8 0, .int .i64 0]) (by kernel_rfl) inz27 (by decide) rfl rfl (put_ls _ 8 _ _ rfl) ?_
                intro u10 M
                replace M : Mem ⟨w, []⟩ [⟨g1, .cells (av 9 (ls [.bool (v0), .int .u64 h0, .int .u64 l0, .bool (v1), .int .u64 h1, .int .u64 l1, .int .u8 p, .int .u8 t, .string s])) 26⟩, ⟨g2, .cells (av 13 (ls [.int .u8 0, .bool false, .int .u64 0, .int .u64 0, .bool false, .int .u64 0, .int .u64 0, .int .u16 0, .int .u16 0, .int .u8 0, .int .u8 0, .int .u8 0, .int .i64 0])) 32⟩, ⟨g3, .cells (av 13 (ls [.int .u8 p, .bool (v0), .int .u64 h0, .int .u64 l0, .bool (v1), .int .u64 h1, .int .u64 l1, .int .u16 (pr s 0), .int .u16 (pr s 2), .int .u8 0, .int .u8 0, .int .u8 0, .int .i64 0])) 32⟩] u10 := M
                refine pl_nil ?_
                refine au_then ?_
                refine wp_seq ?_
                refine rg_lit ?_
                refine pl_val (want_no rfl) (some 104) rfl (.string s) (fun _ => by kernel_rfl) ?_
                refine pl_val (want_no rfl) (some 105) rfl (.int .u8 (bt s 13)) (run_ixS 9 Try.underlying9 _ _ rfl s (by kernel_rfl) .i64 13 (by kernel_rfl) (by omega)) ?_
                refine pl_val (want_no rfl) (some 106) rfl (.pointer (some ⟨g3, 9, none⟩)) (fun _ => by kernel_rfl) ?_
                refine pl_put1 M (want_no rfl) rfl 5 _ _ rfl 2 g3 9 (by kernel_rfl) 13 32 (ls [.int .u8 p, .bool (v0), .int .u64 h0, .int .u64 l0, .bool (v1), .int .u64 h1, .int .u64 l1, .int .u16 (pr s 0), .int .u16 (pr s 2), .int .u8 0, .int .u8 0, .int .u8 0, .int .i64 0]) rfl (.int .u8 (bt s 13)) (ls [.int .u8 p, .bool (v0), .int .u64 h0, .int .u64 l0, .bool (v1), .int .u64 h1, .int .u64 l1, .int .u16 (pr s 0), .int .u16 (pr s 2), .int .u8 (bt s 13), .int .u8 0, .int .u8 0, .int .i64 0]) (by kernel_rfl) inz5 (by decide) rfl rfl (put_ls _ 9 _ _ rfl) ?_
                intro u11 M
                replace M : Mem ⟨w, []⟩ [⟨g1, .cells (av 9 (ls [.bool (v0), .int .u64 h0, .int .u64 l0, .bool (v1), .int .u64 h1, .int .u64 l1, .int .u8 p, .int .u8 t, .string s])) 26⟩, ⟨g2, .cells (av 13 (ls [.int .u8 0, .bool false, .int .u64 0, .int .u64 0, .bool false, .int .u64 0, .int .u64 0, .int .u16 0, .int .u16 0, .int .u8 0, .int .u8 0, .int .u8 0, .int .i64 0])) 32⟩, ⟨g3, .cells (av 13 (ls [.int .u8 p, .bool (v0), .int .u64 h0, .int .u64 l0, .bool (v1), .int .u64 h1, .int .u64 l1, .int .u16 (pr s 0), .int .u16 (pr s 2), .int .u8 (bt s 13), .int .u8 0, .int .u8 0, .int .i64 0])) 32⟩] u11 := M
                refine pl_nil ?_
                refine au_then ?_
                refine rg_lit ?_
                refine pl_val (want_no rfl) (some 107) rfl (.string s) (fun _ => by kernel_rfl) ?_
                refine pl_val (want_no rfl) (some 108) rfl (.int .i64 (s.size : Int)) (fun _ => by kernel_rfl) ?_
                refine pl_val (want_no rfl) (some 109) rfl (.int .i64 ((bt s 12 / 16) * 4)) (fun _ => by kernel_rfl) ?_
                refine pl_val (want_no rfl) (some 110) rfl (.int .i64 ((s.size : Int) - ((bt s 12 / 16) * 4))) (fun w => Eq.trans (b := .ok (.value (.int .i64 (IntKind.wrap .i64 ((s.size : Int) - ((bt s 12 / 16) * 4))))) w) (by kernel_rfl) (by rw [wrap64 (by omega) (by omega)])) ?_
                refine pl_val (want_no rfl) (some 111) rfl (.pointer (some ⟨g3, 12, none⟩)) (fun _ => by kernel_rfl) ?_
                refine pl_put1 M (want_no rfl) rfl 3 _ _ rfl 2 g3 12 (by kernel_rfl) 13 32 (ls [.int .u8 p, .bool (v0), .int .u64 h0, .int .u64 l0, .bool (v1), .int .u64 h1, .int .u64 l1, .int .u16 (pr s 0), .int .u16 (pr s 2), .int .u8 (bt s 13), .int .u8 0, .int .u8 0, .int .i64 0]) rfl (.int .i64 ((s.size : Int) - ((bt s 12 / 16) * 4))) (ls [.int .u8 p, .bool (v0), .int .u64 h0, .int .u64 l0, .bool (v1), .int .u64 h1, .int .u64 l1, .int .u16 (pr s 0), .int .u16 (pr s 2), .int .u8 (bt s 13), .int .u8 0, .int .u8 0, .int .i64 ((s.size : Int) - ((bt s 12 / 16) * 4))]) (by kernel_rfl) inz3 (by decide) rfl rfl (put_ls _ 12 _ _ rfl) ?_
                intro u12 M
                replace M : Mem ⟨w, []⟩ [⟨g1, .cells (av 9 (ls [.bool (v0), .int .u64 h0, .int .u64 l0, .bool (v1), .int .u64 h1, .int .u64 l1, .int .u8 p, .int .u8 t, .string s])) 26⟩, ⟨g2, .cells (av 13 (ls [.int .u8 0, .bool false, .int .u64 0, .int .u64 0, .bool false, .int .u64 0, .int .u64 0, .int .u16 0, .int .u16 0, .int .u8 0, .int .u8 0, .int .u8 0, .int .i64 0])) 32⟩, ⟨g3, .cells (av 13 (ls [.int .u8 p, .bool (v0), .int .u64 h0, .int .u64 l0, .bool (v1), .int .u64 h1, .int .u64 l1, .int .u16 (pr s 0), .int .u16 (pr s 2), .int .u8 (bt s 13), .int .u8 0, .int .u8 0, .int .i64 ((s.size : Int) - ((bt s 12 / 16) * 4))])) 32⟩] u12 := M
                refine pl_nil ?_
                refine au_block ?_
                refine au_then ?_
                refine wp_seq ?_
                refine rg_lit ?_
                refine pl_load M (want_no rfl) (some 186) rfl 32 _ rfl 2 g3 0 (by kernel_rfl) 13 32 (ls [.int .u8 p, .bool (v0), .int .u64 h0, .int .u64 l0, .bool (v1), .int .u64 h1, .int .u64 l1, .int .u16 (pr s 0), .int .u16 (pr s 2), .int .u8 (bt s 13), .int .u8 0, .int .u8 0, .int .i64 ((s.size : Int) - ((bt s 12 / 16) * 4))]) rfl 13 (ls [.int .u8 p, .bool (v0), .int .u64 h0, .int .u64 l0, .bool (v1), .int .u64 h1, .int .u64 l1, .int .u16 (pr s 0), .int .u16 (pr s 2), .int .u8 (bt s 13), .int .u8 0, .int .u8 0, .int .i64 ((s.size : Int) - ((bt s 12 / 16) * 4))]) (fun j _ => by rw [Nat.zero_add]) (by decide) _ Try.underlying32 rfl inz32 ?_
                refine pl_put M (want_no rfl) rfl 32 _ _ rfl 1 g2 0 (by kernel_rfl) 13 32 (ls [.int .u8 0, .bool false, .int .u64 0, .int .u64 0, .bool false, .int .u64 0, .int .u64 0, .int .u16 0, .int .u16 0, .int .u8 0, .int .u8 0, .int .u8 0, .int .i64 0]) rfl 13 (ls [.int .u8 p, .bool (v0), .int .u64 h0, .int .u64 l0, .bool (v1), .int .u64 h1, .int .u64 l1, .int .u16 (pr s 0), .int .u16 (pr s 2), .int .u8 (bt s 13), .int .u8 0, .int .u8 0, .int .i64 ((s.size : Int) - ((bt s 12 / 16) * 4))]) (ls [.int .u8 p, .bool (v0), .int .u64 h0, .int .u64 l0, .bool (v1), .int .u64 h1, .int .u64 l1, .int .u16 (pr s 0), .int .u16 (pr s 2), .int .u8 (bt s 13), .int .u8 0, .int .u8 0, .int .i64 ((s.size : Int) - ((bt s 12 / 16) * 4))]) (by kernel_rfl) inz32 (by decide) (one_ls _ rfl) (fun j hj => by rw [if_pos (by omega), Nat.sub_zero]) ?_
                intro u13 M
                replace M : Mem ⟨w, []⟩ [⟨g1, .cells (av 9 (ls [.bool (v0), .int .u64 h0, .int .u64 l0, .bool (v1), .int .u64 h1, .int .u64 l1, .int .u8 p, .int .u8 t, .string s])) 26⟩, ⟨g2, .cells (av 13 (ls [.int .u8 p, .bool (v0), .int .u64 h0, .int .u64 l0, .bool (v1), .int .u64 h1, .int .u64 l1, .int .u16 (pr s 0), .int .u16 (pr s 2), .int .u8 (bt s 13), .int .u8 0, .int .u8 0, .int .i64 ((s.size : Int) - ((bt s 12 / 16) * 4))])) 32⟩, ⟨g3, .cells (av 13 (ls [.int .u8 p, .bool (v0), .int .u64 h0, .int .u64 l0, .bool (v1), .int .u64 h1, .int .u64 l1, .int .u16 (pr s 0), .int .u16 (pr s 2), .int .u8 (bt s 13), .int .u8 0, .int .u8 0, .int .i64 ((s.size : Int) - ((bt s 12 / 16) * 4))])) 32⟩] u13 := M
                refine pl_val (want_no rfl) (some 3) rfl (.int .i64 0) (fun _ => by kernel_rfl) ?_
                refine pl_nil ?_
                refine au_then ?_
                refine wp_ret ?_
                have hE : dE v0 h0 l0 v1 h1 l1 p s = 0 := by have hh : hdO p s = bt s 12 / 16 * 4 := (by unfold hdO; rw [if_neg (by omega), if_pos c2]); unfold dE fO fT fS; simp only [ite_self, hh, if_pos c0, if_neg c1, if_neg (show ¬ p = 1 by omega), if_neg (show ¬ p = 58 by omega), if_pos c2, if_neg c3, if_neg c4, if_neg c5, if_pos c6]
                have hn : ∀ x : Int, zI 0 x = x := fun x => if_pos rfl
                have hm : ∀ x : Bool, zB 0 x = x := fun x => if_pos rfl
                have e7 : (hFr p s) = (pr s 0) := by simp only [hFr, hTo, hFl, hKi, hCo, hSz, hdO, if_pos c0, if_neg c1, if_neg (show ¬ p = 1 by omega), if_neg (show ¬ p = 58 by omega), if_pos c2, if_neg c3, if_neg c4, if_neg c5, if_pos c6]
                have e8 : (hTo p s) = (pr s 2) := by simp only [hFr, hTo, hFl, hKi, hCo, hSz, hdO, if_pos c0, if_neg c1, if_neg (show ¬ p = 1 by omega), if_neg (show ¬ p = 58 by omega), if_pos c2, if_neg c3, if_neg c4, if_neg c5, if_pos c6]
                have e9 : (hFl p s) = (bt s 13) := by simp only [hFr, hTo, hFl, hKi, hCo, hSz, hdO, if_pos c0, if_neg c1, if_neg (show ¬ p = 1 by omega), if_neg (show ¬ p = 58 by omega), if_pos c2, if_neg c3, if_neg c4, if_neg c5, if_pos c6]
                have e10 : (hKi p s) = 0 := by simp only [hFr, hTo, hFl, hKi, hCo, hSz, hdO, if_pos c0, if_neg c1, if_neg (show ¬ p = 1 by omega), if_neg (show ¬ p = 58 by omega), if_pos c2, if_neg c3, if_neg c4, if_neg c5, if_pos c6]
                have e11 : (hCo p s) = 0 := by simp only [hFr, hTo, hFl, hKi, hCo, hSz, hdO, if_pos c0, if_neg c1, if_neg (show ¬ p = 1 by omega), if_neg (show ¬ p = 58 by omega), if_pos c2, if_neg c3, if_neg c4, if_neg c5, if_pos c6]
                have e12 : (hSz p s) = ((s.size : Int) - ((bt s 12 / 16) * 4)) := by simp only [hFr, hTo, hFl, hKi, hCo, hSz, hdO, if_pos c0, if_neg c1, if_neg (show ¬ p = 1 by omega), if_neg (show ¬ p = 58 by omega), if_pos c2, if_neg c3, if_neg c4, if_neg c5, if_pos c6]
                exact bodyPost_ret (v := .tuple #[.agg (av 13 (ls [.int .u8 p, .bool (v0), .int .u64 h0, .int .u64 l0, .bool (v1), .int .u64 h1, .int .u64 l1, .int .u16 (pr s 0), .int .u16 (pr s 2), .int .u8 (bt s 13), .int .u8 0, .int .u8 0, .int .i64 ((s.size : Int) - ((bt s 12 / 16) * 4))])), .int .i64 0]) (results_cell_tmp Try.results9 _ _ g2 32 (av 13 (ls [.int .u8 p, .bool (v0), .int .u64 h0, .int .u64 l0, .bool (v1), .int .u64 h1, .int .u64 l1, .int .u16 (pr s 0), .int .u16 (pr s 2), .int .u8 (bt s 13), .int .u8 0, .int .u8 0, .int .i64 ((s.size : Int) - ((bt s 12 / 16) * 4))])) (0, 0) _ _ (by kernel_rfl) (by kernel_rfl) (M.get 1 rfl) Try.underlying32 rfl (by rw [av_size]; exact inz32)) (by kernel_rfl) ⟨by simp only [hE, hn, hm, e7, e8, e9, e10, e11, e12], below_grown M.old⟩
              · skip
                refine pl_val (want_no rfl) (some 93) rfl (.bool true) (fun w => Eq.trans (b := .ok (.value (.bool (!(decide ((sO v0 h0 l0 v1 h1 l1 p s) = 0))))) w) (by kernel_rfl) (by rw [decide_eq_false (c6)]; rfl)) ?_
                refine pl_nil ?_
                refine au_then ?_
                refine wp_cond_true (by kernel_rfl) ?_
                refine wp_seq ?_
                refine rg_lit ?_
                refine pl_val (want_no rfl) (some 94) rfl (.agg (av 13 (ls [.int .u8 0, .bool false, .int .u64 0, .int .u64 0, .bool false, .int .u64 0, .int .u64 0, .int .u16 0, .int .u16 0, .int .u8 0, .int .u8 0, .int .u8 0, .int .i64 0]))) (fun _ => by kernel_rfl) ?_
                refine pl_put M (want_no rfl) rfl 32 _ _ rfl 1 g2 0 (by kernel_rfl) 13 32 (ls [.int .u8 0, .bool false, .int .u64 0, .int .u64 0, .bool false, .int .u64 0, .int .u64 0, .int .u16 0, .int .u16 0, .int .u8 0, .int .u8 0, .int .u8 0, .int .i64 0]) rfl 13 (ls [.int .u8 0, .bool false, .int .u64 0, .int .u64 0, .bool false, .int .u64 0, .int .u64 0, .int .u16 0, .int .u16 0, .int .u8 0, .int .u8 0, .int .u8 0, .int .i64 0]) (ls [.int .u8 0, .bool false, .int .u64 0, .int .u64 0, .bool false, .int .u64 0, .int .u64 0, .int .u16 0, .int .u16 0, .int .u8 0, .int .u8 0, .int .u8 0, .int .i64 0]) (by kernel_rfl) inz32 (by decide) (one_ls _ rfl) (fun j hj => by rw [if_pos (by omega), Nat.sub_zero]) ?_
                intro u7 M
                replace M : Mem ⟨w, []⟩ [⟨g1, .cells (av 9 (ls [.bool (v0), .int .u64 h0, .int .u64 l0, .bool (v1), .int .u64 h1, .int .u64 l1, .int .u8 p, .int .u8 t, .string s])) 26⟩, ⟨g2, .cells (av 13 (ls [.int .u8 0, .bool false, .int .u64 0, .int .u64 0, .bool false, .int .u64 0, .int .u64 0, .int .u16 0, .int .u16 0, .int .u8 0, .int .u8 0, .int .u8 0, .int .i64 0])) 32⟩, ⟨g3, .cells (av 13 (ls [.int .u8 p, .bool (v0), .int .u64 h0, .int .u64 l0, .bool (v1), .int .u64 h1, .int .u64 l1, .int .u16 0, .int .u16 0, .int .u8 0, .int .u8 0, .int .u8 0, .int .i64 0])) 32⟩] u7 := M
                refine pl_val (want_no rfl) (some 3) rfl (.int .i64 131) (fun _ => by kernel_rfl) ?_
                refine pl_nil ?_
                refine au_then ?_
                refine wp_ret ?_
                refine au_then_ret ?_
                refine au_block_ret ?_
                refine au_then_ret ?_
                have hE : dE v0 h0 l0 v1 h1 l1 p s = 131 := by have hh : hdO p s = bt s 12 / 16 * 4 := (by unfold hdO; rw [if_neg (by omega), if_pos c2]); unfold dE fO fT fS; simp only [ite_self, hh, if_pos c0, if_neg c1, if_neg (show ¬ p = 1 by omega), if_neg (show ¬ p = 58 by omega), if_pos c2, if_neg c3, if_neg c4, if_neg c5, if_neg c6]
                have hn : ∀ x : Int, zI 131 x = 0 := fun x => if_neg (by decide)
                have hm : ∀ x : Bool, zB 131 x = false := fun x => if_neg (by decide)
                exact bodyPost_ret (v := .tuple #[.agg (av 13 (ls [.int .u8 0, .bool false, .int .u64 0, .int .u64 0, .bool false, .int .u64 0, .int .u64 0, .int .u16 0, .int .u16 0, .int .u8 0, .int .u8 0, .int .u8 0, .int .i64 0])), .int .i64 131]) (results_cell_tmp Try.results9 _ _ g2 32 (av 13 (ls [.int .u8 0, .bool false, .int .u64 0, .int .u64 0, .bool false, .int .u64 0, .int .u64 0, .int .u16 0, .int .u16 0, .int .u8 0, .int .u8 0, .int .u8 0, .int .i64 0])) (0, 0) _ _ (by kernel_rfl) (by kernel_rfl) (M.get 1 rfl) Try.underlying32 rfl (by rw [av_size]; exact inz32)) (by kernel_rfl) ⟨by simp only [hE, hn, hm], below_grown M.old⟩
      · skip
        refine pl_val (want_no rfl) (some 72) rfl (.bool false) (fun w => Eq.trans (b := .ok (.value (.bool (decide (p = 6)))) w) (by kernel_rfl) (by rw [decide_eq_false (c2)])) ?_
        refine pl_val (want_no rfl) (some 71) rfl (.bool false) (fun _ => by kernel_rfl) ?_
        refine pl_nil ?_
        refine au_then ?_
        refine wp_cond_false (by kernel_rfl) ?_
        refine wp_seq ?_
        refine wp_seq ?_
        refine rg_lit ?_
        by_cases c3 : p = 1
        · skip
          refine pl_val (want_no rfl) (some 113) rfl (.bool true) (fun w => Eq.trans (b := .ok (.value (.bool (decide (p = 1)))) w) (by kernel_rfl) (by rw [decide_eq_true (c3)])) ?_
          refine pl_val (want_no rfl) (some 112) rfl (.bool true) (fun _ => by kernel_rfl) ?_
          refine pl_nil ?_
          refine au_then ?_
          refine wp_cond_true (by kernel_rfl) ?_
          refine wp_skip ?_
          refine au_then ?_
          refine wp_cond_true (by kernel_rfl) ?_
          refine wp_seq ?_
          refine wp_seq ?_
          refine rg_lit ?_
          refine pl_val (want_no rfl) (some 115) rfl (.pointer (some ⟨g1, 6, none⟩)) (fun _ => by kernel_rfl) ?_
          refine pl_cell M (want_no rfl) (some 116) rfl 5 _ rfl g1 6 (by kernel_rfl) (.int .u8 p) (fun _ => by kernel_rfl) (fun w M => M.cell 0 rfl (by decide) rfl) ?_
          by_cases c4 : p = 58
          · exact absurd c4 (by omega)
          · skip
            refine pl_val (want_no rfl) (some 117) rfl (.bool false) (fun w => Eq.trans (b := .ok (.value (.bool (decide (p = 58)))) w) (by kernel_rfl) (by rw [decide_eq_false (c4)])) ?_
            refine pl_val (want_no rfl) (some 118) rfl (.pointer (some ⟨g1, 0, none⟩)) (fun _ => by kernel_rfl) ?_
            refine pl_val (want_no rfl) (some 119) rfl (.pointer (some ⟨g1, 0, none⟩)) (fun _ => by kernel_rfl) ?_
            rcases Bool.eq_false_or_eq_true (v0) with c5 | c5
            · skip
              refine pl_cell M (want_no rfl) (some 120) rfl 4 _ rfl g1 0 (by kernel_rfl) (.bool true) (fun _ => by kernel_rfl) (fun w M => M.cell 0 rfl (by decide) (congrArg Value.bool c5)) ?_
              refine pl_val (want_no rfl) (some 121) rfl (.bool true) (fun _ => by kernel_rfl) ?_
              refine pl_nil ?_
              refine au_then ?_
              refine wp_cond_true (by kernel_rfl) ?_
              refine wp_seq ?_
              refine rg_lit ?_
              refine pl_val (want_no rfl) (some 122) rfl (.agg (av 13 (ls [.int .u8 0, .bool false, .int .u64 0, .int .u64 0, .bool false, .int .u64 0, .int .u64 0, .int .u16 0, .int .u16 0, .int .u8 0, .int .u8 0, .int .u8 0, .int .i64 0]))) (fun _ => by kernel_rfl) ?_
              refine pl_put M (want_no rfl) rfl 32 _ _ rfl 1 g2 0 (by kernel_rfl) 13 32 (ls [.int .u8 0, .bool false, .int .u64 0, .int .u64 0, .bool false, .int .u64 0, .int .u64 0, .int .u16 0, .int .u16 0, .int .u8 0, .int .u8 0, .int .u8 0, .int .i64 0]) rfl 13 (ls [.int .u8 0, .bool false, .int .u64 0, .int .u64 0, .bool false, .int .u64 0, .int .u64 0, .int .u16 0, .int .u16 0, .int .u8 0, .int .u8 0, .int .u8 0, .int .i64 0]) (ls [.int .u8 0, .bool false, .int .u64 0, .int .u64 0, .bool false, .int .u64 0, .int .u64 0, .int .u16 0, .int .u16 0, .int .u8 0, .int .u8 0, .int .u8 0, .int .i64 0]) (by kernel_rfl) inz32 (by decide) (one_ls _ rfl) (fun j hj => by rw [if_pos (by omega), Nat.sub_zero]) ?_
              intro u6 M
              replace M : Mem ⟨w, []⟩ [⟨g1, .cells (av 9 (ls [.bool (v0), .int .u64 h0, .int .u64 l0, .bool (v1), .int .u64 h1, .int .u64 l1, .int .u8 p, .int .u8 t, .string s])) 26⟩, ⟨g2, .cells (av 13 (ls [.int .u8 0, .bool false, .int .u64 0, .int .u64 0, .bool false, .int .u64 0, .int .u64 0, .int .u16 0, .int .u16 0, .int .u8 0, .int .u8 0, .int .u8 0, .int .i64 0])) 32⟩, ⟨g3, .cells (av 13 (ls [.int .u8 p, .bool (v0), .int .u64 h0, .int .u64 l0, .bool (v1), .int .u64 h1, .int .u64 l1, .int .u16 0, .int .u16 0, .int .u8 0, .int .u8 0, .int .u8 0, .int .i64 0])) 32⟩] u6 := M
              refine pl_val (want_no rfl) (some 3) rfl (.int .i64 8) (fun _ => by kernel_rfl) ?_
              refine pl_nil ?_
              refine au_then ?_
              refine wp_ret ?_
              refine au_then_ret ?_
              refine au_block_ret ?_
              refine au_then_ret ?_
              have hE : dE v0 h0 l0 v1 h1 l1 p s = 8 := by unfold dE fO fE fS; simp only [ite_self, if_pos c0, if_neg c1, if_neg c2, if_pos c3, if_neg c4, if_pos c5, if_neg (eP_6n c5 c3)]
              have hn : ∀ x : Int, zI 8 x = 0 := fun x => if_neg (by decide)
              have hm : ∀ x : Bool, zB 8 x = false := fun x => if_neg (by decide)
              exact bodyPost_ret (v := .tuple #[.agg (av 13 (ls [.int .u8 0, .bool false, .int .u64 0, .int .u64 0, .bool false, .int .u64 0, .int .u64 0, .int .u16 0, .int .u16 0, .int .u8 0, .int .u8 0, .int .u8 0, .int .i64 0])), .int .i64 8]) (results_cell_tmp Try.results9 _ _ g2 32 (av 13 (ls [.int .u8 0, .bool false, .int .u64 0, .int .u64 0, .bool false, .int .u64 0, .int .u64 0, .int .u16 0, .int .u16 0, .int .u8 0, .int .u8 0, .int .u8 0, .int .i64 0])) (0, 0) _ _ (by kernel_rfl) (by kernel_rfl) (M.get 1 rfl) Try.underlying32 rfl (by rw [av_size]; exact inz32)) (by kernel_rfl) ⟨by simp only [hE, hn, hm], below_grown M.old⟩
            · skip
              refine pl_cell M (want_no rfl) (some 120) rfl 4 _ rfl g1 0 (by kernel_rfl) (.bool false) (fun _ => by kernel_rfl) (fun w M => M.cell 0 rfl (by decide) (congrArg Value.bool c5)) ?_
              refine pl_val (want_no rfl) (some 121) rfl (.bool false) (fun _ => by kernel_rfl) ?_
              refine pl_nil ?_
              refine au_then ?_
              refine wp_cond_false (by kernel_rfl) ?_
              refine wp_skip ?_
              refine au_then ?_
              refine wp_seq ?_
              refine wp_seq ?_
              refine rg_lit ?_
              refine pl_val (want_no rfl) (some 123) rfl (.string s) (fun _ => by kernel_rfl) ?_
              refine pl_val (want_no rfl) (some 124) rfl (.int .i64 (s.size : Int)) (fun _ => by kernel_rfl) ?_
              by_cases c6 : (s.size : Int) < 8
              · skip
                refine pl_val (want_no rfl) (some 125) rfl (.bool true) (fun w => Eq.trans (b := .ok (.value (.bool (decide ((s.size : Int) < 8)))) w) (by kernel_rfl) (by rw [decide_eq_true (c6)])) ?_
                refine pl_nil ?_
                refine au_then ?_
                refine wp_cond_true (by kernel_rfl) ?_
                refine wp_seq ?_
                refine rg_lit ?_
                refine pl_val (want_no rfl) (some 126) rfl (.agg (av 13 (ls [.int .u8 0, .bool false, .int .u64 0, .int .u64 0, .bool false, .int .u64 0, .int .u64 0, .int .u16 0, .int .u16 0, .int .u8 0, .int .u8 0, .int .u8 0, .int .i64 0]))) (fun _ => by kernel_rfl) ?_
                refine pl_put M (want_no rfl) rfl 32 _ _ rfl 1 g2 0 (by kernel_rfl) 13 32 (ls [.int .u8 0, .bool false, .int .u64 0, .int .u64 0, .bool false, .int .u64 0, .int .u64 0, .int .u16 0, .int .u16 0, .int .u8 0, .int .u8 0, .int .u8 0, .int .i64 0]) rfl 13 (ls [.int .u8 0, .bool false, .int .u64 0, .int .u64 0, .bool false, .int .u64 0, .int .u64 0, .int .u16 0, .int .u16 0, .int .u8 0, .int .u8 0, .int .u8 0, .int .i64 0]) (ls [.int .u8 0, .bool false, .int .u64 0, .int .u64 0, .bool false, .int .u64 0, .int .u64 0, .int .u16 0, .int .u16 0, .int .u8 0, .int .u8 0, .int .u8 0, .int .i64 0]) (by kernel_rfl) inz32 (by decide) (one_ls _ rfl) (fun j hj => by rw [if_pos (by omega), Nat.sub_zero]) ?_
                intro u6 M
                replace M : Mem ⟨w, []⟩ [⟨g1, .cells (av 9 (ls [.bool (v0), .int .u64 h0, .int .u64 l0, .bool (v1), .int .u64 h1, .int .u64 l1, .int .u8 p, .int .u8 t, .string s])) 26⟩, ⟨g2, .cells (av 13 (ls [.int .u8 0, .bool false, .int .u64 0, .int .u64 0, .bool false, .int .u64 0, .int .u64 0, .int .u16 0, .int .u16 0, .int .u8 0, .int .u8 0, .int .u8 0, .int .i64 0])) 32⟩, ⟨g3, .cells (av 13 (ls [.int .u8 p, .bool (v0), .int .u64 h0, .int .u64 l0, .bool (v1), .int .u64 h1, .int .u64 l1, .int .u16 0, .int .u16 0, .int .u8 0, .int .u8 0, .int .u8 0, .int .i64 0])) 32⟩] u6 := M
                refine pl_val (want_no rfl) (some 3) rfl (.int .i64 7) (fun _ => by kernel_rfl) ?_
                refine pl_nil ?_
                refine au_then ?_
                refine wp_ret ?_
                refine au_then_ret ?_
                refine au_block_ret ?_
                refine au_then_ret ?_
                have hE : dE v0 h0 l0 v1 h1 l1 p s = 7 := by unfold dE fO fE fS; simp only [ite_self, if_pos c0, if_neg c1, if_neg c2, if_pos c3, if_neg c4, if_neg (Bool.eq_false_iff.mp c5), if_pos (eP_4 c5 c3), if_pos c6]
                have hn : ∀ x : Int, zI 7 x = 0 := fun x => if_neg (by decide)
                have hm : ∀ x : Bool, zB 7 x = false := fun x => if_neg (by decide)
                exact bodyPost_ret (v := .tuple #[.agg (av 13 (ls [.int .u8 0, .bool false, .int .u64 0, .int .u64 0, .bool false, .int .u64 0, .int .u64 0, .int .u16 0, .int .u16 0, .int .u8 0, .int .u8 0, .int .u8 0, .int .i64 0])), .int .i64 7]) (results_cell_tmp Try.results9 _ _ g2 32 (av 13 (ls [.int .u8 0, .bool false, .int .u64 0, .int .u64 0, .bool false, .int .u64 0, .int .u64 0, .int .u16 0, .int .u16 0, .int .u8 0, .int .u8 0, .int .u8 0, .int .i64 0])) (0, 0) _ _ (by kernel_rfl) (by kernel_rfl) (M.get 1 rfl) Try.underlying32 rfl (by rw [av_size]; exact inz32)) (by kernel_rfl) ⟨by simp only [hE, hn, hm], below_grown M.old⟩
              · skip
                refine pl_val (want_no rfl) (some 125) rfl (.bool false) (fun w => Eq.trans (b := .ok (.value (.bool (decide ((s.size : Int) < 8)))) w) (by kernel_rfl) (by rw [decide_eq_false (c6)])) ?_
                refine pl_nil ?_
                refine au_then ?_
                refine wp_cond_false (by kernel_rfl) ?_
                refine wp_skip ?_
                refine au_then ?_
                refine wp_seq ?_
                refine wp_seq ?_
                refine rg_lit ?_
                refine pl_load M (want_no rfl) (some 127) rfl 26 _ rfl 0 g1 0 (by kernel_rfl) 9 26 (ls [.bool (v0), .int .u64 h0, .int .u64 l0, .bool (v1), .int .u64 h1, .int .u64 l1, .int .u8 p, .int .u8 t, .string s]) rfl 9 (ls [.bool (v0), .int .u64 h0, .int .u64 l0, .bool (v1), .int .u64 h1, .int .u64 l1, .int .u8 p, .int .u8 t, .string s]) (fun j _ => by rw [Nat.zero_add]) (by decide) _ Try.underlying26 rfl inz26 ?_
                refine pl_call M (want_no rfl) (some 128) rfl 26 #[.agg (av 9 (ls [.bool (v0), .int .u64 h0, .int .u64 l0, .bool (v1), .int .u64 h1, .int .u64 l1, .int .u8 p, .int .u8 t, .string s]))] (.int .u16 (sO v0 h0 l0 v1 h1 l1 p s)) (fun _ => by kernel_rfl) (fun w M => d_sum v0 h0 l0 v1 h1 l1 p t s (by omega) (by omega) w M.laid) ?_
                intro u6 M
                by_cases c7 : (sO v0 h0 l0 v1 h1 l1 p s) = 0
                · skip
                  refine pl_val (want_no rfl) (some 129) rfl (.bool false) (fun w => Eq.trans (b := .ok (.value (.bool (!(decide ((sO v0 h0 l0 v1 h1 l1 p s) = 0))))) w) (by kernel_rfl) (by rw [decide_eq_true (c7)]; rfl)) ?_
                  refine pl_nil ?_
                  refine au_then ?_
                  refine wp_cond_false (by kernel_rfl) ?_
                  refine wp_skip ?_
                  refine au_then ?_
                  refine wp_seq ?_
                  refine rg_lit ?_
                  refine pl_val (want_no rfl) (some 131) rfl (.string s) (fun _ => by kernel_rfl) ?_
                  refine pl_val (want_no rfl) (some 132) rfl (.int .u8 (bt s 0)) (run_ixS 9 Try.underlying9 _ _ rfl s (by kernel_rfl) .i64 0 (by kernel_rfl) (by omega)) ?_
                  refine pl_val (want_no rfl) (some 133) rfl (.pointer (some ⟨g3, 10, none⟩)) (fun _ => by kernel_rfl) ?_
                  refine pl_put1 M (want_no rfl) rfl 5 _ _ rfl 2 g3 10 (by kernel_rfl) 13 32 (ls [.int .u8 p, .bool (v0), .int .u64 h0, .int .u64 l0, .bool (v1), .int .u64 h1, .int .u64 l1, .int .u16 0, .int .u16 0, .int .u8 0, .int .u8 0, .int .u8 0, .int .i64 0]) rfl (.int .u8 (bt s 0)) (ls [.int .u8 p, .bool (v0), .int .u64 h0, .int .u64 l0, .bool (v1), .int .u64 h1, .int .u64 l1, .int .u16 0, .int .u16 0, .int .u8 0, .int .u8 (bt s 0), .int .u8 0, .int .i64 0]) (by kernel_rfl) inz5 (by decide) rfl rfl (put_ls _ 10 _ _ rfl) ?_
                  intro u7 M
                  replace M : Mem ⟨w, []⟩ [⟨g1, .cells (av 9 (ls [.bool (v0), .int .u64 h0, .int .u64 l0, .bool (v1), .int .u64 h1, .int .u64 l1, .int .u8 p, .int .u8 t, .string s])) 26⟩, ⟨g2, .cells (av 13 (ls [.int .u8 0, .bool false, .int .u64 0, .int .u64 0, .bool false, .int .u64 0, .int .u64 0, .int .u16 0, .int .u16 0, .int .u8 0, .int .u8 0, .int .u8 0, .int .i64 0])) 32⟩, ⟨g3, .cells (av 13 (ls [.int .u8 p, .bool (v0), .int .u64 h0, .int .u64 l0, .bool (v1), .int .u64 h1, .int .u64 l1, .int .u16 0, .int .u16 0, .int .u8 0, .int .u8 (bt s 0), .int .u8 0, .int .i64 0])) 32⟩] u7 := M
                  refine pl_nil ?_
                  refine au_then ?_
                  refine wp_seq ?_
                  refine rg_lit ?_
                  refine pl_val (want_no rfl) (some 134) rfl (.string s) (fun _ => by kernel_rfl) ?_
                  refine pl_val (want_no rfl) (some 135) rfl (.int .u8 (bt s 1)) (run_ixS 9 Try.underlying9 _ _ rfl s (by kernel_rfl) .i64 1 (by kernel_rfl) (by omega)) ?_
                  refine pl_val (want_no rfl) (some 136) rfl (.pointer (some ⟨g3, 11, none⟩)) (fun _ => by kernel_rfl) ?_
                  refine pl_put1 M (want_no rfl) rfl 5 _ _ rfl 2 g3 11 (by kernel_rfl) 13 32 (ls [.int .u8 p, .bool (v0), .int .u64 h0, .int .u64 l0, .bool (v1), .int .u64 h1, .int .u64 l1, .int .u16 0, .int .u16 0, .int .u8 0, .int .u8 (bt s 0), .int .u8 0, .int .i64 0]) rfl (.int .u8 (bt s 1)) (ls [.int .u8 p, .bool (v0), .int .u64 h0, .int .u64 l0, .bool (v1), .int .u64 h1, .int .u64 l1, .int .u16 0, .int .u16 0, .int .u8 0, .int .u8 (bt s 0), .int .u8 (bt s 1), .int .i64 0]) (by kernel_rfl) inz5 (by decide) rfl rfl (put_ls _ 11 _ _ rfl) ?_
                  intro u8 M
                  replace M : Mem ⟨w, []⟩ [⟨g1, .cells (av 9 (ls [.bool (v0), .int .u64 h0, .int .u64 l0, .bool (v1), .int .u64 h1, .int .u64 l1, .int .u8 p, .int .u8 t, .string s])) 26⟩, ⟨g2, .cells (av 13 (ls [.int .u8 0, .bool false, .int .u64 0, .int .u64 0, .bool false, .int .u64 0, .int .u64 0, .int .u16 0, .int .u16 0, .int .u8 0, .int .u8 0, .int .u8 0, .int .i64 0])) 32⟩, ⟨g3, .cells (av 13 (ls [.int .u8 p, .bool (v0), .int .u64 h0, .int .u64 l0, .bool (v1), .int .u64 h1, .int .u64 l1, .int .u16 0, .int .u16 0, .int .u8 0, .int .u8 (bt s 0), .int .u8 (bt s 1), .int .i64 0])) 32⟩] u8 := M
                  refine pl_nil ?_
                  refine au_then ?_
                  refine wp_seq ?_
                  refine wp_seq ?_
                  refine rg_lit ?_
                  refine pl_val (want_no rfl) (some 137) rfl (.pointer (some ⟨g3, 10, none⟩)) (fun _ => by kernel_rfl) ?_
                  refine pl_cell M (want_no rfl) (some 138) rfl 5 _ rfl g3 10 (by kernel_rfl) (.int .u8 (bt s 0)) (fun _ => by kernel_rfl) (fun w M => M.cell 2 rfl (by decide) rfl) ?_
                  by_cases c8 : (bt s 0) = 8
                  · skip
                    refine pl_val (want_no rfl) (some 139) rfl (.bool true) (fun w => Eq.trans (b := .ok (.value (.bool (decide ((bt s 0) = 8)))) w) (by kernel_rfl) (by rw [decide_eq_true (c8)])) ?_
                    refine pl_val (want_no rfl) (some 140) rfl (.bool true) (fun _ => by kernel_rfl) ?_
                    refine pl_val (want_on 3 true rfl 140 rfl (by kernel_rfl)) (some 141) rfl (.pointer (some ⟨g1, 0, none⟩)) (fun _ => by kernel_rfl) ?_
                    refine pl_val (want_on 3 true rfl 140 rfl (by kernel_rfl)) (some 142) rfl (.pointer (some ⟨g1, 0, none⟩)) (fun _ => by kernel_rfl) ?_
                    refine pl_cell M (want_on 3 true rfl 140 rfl (by kernel_rfl)) (some 143) rfl 4 _ rfl g1 0 (by kernel_rfl) (.bool false) (fun _ => by kernel_rfl) (fun w M => M.cell 0 rfl (by decide) (congrArg Value.bool c5)) ?_
                    refine pl_val (want_on 3 true rfl 140 rfl (by kernel_rfl)) (some 144) rfl (.bool true) (fun _ => by kernel_rfl) ?_
                    refine pl_val (want_no rfl) (some 145) rfl (.bool true) (fun _ => by kernel_rfl) ?_
                    refine pl_val (want_no rfl) (some 146) rfl (.bool true) (fun _ => by kernel_rfl) ?_
                    refine pl_skip (want_off 9 false rfl 146 rfl (by kernel_rfl)) (some 147) rfl ?_
                    refine pl_skip (want_off 9 false rfl 146 rfl (by kernel_rfl)) (some 148) rfl ?_
                    refine pl_skip (want_off 9 false rfl 146 rfl (by kernel_rfl)) (some 149) rfl ?_
                    refine pl_skip (want_off 9 false rfl 146 rfl (by kernel_rfl)) (some 150) rfl ?_
                    refine pl_skip (want_und 13 true rfl 150 rfl (by kernel_rfl)) (some 151) rfl ?_
                    refine pl_skip (want_und 13 true rfl 150 rfl (by kernel_rfl)) (some 152) rfl ?_
                    refine pl_skip (want_und 13 true rfl 150 rfl (by kernel_rfl)) (some 153) rfl ?_
                    refine pl_skip (want_und 13 true rfl 150 rfl (by kernel_rfl)) (some 154) rfl ?_
                    refine pl_skip (want_off 9 false rfl 146 rfl (by kernel_rfl)) (some 155) rfl ?_
                    refine pl_val (want_no rfl) (some 156) rfl (.bool true) (fun _ => by kernel_rfl) ?_
                    refine pl_val (want_no rfl) (some 157) rfl (.bool true) (fun _ => by kernel_rfl) ?_
                    refine pl_skip (want_off 20 false rfl 157 rfl (by kernel_rfl)) (some 158) rfl ?_
                    refine pl_skip (want_off 20 false rfl 157 rfl (by kernel_rfl)) (some 159) rfl ?_
                    refine pl_skip (want_off 20 false rfl 157 rfl (by kernel_rfl)) (some 160) rfl ?_
                    refine pl_skip (want_off 20 false rfl 157 rfl (by kernel_rfl)) (some 161) rfl ?_
                    refine pl_skip (want_und 24 true rfl 161 rfl (by kernel_rfl)) (some 162) rfl ?_
                    refine pl_skip (want_und 24 true rfl 161 rfl (by kernel_rfl)) (some 163) rfl ?_
                    refine pl_skip (want_und 24 true rfl 161 rfl (by kernel_rfl)) (some 164) rfl ?_
                    refine pl_skip (want_und 24 true rfl 161 rfl (by kernel_rfl)) (some 165) rfl ?_
                    refine pl_skip (want_und 28 false rfl 165 rfl (by kernel_rfl)) (some 166) rfl ?_
                    refine pl_skip (want_und 28 false rfl 165 rfl (by kernel_rfl)) (some 167) rfl ?_
                    refine pl_skip (want_und 28 false rfl 165 rfl (by kernel_rfl)) (some 168) rfl ?_
                    refine pl_skip (want_und 24 true rfl 161 rfl (by kernel_rfl)) (some 169) rfl ?_
                    refine pl_skip (want_off 20 false rfl 157 rfl (by kernel_rfl)) (some 170) rfl ?_
                    refine pl_val (want_no rfl) (some 171) rfl (.bool true) (fun _ => by kernel_rfl) ?_
                    refine pl_nil ?_
                    refine au_then ?_
                    refine wp_cond_true (by kernel_rfl) ?_
                    refine wp_seq ?_
                    refine rg_lit ?_
                    refine pl_val (want_no rfl) (some 172) rfl (.string s) (fun _ => by kernel_rfl) ?_
                    refine pl_val (want_no rfl) (some 173) rfl (.string (s.extract 4 s.size)) (run_strl 9 Try.underlying9 _ _ rfl s (by kernel_rfl) .i64 4 (by kernel_rfl) (by omega) _ rfl) ?_
                    refine pl_call M (want_no rfl) (some 174) rfl 25 #[.string (s.extract 4 s.size)] (.int .u16 (pr s 4)) (fun _ => by kernel_rfl) (fun w M => call_val (d_num16 (s.extract 4 s.size) (by rw [ByteArray.size_extract]; omega) w M.laid) (by rw [pr_ext s 4 (by omega)])) ?_
                    intro u9 M
                    refine pl_val (want_no rfl) (some 175) rfl (.pointer (some ⟨g3, 0, none⟩)) (fun _ => by kernel_rfl) ?_
                    refine pl_val (want_no rfl) (some 176) rfl (.pointer (some ⟨g3, 7, none⟩)) (fun _ => by kernel_rfl) ?_
                    refine pl_put1 M (want_no rfl) rfl 27 _ _ rfl 2 g3 7 (by kernel_rfl) 13 32 (ls [.int .u8 p, .bool (v0), .int .u64 h0, .int .u64 l0, .bool (v1), .int .u64 h1, .int .u64 l1, .int .u16 0, .int .u16 0, .int .u8 0, .int .u8 (bt s 0), .int .u8 (bt s 1), .int .i64 0]) rfl (.int .u16 (pr s 4)) (ls [.int .u8 p, .bool (v0), .int .u64 h0, .int .u64 l0, .bool (v1), .int .u64 h1, .int .u64 l1, .int .u16 (pr s 4), .int .u16 0, .int .u8 0, .int .u8 (bt s 0), .int .u8 (bt s 1), .int .i64 0]) (by kernel_rfl) inz27 (by decide) rfl rfl (put_ls _ 7 _ _ rfl) ?_
                    intro u10 M
                    replace M : Mem ⟨w, []⟩ [⟨g1, .cells (av 9 (ls [.bool (v0), .int .u64 h0, .int .u64 l0, .bool (v1), .int .u64 h1, .int .u64 l1, .int .u8 p, .int .u8 t, .string s])) 26⟩, ⟨g2, .cells (av 13 (ls [.int .u8 0, .bool false, .int .u64 0, .int .u64 0, .bool false, .int .u64 0, .int .u64 0, .int .u16 0, .int .u16 0, .int .u8 0, .int .u8 0, .int .u8 0, .int .i64 0])) 32⟩, ⟨g3, .cells (av 13 (ls [.int .u8 p, .bool (v0), .int .u64 h0, .int .u64 l0, .bool (v1), .int .u64 h1, .int .u64 l1, .int .u16 (pr s 4), .int .u16 0, .int .u8 0, .int .u8 (bt s 0), .int .u8 (bt s 1), .int .i64 0])) 32⟩] u10 := M
                    refine pl_nil ?_
                    refine au_then ?_
                    refine rg_lit ?_
                    refine pl_val (want_no rfl) (some 177) rfl (.pointer (some ⟨g3, 0, none⟩)) (fun _ => by kernel_rfl) ?_
                    refine pl_val (want_no rfl) (some 178) rfl (.pointer (some ⟨g3, 7, none⟩)) (fun _ => by kernel_rfl) ?_
                    refine pl_cell M (want_no rfl) (some 179) rfl 27 _ rfl g3 7 (by kernel_rfl) (.int .u16 (pr s 4)) (fun _ => by kernel_rfl) (fun w M => M.cell 2 rfl (by decide) rfl) ?_
                    refine pl_val (want_no rfl) (some 180) rfl (.pointer (some ⟨g3, 0, none⟩)) (fun _ => by kernel_rfl) ?_
                    refine pl_val (want_no rfl) (some 181) rfl (.pointer (some ⟨g3, 8, none⟩)) (fun _ => by kernel_rfl) ?_
                    refine pl_put1 M (want_no rfl) rfl 27 _ _ rfl 2 g3 8 (by kernel_rfl) 13 32 (ls [.int .u8 p, .bool (v0), .int .u64 h0, .int .u64 l0, .bool (v1), .int .u64 h1, .int .u64 l1, .int .u16 (pr s 4), .int .u16 0, .int .u8 0, .int .u8 (bt s 0), .int .u8 (bt s 1), .int .i64 0]) rfl (.int .u16 (pr s 4)) (ls [.int .u8 p, .bool (v0), .int .u64 h0, .int .u64 l0, .bool (v1), .int .u64 h1, .int .u64 l1, .int .u16 (pr s 4), .int .u16 (pr s 4), .int .u8 0, .int .u8 (bt s 0), .int .u8 (bt s 1), .int .i64 0]) (by kernel_rfl) inz27 (by decide) rfl rfl (put_ls _ 8 _ _ rfl) ?_
                    intro u11 M
                    replace M : Mem ⟨w, []⟩ [⟨g1, .cells (av 9 (ls [.bool (v0), .int .u64 h0, .int .u64 l0, .bool (v1), .int .u64 h1, .int .u64 l1, .int .u8 p, .int .u8 t, .string s])) 26⟩, ⟨g2, .cells (av 13 (ls [.int .u8 0, .bool false, .int .u64 0, .int .u64 0, .bool false, .int .u64 0, .int .u64 0, .int .u16 0, .int .u16 0, .int .u8 0, .int .u8 0, .int .u8 0, .int .i64 0])) 32⟩, ⟨g3, .cells (av 13 (ls [.int .u8 p, .bool (v0), .int .u64 h0, .int .u64 l0, .bool (v1), .int .u64 h1, .int .u64 l1, .int .u16 (pr s 4), .int .u16 (pr s 4), .int .u8 0, .int .u8 (bt s 0), .int .u8 (bt s 1), .int .i64 0])) 32⟩] u11 := M
                    refine pl_nil ?_
                    refine au_then ?_
                    refine rg_lit ?_
                    refine pl_val (want_no rfl) (some 182) rfl (.string s) (fun _ => by kernel_rfl) ?_
                    refine pl_val (want_no rfl) (some 183) rfl (.int .i64 (s.size : Int)) (fun _ => by kernel_rfl) ?_
                    refine pl_val (want_no rfl) (some 184) rfl (.int .i64 ((s.size : Int) - 8)) (fun w => Eq.trans (b := .ok (.value (.int .i64 (IntKind.wrap .i64 ((s.size : Int) - 8)))) w) (by kernel_rfl) (by rw [wrap64 (by omega) (by omega)])) ?_
                    refine pl_val (want_no rfl) (some 185) rfl (.pointer (some ⟨g3, 12, none⟩)) (fun _ => by kernel_rfl) ?_
                    refine pl_put1 M (want_no rfl) rfl 3 _ _ rfl 2 g3 12 (by kernel_rfl) 13 32 (ls [.int .u8 p, .bool (v0), .int .u64 h0, .int .u64 l0, .bool (v1), .int .u64 h1, .int .u64 l1, .int .u16 (pr s 4), .int .u16 (pr s 4), .int .u8 0, .int .u8 (bt s 0), .int .u8 (bt s 1), .int .i64 0]) rfl (.int .i64 ((s.size : Int) - 8)) (ls [.int .u8 p, .bool (v0), .int .u64 h0, .int .u64 l0, .bool (v1), .int .u64 h1, .int .u64 l1, .int .u16 (pr s 4), .int .u16 (pr s 4), .int .u8 0, .int .u8 (bt s 0), .int .u8 (bt s 1), .int .i64 ((s.size : Int) - 8)]) (by kernel_rfl) inz3 (by decide) rfl rfl (put_ls _ 12 _ _ rfl) ?_
                    intro u12 M
                    replace M : Mem ⟨w, []⟩ [⟨g1, .cells (av 9 (ls [.bool (v0), .int .u64 h0, .int .u64 l0, .bool (v1), .int .u64 h1, .int .u64 l1, .int .u8 p, .int .u8 t, .string s])) 26⟩, ⟨g2, .cells (av 13 (ls [.int .u8 0, .bool false, .int .u64 0, .int .u64 0, .bool false, .int .u64 0, .int .u64 0, .int .u16 0, .int .u16 0, .int .u8 0, .int .u8 0, .int .u8 0, .int .i64 0])) 32⟩, ⟨g3, .cells (av 13 (ls [.int .u8 p, .bool (v0), .int .u64 h0, .int .u64 l0, .bool (v1), .int .u64 h1, .int .u64 l1, .int .u16 (pr s 4), .int .u16 (pr s 4), .int .u8 0, .int .u8 (bt s 0), .int .u8 (bt s 1), .int .i64 ((s.size : Int) - 8)])) 32⟩] u12 := M
                    refine pl_nil ?_
                    refine au_block ?_
                    refine au_then ?_
                    refine wp_seq ?_
                    refine rg_lit ?_
                    refine pl_load M (want_no rfl) (some 186) rfl 32 _ rfl 2 g3 0 (by kernel_rfl) 13 32 (ls [.int .u8 p, .bool (v0), .int .u64 h0, .int .u64 l0, .bool (v1), .int .u64 h1, .int .u64 l1, .int .u16 (pr s 4), .int .u16 (pr s 4), .int .u8 0, .int .u8 (bt s 0), .int .u8 (bt s 1), .int .i64 ((s.size : Int) - 8)]) rfl 13 (ls [.int .u8 p, .bool (v0), .int .u64 h0, .int .u64 l0, .bool (v1), .int .u64 h1, .int .u64 l1, .int .u16 (pr s 4), .int .u16 (pr s 4), .int .u8 0, .int .u8 (bt s 0), .int .u8 (bt s 1), .int .i64 ((s.size : Int) - 8)]) (fun j _ => by rw [Nat.zero_add]) (by decide) _ Try.underlying32 rfl inz32 ?_
                    refine pl_put M (want_no rfl) rfl 32 _ _ rfl 1 g2 0 (by kernel_rfl) 13 32 (ls [.int .u8 0, .bool false, .int .u64 0, .int .u64 0, .bool false, .int .u64 0, .int .u64 0, .int .u16 0, .int .u16 0, .int .u8 0, .int .u8 0, .int .u8 0, .int .i64 0]) rfl 13 (ls [.int .u8 p, .bool (v0), .int .u64 h0, .int .u64 l0, .bool (v1), .int .u64 h1, .int .u64 l1, .int .u16 (pr s 4), .int .u16 (pr s 4), .int .u8 0, .int .u8 (bt s 0), .int .u8 (bt s 1), .int .i64 ((s.size : Int) - 8)]) (ls [.int .u8 p, .bool (v0), .int .u64 h0, .int .u64 l0, .bool (v1), .int .u64 h1, .int .u64 l1, .int .u16 (pr s 4), .int .u16 (pr s 4), .int .u8 0, .int .u8 (bt s 0), .int .u8 (bt s 1), .int .i64 ((s.size : Int) - 8)]) (by kernel_rfl) inz32 (by decide) (one_ls _ rfl) (fun j hj => by rw [if_pos (by omega), Nat.sub_zero]) ?_
                    intro u13 M
                    replace M : Mem ⟨w, []⟩ [⟨g1, .cells (av 9 (ls [.bool (v0), .int .u64 h0, .int .u64 l0, .bool (v1), .int .u64 h1, .int .u64 l1, .int .u8 p, .int .u8 t, .string s])) 26⟩, ⟨g2, .cells (av 13 (ls [.int .u8 p, .bool (v0), .int .u64 h0, .int .u64 l0, .bool (v1), .int .u64 h1, .int .u64 l1, .int .u16 (pr s 4), .int .u16 (pr s 4), .int .u8 0, .int .u8 (bt s 0), .int .u8 (bt s 1), .int .i64 ((s.size : Int) - 8)])) 32⟩, ⟨g3, .cells (av 13 (ls [.int .u8 p, .bool (v0), .int .u64 h0, .int .u64 l0, .bool (v1), .int .u64 h1, .int .u64 l1, .int .u16 (pr s 4), .int .u16 (pr s 4), .int .u8 0, .int .u8 (bt s 0), .int .u8 (bt s 1), .int .i64 ((s.size : Int) - 8)])) 32⟩] u13 := M
                    refine pl_val (want_no rfl) (some 3) rfl (.int .i64 0) (fun _ => by kernel_rfl) ?_
                    refine pl_nil ?_
                    refine au_then ?_
                    refine wp_ret ?_
                    have hE : dE v0 h0 l0 v1 h1 l1 p s = 0 := by unfold dE fO fE fS; simp only [ite_self, if_pos c0, if_neg c1, if_neg c2, if_pos c3, if_neg c4, if_neg (Bool.eq_false_iff.mp c5), if_pos (eP_4 c5 c3), if_neg c6, if_pos c7]
                    have hn : ∀ x : Int, zI 0 x = x := fun x => if_pos rfl
                    have hm : ∀ x : Bool, zB 0 x = x := fun x => if_pos rfl
                    have he : ec p (bt s 0) = true := by rw [ec_4 _ _ c3]; simp [c8]
                    have e7 : (hFr p s) = (pr s 4) := by simp only [hFr, hTo, hFl, hKi, hCo, hSz, hdO, if_pos c0, if_neg c1, if_neg c2, if_pos c3, if_neg c4, if_neg (Bool.eq_false_iff.mp c5), if_pos (eP_4 c5 c3), if_neg c6, if_pos c7, if_pos he]
                    have e8 : (hTo p s) = (pr s 4) := by simp only [hFr, hTo, hFl, hKi, hCo, hSz, hdO, if_pos c0, if_neg c1, if_neg c2, if_pos c3, if_neg c4, if_neg (Bool.eq_false_iff.mp c5), if_pos (eP_4 c5 c3), if_neg c6, if_pos c7, if_pos he]
                    have e9 : (hFl p s) = 0 := by simp only [hFr, hTo, hFl, hKi, hCo, hSz, hdO, if_pos c0, if_neg c1, if_neg c2, if_pos c3, if_neg c4, if_neg (Bool.eq_false_iff.mp c5), if_pos (eP_4 c5 c3), if_neg c6, if_pos c7, if_pos he]
                    have e10 : (hKi p s) = (bt s 0) := by simp only [hFr, hTo, hFl, hKi, hCo, hSz, hdO, if_pos c0, if_neg c1, if_neg c2, if_pos c3, if_neg c4, if_neg (Bool.eq_false_iff.mp c5), if_pos (eP_4 c5 c3), if_neg c6, if_pos c7, if_pos he]
                    have e11 : (hCo p s) = (bt s 1) := by simp only [hFr, hTo, hFl, hKi, hCo, hSz, hdO, if_pos c0, if_neg c1, if_neg c2, if_pos c3, if_neg c4, if_neg (Bool.eq_false_iff.mp c5), if_pos (eP_4 c5 c3), if_neg c6, if_pos c7, if_pos he]
                    have e12 : (hSz p s) = ((s.size : Int) - 8) := by simp only [hFr, hTo, hFl, hKi, hCo, hSz, hdO, if_pos c0, if_neg c1, if_neg c2, if_pos c3, if_neg c4, if_neg (Bool.eq_false_iff.mp c5), if_pos (eP_4 c5 c3), if_neg c6, if_pos c7, if_pos he]
                    exact bodyPost_ret (v := .tuple #[.agg (av 13 (ls [.int .u8 p, .bool (v0), .int .u64 h0, .int .u64 l0, .bool (v1), .int .u64 h1, .int .u64 l1, .int .u16 (pr s 4), .int .u16 (pr s 4), .int .u8 0, .int .u8 (bt s 0), .int .u8 (bt s 1), .int .i64 ((s.size : Int) - 8)])), .int .i64 0]) (results_cell_tmp Try.results9 _ _ g2 32 (av 13 (ls [.int .u8 p, .bool (v0), .int .u64 h0, .int .u64 l0, .bool (v1), .int .u64 h1, .int .u64 l1, .int .u16 (pr s 4), .int .u16 (pr s 4), .int .u8 0, .int .u8 (bt s 0), .int .u8 (bt s 1), .int .i64 ((s.size : Int) - 8)])) (0, 0) _ _ (by kernel_rfl) (by kernel_rfl) (M.get 1 rfl) Try.underlying32 rfl (by rw [av_size]; exact inz32)) (by kernel_rfl) ⟨by simp only [hE, hn, hm, e7, e8, e9, e10, e11, e12], below_grown M.old⟩
                  · skip
                    refine pl_val (want_no rfl) (some 139) rfl (.bool false) (fun w => Eq.trans (b := .ok (.value (.bool (decide ((bt s 0) = 8)))) w) (by kernel_rfl) (by rw [decide_eq_false (c8)])) ?_
                    refine pl_val (want_no rfl) (some 140) rfl (.bool false) (fun _ => by kernel_rfl) ?_
                    refine pl_skip (want_off 3 true rfl 140 rfl (by kernel_rfl)) (some 141) rfl ?_
                    refine pl_skip (want_off 3 true rfl 140 rfl (by kernel_rfl)) (some 142) rfl ?_
                    refine pl_skip (want_off 3 true rfl 140 rfl (by kernel_rfl)) (some 143) rfl ?_
                    refine pl_skip (want_off 3 true rfl 140 rfl (by kernel_rfl)) (some 144) rfl ?_
                    refine pl_val (want_no rfl) (some 145) rfl (.bool false) (fun _ => by kernel_rfl) ?_
                    refine pl_val (want_no rfl) (some 146) rfl (.bool false) (fun _ => by kernel_rfl) ?_
                    refine pl_val (want_on 9 false rfl 146 rfl (by kernel_rfl)) (some 147) rfl (.pointer (some ⟨g3, 10, none⟩)) (fun _ => by kernel_rfl) ?_
                    refine pl_cell M (want_on 9 false rfl 146 rfl (by kernel_rfl)) (some 148) rfl 5 _ rfl g3 10 (by kernel_rfl) (.int .u8 (bt s 0)) (fun _ => by kernel_rfl) (fun w M => M.cell 2 rfl (by decide) rfl) ?_
                    by_cases c9 : (bt s 0) = 0
                    · skip
                      refine pl_val (want_on 9 false rfl 146 rfl (by kernel_rfl)) (some 149) rfl (.bool true) (fun w => Eq.trans (b := .ok (.value (.bool (decide ((bt s 0) = 0)))) w) (by kernel_rfl) (by rw [decide_eq_true (c9)])) ?_
                      refine pl_val (want_on 9 false rfl 146 rfl (by kernel_rfl)) (some 150) rfl (.bool true) (fun _ => by kernel_rfl) ?_
                      refine pl_val (want_on 13 true rfl 150 rfl (by kernel_rfl)) (some 151) rfl (.pointer (some ⟨g1, 0, none⟩)) (fun _ => by kernel_rfl) ?_
                      refine pl_val (want_on 13 true rfl 150 rfl (by kernel_rfl)) (some 152) rfl (.pointer (some ⟨g1, 0, none⟩)) (fun _ => by kernel_rfl) ?_
                      refine pl_cell M (want_on 13 true rfl 150 rfl (by kernel_rfl)) (some 153) rfl 4 _ rfl g1 0 (by kernel_rfl) (.bool false) (fun _ => by kernel_rfl) (fun w M => M.cell 0 rfl (by decide) (congrArg Value.bool c5)) ?_
                      refine pl_val (want_on 13 true rfl 150 rfl (by kernel_rfl)) (some 154) rfl (.bool true) (fun _ => by kernel_rfl) ?_
                      refine pl_val (want_on 9 false rfl 146 rfl (by kernel_rfl)) (some 155) rfl (.bool true) (fun _ => by kernel_rfl) ?_
                      refine pl_val (want_no rfl) (some 156) rfl (.bool true) (fun _ => by kernel_rfl) ?_
                      refine pl_val (want_no rfl) (some 157) rfl (.bool true) (fun _ => by kernel_rfl) ?_
                      refine pl_skip (want_off 20 false rfl 157 rfl (by kernel_rfl)) (some 158) rfl ?_
                      refine pl_skip (want_off 20 false rfl 157 rfl (by kernel_rfl)) (some 159) rfl ?_
                      refine pl_skip (want_off 20 false rfl 157 rfl (by kernel_rfl)) (some 160) rfl ?_
                      refine pl_skip (want_off 20 false rfl 157 rfl (by kernel_rfl)) (some 161) rfl ?_
                      refine pl_skip (want_und 24 true rfl 161 rfl (by kernel_rfl)) (some 162) rfl ?_
                      refine pl_skip (want_und 24 true rfl 161 rfl (by kernel_rfl)) (some 163) rfl ?_
                      refine pl_skip (want_und 24 true rfl 161 rfl (by kernel_rfl)) (some 164) rfl ?_
                      refine pl_skip (want_und 24 true rfl 161 rfl (by kernel_rfl)) (some 165) rfl ?_
                      refine pl_skip (want_und 28 false rfl 165 rfl (by kernel_rfl)) (some 166) rfl ?_
                      refine pl_skip (want_und 28 false rfl 165 rfl (by kernel_rfl)) (some 167) rfl ?_
                      refine pl_skip (want_und 28 false rfl 165 rfl (by kernel_rfl)) (some 168) rfl ?_
                      refine pl_skip (want_und 24 true rfl 161 rfl (by kernel_rfl)) (some 169) rfl ?_
                      refine pl_skip (want_off 20 false rfl 157 rfl (by kernel_rfl)) (some 170) rfl ?_
                      refine pl_val (want_no rfl) (some 171) rfl (.bool true) (fun _ => by kernel_rfl) ?_
                      refine pl_nil ?_
                      refine au_then ?_
                      refine wp_cond_true (by kernel_rfl) ?_
                      refine wp_seq ?_
                      refine rg_lit ?_
                      refine pl_val (want_no rfl) (some 172) rfl (.string s) (fun _ => by kernel_rfl) ?_
                      refine pl_val (want_no rfl) (some 173) rfl (.string (s.extract 4 s.size)) (run_strl 9 Try.underlying9 _ _ rfl s (by kernel_rfl) .i64 4 (by kernel_rfl) (by omega) _ rfl) ?_
                      refine pl_call M (want_no rfl) (some 174) rfl 25 #[.string (s.extract 4 s.size)] (.int .u16 (pr s 4)) (fun _ => by kernel_rfl) (fun w M => call_val (d_num16 (s.extract 4 s.size) (by rw [ByteArray.size_extract]; omega) w M.laid) (by rw [pr_ext s 4 (by omega)])) ?_
                      intro u9 M
                      refine pl_val (want_no rfl) (some 175) rfl (.pointer (some ⟨g3, 0, none⟩)) (fun _ => by kernel_rfl) ?_
                      refine pl_val (want_no rfl) (some 176) rfl (.pointer (some ⟨g3, 7, none⟩)) (fun _ => by kernel_rfl) ?_
                      refine pl_put1 M (want_no rfl) rfl 27 _ _ rfl 2 g3 7 (by kernel_rfl) 13 32 (ls [.int .u8 p, .bool (v0), .int .u64 h0, .int .u64 l0, .bool (v1), .int .u64 h1, .int .u64 l1, .int .u16 0, .int .u16 0, .int .u8 0, .int .u8 (bt s 0), .int .u8 (bt s 1), .int .i64 0]) rfl (.int .u16 (pr s 4)) (ls [.int .u8 p, .bool (v0), .int .u64 h0, .int .u64 l0, .bool (v1), .int .u64 h1, .int .u64 l1, .int .u16 (pr s 4), .int .u16 0, .int .u8 0, .int .u8 (bt s 0), .int .u8 (bt s 1), .int .i64 0]) (by kernel_rfl) inz27 (by decide) rfl rfl (put_ls _ 7 _ _ rfl) ?_
                      intro u10 M
                      replace M : Mem ⟨w, []⟩ [⟨g1, .cells (av 9 (ls [.bool (v0), .int .u64 h0, .int .u64 l0, .bool (v1), .int .u64 h1, .int .u64 l1, .int .u8 p, .int .u8 t, .string s])) 26⟩, ⟨g2, .cells (av 13 (ls [.int .u8 0, .bool false, .int .u64 0, .int .u64 0, .bool false, .int .u64 0, .int .u64 0, .int .u16 0, .int .u16 0, .int .u8 0, .int .u8 0, .int .u8 0, .int .i64 0])) 32⟩, ⟨g3, .cells (av 13 (ls [.int .u8 p, .bool (v0), .int .u64 h0, .int .u64 l0, .bool (v1), .int .u64 h1, .int .u64 l1, .int .u16 (pr s 4), .int .u16 0, .int .u8 0, .int .u8 (bt s 0), .int .u8 (bt s 1), .int .i64 0])) 32⟩] u10 := M
                      refine pl_nil ?_
                      refine au_then ?_
                      refine rg_lit ?_
                      refine pl_val (want_no rfl) (some 177) rfl (.pointer (some ⟨g3, 0, none⟩)) (fun _ => by kernel_rfl) ?_
                      refine pl_val (want_no rfl) (some 178) rfl (.pointer (some ⟨g3, 7, none⟩)) (fun _ => by kernel_rfl) ?_
                      refine pl_cell M (want_no rfl) (some 179) rfl 27 _ rfl g3 7 (by kernel_rfl) (.int .u16 (pr s 4)) (fun _ => by kernel_rfl) (fun w M => M.cell 2 rfl (by decide) rfl) ?_
                      refine pl_val (want_no rfl) (some 180) rfl (.pointer (some ⟨g3, 0, none⟩)) (fun _ => by kernel_rfl) ?_
                      refine pl_val (want_no rfl) (some 181) rfl (.pointer (some ⟨g3, 8, none⟩)) (fun _ => by kernel_rfl) ?_
                      refine pl_put1 M (want_no rfl) rfl 27 _ _ rfl 2 g3 8 (by kernel_rfl) 13 32 (ls [.int .u8 p, .bool (v0), .int .u64 h0, .int .u64 l0, .bool (v1), .int .u64 h1, .int .u64 l1, .int .u16 (pr s 4), .int .u16 0, .int .u8 0, .int .u8 (bt s 0), .int .u8 (bt s 1), .int .i64 0]) rfl (.int .u16 (pr s 4)) (ls [.int .u8 p, .bool (v0), .int .u64 h0, .int .u64 l0, .bool (v1), .int .u64 h1, .int .u64 l1, .int .u16 (pr s 4), .int .u16 (pr s 4), .int .u8 0, .int .u8 (bt s 0), .int .u8 (bt s 1), .int .i64 0]) (by kernel_rfl) inz27 (by decide) rfl rfl (put_ls _ 8 _ _ rfl) ?_
                      intro u11 M
                      replace M : Mem ⟨w, []⟩ [⟨g1, .cells (av 9 (ls [.bool (v0), .int .u64 h0, .int .u64 l0, .bool (v1), .int .u64 h1, .int .u64 l1, .int .u8 p, .int .u8 t, .string s])) 26⟩, ⟨g2, .cells (av 13 (ls [.int .u8 0, .bool false, .int .u64 0, .int .u64 0, .bool false, .int .u64 0, .int .u64 0, .int .u16 0, .int .u16 0, .int .u8 0, .int .u8 0, .int .u8 0, .int .i64 0])) 32⟩, ⟨g3, .cells (av 13 (ls [.int .u8 p, .bool (v0), .int .u64 h0, .int .u64 l0, .bool (v1), .int .u64 h1, .int .u64 l1, .int .u16 (pr s 4), .int .u16 (pr s 4), .int .u8 0, .int .u8 (bt s 0), .int .u8 (bt s 1), .int .i64 0])) 32⟩] u11 := M
                      refine pl_nil ?_
                      refine au_then ?_
                      refine rg_lit ?_
                      refine pl_val (want_no rfl) (some 182) rfl (.string s) (fun _ => by kernel_rfl) ?_
                      refine pl_val (want_no rfl) (some 183) rfl (.int .i64 (s.size : Int)) (fun _ => by kernel_rfl) ?_
                      refine pl_val (want_no rfl) (some 184) rfl (.int .i64 ((s.size : Int) - 8)) (fun w => Eq.trans (b := .ok (.value (.int .i64 (IntKind.wrap .i64 ((s.size : Int) - 8)))) w) (by kernel_rfl) (by rw [wrap64 (by omega) (by omega)])) ?_
                      refine pl_val (want_no rfl) (some 185) rfl (.pointer (some ⟨g3, 12, none⟩)) (fun _ => by kernel_rfl) ?_
                      refine pl_put1 M (want_no rfl) rfl 3 _ _ rfl 2 g3 12 (by kernel_rfl) 13 32 (ls [.int .u8 p, .bool (v0), .int .u64 h0, .int .u64 l0, .bool (v1), .int .u64 h1, .int .u64 l1, .int .u16 (pr s 4), .int .u16 (pr s 4), .int .u8 0, .int .u8 (bt s 0), .int .u8 (bt s 1), .int .i64 0]) rfl (.int .i64 ((s.size : Int) - 8)) (ls [.int .u8 p, .bool (v0), .int .u64 h0, .int .u64 l0, .bool (v1), .int .u64 h1, .int .u64 l1, .int .u16 (pr s 4), .int .u16 (pr s 4), .int .u8 0, .int .u8 (bt s 0), .int .u8 (bt s 1), .int .i64 ((s.size : Int) - 8)]) (by kernel_rfl) inz3 (by decide) rfl rfl (put_ls _ 12 _ _ rfl) ?_
                      intro u12 M
                      replace M : Mem ⟨w, []⟩ [⟨g1, .cells (av 9 (ls [.bool (v0), .int .u64 h0, .int .u64 l0, .bool (v1), .int .u64 h1, .int .u64 l1, .int .u8 p, .int .u8 t, .string s])) 26⟩, ⟨g2, .cells (av 13 (ls [.int .u8 0, .bool false, .int .u64 0, .int .u64 0, .bool false, .int .u64 0, .int .u64 0, .int .u16 0, .int .u16 0, .int .u8 0, .int .u8 0, .int .u8 0, .int .i64 0])) 32⟩, ⟨g3, .cells (av 13 (ls [.int .u8 p, .bool (v0), .int .u64 h0, .int .u64 l0, .bool (v1), .int .u64 h1, .int .u64 l1, .int .u16 (pr s 4), .int .u16 (pr s 4), .int .u8 0, .int .u8 (bt s 0), .int .u8 (bt s 1), .int .i64 ((s.size : Int) - 8)])) 32⟩] u12 := M
                      refine pl_nil ?_
                      refine au_block ?_
                      refine au_then ?_
                      refine wp_seq ?_
                      refine rg_lit ?_
                      refine pl_load M (want_no rfl) (some 186) rfl 32 _ rfl 2 g3 0 (by kernel_rfl) 13 32 (ls [.int .u8 p, .bool (v0), .int .u64 h0, .int .u64 l0, .bool (v1), .int .u64 h1, .int .u64 l1, .int .u16 (pr s 4), .int .u16 (pr s 4), .int .u8 0, .int .u8 (bt s 0), .int .u8 (bt s 1), .int .i64 ((s.size : Int) - 8)]) rfl 13 (ls [.int .u8 p, .bool (v0), .int .u64 h0, .int .u64 l0, .bool (v1), .int .u64 h1, .int .u64 l1, .int .u16 (pr s 4), .int .u16 (pr s 4), .int .u8 0, .int .u8 (bt s 0), .int .u8 (bt s 1), .int .i64 ((s.size : Int) - 8)]) (fun j _ => by rw [Nat.zero_add]) (by decide) _ Try.underlying32 rfl inz32 ?_
                      refine pl_put M (want_no rfl) rfl 32 _ _ rfl 1 g2 0 (by kernel_rfl) 13 32 (ls [.int .u8 0, .bool false, .int .u64 0, .int .u64 0, .bool false, .int .u64 0, .int .u64 0, .int .u16 0, .int .u16 0, .int .u8 0, .int .u8 0, .int .u8 0, .int .i64 0]) rfl 13 (ls [.int .u8 p, .bool (v0), .int .u64 h0, .int .u64 l0, .bool (v1), .int .u64 h1, .int .u64 l1, .int .u16 (pr s 4), .int .u16 (pr s 4), .int .u8 0, .int .u8 (bt s 0), .int .u8 (bt s 1), .int .i64 ((s.size : Int) - 8)]) (ls [.int .u8 p, .bool (v0), .int .u64 h0, .int .u64 l0, .bool (v1), .int .u64 h1, .int .u64 l1, .int .u16 (pr s 4), .int .u16 (pr s 4), .int .u8 0, .int .u8 (bt s 0), .int .u8 (bt s 1), .int .i64 ((s.size : Int) - 8)]) (by kernel_rfl) inz32 (by decide) (one_ls _ rfl) (fun j hj => by rw [if_pos (by omega), Nat.sub_zero]) ?_
                      intro u13 M
                      replace M : Mem ⟨w, []⟩ [⟨g1, .cells (av 9 (ls [.bool (v0), .int .u64 h0, .int .u64 l0, .bool (v1), .int .u64 h1, .int .u64 l1, .int .u8 p, .int .u8 t, .string s])) 26⟩, ⟨g2, .cells (av 13 (ls [.int .u8 p, .bool (v0), .int .u64 h0, .int .u64 l0, .bool (v1), .int .u64 h1, .int .u64 l1, .int .u16 (pr s 4), .int .u16 (pr s 4), .int .u8 0, .int .u8 (bt s 0), .int .u8 (bt s 1), .int .i64 ((s.size : Int) - 8)])) 32⟩, ⟨g3, .cells (av 13 (ls [.int .u8 p, .bool (v0), .int .u64 h0, .int .u64 l0, .bool (v1), .int .u64 h1, .int .u64 l1, .int .u16 (pr s 4), .int .u16 (pr s 4), .int .u8 0, .int .u8 (bt s 0), .int .u8 (bt s 1), .int .i64 ((s.size : Int) - 8)])) 32⟩] u13 := M
                      refine pl_val (want_no rfl) (some 3) rfl (.int .i64 0) (fun _ => by kernel_rfl) ?_
                      refine pl_nil ?_
                      refine au_then ?_
                      refine wp_ret ?_
                      have hE : dE v0 h0 l0 v1 h1 l1 p s = 0 := by unfold dE fO fE fS; simp only [ite_self, if_pos c0, if_neg c1, if_neg c2, if_pos c3, if_neg c4, if_neg (Bool.eq_false_iff.mp c5), if_pos (eP_4 c5 c3), if_neg c6, if_pos c7]
                      have hn : ∀ x : Int, zI 0 x = x := fun x => if_pos rfl
                      have hm : ∀ x : Bool, zB 0 x = x := fun x => if_pos rfl
                      have he : ec p (bt s 0) = true := by rw [ec_4 _ _ c3]; simp [c8, c9]
                      have e7 : (hFr p s) = (pr s 4) := by simp only [hFr, hTo, hFl, hKi, hCo, hSz, hdO, if_pos c0, if_neg c1, if_neg c2, if_pos c3, if_neg c4, if_neg (Bool.eq_false_iff.mp c5), if_pos (eP_4 c5 c3), if_neg c6, if_pos c7, if_pos he]
                      have e8 : (hTo p s) = (pr s 4) := by simp only [hFr, hTo, hFl, hKi, hCo, hSz, hdO, if_pos c0, if_neg c1, if_neg c2, if_pos c3, if_neg c4, if_neg (Bool.eq_false_iff.mp c5), if_pos (eP_4 c5 c3), if_neg c6, if_pos c7, if_pos he]
                      have e9 : (hFl p s) = 0 := by simp only [hFr, hTo, hFl, hKi, hCo, hSz, hdO, if_pos c0, if_neg c1, if_neg c2, if_pos c3, if_neg c4, if_neg (Bool.eq_false_iff.mp c5), if_pos (eP_4 c5 c3), if_neg c6, if_pos c7, if_pos he]
                      have e10 : (hKi p s) = (bt s 0) := by simp only [hFr, hTo, hFl, hKi, hCo, hSz, hdO, if_pos c0, if_neg c1, if_neg c2, if_pos c3, if_neg c4, if_neg (Bool.eq_false_iff.mp c5), if_pos (eP_4 c5 c3), if_neg c6, if_pos c7, if_pos he]
                      have e11 : (hCo p s) = (bt s 1) := by simp only [hFr, hTo, hFl, hKi, hCo, hSz, hdO, if_pos c0, if_neg c1, if_neg c2, if_pos c3, if_neg c4, if_neg (Bool.eq_false_iff.mp c5), if_pos (eP_4 c5 c3), if_neg c6, if_pos c7, if_pos he]
                      have e12 : (hSz p s) = ((s.size : Int) - 8) := by simp only [hFr, hTo, hFl, hKi, hCo, hSz, hdO, if_pos c0, if_neg c1, if_neg c2, if_pos c3, if_neg c4, if_neg (Bool.eq_false_iff.mp c5), if_pos (eP_4 c5 c3), if_neg c6, if_pos c7, if_pos he]
                      exact bodyPost_ret (v := .tuple #[.agg (av 13 (ls [.int .u8 p, .bool (v0), .int .u64 h0, .int .u64 l0, .bool (v1), .int .u64 h1, .int .u64 l1, .int .u16 (pr s 4), .int .u16 (pr s 4), .int .u8 0, .int .u8 (bt s 0), .int .u8 (bt s 1), .int .i64 ((s.size : Int) - 8)])), .int .i64 0]) (results_cell_tmp Try.results9 _ _ g2 32 (av 13 (ls [.int .u8 p, .bool (v0), .int .u64 h0, .int .u64 l0, .bool (v1), .int .u64 h1, .int .u64 l1, .int .u16 (pr s 4), .int .u16 (pr s 4), .int .u8 0, .int .u8 (bt s 0), .int .u8 (bt s 1), .int .i64 ((s.size : Int) - 8)])) (0, 0) _ _ (by kernel_rfl) (by kernel_rfl) (M.get 1 rfl) Try.underlying32 rfl (by rw [av_size]; exact inz32)) (by kernel_rfl) ⟨by simp only [hE, hn, hm, e7, e8, e9, e10, e11, e12], below_grown M.old⟩
                    · skip
                      refine pl_val (want_on 9 false rfl 146 rfl (by kernel_rfl)) (some 149) rfl (.bool false) (fun w => Eq.trans (b := .ok (.value (.bool (decide ((bt s 0) = 0)))) w) (by kernel_rfl) (by rw [decide_eq_false (c9)])) ?_
                      refine pl_val (want_on 9 false rfl 146 rfl (by kernel_rfl)) (some 150) rfl (.bool false) (fun _ => by kernel_rfl) ?_
                      refine pl_skip (want_off 13 true rfl 150 rfl (by kernel_rfl)) (some 151) rfl ?_
                      refine pl_skip (want_off 13 true rfl 150 rfl (by kernel_rfl)) (some 152) rfl ?_
                      refine pl_skip (want_off 13 true rfl 150 rfl (by kernel_rfl)) (some 153) rfl ?_
                      refine pl_skip (want_off 13 true rfl 150 rfl (by kernel_rfl)) (some 154) rfl ?_
                      refine pl_val (want_on 9 false rfl 146 rfl (by kernel_rfl)) (some 155) rfl (.bool false) (fun _ => by kernel_rfl) ?_
                      refine pl_val (want_no rfl) (some 156) rfl (.bool false) (fun _ => by kernel_rfl) ?_
                      refine pl_val (want_no rfl) (some 157) rfl (.bool false) (fun _ => by kernel_rfl) ?_
                      refine pl_val (want_on 20 false rfl 157 rfl (by kernel_rfl)) (some 158) rfl (.pointer (some ⟨g1, 0, none⟩)) (fun _ => by kernel_rfl) ?_
                      refine pl_val (want_on 20 false rfl 157 rfl (by kernel_rfl)) (some 159) rfl (.pointer (some ⟨g1, 0, none⟩)) (fun _ => by kernel_rfl) ?_
                      refine pl_cell M (want_on 20 false rfl 157 rfl (by kernel_rfl)) (some 160) rfl 4 _ rfl g1 0 (by kernel_rfl) (.bool false) (fun _ => by kernel_rfl) (fun w M => M.cell 0 rfl (by decide) (congrArg Value.bool c5)) ?_
                      refine pl_val (want_on 20 false rfl 157 rfl (by kernel_rfl)) (some 161) rfl (.bool false) (fun _ => by kernel_rfl) ?_
                      refine pl_skip (want_off 24 true rfl 161 rfl (by kernel_rfl)) (some 162) rfl ?_
                      refine pl_skip (want_off 24 true rfl 161 rfl (by kernel_rfl)) (some 163) rfl ?_
                      refine pl_skip (want_off 24 true rfl 161 rfl (by kernel_rfl)) (some 164) rfl ?_
                      refine pl_skip (want_off 24 true rfl 161 rfl (by kernel_rfl)) (some 165) rfl ?_
                      refine pl_skip (want_und 28 false rfl 165 rfl (by kernel_rfl)) (some 166) rfl ?_
                      refine pl_skip (want_und 28 false rfl 165 rfl (by kernel_rfl)) (some 167) rfl ?_
                      refine pl_skip (want_und 28 false rfl 165 rfl (by kernel_rfl)) (some 168) rfl ?_
                      refine pl_skip (want_off 24 true rfl 161 rfl (by kernel_rfl)) (some 169) rfl ?_
                      refine pl_val (want_on 20 false rfl 157 rfl (by kernel_rfl)) (some 170) rfl (.bool false) (fun _ => by kernel_rfl) ?_
                      refine pl_val (want_no rfl) (some 171) rfl (.bool false) (fun _ => by kernel_rfl) ?_
                      refine pl_nil ?_
                      refine au_then ?_
                      refine wp_cond_false (by kernel_rfl) ?_
                      refine wp_skip ?_
                      refine au_then ?_
                      refine rg_lit ?_
                      refine pl_val (want_no rfl) (some 182) rfl (.string s) (fun _ => by kernel_rfl) ?_
                      refine pl_val (want_no rfl) (some 183) rfl (.int .i64 (s.size : Int)) (fun _ => by kernel_rfl) ?_
                      refine pl_val (want_no rfl) (some 184) rfl (.int .i64 ((s.size : Int) - 8)) (fun w => Eq.trans (b := .ok (.value (.int .i64 (IntKind.wrap .i64 ((s.size : Int) - 8)))) w) (by kernel_rfl) (by rw [wrap64 (by omega) (by omega)])) ?_
                      refine pl_val (want_no rfl) (some 185) rfl (.pointer (some ⟨g3, 12, none⟩)) (fun _ => by kernel_rfl) ?_
                      refine pl_put1 M (want_no rfl) rfl 3 _ _ rfl 2 g3 12 (by kernel_rfl) 13 32 (ls [.int .u8 p, .bool (v0), .int .u64 h0, .int .u64 l0, .bool (v1), .int .u64 h1, .int .u64 l1, .int .u16 0, .int .u16 0, .int .u8 0, .int .u8 (bt s 0), .int .u8 (bt s 1), .int .i64 0]) rfl (.int .i64 ((s.size : Int) - 8)) (ls [.int .u8 p, .bool (v0), .int .u64 h0, .int .u64 l0, .bool (v1), .int .u64 h1, .int .u64 l1, .int .u16 0, .int .u16 0, .int .u8 0, .int .u8 (bt s 0), .int .u8 (bt s 1), .int .i64 ((s.size : Int) - 8)]) (by kernel_rfl) inz3 (by decide) rfl rfl (put_ls _ 12 _ _ rfl) ?_
                      intro u9 M
                      replace M : Mem ⟨w, []⟩ [⟨g1, .cells (av 9 (ls [.bool (v0), .int .u64 h0, .int .u64 l0, .bool (v1), .int .u64 h1, .int .u64 l1, .int .u8 p, .int .u8 t, .string s])) 26⟩, ⟨g2, .cells (av 13 (ls [.int .u8 0, .bool false, .int .u64 0, .int .u64 0, .bool false, .int .u64 0, .int .u64 0, .int .u16 0, .int .u16 0, .int .u8 0, .int .u8 0, .int .u8 0, .int .i64 0])) 32⟩, ⟨g3, .cells (av 13 (ls [.int .u8 p, .bool (v0), .int .u64 h0, .int .u64 l0, .bool (v1), .int .u64 h1, .int .u64 l1, .int .u16 0, .int .u16 0, .int .u8 0, .int .u8 (bt s 0), .int .u8 (bt s 1), .int .i64 ((s.size : Int) - 8)])) 32⟩] u9 := M
                      refine pl_nil ?_
                      refine au_block ?_
                      refine au_then ?_
                      refine wp_seq ?_
                      refine rg_lit ?_
                      refine pl_load M (want_no rfl) (some 186) rfl 32 _ rfl 2 g3 0 (by kernel_rfl) 13 32 (ls [.int .u8 p, .bool (v0), .int .u64 h0, .int .u64 l0, .bool (v1), .int .u64 h1, .int .u64 l1, .int .u16 0, .int .u16 0, .int .u8 0, .int .u8 (bt s 0), .int .u8 (bt s 1), .int .i64 ((s.size : Int) - 8)]) rfl 13 (ls [.int .u8 p, .bool (v0), .int .u64 h0, .int .u64 l0, .bool (v1), .int .u64 h1, .int .u64 l1, .int .u16 0, .int .u16 0, .int .u8 0, .int .u8 (bt s 0), .int .u8 (bt s 1), .int .i64 ((s.size : Int) - 8)]) (fun j _ => by rw [Nat.zero_add]) (by decide) _ Try.underlying32 rfl inz32 ?_
                      refine pl_put M (want_no rfl) rfl 32 _ _ rfl 1 g2 0 (by kernel_rfl) 13 32 (ls [.int .u8 0, .bool false, .int .u64 0, .int .u64 0, .bool false, .int .u64 0, .int .u64 0, .int .u16 0, .int .u16 0, .int .u8 0, .int .u8 0, .int .u8 0, .int .i64 0]) rfl 13 (ls [.int .u8 p, .bool (v0), .int .u64 h0, .int .u64 l0, .bool (v1), .int .u64 h1, .int .u64 l1, .int .u16 0, .int .u16 0, .int .u8 0, .int .u8 (bt s 0), .int .u8 (bt s 1), .int .i64 ((s.size : Int) - 8)]) (ls [.int .u8 p, .bool (v0), .int .u64 h0, .int .u64 l0, .bool (v1), .int .u64 h1, .int .u64 l1, .int .u16 0, .int .u16 0, .int .u8 0, .int .u8 (bt s 0), .int .u8 (bt s 1), .int .i64 ((s.size : Int) - 8)]) (by kernel_rfl) inz32 (by decide) (one_ls _ rfl) (fun j hj => by rw [if_pos (by omega), Nat.sub_zero]) ?_
                      intro u10 M
                      replace M : Mem ⟨w, []⟩ [⟨g1, .cells (av 9 (ls [.bool (v0), .int .u64 h0, .int .u64 l0, .bool (v1), .int .u64 h1, .int .u64 l1, .int .u8 p, .int .u8 t, .string s])) 26⟩, ⟨g2, .cells (av 13 (ls [.int .u8 p, .bool (v0), .int .u64 h0, .int .u64 l0, .bool (v1), .int .u64 h1, .int .u64 l1, .int .u16 0, .int .u16 0, .int .u8 0, .int .u8 (bt s 0), .int .u8 (bt s 1), .int .i64 ((s.size : Int) - 8)])) 32⟩, ⟨g3, .cells (av 13 (ls [.int .u8 p, .bool (v0), .int .u64 h0, .int .u64 l0, .bool (v1), .int .u64 h1, .int .u64 l1, .int .u16 0, .int .u16 0, .int .u8 0, .int .u8 (bt s 0), .int .u8 (bt s 1), .int .i64 ((s.size : Int) - 8)])) 32⟩] u10 := M
                      refine pl_val (want_no rfl) (some 3) rfl (.int .i64 0) (fun _ => by kernel_rfl) ?_
                      refine pl_nil ?_
                      refine au_then ?_
                      refine wp_ret ?_
                      have hE : dE v0 h0 l0 v1 h1 l1 p s = 0 := by unfold dE fO fE fS; simp only [ite_self, if_pos c0, if_neg c1, if_neg c2, if_pos c3, if_neg c4, if_neg (Bool.eq_false_iff.mp c5), if_pos (eP_4 c5 c3), if_neg c6, if_pos c7]
                      have hn : ∀ x : Int, zI 0 x = x := fun x => if_pos rfl
                      have hm : ∀ x : Bool, zB 0 x = x := fun x => if_pos rfl
                      have he : ec p (bt s 0) = false := by rw [ec_4 _ _ c3]; simp [c8, c9]
                      have e7 : (hFr p s) = 0 := by simp only [hFr, hTo, hFl, hKi, hCo, hSz, hdO, if_pos c0, if_neg c1, if_neg c2, if_pos c3, if_neg c4, if_neg (Bool.eq_false_iff.mp c5), if_pos (eP_4 c5 c3), if_neg c6, if_pos c7, if_neg (Bool.eq_false_iff.mp he)]
                      have e8 : (hTo p s) = 0 := by simp only [hFr, hTo, hFl, hKi, hCo, hSz, hdO, if_pos c0, if_neg c1, if_neg c2, if_pos c3, if_neg c4, if_neg (Bool.eq_false_iff.mp c5), if_pos (eP_4 c5 c3), if_neg c6, if_pos c7, if_neg (Bool.eq_false_iff.mp he)]
                      have e9 : (hFl p s) = 0 := by simp only [hFr, hTo, hFl, hKi, hCo, hSz, hdO, if_pos c0, if_neg c1, if_neg c2, if_pos c3, if_neg c4, if_neg (Bool.eq_false_iff.mp c5), if_pos (eP_4 c5 c3), if_neg c6, if_pos c7, if_neg (Bool.eq_false_iff.mp he)]
                      have e10 : (hKi p s) = (bt s 0) := by simp only [hFr, hTo, hFl, hKi, hCo, hSz, hdO, if_pos c0, if_neg c1, if_neg c2, if_pos c3, if_neg c4, if_neg (Bool.eq_false_iff.mp c5), if_pos (eP_4 c5 c3), if_neg c6, if_pos c7, if_neg (Bool.eq_false_iff.mp he)]
                      have e11 : (hCo p s) = (bt s 1) := by simp only [hFr, hTo, hFl, hKi, hCo, hSz, hdO, if_pos c0, if_neg c1, if_neg c2, if_pos c3, if_neg c4, if_neg (Bool.eq_false_iff.mp c5), if_pos (eP_4 c5 c3), if_neg c6, if_pos c7, if_neg (Bool.eq_false_iff.mp he)]
                      have e12 : (hSz p s) = ((s.size : Int) - 8) := by simp only [hFr, hTo, hFl, hKi, hCo, hSz, hdO, if_pos c0, if_neg c1, if_neg c2, if_pos c3, if_neg c4, if_neg (Bool.eq_false_iff.mp c5), if_pos (eP_4 c5 c3), if_neg c6, if_pos c7, if_neg (Bool.eq_false_iff.mp he)]
                      exact bodyPost_ret (v := .tuple #[.agg (av 13 (ls [.int .u8 p, .bool (v0), .int .u64 h0, .int .u64 l0, .bool (v1), .int .u64 h1, .int .u64 l1, .int .u16 0, .int .u16 0, .int .u8 0, .int .u8 (bt s 0), .int .u8 (bt s 1), .int .i64 ((s.size : Int) - 8)])), .int .i64 0]) (results_cell_tmp Try.results9 _ _ g2 32 (av 13 (ls [.int .u8 p, .bool (v0), .int .u64 h0, .int .u64 l0, .bool (v1), .int .u64 h1, .int .u64 l1, .int .u16 0, .int .u16 0, .int .u8 0, .int .u8 (bt s 0), .int .u8 (bt s 1), .int .i64 ((s.size : Int) - 8)])) (0, 0) _ _ (by kernel_rfl) (by kernel_rfl) (M.get 1 rfl) Try.underlying32 rfl (by rw [av_size]; exact inz32)) (by kernel_rfl) ⟨by simp only [hE, hn, hm, e7, e8, e9, e10, e11, e12], below_grown M.old⟩
                · skip
                  refine pl_val (want_no rfl) (some 129) rfl (.bool true) (fun w => Eq.trans (b := .ok (.value (.bool (!(decide ((sO v0 h0 l0 v1 h1 l1 p s) = 0))))) w) (by kernel_rfl) (by rw [decide_eq_false (c7)]; rfl)) ?_
                  refine pl_nil ?_
                  refine au_then ?_
                  refine wp_cond_true (by kernel_rfl) ?_
                  refine wp_seq ?_
                  refine rg_lit ?_
                  refine pl_val (want_no rfl) (some 130) rfl (.agg (av 13 (ls [.int .u8 0, .bool false, .int .u64 0, .int .u64 0, .bool false, .int .u64 0, .int .u64 0, .int .u16 0, .int .u16 0, .int .u8 0, .int .u8 0, .int .u8 0, .int .i64 0]))) (fun _ => by kernel_rfl) ?_
                  refine pl_put M (want_no rfl) rfl 32 _ _ rfl 1 g2 0 (by kernel_rfl) 13 32 (ls [.int .u8 0, .bool false, .int .u64 0, .int .u64 0, .bool false, .int .u64 0, .int .u64 0, .int .u16 0, .int .u16 0, .int .u8 0, .int .u8 0, .int .u8 0, .int .i64 0]) rfl 13 (ls [.int .u8 0, .bool false, .int .u64 0, .int .u64 0, .bool false, .int .u64 0, .int .u64 0, .int .u16 0, .int .u16 0, .int .u8 0, .int .u8 0, .int .u8 0, .int .i64 0]) (ls [.int .u8 0, .bool false, .int .u64 0, .int .u64 0, .bool false, .int .u64 0, .int .u64 0, .int .u16 0, .int .u16 0, .int .u8 0, .int .u8 0, .int .u8 0, .int .i64 0]) (by kernel_rfl) inz32 (by decide) (one_ls _ rfl) (fun j hj => by rw [if_pos (by omega), Nat.sub_zero]) ?_
                  intro u7 M
                  replace M : Mem ⟨w, []⟩ [⟨g1, .cells (av 9 (ls [.bool (v0), .int .u64 h0, .int .u64 l0, .bool (v1), .int .u64 h1, .int .u64 l1, .int .u8 p, .int .u8 t, .string s])) 26⟩, ⟨g2, .cells (av 13 (ls [.int .u8 0, .bool false, .int .u64 0, .int .u64 0, .bool false, .int .u64 0, .int .u64 0, .int .u16 0, .int .u16 0, .int .u8 0, .int .u8 0, .int .u8 0, .int .i64 0])) 32⟩, ⟨g3, .cells (av 13 (ls [.int .u8 p, .bool (v0), .int .u64 h0, .int .u64 l0, .bool (v1), .int .u64 h1, .int .u64 l1, .int .u16 0, .int .u16 0, .int .u8 0, .int .u8 0, .int .u8 0, .int .i64 0])) 32⟩] u7 := M
                  refine pl_val (want_no rfl) (some 3) rfl (.int .i64 131) (fun _ => by kernel_rfl) ?_
                  refine pl_nil ?_
                  refine au_then ?_
                  refine wp_ret ?_
                  refine au_then_ret ?_
                  refine au_block_ret ?_
                  refine au_then_ret ?_
                  have hE : dE v0 h0 l0 v1 h1 l1 p s = 131 := by unfold dE fO fE fS; simp only [ite_self, if_pos c0, if_neg c1, if_neg c2, if_pos c3, if_neg c4, if_neg (Bool.eq_false_iff.mp c5), if_pos (eP_4 c5 c3), if_neg c6, if_neg c7]
                  have hn : ∀ x : Int, zI 131 x = 0 := fun x => if_neg (by decide)
                  have hm : ∀ x : Bool, zB 131 x = false := fun x => if_neg (by decide)
                  exact bodyPost_ret (v := .tuple #[.agg (av 13 (ls [.int .u8 0, .bool false, .int .u64 0, .int .u64 0, .bool false, .int .u64 0, .int .u64 0, .int .u16 0, .int .u16 0, .int .u8 0, .int .u8 0, .int .u8 0, .int .i64 0])), .int .i64 131]) (results_cell_tmp Try.results9 _ _ g2 32 (av 13 (ls [.int .u8 0, .bool false, .int .u64 0, .int .u64 0, .bool false, .int .u64 0, .int .u64 0, .int .u16 0, .int .u16 0, .int .u8 0, .int .u8 0, .int .u8 0, .int .i64 0])) (0, 0) _ _ (by kernel_rfl) (by kernel_rfl) (M.get 1 rfl) Try.underlying32 rfl (by rw [av_size]; exact inz32)) (by kernel_rfl) ⟨by simp only [hE, hn, hm], below_grown M.old⟩
        · skip
          refine pl_val (want_no rfl) (some 113) rfl (.bool false) (fun w => Eq.trans (b := .ok (.value (.bool (decide (p = 1)))) w) (by kernel_rfl) (by rw [decide_eq_false (c3)])) ?_
          refine pl_val (want_no rfl) (some 112) rfl (.bool false) (fun _ => by kernel_rfl) ?_
          refine pl_nil ?_
          refine au_then ?_
          refine wp_cond_false (by kernel_rfl) ?_
          refine rg_lit ?_
          by_cases c4 : p = 58
          · skip
            refine pl_val (want_no rfl) (some 114) rfl (.bool true) (fun w => Eq.trans (b := .ok (.value (.bool (decide (p = 58)))) w) (by kernel_rfl) (by rw [decide_eq_true (c4)])) ?_
            refine pl_val (want_no rfl) (some 112) rfl (.bool true) (fun _ => by kernel_rfl) ?_
            refine pl_nil ?_
            refine au_then ?_
            refine wp_cond_true (by kernel_rfl) ?_
            refine wp_seq ?_
            refine wp_seq ?_
            refine rg_lit ?_
            refine pl_val (want_no rfl) (some 115) rfl (.pointer (some ⟨g1, 6, none⟩)) (fun _ => by kernel_rfl) ?_
            refine pl_cell M (want_no rfl) (some 116) rfl 5 _ rfl g1 6 (by kernel_rfl) (.int .u8 p) (fun _ => by kernel_rfl) (fun w M => M.cell 0 rfl (by decide) rfl) ?_
            refine pl_val (want_no rfl) (some 117) rfl (.bool true) (fun w => Eq.trans (b := .ok (.value (.bool (decide (p = 58)))) w) (by kernel_rfl) (by rw [decide_eq_true (c4)])) ?_
            refine pl_val (want_no rfl) (some 118) rfl (.pointer (some ⟨g1, 0, none⟩)) (fun _ => by kernel_rfl) ?_
            refine pl_val (want_no rfl) (some 119) rfl (.pointer (some ⟨g1, 0, none⟩)) (fun _ => by kernel_rfl) ?_
            rcases Bool.eq_false_or_eq_true (v0) with c5 | c5
            · skip
              refine pl_cell M (want_no rfl) (some 120) rfl 4 _ rfl g1 0 (by kernel_rfl) (.bool true) (fun _ => by kernel_rfl) (fun w M => M.cell 0 rfl (by decide) (congrArg Value.bool c5)) ?_
              refine pl_val (want_no rfl) (some 121) rfl (.bool false) (fun _ => by kernel_rfl) ?_
              refine pl_nil ?_
              refine au_then ?_
              refine wp_cond_false (by kernel_rfl) ?_
              refine wp_skip ?_
              refine au_then ?_
              refine wp_seq ?_
              refine wp_seq ?_
              refine rg_lit ?_
              refine pl_val (want_no rfl) (some 123) rfl (.string s) (fun _ => by kernel_rfl) ?_
              refine pl_val (want_no rfl) (some 124) rfl (.int .i64 (s.size : Int)) (fun _ => by kernel_rfl) ?_
              by_cases c6 : (s.size : Int) < 8
              · skip
                refine pl_val (want_no rfl) (some 125) rfl (.bool true) (fun w => Eq.trans (b := .ok (.value (.bool (decide ((s.size : Int) < 8)))) w) (by kernel_rfl) (by rw [decide_eq_true (c6)])) ?_
                refine pl_nil ?_
                refine au_then ?_
                refine wp_cond_true (by kernel_rfl) ?_
                refine wp_seq ?_
                refine rg_lit ?_
                refine pl_val (want_no rfl) (some 126) rfl (.agg (av 13 (ls [.int .u8 0, .bool false, .int .u64 0, .int .u64 0, .bool false, .int .u64 0, .int .u64 0, .int .u16 0, .int .u16 0, .int .u8 0, .int .u8 0, .int .u8 0, .int .i64 0]))) (fun _ => by kernel_rfl) ?_
                refine pl_put M (want_no rfl) rfl 32 _ _ rfl 1 g2 0 (by kernel_rfl) 13 32 (ls [.int .u8 0, .bool false, .int .u64 0, .int .u64 0, .bool false, .int .u64 0, .int .u64 0, .int .u16 0, .int .u16 0, .int .u8 0, .int .u8 0, .int .u8 0, .int .i64 0]) rfl 13 (ls [.int .u8 0, .bool false, .int .u64 0, .int .u64 0, .bool false, .int .u64 0, .int .u64 0, .int .u16 0, .int .u16 0, .int .u8 0, .int .u8 0, .int .u8 0, .int .i64 0]) (ls [.int .u8 0, .bool false, .int .u64 0, .int .u64 0, .bool false, .int .u64 0, .int .u64 0, .int .u16 0, .int .u16 0, .int .u8 0, .int .u8 0, .int .u8 0, .int .i64 0]) (by kernel_rfl) inz32 (by decide) (one_ls _ rfl) (fun j hj => by rw [if_pos (by omega), Nat.sub_zero]) ?_
                intro u6 M
                replace M : Mem ⟨w, []⟩ [⟨g1, .cells (av 9 (ls [.bool (v0), .int .u64 h0, .int .u64 l0, .bool (v1), .int .u64 h1, .int .u64 l1, .int .u8 p, .int .u8 t, .string s])) 26⟩, ⟨g2, .cells (av 13 (ls [.int .u8 0, .bool false, .int .u64 0, .int .u64 0, .bool false, .int .u64 0, .int .u64 0, .int .u16 0, .int .u16 0, .int .u8 0, .int .u8 0, .int .u8 0, .int .i64 0])) 32⟩, ⟨g3, .cells (av 13 (ls [.int .u8 p, .bool (v0), .int .u64 h0, .int .u64 l0, .bool (v1), .int .u64 h1, .int .u64 l1, .int .u16 0, .int .u16 0, .int .u8 0, .int .u8 0, .int .u8 0, .int .i64 0])) 32⟩] u6 := M
                refine pl_val (want_no rfl) (some 3) rfl (.int .i64 7) (fun _ => by kernel_rfl) ?_
                refine pl_nil ?_
                refine au_then ?_
                refine wp_ret ?_
                refine au_then_ret ?_
                refine au_block_ret ?_
                refine au_then_ret ?_
                have hE : dE v0 h0 l0 v1 h1 l1 p s = 7 := by unfold dE fO fE fS; simp only [ite_self, if_pos c0, if_neg c1, if_neg c2, if_neg c3, if_pos c4, if_pos c5, if_pos (eP_6 c5 c4), if_pos c6]
                have hn : ∀ x : Int, zI 7 x = 0 := fun x => if_neg (by decide)
                have hm : ∀ x : Bool, zB 7 x = false := fun x => if_neg (by decide)
                exact bodyPost_ret (v := .tuple #[.agg (av 13 (ls [.int .u8 0, .bool false, .int .u64 0, .int .u64 0, .bool false, .int .u64 0, .int .u64 0, .int .u16 0, .int .u16 0, .int .u8 0, .int .u8 0, .int .u8 0, .int .i64 0])), .int .i64 7]) (results_cell_tmp Try.results9 _ _ g2 32 (av 13 (ls [.int .u8 0, .bool false, .int .u64 0, .int .u64 0, .bool false, .int .u64 0, .int .u64 0, .int .u16 0, .int .u16 0, .int .u8 0, .int .u8 0, .int .u8 0, .int .i64 0])) (0, 0) _ _ (by kernel_rfl) (by kernel_rfl) (M.get 1 rfl) Try.underlying32 rfl (by rw [av_size]; exact inz32)) (by kernel_rfl) ⟨by simp only [hE, hn, hm], below_grown M.old⟩
              · skip
                refine pl_val (want_no rfl) (some 125) rfl (.bool false) (fun w => Eq.trans (b := .ok (.value (.bool (decide ((s.size : Int) < 8)))) w) (by kernel_rfl) (by rw [decide_eq_false (c6)])) ?_
                refine pl_nil ?_
                refine au_then ?_
                refine wp_cond_false (by kernel_rfl) ?_
                refine wp_skip ?_
                refine au_then ?_
                refine wp_seq ?_
                refine wp_seq ?_
                refine rg_lit ?_
                refine pl_load M (want_no rfl) (some 127) rfl 26 _ rfl 0 g1 0 (by kernel_rfl) 9 26 (ls [.bool (v0), .int .u64 h0, .int .u64 l0, .bool (v1), .int .u64 h1, .int .u64 l1, .int .u8 p, .int .u8 t, .string s]) rfl 9 (ls [.bool (v0), .int .u64 h0, .int .u64 l0, .bool (v1), .int .u64 h1, .int .u64 l1, .int .u8 p, .int .u8 t, .string s]) (fun j _ => by rw [Nat.zero_add]) (by decide) _ Try.underlying26 rfl inz26 ?_
                refine pl_call M (want_no rfl) (some 128) rfl 26 #[.agg (av 9 (ls [.bool (v0), .int .u64 h0, .int .u64 l0, .bool (v1), .int .u64 h1, .int .u64 l1, .int .u8 p, .int .u8 t, .string s]))] (.int .u16 (sO v0 h0 l0 v1 h1 l1 p s)) (fun _ => by kernel_rfl) (fun w M => d_sum v0 h0 l0 v1 h1 l1 p t s (by omega) (by omega) w M.laid) ?_
                intro u6 M
                by_cases c7 : (sO v0 h0 l0 v1 h1 l1 p s) = 0
                · skip
                  refine pl_val (want_no rfl) (some 129) rfl (.bool false) (fun w => Eq.trans (b := .ok (.value (.bool (!(decide ((sO v0 h0 l0 v1 h1 l1 p s) = 0))))) w) (by kernel_rfl) (by rw [decide_eq_true (c7)]; rfl)) ?_
                  refine pl_nil ?_
                  refine au_then ?_
                  refine wp_cond_false (by kernel_rfl) ?_
                  refine wp_skip ?_
                  refine au_then ?_
                  refine wp_seq ?_
                  refine rg_lit ?_
                  refine pl_val (want_no rfl) (some 131) rfl (.string s) (fun _ => by kernel_rfl) ?_
                  refine pl_val (want_no rfl) (some 132) rfl (.int .u8 (bt s 0)) (run_ixS 9 Try.underlying9 _ _ rfl s (by kernel_rfl) .i64 0 (by kernel_rfl) (by omega)) ?_
                  refine pl_val (want_no rfl) (some 133) rfl (.pointer (some ⟨g3, 10, none⟩)) (fun _ => by kernel_rfl) ?_
                  refine pl_put1 M (want_no rfl) rfl 5 _ _ rfl 2 g3 10 (by kernel_rfl) 13 32 (ls [.int .u8 p, .bool (v0), .int .u64 h0, .int .u64 l0, .bool (v1), .int .u64 h1, .int .u64 l1, .int .u16 0, .int .u16 0, .int .u8 0, .int .u8 0, .int .u8 0, .int .i64 0]) rfl (.int .u8 (bt s 0)) (ls [.int .u8 p, .bool (v0), .int .u64 h0, .int .u64 l0, .bool (v1), .int .u64 h1, .int .u64 l1, .int .u16 0, .int .u16 0, .int .u8 0, .int .u8 (bt s 0), .int .u8 0, .int .i64 0]) (by kernel_rfl) inz5 (by decide) rfl rfl (put_ls _ 10 _ _ rfl) ?_
                  intro u7 M
                  replace M : Mem ⟨w, []⟩ [⟨g1, .cells (av 9 (ls [.bool (v0), .int .u64 h0, .int .u64 l0, .bool (v1), .int .u64 h1, .int .u64 l1, .int .u8 p, .int .u8 t, .string s])) 26⟩, ⟨g2, .cells (av 13 (ls [.int .u8 0, .bool false, .int .u64 0, .int .u64 0, .bool false, .int .u64 0, .int .u64 0, .int .u16 0, .int .u16 0, .int .u8 0, .int .u8 0, .int .u8 0, .int .i64 0])) 32⟩, ⟨g3, .cells (av 13 (ls [.int .u8 p, .bool (v0), .int .u64 h0, .int .u64 l0, .bool (v1), .int .u64 h1, .int .u64 l1, .int .u16 0, .int .u16 0, .int .u8 0, .int .u8 (bt s 0), .int .u8 0, .int .i64 0])) 32⟩] u7 := M
                  refine pl_nil ?_
                  refine au_then ?_
                  refine wp_seq ?_
                  refine rg_lit ?_
                  refine pl_val (want_no rfl) (some 134) rfl (.string s) (fun _ => by kernel_rfl) ?_
                  refine pl_val (want_no rfl) (some 135) rfl (.int .u8 (bt s 1)) (run_ixS 9 Try.underlying9 _ _ rfl s (by kernel_rfl) .i64 1 (by kernel_rfl) (by omega)) ?_
                  refine pl_val (want_no rfl) (some 136) rfl (.pointer (some ⟨g3, 11, none⟩)) (fun _ => by kernel_rfl) ?_
                  refine pl_put1 M (want_no rfl) rfl 5 _ _ rfl 2 g3 11 (by kernel_rfl) 13 32 (ls [.int .u8 p, .bool (v0), .int .u64 h0, .int .u64 l0, .bool (v1), .int .u64 h1, .int .u64 l1, .int .u16 0, .int .u16 0, .int .u8 0, .int .u8 (bt s 0), .int .u8 0, .int .i64 0]) rfl (.int .u8 (bt s 1)) (ls [.int .u8 p, .bool (v0), .int .u64 h0, .int .u64 l0, .bool (v1), .int .u64 h1, .int .u64 l1, .int .u16 0, .int .u16 0, .int .u8 0, .int .u8 (bt s 0), .int .u8 (bt s 1), .int .i64 0]) (by kernel_rfl) inz5 (by decide) rfl rfl (put_ls _ 11 _ _ rfl) ?_
                  intro u8 M
                  replace M : Mem ⟨w, []⟩ [⟨g1, .cells (av 9 (ls [.bool (v0), .int .u64 h0, .int .u64 l0, .bool (v1), .int .u64 h1, .int .u64 l1, .int .u8 p, .int .u8 t, .string s])) 26⟩, ⟨g2, .cells (av 13 (ls [.int .u8 0, .bool false, .int .u64 0, .int .u64 0, .bool false, .int .u64 0, .int .u64 0, .int .u16 0, .int .u16 0, .int .u8 0, .int .u8 0, .int .u8 0, .int .i64 0])) 32⟩, ⟨g3, .cells (av 13 (ls [.int .u8 p, .bool (v0), .int .u64 h0, .int .u64 l0, .bool (v1), .int .u64 h1, .int .u64 l1, .int .u16 0, .int .u16 0, .int .u8 0, .int .u8 (bt s 0), .int .u8 (bt s 1), .int .i64 0])) 32⟩] u8 := M
                  refine pl_nil ?_
                  refine au_then ?_
                  refine wp_seq ?_
                  refine wp_seq ?_
                  refine rg_lit ?_
                  refine pl_val (want_no rfl) (some 137) rfl (.pointer (some ⟨g3, 10, none⟩)) (fun _ => by kernel_rfl) ?_
                  refine pl_cell M (want_no rfl) (some 138) rfl 5 _ rfl g3 10 (by kernel_rfl) (.int .u8 (bt s 0)) (fun _ => by kernel_rfl) (fun w M => M.cell 2 rfl (by decide) rfl) ?_
                  by_cases c8 : (bt s 0) = 8
                  · skip
                    refine pl_val (want_no rfl) (some 139) rfl (.bool true) (fun w => Eq.trans (b := .ok (.value (.bool (decide ((bt s 0) = 8)))) w) (by kernel_rfl) (by rw [decide_eq_true (c8)])) ?_
                    refine pl_val (want_no rfl) (some 140) rfl (.bool true) (fun _ => by kernel_rfl) ?_
                    refine pl_val (want_on 3 true rfl 140 rfl (by kernel_rfl)) (some 141) rfl (.pointer (some ⟨g1, 0, none⟩)) (fun _ => by kernel_rfl) ?_
                    refine pl_val (want_on 3 true rfl 140 rfl (by kernel_rfl)) (some 142) rfl (.pointer (some ⟨g1, 0, none⟩)) (fun _ => by kernel_rfl) ?_
                    refine pl_cell M (want_on 3 true rfl 140 rfl (by kernel_rfl)) (some 143) rfl 4 _ rfl g1 0 (by kernel_rfl) (.bool true) (fun _ => by kernel_rfl) (fun w M => M.cell 0 rfl (by decide) (congrArg Value.bool c5)) ?_
                    refine pl_val (want_on 3 true rfl 140 rfl (by kernel_rfl)) (some 144) rfl (.bool false) (fun _ => by kernel_rfl) ?_
                    refine pl_val (want_no rfl) (some 145) rfl (.bool false) (fun _ => by kernel_rfl) ?_
                    refine pl_val (want_no rfl) (some 146) rfl (.bool false) (fun _ => by kernel_rfl) ?_
                    refine pl_val (want_on 9 false rfl 146 rfl (by kernel_rfl)) (some 147) rfl (.pointer (some ⟨g3, 10, none⟩)) (fun _ => by kernel_rfl) ?_
                    refine pl_cell M (want_on 9 false rfl 146 rfl (by kernel_rfl)) (some 148) rfl 5 _ rfl g3 10 (by kernel_rfl) (.int .u8 (bt s 0)) (fun _ => by kernel_rfl) (fun w M => M.cell 2 rfl (by decide) rfl) ?_
                    by_cases c9 : (bt s 0) = 0
                    · exact absurd c9 (by omega)
                    · skip
                      refine pl_val (want_on 9 false rfl 146 rfl (by kernel_rfl)) (some 149) rfl (.bool false) (fun w => Eq.trans (b := .ok (.value (.bool (decide ((bt s 0) = 0)))) w) (by kernel_rfl) (by rw [decide_eq_false (c9)])) ?_
                      refine pl_val (want_on 9 false rfl 146 rfl (by kernel_rfl)) (some 150) rfl (.bool false) (fun _ => by kernel_rfl) ?_
                      refine pl_skip (want_off 13 true rfl 150 rfl (by kernel_rfl)) (some 151) rfl ?_
                      refine pl_skip (want_off 13 true rfl 150 rfl (by kernel_rfl)) (some 152) rfl ?_
                      refine pl_skip (want_off 13 true rfl 150 rfl (by kernel_rfl)) (some 153) rfl ?_
                      refine pl_skip (want_off 13 true rfl 150 rfl (by kernel_rfl)) (some 154) rfl ?_
                      refine pl_val (want_on 9 false rfl 146 rfl (by kernel_rfl)) (some 155) rfl (.bool false) (fun _ => by kernel_rfl) ?_
                      refine pl_val (want_no rfl) (some 156) rfl (.bool false) (fun _ => by kernel_rfl) ?_
                      refine pl_val (want_no rfl) (some 157) rfl (.bool false) (fun _ => by kernel_rfl) ?_
                      refine pl_val (want_on 20 false rfl 157 rfl (by kernel_rfl)) (some 158) rfl (.pointer (some ⟨g1, 0, none⟩)) (fun _ => by kernel_rfl) ?_
                      refine pl_val (want_on 20 false rfl 157 rfl (by kernel_rfl)) (some 159) rfl (.pointer (some ⟨g1, 0, none⟩)) (fun _ => by kernel_rfl) ?_
                      refine pl_cell M (want_on 20 false rfl 157 rfl (by kernel_rfl)) (some 160) rfl 4 _ rfl g1 0 (by kernel_rfl) (.bool true) (fun _ => by kernel_rfl) (fun w M => M.cell 0 rfl (by decide) (congrArg Value.bool c5)) ?_
                      refine pl_val (want_on 20 false rfl 157 rfl (by kernel_rfl)) (some 161) rfl (.bool true) (fun _ => by kernel_rfl) ?_
                      refine pl_val (want_on 24 true rfl 161 rfl (by kernel_rfl)) (some 162) rfl (.pointer (some ⟨g3, 10, none⟩)) (fun _ => by kernel_rfl) ?_
                      refine pl_cell M (want_on 24 true rfl 161 rfl (by kernel_rfl)) (some 163) rfl 5 _ rfl g3 10 (by kernel_rfl) (.int .u8 (bt s 0)) (fun _ => by kernel_rfl) (fun w M => M.cell 2 rfl (by decide) rfl) ?_
                      by_cases c10 : (bt s 0) = 128
                      · exact absurd c10 (by omega)
                      · skip
                        refine pl_val (want_on 24 true rfl 161 rfl (by kernel_rfl)) (some 164) rfl (.bool false) (fun w => Eq.trans (b := .ok (.value (.bool (decide ((bt s 0) = 128)))) w) (by kernel_rfl) (by rw [decide_eq_false (c10)])) ?_
                        refine pl_val (want_on 24 true rfl 161 rfl (by kernel_rfl)) (some 165) rfl (.bool false) (fun _ => by kernel_rfl) ?_
                        refine pl_val (want_on 28 false rfl 165 rfl (by kernel_rfl)) (some 166) rfl (.pointer (some ⟨g3, 10, none⟩)) (fun _ => by kernel_rfl) ?_
                        refine pl_cell M (want_on 28 false rfl 165 rfl (by kernel_rfl)) (some 167) rfl 5 _ rfl g3 10 (by kernel_rfl) (.int .u8 (bt s 0)) (fun _ => by kernel_rfl) (fun w M => M.cell 2 rfl (by decide) rfl) ?_
                        by_cases c11 : (bt s 0) = 129
                        · exact absurd c11 (by omega)
                        · skip
                          refine pl_val (want_on 28 false rfl 165 rfl (by kernel_rfl)) (some 168) rfl (.bool false) (fun w => Eq.trans (b := .ok (.value (.bool (decide ((bt s 0) = 129)))) w) (by kernel_rfl) (by rw [decide_eq_false (c11)])) ?_
                          refine pl_val (want_on 24 true rfl 161 rfl (by kernel_rfl)) (some 169) rfl (.bool false) (fun _ => by kernel_rfl) ?_
                          refine pl_val (want_on 20 false rfl 157 rfl (by kernel_rfl)) (some 170) rfl (.bool false) (fun _ => by kernel_rfl) ?_
                          refine pl_val (want_no rfl) (some 171) rfl (.bool false) (fun _ => by kernel_rfl) ?_
                          refine pl_nil ?_
                          refine au_then ?_
                          refine wp_cond_false (by kernel_rfl) ?_
                          refine wp_skip ?_
                          refine au_then ?_
                          refine rg_lit ?_
                          refine pl_val (want_no rfl) (some 182) rfl (.string s) (fun _ => by kernel_rfl) ?_
                          refine pl_val (want_no rfl) (some 183) rfl (.int .i64 (s.size : Int)) (fun _ => by kernel_rfl) ?_
                          refine pl_val (want_no rfl) (some 184) rfl (.int .i64 ((s.size : Int) - 8)) (fun w => Eq.trans (b := .ok (.value (.int .i64 (IntKind.wrap .i64 ((s.size : Int) - 8)))) w) (by kernel_rfl) (by rw [wrap64 (by omega) (by omega)])) ?_
                          refine pl_val (want_no rfl) (some 185) rfl (.pointer (some ⟨g3, 12, none⟩)) (fun _ => by kernel_rfl) ?_
                          refine pl_put1 M (want_no rfl) rfl 3 _ _ rfl 2 g3 12 (by kernel_rfl) 13 32 (ls [.int .u8 p, .bool (v0), .int .u64 h0, .int .u64 l0, .bool (v1), .int .u64 h1, .int .u64 l1, .int .u16 0, .int .u16 0, .int .u8 0, .int .u8 (bt s 0), .int .u8 (bt s 1), .int .i64 0]) rfl (.int .i64 ((s.size : Int) - 8)) (ls [.int .u8 p, .bool (v0), .int .u64 h0, .int .u64 l0, .bool (v1), .int .u64 h1, .int .u64 l1, .int .u16 0, .int .u16 0, .int .u8 0, .int .u8 (bt s 0), .int .u8 (bt s 1), .int .i64 ((s.size : Int) - 8)]) (by kernel_rfl) inz3 (by decide) rfl rfl (put_ls _ 12 _ _ rfl) ?_
                          intro u9 M
                          replace M : Mem ⟨w, []⟩ [⟨g1, .cells (av 9 (ls [.bool (v0), .int .u64 h0, .int .u64 l0, .bool (v1), .int .u64 h1, .int .u64 l1, .int .u8 p, .int .u8 t, .string s])) 26⟩, ⟨g2, .cells (av 13 (ls [.int .u8 0, .bool false, .int .u64 0, .int .u64 0, .bool false, .int .u64 0, .int .u64 0, .int .u16 0, .int .u16 0, .int .u8 0, .int .u8 0, .int .u8 0, .int .i64 0])) 32⟩, ⟨g3, .cells (av 13 (ls [.int .u8 p, .bool (v0), .int .u64 h0, .int .u64 l0, .bool (v1), .int .u64 h1, .int .u64 l1, .int .u16 0, .int .u16 0, .int .u8 0, .int .u8 (bt s 0), .int .u8 (bt s 1), .int .i64 ((s.size : Int) - 8)])) 32⟩] u9 := M
                          refine pl_nil ?_
                          refine au_block ?_
                          refine au_then ?_
                          refine wp_seq ?_
                          refine rg_lit ?_
                          refine pl_load M (want_no rfl) (some 186) rfl 32 _ rfl 2 g3 0 (by kernel_rfl) 13 32 (ls [.int .u8 p, .bool (v0), .int .u64 h0, .int .u64 l0, .bool (v1), .int .u64 h1, .int .u64 l1, .int .u16 0, .int .u16 0, .int .u8 0, .int .u8 (bt s 0), .int .u8 (bt s 1), .int .i64 ((s.size : Int) - 8)]) rfl 13 (ls [.int .u8 p, .bool (v0), .int .u64 h0, .int .u64 l0, .bool (v1), .int .u64 h1, .int .u64 l1, .int .u16 0, .int .u16 0, .int .u8 0, .int .u8 (bt s 0), .int .u8 (bt s 1), .int .i64 ((s.size : Int) - 8)]) (fun j _ => by rw [Nat.zero_add]) (by decide) _ Try.underlying32 rfl inz32 ?_
                          refine pl_put M (want_no rfl) rfl 32 _ _ rfl 1 g2 0 (by kernel_rfl) 13 32 (ls [.int .u8 0, .bool false, .int .u64 0, .int .u64 0, .bool false, .int .u64 0, .int .u64 0, .int .u16 0, .int .u16 0, .int .u8 0, .int .u8 0, .int .u8 0, .int .i64 0]) rfl 13 (ls [.int .u8 p, .bool (v0), .int .u64 h0, .int .u64 l0, .bool (v1), .int .u64 h1, .int .u64 l1, .int .u16 0, .int .u16 0, .int .u8 0, .int .u8 (bt s 0), .int .u8 (bt s 1), .int .i64 ((s.size : Int) - 8)]) (ls [.int .u8 p, .bool (v0), .int .u64 h0, .int .u64 l0, .bool (v1), .int .u64 h1, .int .u64 l1, .int .u16 0, .int .u16 0, .int .u8 0, .int .u8 (bt s 0), .int .u8 (bt s 1), .int .i64 ((s.size : Int) - 8)]) (by kernel_rfl) inz32 (by decide) (one_ls _ rfl) (fun j hj => by rw [if_pos (by omega), Nat.sub_zero]) ?_
                          intro u10 M
                          replace M : Mem ⟨w, []⟩ [⟨g1, .cells (av 9 (ls [.bool (v0), .int .u64 h0, .int .u64 l0, .bool (v1), .int .u64 h1, .int .u64 l1, .int .u8 p, .int .u8 t, .string s])) 26⟩, ⟨g2, .cells (av 13 (ls [.int .u8 p, .bool (v0), .int .u64 h0, .int .u64 l0, .bool (v1), .int .u64 h1, .int .u64 l1, .int .u16 0, .int .u16 0, .int .u8 0, .int .u8 (bt s 0), .int .u8 (bt s 1), .int .i64 ((s.size : Int) - 8)])) 32⟩, ⟨g3, .cells (av 13 (ls [.int .u8 p, .bool (v0), .int .u64 h0, .int .u64 l0, .bool (v1), .int .u64 h1, .int .u64 l1, .int .u16 0, .int .u16 0, .int .u8 0, .int .u8 (bt s 0), .int .u8 (bt s 1), .int .i64 ((s.size : Int) - 8)])) 32⟩] u10 := M
                          refine pl_val (want_no rfl) (some 3) rfl (.int .i64 0) (fun _ => by kernel_rfl) ?_
                          refine pl_nil ?_
                          refine au_then ?_
                          refine wp_ret ?_
                          have hE : dE v0 h0 l0 v1 h1 l1 p s = 0 := by unfold dE fO fE fS; simp only [ite_self, if_pos c0, if_neg c1, if_neg c2, if_neg c3, if_pos c4, if_pos c5, if_pos (eP_6 c5 c4), if_neg c6, if_pos c7]
                          have hn : ∀ x : Int, zI 0 x = x := fun x => if_pos rfl
                          have hm : ∀ x : Bool, zB 0 x = x := fun x => if_pos rfl
                          have he : ec p (bt s 0) = false := by rw [ec_6 _ _ c4]; simp [c8, c9, c10, c11]
                          have e7 : (hFr p s) = 0 := by simp only [hFr, hTo, hFl, hKi, hCo, hSz, hdO, if_pos c0, if_neg c1, if_neg c2, if_neg c3, if_pos c4, if_pos c5, if_pos (eP_6 c5 c4), if_neg c6, if_pos c7, if_neg (Bool.eq_false_iff.mp he)]
                          have e8 : (hTo p s) = 0 := by simp only [hFr, hTo, hFl, hKi, hCo, hSz, hdO, if_pos c0, if_neg c1, if_neg c2, if_neg c3, if_pos c4, if_pos c5, if_pos (eP_6 c5 c4), if_neg c6, if_pos c7, if_neg (Bool.eq_false_iff.mp he)]
                          have e9 : (hFl p s) = 0 := by simp only [hFr, hTo, hFl, hKi, hCo, hSz, hdO, if_pos c0, if_neg c1, if_neg c2, if_neg c3, if_pos c4, if_pos c5, if_pos (eP_6 c5 c4), if_neg c6, if_pos c7, if_neg (Bool.eq_false_iff.mp he)]
                          have e10 : (hKi p s) = (bt s 0) := by simp only [hFr, hTo, hFl, hKi, hCo, hSz, hdO, if_pos c0, if_neg c1, if_neg c2, if_neg c3, if_pos c4, if_pos c5, if_pos (eP_6 c5 c4), if_neg c6, if_pos c7, if_neg (Bool.eq_false_iff.mp he)]
                          have e11 : (hCo p s) = (bt s 1) := by simp only [hFr, hTo, hFl, hKi, hCo, hSz, hdO, if_pos c0, if_neg c1, if_neg c2, if_neg c3, if_pos c4, if_pos c5, if_pos (eP_6 c5 c4), if_neg c6, if_pos c7, if_neg (Bool.eq_false_iff.mp he)]
                          have e12 : (hSz p s) = ((s.size : Int) - 8) := by simp only [hFr, hTo, hFl, hKi, hCo, hSz, hdO, if_pos c0, if_neg c1, if_neg c2, if_neg c3, if_pos c4, if_pos c5, if_pos (eP_6 c5 c4), if_neg c6, if_pos c7, if_neg (Bool.eq_false_iff.mp he)]
                          exact bodyPost_ret (v := .tuple #[.agg (av 13 (ls [.int .u8 p, .bool (v0), .int .u64 h0, .int .u64 l0, .bool (v1), .int .u64 h1, .int .u64 l1, .int .u16 0, .int .u16 0, .int .u8 0, .int .u8 (bt s 0), .int .u8 (bt s 1), .int .i64 ((s.size : Int) - 8)])), .int .i64 0]) (results_cell_tmp Try.results9 _ _ g2 32 (av 13 (ls [.int .u8 p, .bool (v0), .int .u64 h0, .int .u64 l0, .bool (v1), .int .u64 h1, .int .u64 l1, .int .u16 0, .int .u16 0, .int .u8 0, .int .u8 (bt s 0), .int .u8 (bt s 1), .int .i64 ((s.size : Int) - 8)])) (0, 0) _ _ (by kernel_rfl) (by kernel_rfl) (M.get 1 rfl) Try.underlying32 rfl (by rw [av_size]; exact inz32)) (by kernel_rfl) ⟨by simp only [hE, hn, hm, e7, e8, e9, e10, e11, e12], below_grown M.old⟩
                  · skip
                    refine pl_val (want_no rfl) (some 139) rfl (.bool false) (fun w => Eq.trans (b := .ok (.value (.bool (decide ((bt s 0) = 8)))) w) (by kernel_rfl) (by rw [decide_eq_false (c8)])) ?_
                    refine pl_val (want_no rfl) (some 140) rfl (.bool false) (fun _ => by kernel_rfl) ?_
                    refine pl_skip (want_off 3 true rfl 140 rfl (by kernel_rfl)) (some 141) rfl ?_
                    refine pl_skip (want_off 3 true rfl 140 rfl (by kernel_rfl)) (some 142) rfl ?_
                    refine pl_skip (want_off 3 true rfl 140 rfl (by kernel_rfl)) (some 143) rfl ?_
                    refine pl_skip (want_off 3 true rfl 140 rfl (by kernel_rfl)) (some 144) rfl ?_
                    refine pl_val (want_no rfl) (some 145) rfl (.bool false) (fun _ => by kernel_rfl) ?_
                    refine pl_val (want_no rfl) (some 146) rfl (.bool false) (fun _ => by kernel_rfl) ?_
                    refine pl_val (want_on 9 false rfl 146 rfl (by kernel_rfl)) (some 147) rfl (.pointer (some ⟨g3, 10, none⟩)) (fun _ => by kernel_rfl) ?_
                    refine pl_cell M (want_on 9 false rfl 146 rfl (by kernel_rfl)) (some 148) rfl 5 _ rfl g3 10 (by kernel_rfl) (.int .u8 (bt s 0)) (fun _ => by kernel_rfl) (fun w M => M.cell 2 rfl (by decide) rfl) ?_
                    by_cases c9 : (bt s 0) = 0
                    · skip
                      refine pl_val (want_on 9 false rfl 146 rfl (by kernel_rfl)) (some 149) rfl (.bool true) (fun w => Eq.trans (b := .ok (.value (.bool (decide ((bt s 0) = 0)))) w) (by kernel_rfl) (by rw [decide_eq_true (c9)])) ?_
                      refine pl_val (want_on 9 false rfl 146 rfl (by kernel_rfl)) (some 150) rfl (.bool true) (fun _ => by kernel_rfl) ?_
                      refine pl_val (want_on 13 true rfl 150 rfl (by kernel_rfl)) (some 151) rfl (.pointer (some ⟨g1, 0, none⟩)) (fun _ => by kernel_rfl) ?_
                      refine pl_val (want_on 13 true rfl 150 rfl (by kernel_rfl)) (some 152) rfl (.pointer (some ⟨g1, 0, none⟩)) (fun _ => by kernel_rfl) ?_
                      refine pl_cell M (want_on 13 true rfl 150 rfl (by kernel_rfl)) (some 153) rfl 4 _ rfl g1 0 (by kernel_rfl) (.bool true) (fun _ => by kernel_rfl) (fun w M => M.cell 0 rfl (by decide) (congrArg Value.bool c5)) ?_
                      refine pl_val (want_on 13 true rfl 150 rfl (by kernel_rfl)) (some 154) rfl (.bool false) (fun _ => by kernel_rfl) ?_
                      refine pl_val (want_on 9 false rfl 146 rfl (by kernel_rfl)) (some 155) rfl (.bool false) (fun _ => by kernel_rfl) ?_
                      refine pl_val (want_no rfl) (some 156) rfl (.bool false) (fun _ => by kernel_rfl) ?_
                      refine pl_val (want_no rfl) (some 157) rfl (.bool false) (fun _ => by kernel_rfl) ?_
                      refine pl_val (want_on 20 false rfl 157 rfl (by kernel_rfl)) (some 158) rfl (.pointer (some ⟨g1, 0, none⟩)) (fun _ => by kernel_rfl) ?_
                      refine pl_val (want_on 20 false rfl 157 rfl (by kernel_rfl)) (some 159) rfl (.pointer (some ⟨g1, 0, none⟩)) (fun _ => by kernel_rfl) ?_
                      refine pl_cell M (want_on 20 false rfl 157 rfl (by kernel_rfl)) (some 160) rfl 4 _ rfl g1 0 (by kernel_rfl) (.bool true) (fun _ => by kernel_rfl) (fun w M => M.cell 0 rfl (by decide) (congrArg Value.bool c5)) ?_
                      refine pl_val (want_on 20 false rfl 157 rfl (by kernel_rfl)) (some 161) rfl (.bool true) (fun _ => by kernel_rfl) ?_
                      refine pl_val (want_on 24 true rfl 161 rfl (by kernel_rfl)) (some 162) rfl (.pointer (some ⟨g3, 10, none⟩)) (fun _ => by kernel_rfl) ?_
                      refine pl_cell M (want_on 24 true rfl 161 rfl (by kernel_rfl)) (some 163) rfl 5 _ rfl g3 10 (by kernel_rfl) (.int .u8 (bt s 0)) (fun _ => by kernel_rfl) (fun w M => M.cell 2 rfl (by decide) rfl) ?_
                      by_cases c10 : (bt s 0) = 128
                      · exact absurd c10 (by omega)
                      · skip
                        refine pl_val (want_on 24 true rfl 161 rfl (by kernel_rfl)) (some 164) rfl (.bool false) (fun w => Eq.trans (b := .ok (.value (.bool (decide ((bt s 0) = 128)))) w) (by kernel_rfl) (by rw [decide_eq_false (c10)])) ?_
                        refine pl_val (want_on 24 true rfl 161 rfl (by kernel_rfl)) (some 165) rfl (.bool false) (fun _ => by kernel_rfl) ?_
                        refine pl_val (want_on 28 false rfl 165 rfl (by kernel_rfl)) (some 166) rfl (.pointer (some ⟨g3, 10, none⟩)) (fun _ => by kernel_rfl) ?_
                        refine pl_cell M (want_on 28 false rfl 165 rfl (by kernel_rfl)) (some 167) rfl 5 _ rfl g3 10 (by kernel_rfl) (.int .u8 (bt s 0)) (fun _ => by kernel_rfl) (fun w M => M.cell 2 rfl (by decide) rfl) ?_
                        by_cases c11 : (bt s 0) = 129
                        · exact absurd c11 (by omega)
                        · skip
                          refine pl_val (want_on 28 false rfl 165 rfl (by kernel_rfl)) (some 168) rfl (.bool false) (fun w => Eq.trans (b := .ok (.value (.bool (decide ((bt s 0) = 129)))) w) (by kernel_rfl) (by rw [decide_eq_false (c11)])) ?_
                          refine pl_val (want_on 24 true rfl 161 rfl (by kernel_rfl)) (some 169) rfl (.bool false) (fun _ => by kernel_rfl) ?_
                          refine pl_val (want_on 20 false rfl 157 rfl (by kernel_rfl)) (some 170) rfl (.bool false) (fun _ => by kernel_rfl) ?_
                          refine pl_val (want_no rfl) (some 171) rfl (.bool false) (fun _ => by kernel_rfl) ?_
                          refine pl_nil ?_
                          refine au_then ?_
                          refine wp_cond_false (by kernel_rfl) ?_
                          refine wp_skip ?_
                          refine au_then ?_
                          refine rg_lit ?_
                          refine pl_val (want_no rfl) (some 182) rfl (.string s) (fun _ => by kernel_rfl) ?_
                          refine pl_val (want_no rfl) (some 183) rfl (.int .i64 (s.size : Int)) (fun _ => by kernel_rfl) ?_
                          refine pl_val (want_no rfl) (some 184) rfl (.int .i64 ((s.size : Int) - 8)) (fun w => Eq.trans (b := .ok (.value (.int .i64 (IntKind.wrap .i64 ((s.size : Int) - 8)))) w) (by kernel_rfl) (by rw [wrap64 (by omega) (by omega)])) ?_
                          refine pl_val (want_no rfl) (some 185) rfl (.pointer (some ⟨g3, 12, none⟩)) (fun _ => by kernel_rfl) ?_
                          refine pl_put1 M (want_no rfl) rfl 3 _ _ rfl 2 g3 12 (by kernel_rfl) 13 32 (ls [.int .u8 p, .bool (v0), .int .u64 h0, .int .u64 l0, .bool (v1), .int .u64 h1, .int .u64 l1, .int .u16 0, .int .u16 0, .int .u8 0, .int .u8 (bt s 0), .int .u8 (bt s 1), .int .i64 0]) rfl (.int .i64 ((s.size : Int) - 8)) (ls [.int .u8 p, .bool (v0), .int .u64 h0, .int .u64 l0, .bool (v1), .int .u64 h1, .int .u64 l1, .int .u16 0, .int .u16 0, .int .u8 0, .int .u8 (bt s 0), .int .u8 (bt s 1), .int .i64 ((s.size : Int) - 8)]) (by kernel_rfl) inz3 (by decide) rfl rfl (put_ls _ 12 _ _ rfl) ?_
                          intro u9 M
                          replace M : Mem ⟨w, []⟩ [⟨g1, .cells (av 9 (ls [.bool (v0), .int .u64 h0, .int .u64 l0, .bool (v1), .int .u64 h1, .int .u64 l1, .int .u8 p, .int .u8 t, .string s])) 26⟩, ⟨g2, .cells (av 13 (ls [.int .u8 0, .bool false, .int .u64 0, .int .u64 0, .bool false, .int .u64 0, .int .u64 0, .int .u16 0, .int .u16 0, .int .u8 0, .int .u8 0, .int .u8 0, .int .i64 0])) 32⟩, ⟨g3, .cells (av 13 (ls [.int .u8 p, .bool (v0), .int .u64 h0, .int .u64 l0, .bool (v1), .int .u64 h1, .int .u64 l1, .int .u16 0, .int .u16 0, .int .u8 0, .int .u8 (bt s 0), .int .u8 (bt s 1), .int .i64 ((s.size : Int) - 8)])) 32⟩] u9 := M
                          refine pl_nil ?_
                          refine au_block ?_
                          refine au_then ?_
                          refine wp_seq ?_
                          refine rg_lit ?_
                          refine pl_load M (want_no rfl) (some 186) rfl 32 _ rfl 2 g3 0 (by kernel_rfl) 13 32 (ls [.int .u8 p, .bool (v0), .int .u64 h0, .int .u64 l0, .bool (v1), .int .u64 h1, .int .u64 l1, .int .u16 0, .int .u16 0, .int .u8 0, .int .u8 (bt s 0), .int .u8 (bt s 1), .int .i64 ((s.size : Int) - 8)]) rfl 13 (ls [.int .u8 p, .bool (v0), .int .u64 h0, .int .u64 l0, .bool (v1), .int .u64 h1, .int .u64 l1, .int .u16 0, .int .u16 0, .int .u8 0, .int .u8 (bt s 0), .int .u8 (bt s 1), .int .i64 ((s.size : Int) - 8)]) (fun j _ => by rw [Nat.zero_add]) (by decide) _ Try.underlying32 rfl inz32 ?_
                          refine pl_put M (want_no rfl) rfl 32 _ _ rfl 1 g2 0 (by kernel_rfl) 13 32 (ls [.int .u8 0, .bool false, .int .u64 0, .int .u64 0, .bool false, .int .u64 0, .int .u64 0, .int .u16 0, .int .u16 0, .int .u8 0, .int .u8 0, .int .u8 0, .int .i64 0]) rfl 13 (ls [.int .u8 p, .bool (v0), .int .u64 h0, .int .u64 l0, .bool (v1), .int .u64 h1, .int .u64 l1, .int .u16 0, .int .u16 0, .int .u8 0, .int .u8 (bt s 0), .int .u8 (bt s 1), .int .i64 ((s.size : Int) - 8)]) (ls [.int .u8 p, .bool (v0), .int .u64 h0, .int .u64 l0, .bool (v1), .int .u64 h1, .int .u64 l1, .int .u16 0, .int .u16 0, .int .u8 0, .int .u8 (bt s 0), .int .u8 (bt s 1), .int .i64 ((s.size : Int) - 8)]) (by kernel_rfl) inz32 (by decide) (one_ls _ rfl) (fun j hj => by rw [if_pos (by omega), Nat.sub_zero]) ?_
                          intro u10 M
                          replace M : Mem ⟨w, []⟩ [⟨g1, .cells (av 9 (ls [.bool (v0), .int .u64 h0, .int .u64 l0, .bool (v1), .int .u64 h1, .int .u64 l1, .int .u8 p, .int .u8 t, .string s])) 26⟩, ⟨g2, .cells (av 13 (ls [.int .u8 p, .bool (v0), .int .u64 h0, .int .u64 l0, .bool (v1), .int .u64 h1, .int .u64 l1, .int .u16 0, .int .u16 0, .int .u8 0, .int .u8 (bt s 0), .int .u8 (bt s 1), .int .i64 ((s.size : Int) - 8)])) 32⟩, ⟨g3, .cells (av 13 (ls [.int .u8 p, .bool (v0), .int .u64 h0, .int .u64 l0, .bool (v1), .int .u64 h1, .int .u64 l1, .int .u16 0, .int .u16 0, .int .u8 0, .int .u8 (bt s 0), .int .u8 (bt s 1), .int .i64 ((s.size : Int) - 8)])) 32⟩] u10 := M
                          refine pl_val (want_no rfl) (some 3) rfl (.int .i64 0) (fun _ => by kernel_rfl) ?_
                          refine pl_nil ?_
                          refine au_then ?_
                          refine wp_ret ?_
                          have hE : dE v0 h0 l0 v1 h1 l1 p s = 0 := by unfold dE fO fE fS; simp only [ite_self, if_pos c0, if_neg c1, if_neg c2, if_neg c3, if_pos c4, if_pos c5, if_pos (eP_6 c5 c4), if_neg c6, if_pos c7]
                          have hn : ∀ x : Int, zI 0 x = x := fun x => if_pos rfl
                          have hm : ∀ x : Bool, zB 0 x = x := fun x => if_pos rfl
                          have he : ec p (bt s 0) = false := by rw [ec_6 _ _ c4]; simp [c8, c9, c10, c11]
                          have e7 : (hFr p s) = 0 := by simp only [hFr, hTo, hFl, hKi, hCo, hSz, hdO, if_pos c0, if_neg c1, if_neg c2, if_neg c3, if_pos c4, if_pos c5, if_pos (eP_6 c5 c4), if_neg c6, if_pos c7, if_neg (Bool.eq_false_iff.mp he)]
                          have e8 : (hTo p s) = 0 := by simp only [hFr, hTo, hFl, hKi, hCo, hSz, hdO, if_pos c0, if_neg c1, if_neg c2, if_neg c3, if_pos c4, if_pos c5, if_pos (eP_6 c5 c4), if_neg c6, if_pos c7, if_neg (Bool.eq_false_iff.mp he)]
                          have e9 : (hFl p s) = 0 := by simp only [hFr, hTo, hFl, hKi, hCo, hSz, hdO, if_pos c0, if_neg c1, if_neg c2, if_neg c3, if_pos c4, if_pos c5, if_pos (eP_6 c5 c4), if_neg c6, if_pos c7, if_neg (Bool.eq_false_iff.mp he)]
                          have e10 : (hKi p s) = (bt s 0) := by simp only [hFr, hTo, hFl, hKi, hCo, hSz, hdO, if_pos c0, if_neg c1, if_neg c2, if_neg c3, if_pos c4, if_pos c5, if_pos (eP_6 c5 c4), if_neg c6, if_pos c7, if_neg (Bool.eq_false_iff.mp he)]
                          have e11 : (hCo p s) = (bt s 1) := by simp only [hFr, hTo, hFl, hKi, hCo, hSz, hdO, if_pos c0, if_neg c1, if_neg c2, if_neg c3, if_pos c4, if_pos c5, if_pos (eP_6 c5 c4), if_neg c6, if_pos c7, if_neg (Bool.eq_false_iff.mp he)]
                          have e12 : (hSz p s) = ((s.size : Int) - 8) := by simp only [hFr, hTo, hFl, hKi, hCo, hSz, hdO, if_pos c0, if_neg c1, if_neg c2, if_neg c3, if_pos c4, if_pos c5, if_pos (eP_6 c5 c4), if_neg c6, if_pos c7, if_neg (Bool.eq_false_iff.mp he)]
                          exact bodyPost_ret (v := .tuple #[.agg (av 13 (ls [.int .u8 p, .bool (v0), .int .u64 h0, .int .u64 l0, .bool (v1), .int .u64 h1, .int .u64 l1, .int .u16 0, .int .u16 0, .int .u8 0, .int .u8 (bt s 0), .int .u8 (bt s 1), .int .i64 ((s.size : Int) - 8)])), .int .i64 0]) (results_cell_tmp Try.results9 _ _ g2 32 (av 13 (ls [.int .u8 p, .bool (v0), .int .u64 h0, .int .u64 l0, .bool (v1), .int .u64 h1, .int .u64 l1, .int .u16 0, .int .u16 0, .int .u8 0, .int .u8 (bt s 0), .int .u8 (bt s 1), .int .i64 ((s.size : Int) - 8)])) (0, 0) _ _ (by kernel_rfl) (by kernel_rfl) (M.get 1 rfl) Try.underlying32 rfl (by rw [av_size]; exact inz32)) (by kernel_rfl) ⟨by simp only [hE, hn, hm, e7, e8, e9, e10, e11, e12], below_grown M.old⟩
                    · skip
                      refine pl_val (want_on 9 false rfl 146 rfl (by kernel_rfl)) (some 149) rfl (.bool false) (fun w => Eq.trans (b := .ok (.value (.bool (decide ((bt s 0) = 0)))) w) (by kernel_rfl) (by rw [decide_eq_false (c9)])) ?_
                      refine pl_val (want_on 9 false rfl 146 rfl (by kernel_rfl)) (some 150) rfl (.bool false) (fun _ => by kernel_rfl) ?_
                      refine pl_skip (want_off 13 true rfl 150 rfl (by kernel_rfl)) (some 151) rfl ?_
                      refine pl_skip (want_off 13 true rfl 150 rfl (by kernel_rfl)) (some 152) rfl ?_
                      refine pl_skip (want_off 13 true rfl 150 rfl (by kernel_rfl)) (some 153) rfl ?_
                      refine pl_skip (want_off 13 true rfl 150 rfl (by kernel_rfl)) (some 154) rfl ?_
                      refine pl_val (want_on 9 false rfl 146 rfl (by kernel_rfl)) (some 155) rfl (.bool false) (fun _ => by kernel_rfl) ?_
                      refine pl_val (want_no rfl) (some 156) rfl (.bool false) (fun _ => by kernel_rfl) ?_
                      refine pl_val (want_no rfl) (some 157) rfl (.bool false) (fun _ => by kernel_rfl) ?_
                      refine pl_val (want_on 20 false rfl 157 rfl (by kernel_rfl)) (some 158) rfl (.pointer (some ⟨g1, 0, none⟩)) (fun _ => by kernel_rfl) ?_
                      refine pl_val (want_on 20 false rfl 157 rfl (by kernel_rfl)) (some 159) rfl (.pointer (some ⟨g1, 0, none⟩)) (fun _ => by kernel_rfl) ?_
                      refine pl_cell M (want_on 20 false rfl 157 rfl (by kernel_rfl)) (some 160) rfl 4 _ rfl g1 0 (by kernel_rfl) (.bool true) (fun _ => by kernel_rfl) (fun w M => M.cell 0 rfl (by decide) (congrArg Value.bool c5)) ?_
                      refine pl_val (want_on 20 false rfl 157 rfl (by kernel_rfl)) (some 161) rfl (.bool true) (fun _ => by kernel_rfl) ?_
                      refine pl_val (want_on 24 true rfl 161 rfl (by kernel_rfl)) (some 162) rfl (.pointer (some ⟨g3, 10, none⟩)) (fun _ => by kernel_rfl) ?_
                      refine pl_cell M (want_on 24 true rfl 161 rfl (by kernel_rfl)) (some 163) rfl 5 _ rfl g3 10 (by kernel_rfl) (.int .u8 (bt s 0)) (fun _ => by kernel_rfl) (fun w M => M.cell 2 rfl (by decide) rfl) ?_
                      by_cases c10 : (bt s 0) = 128
                      · skip
                        refine pl_val (want_on 24 true rfl 161 rfl (by kernel_rfl)) (some 164) rfl (.bool true) (fun w => Eq.trans (b := .ok (.value (.bool (decide ((bt s 0) = 128)))) w) (by kernel_rfl) (by rw [decide_eq_true (c10)])) ?_
                        refine pl_val (want_on 24 true rfl 161 rfl (by kernel_rfl)) (some 165) rfl (.bool true) (fun _ => by kernel_rfl) ?_
                        refine pl_skip (want_off 28 false rfl 165 rfl (by kernel_rfl)) (some 166) rfl ?_
                        refine pl_skip (want_off 28 false rfl 165 rfl (by kernel_rfl)) (some 167) rfl ?_
                        refine pl_skip (want_off 28 false rfl 165 rfl (by kernel_rfl)) (some 168) rfl ?_
                        refine pl_val (want_on 24 true rfl 161 rfl (by kernel_rfl)) (some 169) rfl (.bool true) (fun _ => by kernel_rfl) ?_
                        refine pl_val (want_on 20 false rfl 157 rfl (by kernel_rfl)) (some 170) rfl (.bool true) (fun _ => by kernel_rfl) ?_
                        refine pl_val (want_no rfl) (some 171) rfl (.bool true) (fun _ => by kernel_rfl) ?_
                        refine pl_nil ?_
                        refine au_then ?_
                        refine wp_cond_true (by kernel_rfl) ?_
                        refine wp_seq ?_
                        refine rg_lit ?_
                        refine pl_val (want_no rfl) (some 172) rfl (.string s) (fun _ => by kernel_rfl) ?_
                        refine pl_val (want_no rfl) (some 173) rfl (.string (s.extract 4 s.size)) (run_strl 9 Try.underlying9 _ _ rfl s (by kernel_rfl) .i64 4 (by kernel_rfl) (by omega) _ rfl) ?_
                        refine pl_call M (want_no rfl) (some 174) rfl 25 #[.string (s.extract 4 s.size)] (.int .u16 (pr s 4)) (fun _ => by kernel_rfl) (fun w M => call_val (d_num16 (s.extract 4 s.size) (by rw [ByteArray.size_extract]; omega) w M.laid) (by rw [pr_ext s 4 (by omega)])) ?_
                        intro u9 M
                        refine pl_val (want_no rfl) (some 175) rfl (.pointer (some ⟨g3, 0, none⟩)) (fun _ => by kernel_rfl) ?_
                        refine pl_val (want_no rfl) (some 176) rfl (.pointer (some ⟨g3, 7, none⟩)) (fun _ => by kernel_rfl) ?_
                        refine pl_put1 M (want_no rfl) rfl 27 _ _ rfl 2 g3 7 (by kernel_rfl) 13 32 (ls [.int .u8 p, .bool (v0), .int .u64 h0, .int .u64 l0, .bool (v1), .int .u64 h1, .int .u64 l1, .int .u16 0, .int .u16 0, .int .u8 0, .int .u8 (bt s 0), .int .u8 (bt s 1), .int .i64 0]) rfl (.int .u16 (pr s 4)) (ls [.int .u8 p, .bool (v0), .int .u64 h0, .int .u64 l0, .bool (v1), .int .u64 h1, .int .u64 l1, .int .u16 (pr s 4), .int .u16 0, .int .u8 0, .int .u8 (bt s 0), .int .u8 (bt s 1), .int .i64 0]) (by kernel_rfl) inz27 (by decide) rfl rfl (put_ls _ 7 _ _ rfl) ?_
                        intro u10 M
                        replace M : Mem ⟨w, []⟩ [⟨g1, .cells (av 9 (ls [.bool (v0), .int .u64 h0, .int .u64 l0, .bool (v1), .int .u64 h1, .int .u64 l1, .int .u8 p, .int .u8 t, .string s])) 26⟩, ⟨g2, .cells (av 13 (ls [.int .u8 0, .bool false, .int .u64 0, .int .u64 0, .bool false, .int .u64 0, .int .u64 0, .int .u16 0, .int .u16 0, .int .u8 0, .int .u8 0, .int .u8 0, .int .i64 0])) 32⟩, ⟨g3, .cells (av 13 (ls [.int .u8 p, .bool (v0), .int .u64 h0, .int .u64 l0, .bool (v1), .int .u64 h1, .int .u64 l1, .int .u16 (pr s 4), .int .u16 0, .int .u8 0, .int .u8 (bt s 0), .int .u8 (bt s 1), .int .i64 0])) 32⟩] u10 := M
                        refine pl_nil ?_
                        refine au_then ?_
                        refine rg_lit ?_
                        refine pl_val (want_no rfl) (some 177) rfl (.pointer (some ⟨g3, 0, none⟩)) (fun _ => by kernel_rfl) ?_
                        refine pl_val (want_no rfl) (some 178) rfl (.pointer (some ⟨g3, 7, none⟩)) (fun _ => by kernel_rfl) ?_
                        refine pl_cell M (want_no rfl) (some 179) rfl 27 _ rfl g3 7 (by kernel_rfl) (.int .u16 (pr s 4)) (fun _ => by kernel_rfl) (fun w M => M.cell 2 rfl (by decide) rfl) ?_
                        refine pl_val (want_no rfl) (some 180) rfl (.pointer (some ⟨g3, 0, none⟩)) (fun _ => by kernel_rfl) ?_
                        refine pl_val (want_no rfl) (some 181) rfl (.pointer (some ⟨g3, 8, none⟩)) (fun _ => by kernel_rfl) ?_
                        refine pl_put1 M (want_no rfl) rfl 27 _ _ rfl 2 g3 8 (by kernel_rfl) 13 32 (ls [.int .u8 p, .bool (v0), .int .u64 h0, .int .u64 l0, .bool (v1), .int .u64 h1, .int .u64 l1, .int .u16 (pr s 4), .int .u16 0, .int .u8 0, .int .u8 (bt s 0), .int .u8 (bt s 1), .int .i64 0]) rfl (.int .u16 (pr s 4)) (ls [.int .u8 p, .bool (v0), .int .u64 h0, .int .u64 l0, .bool (v1), .int .u64 h1, .int .u64 l1, .int .u16 (pr s 4), .int .u16 (pr s 4), .int .u8 0, .int .u8 (bt s 0), .int .u8 (bt s 1), .int .i64 0]) (by kernel_rfl) inz27 (by decide) rfl rfl (put_ls _ 8 _ _ rfl) ?_
                        intro u11 M
                        replace M : Mem ⟨w, []⟩ [⟨g1, .cells (av 9 (ls [.bool (v0), .int .u64 h0, .int .u64 l0, .bool (v1), .int .u64 h1, .int .u64 l1, .int .u8 p, .int .u8 t, .string s])) 26⟩, ⟨g2, .cells (av 13 (ls [.int .u8 0, .bool false, .int .u64 0, .int .u64 0, .bool false, .int .u64 0, .int .u64 0, .int .u16 0, .int .u16 0, .int .u8 0, .int .u8 0, .int .u8 0, .int .i64 0])) 32⟩, ⟨g3, .cells (av 13 (ls [.int .u8 p, .bool (v0), .int .u64 h0, .int .u64 l0, .bool (v1), .int .u64 h1, .int .u64 l1, .int .u16 (pr s 4), .int .u16 (pr s 4), .int .u8 0, .int .u8 (bt s 0), .int .u8 (bt s 1), .int .i64 0])) 32⟩] u11 := M
                        refine pl_nil ?_
                        refine au_then ?_
                        refine rg_lit ?_
                        refine pl_val (want_no rfl) (some 182) rfl (.string s) (fun _ => by kernel_rfl) ?_
                        refine pl_val (want_no rfl) (some 183) rfl (.int .i64 (s.size : Int)) (fun _ => by kernel_rfl) ?_
                        refine pl_val (want_no rfl) (some 184) rfl (.int .i64 ((s.size : Int) - 8)) (fun w => Eq.trans (b := .ok (.value (.int .i64 (IntKind.wrap .i64 ((s.size : Int) - 8)))) w) (by kernel_rfl) (by rw [wrap64 (by omega) (by omega)])) ?_
                        refine pl_val (want_no rfl) (some 185) rfl (.pointer (some ⟨g3, 12, none⟩)) (fun _ => by kernel_rfl) ?_
                        refine pl_put1 M (want_no rfl) rfl 3 _ _ rfl 2 g3 12 (by kernel_rfl) 13 32 (ls [.int .u8 p, .bool (v0), .int .u64 h0, .int .u64 l0, .bool (v1), .int .u64 h1, .int .u64 l1, .int .u16 (pr s 4), .int .u16 (pr s 4), .int .u8 0, .int .u8 (bt s 0), .int .u8 (bt s 1), .int .i64 0]) rfl (.int .i64 ((s.size : Int) - 8)) (ls [.int .u8 p, .bool (v0), .int .u64 h0, .int .u64 l0, .bool (v1), .int .u64 h1, .int .u64 l1, .int .u16 (pr s 4), .int .u16 (pr s 4), .int .u8 0, .int .u8 (bt s 0), .int .u8 (bt s 1), .int .i64 ((s.size : Int) - 8)]) (by kernel_rfl) inz3 (by decide) rfl rfl (put_ls _ 12 _ _ rfl) ?_
                        intro u12 M
                        replace M : Mem ⟨w, []⟩ [⟨g1, .cells (av 9 (ls [.bool (v0), .int .u64 h0, .int .u64 l0, .bool (v1), .int .u64 h1, .int .u64 l1, .int .u8 p, .int .u8 t, .string s])) 26⟩, ⟨g2, .cells (av 13 (ls [.int .u8 0, .bool false, .int .u64 0, .int .u64 0, .bool false, .int .u64 0, .int .u64 0, .int .u16 0, .int .u16 0, .int .u8 0, .int .u8 0, .int .u8 0, .int .i64 0])) 32⟩, ⟨g3, .cells (av 13 (ls [.int .u8 p, .bool (v0), .int .u64 h0, .int .u64 l0, .bool (v1), .int .u64 h1, .int .u64 l1, .int .u16 (pr s 4), .int .u16 (pr s 4), .int .u8 0, .int .u8 (bt s 0), .int .u8 (bt s 1), .int .i64 ((s.size : Int) - 8)])) 32⟩] u12 := M
                        refine pl_nil ?_
                        refine au_block ?_
                        refine au_then ?_
                        refine wp_seq ?_
                        refine rg_lit ?_
                        refine pl_load M (want_no rfl) (some 186) rfl 32 _ rfl 2 g3 0 (by kernel_rfl) 13 32 (ls [.int .u8 p, .bool (v0), .int .u64 h0, .int .u64 l0, .bool (v1), .int .u64 h1, .int .u64 l1, .int .u16 (pr s 4), .int .u16 (pr s 4), .int .u8 0, .int .u8 (bt s 0), .int .u8 (bt s 1), .int .i64 ((s.size : Int) - 8)]) rfl 13 (ls [.int .u8 p, .bool (v0), .int .u64 h0, .int .u64 l0, .bool (v1), .int .u64 h1, .int .u64 l1, .int .u16 (pr s 4), .int .u16 (pr s 4), .int .u8 0, .int .u8 (bt s 0), .int .u8 (bt s 1), .int .i64 ((s.size : Int) - 8)]) (fun j _ => by rw [Nat.zero_add]) (by decide) _ Try.underlying32 rfl inz32 ?_
                        refine pl_put M (want_no rfl) rfl 32 _ _ rfl 1 g2 0 (by kernel_rfl) 13 32 (ls [.int .u8 0, .bool false, .int .u64 0, .int .u64 0, .bool false, .int .u64 0, .int .u64 0, .int .u16 0, .int .u16 0, .int .u8 0, .int .u8 0, .int .u8 0, .int .i64 0]) rfl 13 (ls [.int .u8 p, .bool (v0), .int .u64 h0, .int .u64 l0, .bool (v1), .int .u64 h1, .int .u64 l1, .int .u16 (pr s 4), .int .u16 (pr s 4), .int .u8 0, .int .u8 (bt s 0), .int .u8 (bt s 1), .int .i64 ((s.size : Int) - 8)]) (ls [.int .u8 p, .bool (v0), .int .u64 h0, .int .u64 l0, .bool (v1), .int .u64 h1, .int .u64 l1, .int .u16 (pr s 4), .int .u16 (pr s 4), .int .u8 0, .int .u8 (bt s 0), .int .u8 (bt s 1), .int .i64 ((s.size : Int) - 8)]) (by kernel_rfl) inz32 (by decide) (one_ls _ rfl) (fun j hj => by rw [if_pos (by omega), Nat.sub_zero]) ?_
                        intro u13 M
                        replace M : Mem ⟨w, []⟩ [⟨g1, .cells (av 9 (ls [.bool (v0), .int .u64 h0, .int .u64 l0, .bool (v1), .int .u64 h1, .int .u64 l1, .int .u8 p, .int .u8 t, .string s])) 26⟩, ⟨g2, .cells (av 13 (ls [.int .u8 p, .bool (v0), .int .u64 h0, .int .u64 l0, .bool (v1), .int .u64 h1, .int .u64 l1, .int .u16 (pr s 4), .int .u16 (pr s 4), .int .u8 0, .int .u8 (bt s 0), .int .u8 (bt s 1), .int .i64 ((s.size : Int) - 8)])) 32⟩, ⟨g3, .cells (av 13 (ls [.int .u8 p, .bool (v0), .int .u64 h0, .int .u64 l0, .bool (v1), .int .u64 h1, .int .u64 l1, .int .u16 (pr s 4), .int .u16 (pr s 4), .int .u8 0, .int .u8 (bt s 0), .int .u8 (bt s 1), .int .i64 ((s.size : Int) - 8)])) 32⟩] u13 := M
                        refine pl_val (want_no rfl) (some 3) rfl (.int .i64 0) (fun _ => by kernel_rfl) ?_
                        refine pl_nil ?_
                        refine au_then ?_
                        refine wp_ret ?_
                        have hE : dE v0 h0 l0 v1 h1 l1 p s = 0 := by unfold dE fO fE fS; simp only [ite_self, if_pos c0, if_neg c1, if_neg c2, if_neg c3, if_pos c4, if_pos c5, if_pos (eP_6 c5 c4), if_neg c6, if_pos c7]
                        have hn : ∀ x : Int, zI 0 x = x := fun x => if_pos rfl
                        have hm : ∀ x : Bool, zB 0 x = x := fun x => if_pos rfl
                        have he : ec p (bt s 0) = true := by rw [ec_6 _ _ c4]; simp [c8, c9, c10]
                        have e7 : (hFr p s) = (pr s 4) := by simp only [hFr, hTo, hFl, hKi, hCo, hSz, hdO, if_pos c0, if_neg c1, if_neg c2, if_neg c3, if_pos c4, if_pos c5, if_pos (eP_6 c5 c4), if_neg c6, if_pos c7, if_pos he]
                        have e8 : (hTo p s) = (pr s 4) := by simp only [hFr, hTo, hFl, hKi, hCo, hSz, hdO, if_pos c0, if_neg c1, if_neg c2, if_neg c3, if_pos c4, if_pos c5, if_pos (eP_6 c5 c4), if_neg c6, if_pos c7, if_pos he]
                        have e9 : (hFl p s) = 0 := by simp only [hFr, hTo, hFl, hKi, hCo, hSz, hdO, if_pos c0, if_neg c1, if_neg c2, if_neg c3, if_pos c4, if_pos c5, if_pos (eP_6 c5 c4), if_neg c6, if_pos c7, if_pos he]
                        have e10 : (hKi p s) = (bt s 0) := by simp only [hFr, hTo, hFl, hKi, hCo, hSz, hdO, if_pos c0, if_neg c1, if_neg c2, if_neg c3, if_pos c4, if_pos c5, if_pos (eP_6 c5 c4), if_neg c6, if_pos c7, if_pos he]
                        have e11 : (hCo p s) = (bt s 1) := by simp only [hFr, hTo, hFl, hKi, hCo, hSz, hdO, if_pos c0, if_neg c1, if_neg c2, if_neg c3, if_pos c4, if_pos c5, if_pos (eP_6 c5 c4), if_neg c6, if_pos c7, if_pos he]
                        have e12 : (hSz p s) = ((s.size : Int) - 8) := by simp only [hFr, hTo, hFl, hKi, hCo, hSz, hdO, if_pos c0, if_neg c1, if_neg c2, if_neg c3, if_pos c4, if_pos c5, if_pos (eP_6 c5 c4), if_neg c6, if_pos c7, if_pos he]
                        exact bodyPost_ret (v := .tuple #[.agg (av 13 (ls [.int .u8 p, .bool (v0), .int .u64 h0, .int .u64 l0, .bool (v1), .int .u64 h1, .int .u64 l1, .int .u16 (pr s 4), .int .u16 (pr s 4), .int .u8 0, .int .u8 (bt s 0), .int .u8 (bt s 1), .int .i64 ((s.size : Int) - 8)])), .int .i64 0]) (results_cell_tmp Try.results9 _ _ g2 32 (av 13 (ls [.int .u8 p, .bool (v0), .int .u64 h0, .int .u64 l0, .bool (v1), .int .u64 h1, .int .u64 l1, .int .u16 (pr s 4), .int .u16 (pr s 4), .int .u8 0, .int .u8 (bt s 0), .int .u8 (bt s 1), .int .i64 ((s.size : Int) - 8)])) (0, 0) _ _ (by kernel_rfl) (by kernel_rfl) (M.get 1 rfl) Try.underlying32 rfl (by rw [av_size]; exact inz32)) (by kernel_rfl) ⟨by simp only [hE, hn, hm, e7, e8, e9, e10, e11, e12], below_grown M.old⟩
                      · skip
                        refine pl_val (want_on 24 true rfl 161 rfl (by kernel_rfl)) (some 164) rfl (.bool false) (fun w => Eq.trans (b := .ok (.value (.bool (decide ((bt s 0) = 128)))) w) (by kernel_rfl) (by rw [decide_eq_false (c10)])) ?_
                        refine pl_val (want_on 24 true rfl 161 rfl (by kernel_rfl)) (some 165) rfl (.bool false) (fun _ => by kernel_rfl) ?_
                        refine pl_val (want_on 28 false rfl 165 rfl (by kernel_rfl)) (some 166) rfl (.pointer (some ⟨g3, 10, none⟩)) (fun _ => by kernel_rfl) ?_
                        refine pl_cell M (want_on 28 false rfl 165 rfl (by kernel_rfl)) (some 167) rfl 5 _ rfl g3 10 (by kernel_rfl) (.int .u8 (bt s 0)) (fun _ => by kernel_rfl) (fun w M => M.cell 2 rfl (by decide) rfl) ?_
                        by_cases c11 : (bt s 0) = 129
                        · skip
                          refine pl_val (want_on 28 false rfl 165 rfl (by kernel_rfl)) (some 168) rfl (.bool true) (fun w => Eq.trans (b := .ok (.value (.bool (decide ((bt s 0) = 129)))) w) (by kernel_rfl) (by rw [decide_eq_true (c11)])) ?_
                          refine pl_val (want_on 24 true rfl 161 rfl (by kernel_rfl)) (some 169) rfl (.bool true) (fun _ => by kernel_rfl) ?_
                          refine pl_val (want_on 20 false rfl 157 rfl (by kernel_rfl)) (some 170) rfl (.bool true) (fun _ => by kernel_rfl) ?_
                          refine pl_val (want_no rfl) (some 171) rfl (.bool true) (fun _ => by kernel_rfl) ?_
                          refine pl_nil ?_
                          refine au_then ?_
                          refine wp_cond_true (by kernel_rfl) ?_
                          refine wp_seq ?_
                          refine rg_lit ?_
                          refine pl_val (want_no rfl) (some 172) rfl (.string s) (fun _ => by kernel_rfl) ?_
                          refine pl_val (want_no rfl) (some 173) rfl (.string (s.extract 4 s.size)) (run_strl 9 Try.underlying9 _ _ rfl s (by kernel_rfl) .i64 4 (by kernel_rfl) (by omega) _ rfl) ?_
                          refine pl_call M (want_no rfl) (some 174) rfl 25 #[.string (s.extract 4 s.size)] (.int .u16 (pr s 4)) (fun _ => by kernel_rfl) (fun w M => call_val (d_num16 (s.extract 4 s.size) (by rw [ByteArray.size_extract]; omega) w M.laid) (by rw [pr_ext s 4 (by omega)])) ?_
                          intro u9 M
                          refine pl_val (want_no rfl) (some 175) rfl (.pointer (some ⟨g3, 0, none⟩)) (fun _ => by kernel_rfl) ?_
                          refine pl_val (want_no rfl) (some 176) rfl (.pointer (some ⟨g3, 7, none⟩)) (fun _ => by kernel_rfl) ?_
                          refine pl_put1 M (want_no rfl) rfl 27 _ _ rfl 2 g3 7 (by kernel_rfl) 13 32 (ls [.int .u8 p, .bool (v0), .int .u64 h0, .int .u64 l0, .bool (v1), .int .u64 h1, .int .u64 l1, .int .u16 0, .int .u16 0, .int .u8 0, .int .u8 (bt s 0), .int .u8 (bt s 1), .int .i64 0]) rfl (.int .u16 (pr s 4)) (ls [.int .u8 p, .bool (v0), .int .u64 h0, .int .u64 l0, .bool (v1), .int .u64 h1, .int .u64 l1, .int .u16 (pr s 4), .int .u16 0, .int .u8 0, .int .u8 (bt s 0), .int .u8 (bt s 1), .int .i64 0]) (by kernel_rfl) inz27 (by decide) rfl rfl (put_ls _ 7 _ _ rfl) ?_
                          intro u10 M
                          replace M : Mem ⟨w, []⟩ [⟨g1, .cells (av 9 (ls [.bool (v0), .int .u64 h0, .int .u64 l0, .bool (v1), .int .u64 h1, .int .u64 l1, .int .u8 p, .int .u8 t, .string s])) 26⟩, ⟨g2, .cells (av 13 (ls [.int .u8 0, .bool false, .int .u64 0, .int .u64 0, .bool false, .int .u64 0, .int .u64 0, .int .u16 0, .int .u16 0, .int .u8 0, .int .u8 0, .int .u8 0, .int .i64 0])) 32⟩, ⟨g3, .cells (av 13 (ls [.int .u8 p, .bool (v0), .int .u64 h0, .int .u64 l0, .bool (v1), .int .u64 h1, .int .u64 l1, .int .u16 (pr s 4), .int .u16 0, .int .u8 0, .int .u8 (bt s 0), .int .u8 (bt s 1), .int .i64 0])) 32⟩] u10 := M
                          refine pl_nil ?_
                          refine au_then ?_
                          refine rg_lit ?_
                          refine pl_val (want_no rfl) (some 177) rfl (.pointer (some ⟨g3, 0, none⟩)) (fun _ => by kernel_rfl) ?_
                          refine pl_val (want_no rfl) (some 178) rfl (.pointer (some ⟨g3, 7, none⟩)) (fun _ => by kernel_rfl) ?_
                          refine pl_cell M (want_no rfl) (some 179) rfl 27 _ rfl g3 7 (by kernel_rfl) (.int .u16 (pr s 4)) (fun _ => by kernel_rfl) (fun w M => M.cell 2 rfl (by decide) rfl) ?_
                          refine pl_val (want_no rfl) (some 180) rfl (.pointer (some ⟨g3, 0, none⟩)) (fun _ => by kernel_rfl) ?_
                          refine pl_val (want_no rfl) (some 181) rfl (.pointer (some ⟨g3, 8, none⟩)) (fun _ => by kernel_rfl) ?_
                          refine pl_put1 M (want_no rfl) rfl 27 _ _ rfl 2 g3 8 (by kernel_rfl) 13 32 (ls [.int .u8 p, .bool (v0), .int .u64 h0, .int .u64 l0, .bool (v1), .int .u64 h1, .int .u64 l1, .int .u16 (pr s 4), .int .u16 0, .int .u8 0, .int .u8 (bt s 0), .int .u8 (bt s 1), .int .i64 0]) rfl (.int .u16 (pr s 4)) (ls [.int .u8 p, .bool (v0), .int .u64 h0, .int .u64 l0, .bool (v1), .int .u64 h1, .int .u64 l1, .int .u16 (pr s 4), .int .u16 (pr s 4), .int .u8 0, .int .u8 (bt s 0), .int .u8 (bt s 1), .int .i64 0]) (by kernel_rfl) inz27 (by decide) rfl rfl (put_ls _ 8 _ _ rfl) ?_
                          intro u11 M
                          replace M : Mem ⟨w, []⟩ [⟨g1, .cells (av 9 (ls [.bool (v0), .int .u64 h0, .int .u64 l0, .bool (v1), .int .u64 h1, .int .u64 l1, .int .u8 p, .int .u8 t, .string s])) 26⟩, ⟨g2, .cells (av 13 (ls [.int .u8 0, .bool false, .int .u64 0, .int .u64 0, .bool false, .int .u64 0, .int .u64 0, .int .u16 0, .int .u16 0, .int .u8 0, .int .u8 0, .int .u8 0, .int .i64 0])) 32⟩, ⟨g3, .cells (av 13 (ls [.int .u8 p, .bool (v0), .int .u64 h0, .int .u64 l0, .bool (v1), .int .u64 h1, .int .u64 l1, .int .u16 (pr s 4), .int .u16 (pr s 4), .int .u8 0, .int .u8 (bt s 0), .int .u8 (bt s 1), .int .i64 0])) 32⟩] u11 := M
                          refine pl_nil ?_
                          refine au_then ?_
                          refine rg_lit ?_
                          refine pl_val (want_no rfl) (some 182) rfl (.string s) (fun _ => by kernel_rfl) ?_
                          refine pl_val (want_no rfl) (some 183) rfl (.int .i64 (s.size : Int)) (fun _ => by kernel_rfl) ?_
                          refine pl_val (want_no rfl) (some 184) rfl (.int .i64 ((s.size : Int) - 8)) (fun w => Eq.trans (b := .ok (.value (.int .i64 (IntKind.wrap .i64 ((s.size : Int) - 8)))) w) (by kernel_rfl) (by rw [wrap64 (by omega) (by omega)])) ?_
                          refine pl_val (want_no rfl) (some 185) rfl (.pointer (some ⟨g3, 12, none⟩)) (fun _ => by kernel_rfl) ?_
                          refine pl_put1 M (want_no rfl) rfl 3 _ _ rfl 2 g3 12 (by kernel_rfl) 13 32 (ls [.int .u8 p, .bool (v0), .int .u64 h0, .int .u64 l0, .bool (v1), .int .u64 h1, .int .u64 l1, .int .u16 (pr s 4), .int .u16 (pr s 4), .int .u8 0, .int .u8 (bt s 0), .int .u8 (bt s 1), .int .i64 0]) rfl (.int .i64 ((s.size : Int) - 8)) (ls [.int .u8 p, .bool (v0), .int .u64 h0, .int .u64 l0, .bool (v1), .int .u64 h1, .int .u64 l1, .int .u16 (pr s 4), .int .u16 (pr s 4), .int .u8 0, .int .u8 (bt s 0), .int .u8 (bt s 1), .int .i64 ((s.size : Int) - 8)]) (by kernel_rfl) inz3 (by decide) rfl rfl (put_ls _ 12 _ _ rfl) ?_
                          intro u12 M
                          replace M : Mem ⟨w, []⟩ [⟨g1, .cells (av 9 (ls [.bool (v0), .int .u64 h0, .int .u64 l0, .bool (v1), .int .u64 h1, .int .u64 l1, .int .u8 p, .int .u8 t, .string s])) 26⟩, ⟨g2, .cells (av 13 (ls [.int .u8 0, .bool false, .int .u64 0, .int .u64 0, .bool false, .int .u64 0, .int .u64 0, .int .u16 0, .int .u16 0, .int .u8 0, .int .u8 0, .int .u8 0, .int .i64 0])) 32⟩, ⟨g3, .cells (av 13 (ls [.int .u8 p, .bool (v0), .int .u64 h0, .int .u64 l0, .bool (v1), .int .u64 h1, .int .u64 l1, .int .u16 (pr s 4), .int .u16 (pr s 4), .int .u8 0, .int .u8 (bt s 0), .int .u8 (bt s 1), .int .i64 ((s.size : Int) - 8)])) 32⟩] u12 := M
                          refine pl_nil ?_
                          refine au_block ?_
                          refine au_then ?_
                          refine wp_seq ?_
                          refine rg_lit ?_
                          refine pl_load M (want_no rfl) (some 186) rfl 32 _ rfl 2 g3 0 (by kernel_rfl) 13 32 (ls [.int .u8 p, .bool (v0), .int .u64 h0, .int .u64 l0, .bool (v1), .int .u64 h1, .int .u64 l1, .int .u16 (pr s 4), .int .u16 (pr s 4), .int .u8 0, .int .u8 (bt s 0), .int .u8 (bt s 1), .int .i64 ((s.size : Int) - 8)]) rfl 13 (ls [.int .u8 p, .bool (v0), .int .u64 h0, .int .u64 l0, .bool (v1), .int .u64 h1, .int .u64 l1, .int .u16 (pr s 4), .int .u16 (pr s 4), .int .u8 0, .int .u8 (bt s 0), .int .u8 (bt s 1), .int .i64 ((s.size : Int) - 8)]) (fun j _ => by rw [Nat.zero_add]) (by decide) _ Try.underlying32 rfl inz32 ?_
                          refine pl_put M (want_no rfl) rfl 32 _ _ rfl 1 g2 0 (by kernel_rfl) 13 32 (ls [.int .u8 0, .bool false, .int .u64 0, .int .u64 0, .bool false, .int .u64 0, .int .u64 0, .int .u16 0, .int .u16 0, .int .u8 0, .int .u8 0, .int .u8 0, .int .i64 0]) rfl 13 (ls [.int .u8 p, .bool (v0), .int .u64 h0, .int .u64 l0, .bool (v1), .int .u64 h1, .int .u64 l1, .int .u16 (pr s 4), .int .u16 (pr s 4), .int .u8 0, .int .u8 (bt s 0), .int .u8 (bt s 1), .int .i64 ((s.size : Int) - 8)]) (ls [.int .u8 p, .bool (v0), .int .u64 h0, .int .u64 l0, .bool (v1), .int .u64 h1, .int .u64 l1, .int .u16 (pr s 4), .int .u16 (pr s 4), .int .u8 0, .int .u8 (bt s 0), .int .u8 (bt s 1), .int .i64 ((s.size : Int) - 8)]) (by kernel_rfl) inz32 (by decide) (one_ls _ rfl) (fun j hj => by rw [if_pos (by omega), Nat.sub_zero]) ?_
                          intro u13 M
                          replace M : Mem ⟨w, []⟩ [⟨g1, .cells (av 9 (ls [.bool (v0), .int .u64 h0, .int .u64 l0, .bool (v1), .int .u64 h1, .int .u64 l1, .int .u8 p, .int .u8 t, .string s])) 26⟩, ⟨g2, .cells (av 13 (ls [.int .u8 p, .bool (v0), .int .u64 h0, .int .u64 l0, .bool (v1), .int .u64 h1, .int .u64 l1, .int .u16 (pr s 4), .int .u16 (pr s 4), .int .u8 0, .int .u8 (bt s 0), .int .u8 (bt s 1), .int .i64 ((s.size : Int) - 8)])) 32⟩, ⟨g3, .cells (av 13 (ls [.int .u8 p, .bool (v0), .int .u64 h0, .int .u64 l0, .bool (v1), .int .u64 h1, .int .u64 l1, .int .u16 (pr s 4), .int .u16 (pr s 4), .int .u8 0, .int .u8 (bt s 0), .int .u8 (bt s 1), .int .i64 ((s.size : Int) - 8)])) 32⟩] u13 := M
                          refine pl_val (want_no rfl) (some 3) rfl (.int .i64 0) (fun _ => by kernel_rfl) ?_
                          refine pl_nil ?_
                          refine au_then ?_
                          refine wp_ret ?_
                          have hE : dE v0 h0 l0 v1 h1 l1 p s = 0 := by unfold dE fO fE fS; simp only [ite_self, if_pos c0, if_neg c1, if_neg c2, if_neg c3, if_pos c4, if_pos c5, if_pos (eP_6 c5 c4), if_neg c6, if_pos c7]
                          have hn : ∀ x : Int, zI 0 x = x := fun x => if_pos rfl
                          have hm : ∀ x : Bool, zB 0 x = x := fun x => if_pos rfl
                          have he : ec p (bt s 0) = true := by rw [ec_6 _ _ c4]; simp [c8, c9, c10, c11]
                          have e7 : (hFr p s) = (pr s 4) := by simp only [hFr, hTo, hFl, hKi, hCo, hSz, hdO, if_pos c0, if_neg c1, if_neg c2, if_neg c3, if_pos c4, if_pos c5, if_pos (eP_6 c5 c4), if_neg c6, if_pos c7, if_pos he]
                          have e8 : (hTo p s) = (pr s 4) := by simp only [hFr, hTo, hFl, hKi, hCo, hSz, hdO, if_pos c0, if_neg c1, if_neg c2, if_neg c3, if_pos c4, if_pos c5, if_pos (eP_6 c5 c4), if_neg c6, if_pos c7, if_pos he]
                          have e9 : (hFl p s) = 0 := by simp only [hFr, hTo, hFl, hKi, hCo, hSz, hdO, if_pos c0, if_neg c1, if_neg c2, if_neg c3, if_pos c4, if_pos c5, if_pos (eP_6 c5 c4), if_neg c6, if_pos c7, if_pos he]
                          have e10 : (hKi p s) = (bt s 0) := by simp only [hFr, hTo, hFl, hKi, hCo, hSz, hdO, if_pos c0, if_neg c1, if_neg c2, if_neg c3, if_pos c4, if_pos c5, if_pos (eP_6 c5 c4), if_neg c6, if_pos c7, if_pos he]
                          have e11 : (hCo p s) = (bt s 1) := by simp only [hFr, hTo, hFl, hKi, hCo, hSz, hdO, if_pos c0, if_neg c1, if_neg c2, if_neg c3, if_pos c4, if_pos c5, if_pos (eP_6 c5 c4), if_neg c6, if_pos c7, if_pos he]
                          have e12 : (hSz p s) = ((s.size : Int) - 8) := by simp only [hFr, hTo, hFl, hKi, hCo, hSz, hdO, if_pos c0, if_neg c1, if_neg c2, if_neg c3, if_pos c4, if_pos c5, if_pos (eP_6 c5 c4), if_neg c6, if_pos c7, if_pos he]
                          exact bodyPost_ret (v := .tuple #[.agg (av 13 (ls [.int .u8 p, .bool (v0), .int .u64 h0, .int .u64 l0, .bool (v1), .int .u64 h1, .int .u64 l1, .int .u16 (pr s 4), .int .u16 (pr s 4), .int .u8 0, .int .u8 (bt s 0), .int .u8 (bt s 1), .int .i64 ((s.size : Int) - 8)])), .int .i64 0]) (results_cell_tmp Try.results9 _ _ g2 32 (av 13 (ls [.int .u8 p, .bool (v0), .int .u64 h0, .int .u64 l0, .bool (v1), .int .u64 h1, .int .u64 l1, .int .u16 (pr s 4), .int .u16 (pr s 4), .int .u8 0, .int .u8 (bt s 0), .int .u8 (bt s 1), .int .i64 ((s.size : Int) - 8)])) (0, 0) _ _ (by kernel_rfl) (by kernel_rfl) (M.get 1 rfl) Try.underlying32 rfl (by rw [av_size]; exact inz32)) (by kernel_rfl) ⟨by simp only [hE, hn, hm, e7, e8, e9, e10, e11, e12], below_grown M.old⟩
                        · skip
                          refine pl_val (want_on 28 false rfl 165 rfl (by kernel_rfl)) (some 168) rfl (.bool false) (fun w => Eq.trans (b := .ok (.value (.bool (decide ((bt s 0) = 129)))) w) (by kernel_rfl) (by rw [decide_eq_false (c11)])) ?_
                          refine pl_val (want_on 24 true rfl 161 rfl (by kernel_rfl)) (some 169) rfl (.bool false) (fun _ => by kernel_rfl) ?_
                          refine pl_val (want_on 20 false rfl 157 rfl (by kernel_rfl)) (some 170) rfl (.bool false) (fun _ => by kernel_rfl) ?_
                          refine pl_val (want_no rfl) (some 171) rfl (.bool false) (fun _ => by kernel_rfl) ?_
                          refine pl_nil ?_
                          refine au_then ?_
                          refine wp_cond_false (by kernel_rfl) ?_
                          refine wp_skip ?_
                          refine au_then ?_
                          refine rg_lit ?_
                          refine pl_val (want_no rfl) (some 182) rfl (.string s) (fun _ => by kernel_rfl) ?_
                          refine pl_val (want_no rfl) (some 183) rfl (.int .i64 (s.size : Int)) (fun _ => by kernel_rfl) ?_
                          refine pl_val (want_no rfl) (some 184) rfl (.int .i64 ((s.size : Int) - 8)) (fun w => Eq.trans (b := .ok (.value (.int .i64 (IntKind.wrap .i64 ((s.size : Int) - 8)))) w) (by kernel_rfl) (by rw [wrap64 (by omega) (by omega)])) ?_
                          refine pl_val (want_no rfl) (some 185) rfl (.pointer (some ⟨g3, 12, none⟩)) (fun _ => by kernel_rfl) ?_
                          refine pl_put1 M (want_no rfl) rfl 3 _ _ rfl 2 g3 12 (by kernel_rfl) 13 32 (ls [.int .u8 p, .bool (v0), .int .u64 h0, .int .u64 l0, .bool (v1), .int .u64 h1, .int .u64 l1, .int .u16 0, .int .u16 0, .int .u8 0, .int .u8 (bt s 0), .int .u8 (bt s 1), .int .i64 0]) rfl (.int .i64 ((s.size : Int) - 8)) (ls [.int .u8 p, .bool (v0), .int .u64 h0, .int .u64 l0, .bool (v1), .int .u64 h1, .int .u64 l1, .int .u16 0, .int .u16 0, .int .u8 0, .int .u8 (bt s 0), .int .u8 (bt s 1), .int .i64 ((s.size : Int) - 8)]) (by kernel_rfl) inz3 (by decide) rfl rfl (put_ls _ 12 _ _ rfl) ?_
                          intro u9 M
                          replace M : Mem ⟨w, []⟩ [⟨g1, .cells (av 9 (ls [.bool (v0), .int .u64 h0, .int .u64 l0, .bool (v1), .int .u64 h1, .int .u64 l1, .int .u8 p, .int .u8 t, .string s])) 26⟩, ⟨g2, .cells (av 13 (ls [.int .u8 0, .bool false, .int .u64 0, .int .u64 0, .bool false, .int .u64 0, .int .u64 0, .int .u16 0, .int .u16 0, .int .u8 0, .int .u8 0, .int .u8 0, .int .i64 0])) 32⟩, ⟨g3, .cells (av 13 (ls [.int .u8 p, .bool (v0), .int .u64 h0, .int .u64 l0, .bool (v1), .int .u64 h1, .int .u64 l1, .int .u16 0, .int .u16 0, .int .u8 0, .int .u8 (bt s 0), .int .u8 (bt s 1), .int .i64 ((s.size : Int) - 8)])) 32⟩] u9 := M
                          refine pl_nil ?_
                          refine au_block ?_
                          refine au_then ?_
                          refine wp_seq ?_
                          refine rg_lit ?_
                          refine pl_load M (want_no rfl) (some 186) rfl 32 _ rfl 2 g3 0 (by kernel_rfl) 13 32 (ls [.int .u8 p, .bool (v0), .int .u64 h0, .int .u64 l0, .bool (v1), .int .u64 h1, .int .u64 l1, .int .u16 0, .int .u16 0, .int .u8 0, .int .u8 (bt s 0), .int .u8 (bt s 1), .int .i64 ((s.size : Int) - 8)]) rfl 13 (ls [.int .u8 p, .bool (v0), .int .u64 h0, .int .u64 l0, .bool (v1), .int .u64 h1, .int .u64 l1, .int .u16 0, .int .u16 0, .int .u8 0, .int .u8 (bt s 0), .int .u8 (bt s 1), .int .i64 ((s.size : Int) - 8)]) (fun j _ => by rw [Nat.zero_add]) (by decide) _ Try.underlying32 rfl inz32 ?_
                          refine pl_put M (want_no rfl) rfl 32 _ _ rfl 1 g2 0 (by kernel_rfl) 13 32 (ls [.int .u8 0, .bool false, .int .u64 0, .int .u64 0, .bool false, .int .u64 0, .int .u64 0, .int .u16 0, .int .u16 0, .int .u8 0, .int .u8 0, .int .u8 0, .int .i64 0]) rfl 13 (ls [.int .u8 p, .bool (v0), .int .u64 h0, .int .u64 l0, .bool (v1), .int .u64 h1, .int .u64 l1, .int .u16 0, .int .u16 0, .int .u8 0, .int .u8 (bt s 0), .int .u8 (bt s 1), .int .i64 ((s.size : Int) - 8)]) (ls [.int .u8 p, .bool (v0), .int .u64 h0, .int .u64 l0, .bool (v1), .int .u64 h1, .int .u64 l1, .int .u16 0, .int .u16 0, .int .u8 0, .int .u8 (bt s 0), .int .u8 (bt s 1), .int .i64 ((s.size : Int) - 8)]) (by kernel_rfl) inz32 (by decide) (one_ls _ rfl) (fun j hj => by rw [if_pos (by omega), Nat.sub_zero]) ?_
                          intro u10 M
                          replace M : Mem ⟨w, []⟩ [⟨g1, .cells (av 9 (ls [.bool (v0), .int .u64 h0, .int .u64 l0, .bool (v1), .int .u64 h1, .int .u64 l1, .int .u8 p, .int .u8 t, .string s])) 26⟩, ⟨g2, .cells (av 13 (ls [.int .u8 p, .bool (v0), .int .u64 h0, .int .u64 l0, .bool (v1), .int .u64 h1, .int .u64 l1, .int .u16 0, .int .u16 0, .int .u8 0, .int .u8 (bt s 0), .int .u8 (bt s 1), .int .i64 ((s.size : Int) - 8)])) 32⟩, ⟨g3, .cells (av 13 (ls [.int .u8 p, .bool (v0), .int .u64 h0, .int .u64 l0, .bool (v1), .int .u64 h1, .int .u64 l1, .int .u16 0, .int .u16 0, .int .u8 0, .int .u8 (bt s 0), .int .u8 (bt s 1), .int .i64 ((s.size : Int) - 8)])) 32⟩] u10 := M
                          refine pl_val (want_no rfl) (some 3) rfl (.int .i64 0) (fun _ => by kernel_rfl) ?_
                          refine pl_nil ?_
                          refine au_then ?_
                          refine wp_ret ?_
                          have hE : dE v0 h0 l0 v1 h1 l1 p s = 0 := by unfold dE fO fE fS; simp only [ite_self, if_pos c0, if_neg c1, if_neg c2, if_neg c3, if_pos c4, if_pos c5, if_pos (eP_6 c5 c4), if_neg c6, if_pos c7]
                          have hn : ∀ x : Int, zI 0 x = x := fun x => if_pos rfl
                          have hm : ∀ x : Bool, zB 0 x = x := fun x => if_pos rfl
                          have he : ec p (bt s 0) = false := by rw [ec_6 _ _ c4]; simp [c8, c9, c10, c11]
                          have e7 : (hFr p s) = 0 := by simp only [hFr, hTo, hFl, hKi, hCo, hSz, hdO, if_pos c0, if_neg c1, if_neg c2, if_neg c3, if_pos c4, if_pos c5, if_pos (eP_6 c5 c4), if_neg c6, if_pos c7, if_neg (Bool.eq_false_iff.mp he)]
                          have e8 : (hTo p s) = 0 := by simp only [hFr, hTo, hFl, hKi, hCo, hSz, hdO, if_pos c0, if_neg c1, if_neg c2, if_neg c3, if_pos c4, if_pos c5, if_pos (eP_6 c5 c4), if_neg c6, if_pos c7, if_neg (Bool.eq_false_iff.mp he)]
                          have e9 : (hFl p s) = 0 := by simp only [hFr, hTo, hFl, hKi, hCo, hSz, hdO, if_pos c0, if_neg c1, if_neg c2, if_neg c3, if_pos c4, if_pos c5, if_pos (eP_6 c5 c4), if_neg c6, if_pos c7, if_neg (Bool.eq_false_iff.mp he)]
                          have e10 : (hKi p s) = (bt s 0) := by simp only [hFr, hTo, hFl, hKi, hCo, hSz, hdO, if_pos c0, if_neg c1, if_neg c2, if_neg c3, if_pos c4, if_pos c5, if_pos (eP_6 c5 c4), if_neg c6, if_pos c7, if_neg (Bool.eq_false_iff.mp he)]
                          have e11 : (hCo p s) = (bt s 1) := by simp only [hFr, hTo, hFl, hKi, hCo, hSz, hdO, if_pos c0, if_neg c1, if_neg c2, if_neg c3, if_pos c4, if_pos c5, if_pos (eP_6 c5 c4), if_neg c6, if_pos c7, if_neg (Bool.eq_false_iff.mp he)]
                          have e12 : (hSz p s) = ((s.size : Int) - 8) := by simp only [hFr, hTo, hFl, hKi, hCo, hSz, hdO, if_pos c0, if_neg c1, if_neg c2, if_neg c3, if_pos c4, if_pos c5, if_pos (eP_6 c5 c4), if_neg c6, if_pos c7, if_neg (Bool.eq_false_iff.mp he)]
                          exact bodyPost_ret (v := .tuple #[.agg (av 13 (ls [.int .u8 p, .bool (v0), .int .u64 h0, .int .u64 l0, .bool (v1), .int .u64 h1, .int .u64 l1, .int .u16 0, .int .u16 0, .int .u8 0, .int .u8 (bt s 0), .int .u8 (bt s 1), .int .i64 ((s.size : Int) - 8)])), .int .i64 0]) (results_cell_tmp Try.results9 _ _ g2 32 (av 13 (ls [.int .u8 p, .bool (v0), .int .u64 h0, .int .u64 l0, .bool (v1), .int .u64 h1, .int .u64 l1, .int .u16 0, .int .u16 0, .int .u8 0, .int .u8 (bt s 0), .int .u8 (bt s 1), .int .i64 ((s.size : Int) - 8)])) (0, 0) _ _ (by kernel_rfl) (by kernel_rfl) (M.get 1 rfl) Try.underlying32 rfl (by rw [av_size]; exact inz32)) (by kernel_rfl) ⟨by simp only [hE, hn, hm, e7, e8, e9, e10, e11, e12], below_grown M.old⟩
                · skip
                  refine pl_val (want_no rfl) (some 129) rfl (.bool true) (fun w => Eq.trans (b := .ok (.value (.bool (!(decide ((sO v0 h0 l0 v1 h1 l1 p s) = 0))))) w) (by kernel_rfl) (by rw [decide_eq_false (c7)]; rfl)) ?_
                  refine pl_nil ?_
                  refine au_then ?_
                  refine wp_cond_true (by kernel_rfl) ?_
                  refine wp_seq ?_
                  refine rg_lit ?_
                  refine pl_val (want_no rfl) (some 130) rfl (.agg (av 13 (ls [.int .u8 0, .bool false, .int .u64 0, .int .u64 0, .bool false, .int .u64 0, .int .u64 0, .int .u16 0, .int .u16 0, .int .u8 0, .int .u8 0, .int .u8 0, .int .i64 0]))) (fun _ => by kernel_rfl) ?_
                  refine pl_put M (want_no rfl) rfl 32 _ _ rfl 1 g2 0 (by kernel_rfl) 13 32 (ls [.int .u8 0, .bool false, .int .u64 0, .int .u64 0, .bool false, .int .u64 0, .int .u64 0, .int .u16 0, .int .u16 0, .int .u8 0, .int .u8 0, .int .u8 0, .int .i64 0]) rfl 13 (ls [.int .u8 0, .bool false, .int .u64 0, .int .u64 0, .bool false, .int .u64 0, .int .u64 0, .int .u16 0, .int .u16 0, .int .u8 0, .int .u8 0, .int .u8 0, .int .i64 0]) (ls [.int .u8 0, .bool false, .int .u64 0, .int .u64 0, .bool false, .int .u64 0, .int .u64 0, .int .u16 0, .int .u16 0, .int .u8 0, .int .u8 0, .int .u8 0, .int .i64 0]) (by kernel_rfl) inz32 (by decide) (one_ls _ rfl) (fun j hj => by rw [if_pos (by omega), Nat.sub_zero]) ?_
                  intro u7 M
                  replace M : Mem ⟨w, []⟩ [⟨g1, .cells (av 9 (ls [.bool (v0), .int .u64 h0, .int .u64 l0, .bool (v1), .int .u64 h1, .int .u64 l1, .int .u8 p, .int .u8 t, .string s])) 26⟩, ⟨g2, .cells (av 13 (ls [.int .u8 0, .bool false, .int .u64 0, .int .u64 0, .bool false, .int .u64 0, .int .u64 0, .int .u16 0, .int .u16 0, .int .u8 0, .int .u8 0, .int .u8 0, .int .i64 0])) 32⟩, ⟨g3, .cells (av 13 (ls [.int .u8 p, .bool (v0), .int .u64 h0, .int .u64 l0, .bool (v1), .int .u64 h1, .int .u64 l1, .int .u16 0, .int .u16 0, .int .u8 0, .int .u8 0, .int .u8 0, .int .i64 0])) 32⟩] u7 := M
                  refine pl_val (want_no rfl) (some 3) rfl (.int .i64 131) (fun _ => by kernel_rfl) ?_
                  refine pl_nil ?_
                  refine au_then ?_
                  refine wp_ret ?_
                  refine au_then_ret ?_
                  refine au_block_ret ?_
                  refine au_then_ret ?_
                  have hE : dE v0 h0 l0 v1 h1 l1 p s = 131 := by unfold dE fO fE fS; simp only [ite_self, if_pos c0, if_neg c1, if_neg c2, if_neg c3, if_pos c4, if_pos c5, if_pos (eP_6 c5 c4), if_neg c6, if_neg c7]
                  have hn : ∀ x : Int, zI 131 x = 0 := fun x => if_neg (by decide)
                  have hm : ∀ x : Bool, zB 131 x = false := fun x => if_neg (by decide)
                  exact bodyPost_ret (v := .tuple #[.agg (av 13 (ls [.int .u8 0, .bool false, .int .u64 0, .int .u64 0, .bool false, .int .u64 0, .int .u64 0, .int .u16 0, .int .u16 0, .int .u8 0, .int .u8 0, .int .u8 0, .int .i64 0])), .int .i64 131]) (results_cell_tmp Try.results9 _ _ g2 32 (av 13 (ls [.int .u8 0, .bool false, .int .u64 0, .int .u64 0, .bool false, .int .u64 0, .int .u64 0, .int .u16 0, .int .u16 0, .int .u8 0, .int .u8 0, .int .u8 0, .int .i64 0])) (0, 0) _ _ (by kernel_rfl) (by kernel_rfl) (M.get 1 rfl) Try.underlying32 rfl (by rw [av_size]; exact inz32)) (by kernel_rfl) ⟨by simp only [hE, hn, hm], below_grown M.old⟩
            · skip
              refine pl_cell M (want_no rfl) (some 120) rfl 4 _ rfl g1 0 (by kernel_rfl) (.bool false) (fun _ => by kernel_rfl) (fun w M => M.cell 0 rfl (by decide) (congrArg Value.bool c5)) ?_
              refine pl_val (want_no rfl) (some 121) rfl (.bool true) (fun _ => by kernel_rfl) ?_
              refine pl_nil ?_
              refine au_then ?_
              refine wp_cond_true (by kernel_rfl) ?_
              refine wp_seq ?_
              refine rg_lit ?_
              refine pl_val (want_no rfl) (some 122) rfl (.agg (av 13 (ls [.int .u8 0, .bool false, .int .u64 0, .int .u64 0, .bool false, .int .u64 0, .int .u64 0, .int .u16 0, .int .u16 0, .int .u8 0, .int .u8 0, .int .u8 0, .int .i64 0]))) (fun _ => by kernel_rfl) ?_
              refine pl_put M (want_no rfl) rfl 32 _ _ rfl 1 g2 0 (by kernel_rfl) 13 32 (ls [.int .u8 0, .bool false, .int .u64 0, .int .u64 0, .bool false, .int .u64 0, .int .u64 0, .int .u16 0, .int .u16 0, .int .u8 0, .int .u8 0, .int .u8 0, .int .i64 0]) rfl 13 (ls [.int .u8 0, .bool false, .int .u64 0, .int .u64 0, .bool false, .int .u64 0, .int .u64 0, .int .u16 0, .int .u16 0, .int .u8 0, .int .u8 0, .int .u8 0, .int .i64 0]) (ls [.int .u8 0, .bool false, .int .u64 0, .int .u64 0, .bool false, .int .u64 0, .int .u64 0, .int .u16 0, .int .u16 0, .int .u8 0, .int .u8 0, .int .u8 0, .int .i64 0]) (by kernel_rfl) inz32 (by decide) (one_ls _ rfl) (fun j hj => by rw [if_pos (by omega), Nat.sub_zero]) ?_
              intro u6 M
              replace M : Mem ⟨w, []⟩ [⟨g1, .cells (av 9 (ls [.bool (v0), .int .u64 h0, .int .u64 l0, .bool (v1), .int .u64 h1, .int .u64 l1, .int .u8 p, .int .u8 t, .string s])) 26⟩, ⟨g2, .cells (av 13 (ls [.int .u8 0, .bool false, .int .u64 0, .int .u64 0, .bool false, .int .u64 0, .int .u64 0, .int .u16 0, .int .u16 0, .int .u8 0, .int .u8 0, .int .u8 0, .int .i64 0])) 32⟩, ⟨g3, .cells (av 13 (ls [.int .u8 p, .bool (v0), .int .u64 h0, .int .u64 l0, .bool (v1), .int .u64 h1, .int .u64 l1, .int .u16 0, .int .u16 0, .int .u8 0, .int .u8 0, .int .u8 0, .int .i64 0])) 32⟩] u6 := M
              refine pl_val (want_no rfl) (some 3) rfl (.int .i64 8) (fun _ => by kernel_rfl) ?_
              refine pl_nil ?_
              refine au_then ?_
              refine wp_ret ?_
              refine au_then_ret ?_
              refine au_block_ret ?_
              refine au_then_ret ?_
              have hE : dE v0 h0 l0 v1 h1 l1 p s = 8 := by unfold dE fO fE fS; simp only [ite_self, if_pos c0, if_neg c1, if_neg c2, if_neg c3, if_pos c4, if_neg (Bool.eq_false_iff.mp c5), if_neg (eP_4n c5 c4)]
              have hn : ∀ x : Int, zI 8 x = 0 := fun x => if_neg (by decide)
              have hm : ∀ x : Bool, zB 8 x = false := fun x => if_neg (by decide)
              exact bodyPost_ret (v := .tuple #[.agg (av 13 (ls [.int .u8 0, .bool false, .int .u64 0, .int .u64 0, .bool false, .int .u64 0, .int .u64 0, .int .u16 0, .int .u16 0, .int .u8 0, .int .u8 0, .int .u8 0, .int .i64 0])), .int .i64 8]) (results_cell_tmp Try.results9 _ _ g2 32 (av 13 (ls [.int .u8 0, .bool false, .int .u64 0, .int .u64 0, .bool false, .int .u64 0, .int .u64 0, .int .u16 0, .int .u16 0, .int .u8 0, .int .u8 0, .int .u8 0, .int .i64 0])) (0, 0) _ _ (by kernel_rfl) (by kernel_rfl) (M.get 1 rfl) Try.underlying32 rfl (by rw [av_size]; exact inz32)) (by kernel_rfl) ⟨by simp only [hE, hn, hm], below_grown M.old⟩
          · skip
            refine pl_val (want_no rfl) (some 114) rfl (.bool false) (fun w => Eq.trans (b := .ok (.value (.bool (decide (p = 58)))) w) (by kernel_rfl) (by rw [decide_eq_false (c4)])) ?_
            refine pl_val (want_no rfl) (some 112) rfl (.bool false) (fun _ => by kernel_rfl) ?_
            refine pl_nil ?_
            refine au_then ?_
            refine wp_cond_false (by kernel_rfl) ?_
            refine rg_lit ?_
            refine pl_val (want_no rfl) (some 26) rfl (.string s) (fun _ => by kernel_rfl) ?_
            refine pl_val (want_no rfl) (some 27) rfl (.int .i64 (s.size : Int)) (fun _ => by kernel_rfl) ?_
            refine pl_val (want_no rfl) (some 28) rfl (.pointer (some ⟨g3, 12, none⟩)) (fun _ => by kernel_rfl) ?_
            refine pl_put1 M (want_no rfl) rfl 3 _ _ rfl 2 g3 12 (by kernel_rfl) 13 32 (ls [.int .u8 p, .bool (v0), .int .u64 h0, .int .u64 l0, .bool (v1), .int .u64 h1, .int .u64 l1, .int .u16 0, .int .u16 0, .int .u8 0, .int .u8 0, .int .u8 0, .int .i64 0]) rfl (.int .i64 (s.size : Int)) (ls [.int .u8 p, .bool (v0), .int .u64 h0, .int .u64 l0, .bool (v1), .int .u64 h1, .int .u64 l1, .int .u16 0, .int .u16 0, .int .u8 0, .int .u8 0, .int .u8 0, .int .i64 (s.size : Int)]) (by kernel_rfl) inz3 (by decide) rfl rfl (put_ls _ 12 _ _ rfl) ?_
            intro u6 M
            replace M : Mem ⟨w, []⟩ [⟨g1, .cells (av 9 (ls [.bool (v0), .int .u64 h0, .int .u64 l0, .bool (v1), .int .u64 h1, .int .u64 l1, .int .u8 p, .int .u8 t, .string s])) 26⟩, ⟨g2, .cells (av 13 (ls [.int .u8 0, .bool false, .int .u64 0, .int .u64 0, .bool false, .int .u64 0, .int .u64 0, .int .u16 0, .int .u16 0, .int .u8 0, .int .u8 0, .int .u8 0, .int .i64 0])) 32⟩, ⟨g3, .cells (av 13 (ls [.int .u8 p, .bool (v0), .int .u64 h0, .int .u64 l0, .bool (v1), .int .u64 h1, .int .u64 l1, .int .u16 0, .int .u16 0, .int .u8 0, .int .u8 0, .int .u8 0, .int .i64 (s.size : Int)])) 32⟩] u6 := M
            refine pl_nil ?_
            refine au_block ?_
            refine au_then ?_
            refine wp_seq ?_
            refine rg_lit ?_
            refine pl_load M (want_no rfl) (some 186) rfl 32 _ rfl 2 g3 0 (by kernel_rfl) 13 32 (ls [.int .u8 p, .bool (v0), .int .u64 h0, .int .u64 l0, .bool (v1), .int .u64 h1, .int .u64 l1, .int .u16 0, .int .u16 0, .int .u8 0, .int .u8 0, .int .u8 0, .int .i64 (s.size : Int)]) rfl 13 (ls [.int .u8 p, .bool (v0), .int .u64 h0, .int .u64 l0, .bool (v1), .int .u64 h1, .int .u64 l1, .int .u16 0, .int .u16 0, .int .u8 0, .int .u8 0, .int .u8 0, .int .i64 (s.size : Int)]) (fun j _ => by rw [Nat.zero_add]) (by decide) _ Try.underlying32 rfl inz32 ?_
            refine pl_put M (want_no rfl) rfl 32 _ _ rfl 1 g2 0 (by kernel_rfl) 13 32 (ls [.int .u8 0, .bool false, .int .u64 0, .int .u64 0, .bool false, .int .u64 0, .int .u64 0, .int .u16 0, .int .u16 0, .int .u8 0, .int .u8 0, .int .u8 0, .int .i64 0]) rfl 13 (ls [.int .u8 p, .bool (v0), .int .u64 h0, .int .u64 l0, .bool (v1), .int .u64 h1, .int .u64 l1, .int .u16 0, .int .u16 0, .int .u8 0, .int .u8 0, .int .u8 0, .int .i64 (s.size : Int)]) (ls [.int .u8 p, .bool (v0), .int .u64 h0, .int .u64 l0, .bool (v1), .int .u64 h1, .int .u64 l1, .int .u16 0, .int .u16 0, .int .u8 0, .int .u8 0, .int .u8 0, .int .i64 (s.size : Int)]) (by kernel_rfl) inz32 (by decide) (one_ls _ rfl) (fun j hj => by rw [if_pos (by omega), Nat.sub_zero]) ?_
            intro u7 M
            replace M : Mem ⟨w, []⟩ [⟨g1, .cells (av 9 (ls [.bool (v0), .int .u64 h0, .int .u64 l0, .bool (v1), .int .u64 h1, .int .u64 l1, .int .u8 p, .int .u8 t, .string s])) 26⟩, ⟨g2, .cells (av 13 (ls [.int .u8 p, .bool (v0), .int .u64 h0, .int .u64 l0, .bool (v1), .int .u64 h1, .int .u64 l1, .int .u16 0, .int .u16 0, .int .u8 0, .int .u8 0, .int .u8 0, .int .i64 (s.size : Int)])) 32⟩, ⟨g3, .cells (av 13 (ls [.int .u8 p, .bool (v0), .int .u64 h0, .int .u64 l0, .bool (v1), .int .u64 h1, .int .u64 l1, .int .u16 0, .int .u16 0, .int .u8 0, .int .u8 0, .int .u8 0, .int .i64 (s.size : Int)])) 32⟩] u7 := M
            refine pl_val (want_no rfl) (some 3) rfl (.int .i64 0) (fun _ => by kernel_rfl) ?_
            refine pl_nil ?_
            refine au_then ?_
            refine wp_ret ?_
            have hE : dE v0 h0 l0 v1 h1 l1 p s = 0 := by unfold dE fO fE fS; simp only [ite_self, if_pos c0, if_neg c1, if_neg c2, if_neg c3, if_neg c4]
            have hn : ∀ x : Int, zI 0 x = x := fun x => if_pos rfl
            have hm : ∀ x : Bool, zB 0 x = x := fun x => if_pos rfl
            have e7 : (hFr p s) = 0 := by simp only [hFr, hTo, hFl, hKi, hCo, hSz, hdO, if_pos c0, if_neg c1, if_neg c2, if_neg c3, if_neg c4]
            have e8 : (hTo p s) = 0 := by simp only [hFr, hTo, hFl, hKi, hCo, hSz, hdO, if_pos c0, if_neg c1, if_neg c2, if_neg c3, if_neg c4]
            have e9 : (hFl p s) = 0 := by simp only [hFr, hTo, hFl, hKi, hCo, hSz, hdO, if_pos c0, if_neg c1, if_neg c2, if_neg c3, if_neg c4]
            have e10 : (hKi p s) = 0 := by simp only [hFr, hTo, hFl, hKi, hCo, hSz, hdO, if_pos c0, if_neg c1, if_neg c2, if_neg c3, if_neg c4]
            have e11 : (hCo p s) = 0 := by simp only [hFr, hTo, hFl, hKi, hCo, hSz, hdO, if_pos c0, if_neg c1, if_neg c2, if_neg c3, if_neg c4]
            have e12 : (hSz p s) = (s.size : Int) := by simp only [hFr, hTo, hFl, hKi, hCo, hSz, hdO, if_pos c0, if_neg c1, if_neg c2, if_neg c3, if_neg c4]; omega
            exact bodyPost_ret (v := .tuple #[.agg (av 13 (ls [.int .u8 p, .bool (v0), .int .u64 h0, .int .u64 l0, .bool (v1), .int .u64 h1, .int .u64 l1, .int .u16 0, .int .u16 0, .int .u8 0, .int .u8 0, .int .u8 0, .int .i64 (s.size : Int)])), .int .i64 0]) (results_cell_tmp Try.results9 _ _ g2 32 (av 13 (ls [.int .u8 p, .bool (v0), .int .u64 h0, .int .u64 l0, .bool (v1), .int .u64 h1, .int .u64 l1, .int .u16 0, .int .u16 0, .int .u8 0, .int .u8 0, .int .u8 0, .int .i64 (s.size : Int)])) (0, 0) _ _ (by kernel_rfl) (by kernel_rfl) (M.get 1 rfl) Try.underlying32 rfl (by rw [av_size]; exact inz32)) (by kernel_rfl) ⟨by simp only [hE, hn, hm, e7, e8, e9, e10, e11, e12], below_grown M.old⟩
  · skip
    refine pl_val (want_no rfl) (some 11) rfl (.bool true) (fun w => Eq.trans (b := .ok (.value (.bool (!(decide ((my v0 h0 l0 v1 h1 l1 (s.size : Int)) = 0))))) w) (by kernel_rfl) (by rw [decide_eq_false (c0)]; rfl)) ?_
    refine pl_nil ?_
    refine au_then ?_
    refine wp_cond_true (by kernel_rfl) ?_
    refine wp_seq ?_
    refine rg_lit ?_
    refine pl_val (want_no rfl) (some 12) rfl (.agg (av 13 (ls [.int .u8 0, .bool false, .int .u64 0, .int .u64 0, .bool false, .int .u64 0, .int .u64 0, .int .u16 0, .int .u16 0, .int .u8 0, .int .u8 0, .int .u8 0, .int .i64 0]))) (fun _ => by kernel_rfl) ?_
    refine pl_val (want_no rfl) (some 13) rfl (.int .i64 (my v0 h0 l0 v1 h1 l1 (s.size : Int))) (fun _ => by kernel_rfl) ?_
    refine pl_put M (want_no rfl) rfl 32 _ _ rfl 1 g2 0 (by kernel_rfl) 13 32 (ls [.int .u8 0, .bool false, .int .u64 0, .int .u64 0, .bool false, .int .u64 0, .int .u64 0, .int .u16 0, .int .u16 0, .int .u8 0, .int .u8 0, .int .u8 0, .int .i64 0]) rfl 13 (ls [.int .u8 0, .bool false, .int .u64 0, .int .u64 0, .bool false, .int .u64 0, .int .u64 0, .int .u16 0, .int .u16 0, .int .u8 0, .int .u8 0, .int .u8 0, .int .i64 0]) (ls [.int .u8 0, .bool false, .int .u64 0, .int .u64 0, .bool false, .int .u64 0, .int .u64 0, .int .u16 0, .int .u16 0, .int .u8 0, .int .u8 0, .int .u8 0, .int .i64 0]) (by kernel_rfl) inz32 (by decide) (one_ls _ rfl) (fun j hj => by rw [if_pos (by omega), Nat.sub_zero]) ?_
    intro u4 M
    replace M : Mem ⟨w, []⟩ [⟨g1, .cells (av 9 (ls [.bool (v0), .int .u64 h0, .int .u64 l0, .bool (v1), .int .u64 h1, .int .u64 l1, .int .u8 p, .int .u8 t, .string s])) 26⟩, ⟨g2, .cells (av 13 (ls [.int .u8 0, .bool false, .int .u64 0, .int .u64 0, .bool false, .int .u64 0, .int .u64 0, .int .u16 0, .int .u16 0, .int .u8 0, .int .u8 0, .int .u8 0, .int .i64 0])) 32⟩] u4 := M
    refine pl_val (want_no rfl) (some 3) rfl (.int .i64 (my v0 h0 l0 v1 h1 l1 (s.size : Int))) (fun _ => by kernel_rfl) ?_
    refine pl_nil ?_
    refine au_then ?_
    refine wp_ret ?_
    refine au_then_ret ?_
    have hE : dE v0 h0 l0 v1 h1 l1 p s = (my v0 h0 l0 v1 h1 l1 (s.size : Int)) := by unfold dE fO fE fS; simp only [ite_self, if_neg c0]
    have hn : ∀ x : Int, zI (my v0 h0 l0 v1 h1 l1 (s.size : Int)) x = 0 := fun x => if_neg c0
    have hm : ∀ x : Bool, zB (my v0 h0 l0 v1 h1 l1 (s.size : Int)) x = false := fun x => if_neg c0
    exact bodyPost_ret (v := .tuple #[.agg (av 13 (ls [.int .u8 0, .bool false, .int .u64 0, .int .u64 0, .bool false, .int .u64 0, .int .u64 0, .int .u16 0, .int .u16 0, .int .u8 0, .int .u8 0, .int .u8 0, .int .i64 0])), .int .i64 (my v0 h0 l0 v1 h1 l1 (s.size : Int))]) (results_cell_tmp Try.results9 _ _ g2 32 (av 13 (ls [.int .u8 0, .bool false, .int .u64 0, .int .u64 0, .bool false, .int .u64 0, .int .u64 0, .int .u16 0, .int .u16 0, .int .u8 0, .int .u8 0, .int .u8 0, .int .i64 0])) (0, 0) _ _ (by kernel_rfl) (by kernel_rfl) (M.get 1 rfl) Try.underlying32 rfl (by rw [av_size]; exact inz32)) (by kernel_rfl) ⟨by simp only [hE, hn, hm], below_grown M.old⟩


end Go.Proofs.Ytahknenmjnhmjaa
