/- The packets that are made: the document. -/
import Derived.Test.YtahknenmjnhmjaaP4
namespace Go.Proofs.Ytahknenmjnhmjaa
open Go.RowKit

set_option maxRecDepth 100000 in
set_option maxHeartbeats 4000000 in
set_option linter.unusedSimpArgs false in
theorem d_made (v0 : Bool) (h0 l0 : Int) (v1 : Bool) (h1 l1 p : Int) (s A B : ByteArray) (k : Nat) (hk : k = A.size) (hD : s = pkD A B) (hs : s.size ≤ 9000) (hp : 0 ≤ p ∧ p < 256) (w : World) (hL : Laid w)  :
    Calls Try.prog 33 #[.agg (av 9 (ls [.bool (v0), .int .u64 h0, .int .u64 l0, .bool (v1), .int .u64 h1, .int .u64 l1, .int .u8 p, .int .u8 64, .string s])), .int .i64 (k : Int)] w fun r w' => r = .returned (.tuple #[.agg (av 9 (ls [.bool (zB (my v0 h0 l0 v1 h1 l1 (s.size : Int)) v0), .int .u64 (zI (my v0 h0 l0 v1 h1 l1 (s.size : Int)) h0), .int .u64 (zI (my v0 h0 l0 v1 h1 l1 (s.size : Int)) l0), .bool (zB (my v0 h0 l0 v1 h1 l1 (s.size : Int)) v1), .int .u64 (zI (my v0 h0 l0 v1 h1 l1 (s.size : Int)) h1), .int .u64 (zI (my v0 h0 l0 v1 h1 l1 (s.size : Int)) l1), .int .u8 (zI (my v0 h0 l0 v1 h1 l1 (s.size : Int)) p), .int .u8 (zI (my v0 h0 l0 v1 h1 l1 (s.size : Int)) 64), .string (zS (my v0 h0 l0 v1 h1 l1 (s.size : Int)) ((A ++ be2 (cv .u64 (tS v0 h0 l0 v1 h1 l1 p s))) ++ B))])), .int .i64 (my v0 h0 l0 v1 h1 l1 (s.size : Int))]) ∧ Below w.heap.size w w' := by
  go_enter Try.func33, Try.ntmps33
  have M := Mem.start hL
  have hz := pkD_size A B
  rw [← hD] at hz
  refine wp_seq ?_
  refine rg_lit ?_
  refine pl_new M (want_no rfl) (some 2) rfl (.cells (av 9 (ls [.bool (v0), .int .u64 h0, .int .u64 l0, .bool (v1), .int .u64 h1, .int .u64 l1, .int .u8 p, .int .u8 64, .string s])) 26) (fun _ => by kernel_rfl) ?_
  intro g1 u1 M
  replace M : Mem ⟨w, []⟩ [⟨g1, .cells (av 9 (ls [.bool (v0), .int .u64 h0, .int .u64 l0, .bool (v1), .int .u64 h1, .int .u64 l1, .int .u8 p, .int .u8 64, .string s])) 26⟩] u1 := M
  refine pl_new M (want_no rfl) (some 4) rfl (.cells (av 9 (ls [.bool false, .int .u64 0, .int .u64 0, .bool false, .int .u64 0, .int .u64 0, .int .u8 0, .int .u8 0, .string ⟨#[]⟩])) 26) (fun _ => by kernel_rfl) ?_
  intro g2 u2 M
  replace M : Mem ⟨w, []⟩ [⟨g1, .cells (av 9 (ls [.bool (v0), .int .u64 h0, .int .u64 l0, .bool (v1), .int .u64 h1, .int .u64 l1, .int .u8 p, .int .u8 64, .string s])) 26⟩, ⟨g2, .cells (av 9 (ls [.bool false, .int .u64 0, .int .u64 0, .bool false, .int .u64 0, .int .u64 0, .int .u8 0, .int .u8 0, .string ⟨#[]⟩])) 26⟩] u2 := M
  refine pl_val (want_no rfl) (some 5) rfl (.int .i64 0) (fun _ => by kernel_rfl) ?_
  refine pl_nil ?_
  refine au_then ?_
  refine wp_seq ?_
  refine rg_lit ?_
  refine pl_load M (want_no rfl) (some 8) rfl 26 _ rfl 0 g1 0 (by kernel_rfl) 9 26 (ls [.bool (v0), .int .u64 h0, .int .u64 l0, .bool (v1), .int .u64 h1, .int .u64 l1, .int .u8 p, .int .u8 64, .string s]) rfl 9 (ls [.bool (v0), .int .u64 h0, .int .u64 l0, .bool (v1), .int .u64 h1, .int .u64 l1, .int .u8 p, .int .u8 64, .string s]) (fun j _ => by rw [Nat.zero_add]) (by decide) _ Try.underlying26 rfl inz26 ?_
  refine pl_call M (want_no rfl) (some 9) rfl 24 #[.agg (av 9 (ls [.bool (v0), .int .u64 h0, .int .u64 l0, .bool (v1), .int .u64 h1, .int .u64 l1, .int .u8 p, .int .u8 64, .string s]))] (.int .i64 (my v0 h0 l0 v1 h1 l1 (s.size : Int))) (fun _ => by kernel_rfl) (fun w M => d_May v0 h0 l0 v1 h1 l1 p 64 s (by (try simp only [ByteArray.size_append, ByteArray.size_extract, be2_size, be4_size, be8_size, bs_size, sz_mk, List.size_toArray, List.length_cons, List.length_nil]); omega) w M.laid) ?_
  intro u3 M
  refine pl_val (want_no rfl) (some 6) rfl (.int .i64 (my v0 h0 l0 v1 h1 l1 (s.size : Int))) (fun _ => by kernel_rfl) ?_
  refine pl_nil ?_
  refine au_then ?_
  refine wp_seq ?_
  refine wp_seq ?_
  refine rg_lit ?_
  refine pl_val (want_no rfl) (some 10) rfl (.int .i64 (my v0 h0 l0 v1 h1 l1 (s.size : Int))) (fun _ => by kernel_rfl) ?_
  by_cases c0 : (my v0 h0 l0 v1 h1 l1 (s.size : Int)) = 0
  · skip
    refine pl_val (want_no rfl) (some 11) rfl (.bool false) (fun w => Eq.trans (b := .ok (.value (.bool (!(decide ((my v0 h0 l0 v1 h1 l1 (s.size : Int)) = 0))))) w) (by kernel_rfl) (by rw [decide_eq_true (c0)]; rfl)) ?_
    refine pl_nil ?_
    refine au_then ?_
    refine wp_cond_false (by kernel_rfl) ?_
    refine wp_skip ?_
    refine au_then ?_
    refine wp_seq ?_
    refine rg_lit ?_
    refine pl_load M (want_no rfl) (some 14) rfl 26 _ rfl 0 g1 0 (by kernel_rfl) 9 26 (ls [.bool (v0), .int .u64 h0, .int .u64 l0, .bool (v1), .int .u64 h1, .int .u64 l1, .int .u8 p, .int .u8 64, .string s]) rfl 9 (ls [.bool (v0), .int .u64 h0, .int .u64 l0, .bool (v1), .int .u64 h1, .int .u64 l1, .int .u8 p, .int .u8 64, .string s]) (fun j _ => by rw [Nat.zero_add]) (by decide) _ Try.underlying26 rfl inz26 ?_
    refine pl_call M (want_no rfl) (some 15) rfl 26 #[.agg (av 9 (ls [.bool (v0), .int .u64 h0, .int .u64 l0, .bool (v1), .int .u64 h1, .int .u64 l1, .int .u8 p, .int .u8 64, .string s]))] (.int .u16 (sO v0 h0 l0 v1 h1 l1 p s)) (fun _ => by kernel_rfl) (fun w M => d_sum v0 h0 l0 v1 h1 l1 p 64 s (by omega) (by omega) w M.laid) ?_
    intro u4 M
    refine pl_val (want_no rfl) (some 7) rfl (.int .u16 (sO v0 h0 l0 v1 h1 l1 p s)) (fun _ => by kernel_rfl) ?_
    refine pl_nil ?_
    refine au_then ?_
    refine wp_seq ?_
    refine wp_seq ?_
    refine rg_lit ?_
    refine pl_val (want_no rfl) (some 16) rfl (.pointer (some ⟨g1, 6, none⟩)) (fun _ => by kernel_rfl) ?_
    refine pl_cell M (want_no rfl) (some 17) rfl 5 _ rfl g1 6 (by kernel_rfl) (.int .u8 p) (fun _ => by kernel_rfl) (fun w M => M.cell 0 rfl (by decide) rfl) ?_
    by_cases c1 : p = 17
    · skip
      refine pl_val (want_no rfl) (some 18) rfl (.bool true) (fun w => Eq.trans (b := .ok (.value (.bool (decide (p = 17)))) w) (by kernel_rfl) (by rw [decide_eq_true (c1)])) ?_
      refine pl_val (want_no rfl) (some 19) rfl (.bool true) (fun _ => by kernel_rfl) ?_
      refine pl_val (want_on 3 true rfl 19 rfl (by kernel_rfl)) (some 20) rfl (.int .u16 (sO v0 h0 l0 v1 h1 l1 p s)) (fun _ => by kernel_rfl) ?_
      by_cases c2 : (sO v0 h0 l0 v1 h1 l1 p s) = 0
      · skip
        refine pl_val (want_on 3 true rfl 19 rfl (by kernel_rfl)) (some 21) rfl (.bool true) (fun w => Eq.trans (b := .ok (.value (.bool (decide ((sO v0 h0 l0 v1 h1 l1 p s) = 0)))) w) (by kernel_rfl) (by rw [decide_eq_true (c2)])) ?_
        refine pl_val (want_no rfl) (some 22) rfl (.bool true) (fun _ => by kernel_rfl) ?_
        refine pl_nil ?_
        refine au_then ?_
        refine wp_cond_true (by kernel_rfl) ?_
        refine rg_lit ?_
        refine pl_val (want_no rfl) (some 7) rfl (.int .u16 65535) (fun _ => by kernel_rfl) ?_
        refine pl_nil ?_
        refine au_then ?_
        refine wp_seq ?_
        refine rg_tail M 15 (by kernel_rfl) (by kernel_rfl) ?_
        simp only [List.take_succ_cons, List.take_zero]
        refine k_val (want_no rfl) (some 23) rfl (.pointer (some ⟨g1, 8, none⟩)) (fun _ => by kernel_rfl) ?_
        refine k_cell M (want_no rfl) (some 24) rfl 9 _ rfl g1 8 (by kernel_rfl) (.string s) (fun _ => by kernel_rfl) (fun w M => M.cell 0 rfl (by decide) rfl) ?_
        refine k_val (want_no rfl) (some 25) rfl (.int .i64 (k : Int)) (fun _ => by kernel_rfl) ?_
        refine k_val (want_no rfl) (some 26) rfl (.string (s.extract 0 k)) (run_strh 9 Try.underlying9 _ _ rfl s (by kernel_rfl) .i64 k (by kernel_rfl) (by omega) _ rfl) ?_
        refine k_val (want_no rfl) (some 27) rfl (.int .u16 65535) (fun _ => by kernel_rfl) ?_
        refine k_val (want_no rfl) (some 28) rfl (.int .u64 65535) (fun _ => by kernel_rfl) ?_
        refine k_call M (want_no rfl) (some 29) rfl 32 #[.int .u64 65535, .int .i64 2] (.string (be2 65535)) (fun _ => by kernel_rfl) (fun w M => c_num2 65535 w M.laid) ?_
        refine k_val (want_no rfl) (some 30) rfl (.string ((s.extract 0 k) ++ (be2 65535))) (run_cat 9 9 _ _ rfl (s.extract 0 k) (be2 65535) (by kernel_rfl) (by kernel_rfl) (by (try simp only [ByteArray.size_append, ByteArray.size_extract, be2_size, be4_size, be8_size, bs_size, sz_mk, List.size_toArray, List.length_cons, List.length_nil]); omega)) ?_
        refine k_val (want_no rfl) (some 31) rfl (.pointer (some ⟨g1, 8, none⟩)) (fun _ => by kernel_rfl) ?_
        refine k_cell M (want_no rfl) (some 32) rfl 9 _ rfl g1 8 (by kernel_rfl) (.string s) (fun _ => by kernel_rfl) (fun w M => M.cell 0 rfl (by decide) rfl) ?_
        refine k_val (want_no rfl) (some 33) rfl (.int .i64 (k : Int)) (fun _ => by kernel_rfl) ?_
        refine k_val (want_no rfl) (some 34) rfl (.int .i64 ((k + 2 : Nat) : Int)) (fun w => Eq.trans (b := .ok (.value (.int .i64 (IntKind.wrap .i64 ((k : Int) + 2)))) w) (by kernel_rfl) (by rw [wrap64 (by omega) (by omega)]; rfl)) ?_
        refine k_val (want_no rfl) (some 35) rfl (.string (s.extract (k + 2) s.size)) (run_strl 9 Try.underlying9 _ _ rfl s (by kernel_rfl) .i64 (k + 2) (by kernel_rfl) (by omega) _ rfl) ?_
        refine k_val (want_no rfl) (some 36) rfl (.string (((s.extract 0 k) ++ (be2 65535)) ++ (s.extract (k + 2) s.size))) (run_cat 9 9 _ _ rfl ((s.extract 0 k) ++ (be2 65535)) (s.extract (k + 2) s.size) (by kernel_rfl) (by kernel_rfl) (by (try simp only [ByteArray.size_append, ByteArray.size_extract, be2_size, be4_size, be8_size, bs_size, sz_mk, List.size_toArray, List.length_cons, List.length_nil]); omega)) ?_
        refine k_val (want_no rfl) (some 37) rfl (.pointer (some ⟨g1, 8, none⟩)) (fun _ => by kernel_rfl) ?_
        refine kl_nil ?_
        intro u5 M
        replace M : Mem ⟨w, []⟩ [⟨g1, .cells (av 9 (ls [.bool (v0), .int .u64 h0, .int .u64 l0, .bool (v1), .int .u64 h1, .int .u64 l1, .int .u8 p, .int .u8 64, .string s])) 26⟩, ⟨g2, .cells (av 9 (ls [.bool false, .int .u64 0, .int .u64 0, .bool false, .int .u64 0, .int .u64 0, .int .u8 0, .int .u8 0, .string ⟨#[]⟩])) 26⟩] u5 := M
        refine pl_put1 M (want_no rfl) rfl 9 _ _ rfl 0 g1 8 (by kernel_rfl) 9 26 (ls [.bool (v0), .int .u64 h0, .int .u64 l0, .bool (v1), .int .u64 h1, .int .u64 l1, .int .u8 p, .int .u8 64, .string s]) rfl (.string (((s.extract 0 k) ++ (be2 65535)) ++ (s.extract (k + 2) s.size))) (ls [.bool (v0), .int .u64 h0, .int .u64 l0, .bool (v1), .int .u64 h1, .int .u64 l1, .int .u8 p, .int .u8 64, .string (((s.extract 0 k) ++ (be2 65535)) ++ (s.extract (k + 2) s.size))]) (by kernel_rfl) inz9 (by decide) rfl rfl (put_ls _ 8 _ _ rfl) ?_
        intro u6 M
        replace M : Mem ⟨w, []⟩ [⟨g1, .cells (av 9 (ls [.bool (v0), .int .u64 h0, .int .u64 l0, .bool (v1), .int .u64 h1, .int .u64 l1, .int .u8 p, .int .u8 64, .string (((s.extract 0 k) ++ (be2 65535)) ++ (s.extract (k + 2) s.size))])) 26⟩, ⟨g2, .cells (av 9 (ls [.bool false, .int .u64 0, .int .u64 0, .bool false, .int .u64 0, .int .u64 0, .int .u8 0, .int .u8 0, .string ⟨#[]⟩])) 26⟩] u6 := M
        refine pl_nil ?_
        refine au_then ?_
        refine wp_seq ?_
        refine rg_lit ?_
        refine pl_load M (want_no rfl) (some 38) rfl 26 _ rfl 0 g1 0 (by kernel_rfl) 9 26 (ls [.bool (v0), .int .u64 h0, .int .u64 l0, .bool (v1), .int .u64 h1, .int .u64 l1, .int .u8 p, .int .u8 64, .string (((s.extract 0 k) ++ (be2 65535)) ++ (s.extract (k + 2) s.size))]) rfl 9 (ls [.bool (v0), .int .u64 h0, .int .u64 l0, .bool (v1), .int .u64 h1, .int .u64 l1, .int .u8 p, .int .u8 64, .string (((s.extract 0 k) ++ (be2 65535)) ++ (s.extract (k + 2) s.size))]) (fun j _ => by rw [Nat.zero_add]) (by decide) _ Try.underlying26 rfl inz26 ?_
        refine pl_put M (want_no rfl) rfl 26 _ _ rfl 1 g2 0 (by kernel_rfl) 9 26 (ls [.bool false, .int .u64 0, .int .u64 0, .bool false, .int .u64 0, .int .u64 0, .int .u8 0, .int .u8 0, .string ⟨#[]⟩]) rfl 9 (ls [.bool (v0), .int .u64 h0, .int .u64 l0, .bool (v1), .int .u64 h1, .int .u64 l1, .int .u8 p, .int .u8 64, .string (((s.extract 0 k) ++ (be2 65535)) ++ (s.extract (k + 2) s.size))]) (ls [.bool (v0), .int .u64 h0, .int .u64 l0, .bool (v1), .int .u64 h1, .int .u64 l1, .int .u8 p, .int .u8 64, .string (((s.extract 0 k) ++ (be2 65535)) ++ (s.extract (k + 2) s.size))]) (by kernel_rfl) inz26 (by decide) (one_ls _ rfl) (fun j hj => by rw [if_pos (by omega), Nat.sub_zero]) ?_
        intro u7 M
        replace M : Mem ⟨w, []⟩ [⟨g1, .cells (av 9 (ls [.bool (v0), .int .u64 h0, .int .u64 l0, .bool (v1), .int .u64 h1, .int .u64 l1, .int .u8 p, .int .u8 64, .string (((s.extract 0 k) ++ (be2 65535)) ++ (s.extract (k + 2) s.size))])) 26⟩, ⟨g2, .cells (av 9 (ls [.bool (v0), .int .u64 h0, .int .u64 l0, .bool (v1), .int .u64 h1, .int .u64 l1, .int .u8 p, .int .u8 64, .string (((s.extract 0 k) ++ (be2 65535)) ++ (s.extract (k + 2) s.size))])) 26⟩] u7 := M
        refine pl_val (want_no rfl) (some 5) rfl (.int .i64 0) (fun _ => by kernel_rfl) ?_
        refine pl_nil ?_
        refine au_then ?_
        refine wp_ret ?_
        have e0 : zB (my v0 h0 l0 v1 h1 l1 (s.size : Int)) v0 = v0 := if_pos c0
        have e1 : (zI (my v0 h0 l0 v1 h1 l1 (s.size : Int)) h0) = h0 := if_pos c0
        have e2 : (zI (my v0 h0 l0 v1 h1 l1 (s.size : Int)) l0) = l0 := if_pos c0
        have e3 : zB (my v0 h0 l0 v1 h1 l1 (s.size : Int)) v1 = v1 := if_pos c0
        have e4 : (zI (my v0 h0 l0 v1 h1 l1 (s.size : Int)) h1) = h1 := if_pos c0
        have e5 : (zI (my v0 h0 l0 v1 h1 l1 (s.size : Int)) l1) = l1 := if_pos c0
        have e6 : (zI (my v0 h0 l0 v1 h1 l1 (s.size : Int)) p) = p := if_pos c0
        have e7 : (zI (my v0 h0 l0 v1 h1 l1 (s.size : Int)) 64) = 64 := if_pos c0
        have e8 : (zS (my v0 h0 l0 v1 h1 l1 (s.size : Int)) ((A ++ be2 (cv .u64 (tS v0 h0 l0 v1 h1 l1 p s))) ++ B)) = (((s.extract 0 k) ++ (be2 65535)) ++ (s.extract (k + 2) s.size)) := by unfold zS; rw [if_pos c0, app_ext _ A B k hk s hD]; simp only [tS, if_pos c1, if_pos c2] <;> rfl
        have e9 : (my v0 h0 l0 v1 h1 l1 (s.size : Int)) = 0 := c0
        exact bodyPost_ret (v := .tuple #[.agg (av 9 (ls [.bool (v0), .int .u64 h0, .int .u64 l0, .bool (v1), .int .u64 h1, .int .u64 l1, .int .u8 p, .int .u8 64, .string (((s.extract 0 k) ++ (be2 65535)) ++ (s.extract (k + 2) s.size))])), .int .i64 0]) (results_cell_tmp Try.results33 _ _ g2 26 (av 9 (ls [.bool (v0), .int .u64 h0, .int .u64 l0, .bool (v1), .int .u64 h1, .int .u64 l1, .int .u8 p, .int .u8 64, .string (((s.extract 0 k) ++ (be2 65535)) ++ (s.extract (k + 2) s.size))])) (0, 0) _ _ (by kernel_rfl) (by kernel_rfl) (M.get 1 rfl) Try.underlying26 rfl (by rw [av_size]; exact inz26)) (by kernel_rfl) ⟨by rw [e0, e1, e2, e3, e4, e5, e6, e7, e8, e9], below_grown M.old⟩
      · skip
        refine pl_val (want_on 3 true rfl 19 rfl (by kernel_rfl)) (some 21) rfl (.bool false) (fun w => Eq.trans (b := .ok (.value (.bool (decide ((sO v0 h0 l0 v1 h1 l1 p s) = 0)))) w) (by kernel_rfl) (by rw [decide_eq_false (c2)])) ?_
        refine pl_val (want_no rfl) (some 22) rfl (.bool false) (fun _ => by kernel_rfl) ?_
        refine pl_nil ?_
        refine au_then ?_
        refine wp_cond_false (by kernel_rfl) ?_
        refine wp_skip ?_
        refine au_then ?_
        refine wp_seq ?_
        refine rg_tail M 15 (by kernel_rfl) (by kernel_rfl) ?_
        simp only [List.take_succ_cons, List.take_zero]
        refine k_val (want_no rfl) (some 23) rfl (.pointer (some ⟨g1, 8, none⟩)) (fun _ => by kernel_rfl) ?_
        refine k_cell M (want_no rfl) (some 24) rfl 9 _ rfl g1 8 (by kernel_rfl) (.string s) (fun _ => by kernel_rfl) (fun w M => M.cell 0 rfl (by decide) rfl) ?_
        refine k_val (want_no rfl) (some 25) rfl (.int .i64 (k : Int)) (fun _ => by kernel_rfl) ?_
        refine k_val (want_no rfl) (some 26) rfl (.string (s.extract 0 k)) (run_strh 9 Try.underlying9 _ _ rfl s (by kernel_rfl) .i64 k (by kernel_rfl) (by omega) _ rfl) ?_
        refine k_val (want_no rfl) (some 27) rfl (.int .u16 (sO v0 h0 l0 v1 h1 l1 p s)) (fun _ => by kernel_rfl) ?_
        refine k_val (want_no rfl) (some 28) rfl (.int .u64 (cv .u64 (sO v0 h0 l0 v1 h1 l1 p s))) (fun _ => by kernel_rfl) ?_
        refine k_call M (want_no rfl) (some 29) rfl 32 #[.int .u64 (cv .u64 (sO v0 h0 l0 v1 h1 l1 p s)), .int .i64 2] (.string (be2 (cv .u64 (sO v0 h0 l0 v1 h1 l1 p s)))) (fun _ => by kernel_rfl) (fun w M => c_num2 (cv .u64 (sO v0 h0 l0 v1 h1 l1 p s)) w M.laid) ?_
        refine k_val (want_no rfl) (some 30) rfl (.string ((s.extract 0 k) ++ (be2 (cv .u64 (sO v0 h0 l0 v1 h1 l1 p s))))) (run_cat 9 9 _ _ rfl (s.extract 0 k) (be2 (cv .u64 (sO v0 h0 l0 v1 h1 l1 p s))) (by kernel_rfl) (by kernel_rfl) (by (try simp only [ByteArray.size_append, ByteArray.size_extract, be2_size, be4_size, be8_size, bs_size, sz_mk, List.size_toArray, List.length_cons, List.length_nil]); omega)) ?_
        refine k_val (want_no rfl) (some 31) rfl (.pointer (some ⟨g1, 8, none⟩)) (fun _ => by kernel_rfl) ?_
        refine k_cell M (want_no rfl) (some 32) rfl 9 _ rfl g1 8 (by kernel_rfl) (.string s) (fun _ => by kernel_rfl) (fun w M => M.cell 0 rfl (by decide) rfl) ?_
        refine k_val (want_no rfl) (some 33) rfl (.int .i64 (k : Int)) (fun _ => by kernel_rfl) ?_
        refine k_val (want_no rfl) (some 34) rfl (.int .i64 ((k + 2 : Nat) : Int)) (fun w => Eq.trans (b := .ok (.value (.int .i64 (IntKind.wrap .i64 ((k : Int) + 2)))) w) (by kernel_rfl) (by rw [wrap64 (by omega) (by omega)]; rfl)) ?_
        refine k_val (want_no rfl) (some 35) rfl (.string (s.extract (k + 2) s.size)) (run_strl 9 Try.underlying9 _ _ rfl s (by kernel_rfl) .i64 (k + 2) (by kernel_rfl) (by omega) _ rfl) ?_
        refine k_val (want_no rfl) (some 36) rfl (.string (((s.extract 0 k) ++ (be2 (cv .u64 (sO v0 h0 l0 v1 h1 l1 p s)))) ++ (s.extract (k + 2) s.size))) (run_cat 9 9 _ _ rfl ((s.extract 0 k) ++ (be2 (cv .u64 (sO v0 h0 l0 v1 h1 l1 p s)))) (s.extract (k + 2) s.size) (by kernel_rfl) (by kernel_rfl) (by (try simp only [ByteArray.size_append, ByteArray.size_extract, be2_size, be4_size, be8_size, bs_size, sz_mk, List.size_toArray, List.length_cons, List.length_nil]); omega)) ?_
        refine k_val (want_no rfl) (some 37) rfl (.pointer (some ⟨g1, 8, none⟩)) (fun _ => by kernel_rfl) ?_
        refine kl_nil ?_
        intro u5 M
        replace M : Mem ⟨w, []⟩ [⟨g1, .cells (av 9 (ls [.bool (v0), .int .u64 h0, .int .u64 l0, .bool (v1), .int .u64 h1, .int .u64 l1, .int .u8 p, .int .u8 64, .string s])) 26⟩, ⟨g2, .cells (av 9 (ls [.bool false, .int .u64 0, .int .u64 0, .bool false, .int .u64 0, .int .u64 0, .int .u8 0, .int .u8 0, .string ⟨#[]⟩])) 26⟩] u5 := M
        refine pl_put1 M (want_no rfl) rfl 9 _ _ rfl 0 g1 8 (by kernel_rfl) 9 26 (ls [.bool (v0), .int .u64 h0, .int .u64 l0, .bool (v1), .int .u64 h1, .int .u64 l1, .int .u8 p, .int .u8 64, .string s]) rfl (.string (((s.extract 0 k) ++ (be2 (cv .u64 (sO v0 h0 l0 v1 h1 l1 p s)))) ++ (s.extract (k + 2) s.size))) (ls [.bool (v0), .int .u64 h0, .int .u64 l0, .bool (v1), .int .u64 h1, .int .u64 l1, .int .u8 p, .int .u8 64, .string (((s.extract 0 k) ++ (be2 (cv .u64 (sO v0 h0 l0 v1 h1 l1 p s)))) ++ (s.extract (k + 2) s.size))]) (by kernel_rfl) inz9 (by decide) rfl rfl (put_ls _ 8 _ _ rfl) ?_
        intro u6 M
        replace M : Mem ⟨w, []⟩ [⟨g1, .cells (av 9 (ls [.bool (v0), .int .u64 h0, .int .u64 l0, .bool (v1), .int .u64 h1, .int .u64 l1, .int .u8 p, .int .u8 64, .string (((s.extract 0 k) ++ (be2 (cv .u64 (sO v0 h0 l0 v1 h1 l1 p s)))) ++ (s.extract (k + 2) s.size))])) 26⟩, ⟨g2, .cells (av 9 (ls [.bool false, .int .u64 0, .int .u64 0, .bool false, .int .u64 0, .int .u64 0, .int .u8 0, .int .u8 0, .string ⟨#[]⟩])) 26⟩] u6 := M
        refine pl_nil ?_
        refine au_then ?_
        refine wp_seq ?_
        refine rg_lit ?_
        refine pl_load M (want_no rfl) (some 38) rfl 26 _ rfl 0 g1 0 (by kernel_rfl) 9 26 (ls [.bool (v0), .int .u64 h0, .int .u64 l0, .bool (v1), .int .u64 h1, .int .u64 l1, .int .u8 p, .int .u8 64, .string (((s.extract 0 k) ++ (be2 (cv .u64 (sO v0 h0 l0 v1 h1 l1 p s)))) ++ (s.extract (k + 2) s.size))]) rfl 9 (ls [.bool (v0), .int .u64 h0, .int .u64 l0, .bool (v1), .int .u64 h1, .int .u64 l1, .int .u8 p, .int .u8 64, .string (((s.extract 0 k) ++ (be2 (cv .u64 (sO v0 h0 l0 v1 h1 l1 p s)))) ++ (s.extract (k + 2) s.size))]) (fun j _ => by rw [Nat.zero_add]) (by decide) _ Try.underlying26 rfl inz26 ?_
        refine pl_put M (want_no rfl) rfl 26 _ _ rfl 1 g2 0 (by kernel_rfl) 9 26 (ls [.bool false, .int .u64 0, .int .u64 0, .bool false, .int .u64 0, .int .u64 0, .int .u8 0, .int .u8 0, .string ⟨#[]⟩]) rfl 9 (ls [.bool (v0), .int .u64 h0, .int .u64 l0, .bool (v1), .int .u64 h1, .int .u64 l1, .int .u8 p, .int .u8 64, .string (((s.extract 0 k) ++ (be2 (cv .u64 (sO v0 h0 l0 v1 h1 l1 p s)))) ++ (s.extract (k + 2) s.size))]) (ls [.bool (v0), .int .u64 h0, .int .u64 l0, .bool (v1), .int .u64 h1, .int .u64 l1, .int .u8 p, .int .u8 64, .string (((s.extract 0 k) ++ (be2 (cv .u64 (sO v0 h0 l0 v1 h1 l1 p s)))) ++ (s.extract (k + 2) s.size))]) (by kernel_rfl) inz26 (by decide) (one_ls _ rfl) (fun j hj => by rw [if_pos (by omega), Nat.sub_zero]) ?_
        intro u7 M
        replace M : Mem ⟨w, []⟩ [⟨g1, .cells (av 9 (ls [.bool (v0), .int .u64 h0, .int .u64 l0, .bool (v1), .int .u64 h1, .int .u64 l1, .int .u8 p, .int .u8 64, .string (((s.extract 0 k) ++ (be2 (cv .u64 (sO v0 h0 l0 v1 h1 l1 p s)))) ++ (s.extract (k + 2) s.size))])) 26⟩, ⟨g2, .cells (av 9 (ls [.bool (v0), .int .u64 h0, .int .u64 l0, .bool (v1), .int .u64 h1, .int .u64 l1, .int .u8 p, .int .u8 64, .string (((s.extract 0 k) ++ (be2 (cv .u64 (sO v0 h0 l0 v1 h1 l1 p s)))) ++ (s.extract (k + 2) s.size))])) 26⟩] u7 := M
        refine pl_val (want_no rfl) (some 5) rfl (.int .i64 0) (fun _ => by kernel_rfl) ?_
        refine pl_nil ?_
        refine au_then ?_
        refine wp_ret ?_
        have e0 : zB (my v0 h0 l0 v1 h1 l1 (s.size : Int)) v0 = v0 := if_pos c0
        have e1 : (zI (my v0 h0 l0 v1 h1 l1 (s.size : Int)) h0) = h0 := if_pos c0
        have e2 : (zI (my v0 h0 l0 v1 h1 l1 (s.size : Int)) l0) = l0 := if_pos c0
        have e3 : zB (my v0 h0 l0 v1 h1 l1 (s.size : Int)) v1 = v1 := if_pos c0
        have e4 : (zI (my v0 h0 l0 v1 h1 l1 (s.size : Int)) h1) = h1 := if_pos c0
        have e5 : (zI (my v0 h0 l0 v1 h1 l1 (s.size : Int)) l1) = l1 := if_pos c0
        have e6 : (zI (my v0 h0 l0 v1 h1 l1 (s.size : Int)) p) = p := if_pos c0
        have e7 : (zI (my v0 h0 l0 v1 h1 l1 (s.size : Int)) 64) = 64 := if_pos c0
        have e8 : (zS (my v0 h0 l0 v1 h1 l1 (s.size : Int)) ((A ++ be2 (cv .u64 (tS v0 h0 l0 v1 h1 l1 p s))) ++ B)) = (((s.extract 0 k) ++ (be2 (cv .u64 (sO v0 h0 l0 v1 h1 l1 p s)))) ++ (s.extract (k + 2) s.size)) := by unfold zS; rw [if_pos c0, app_ext _ A B k hk s hD]; simp only [tS, if_pos c1, if_neg c2] <;> rfl
        have e9 : (my v0 h0 l0 v1 h1 l1 (s.size : Int)) = 0 := c0
        exact bodyPost_ret (v := .tuple #[.agg (av 9 (ls [.bool (v0), .int .u64 h0, .int .u64 l0, .bool (v1), .int .u64 h1, .int .u64 l1, .int .u8 p, .int .u8 64, .string (((s.extract 0 k) ++ (be2 (cv .u64 (sO v0 h0 l0 v1 h1 l1 p s)))) ++ (s.extract (k + 2) s.size))])), .int .i64 0]) (results_cell_tmp Try.results33 _ _ g2 26 (av 9 (ls [.bool (v0), .int .u64 h0, .int .u64 l0, .bool (v1), .int .u64 h1, .int .u64 l1, .int .u8 p, .int .u8 64, .string (((s.extract 0 k) ++ (be2 (cv .u64 (sO v0 h0 l0 v1 h1 l1 p s)))) ++ (s.extract (k + 2) s.size))])) (0, 0) _ _ (by kernel_rfl) (by kernel_rfl) (M.get 1 rfl) Try.underlying26 rfl (by rw [av_size]; exact inz26)) (by kernel_rfl) ⟨by rw [e0, e1, e2, e3, e4, e5, e6, e7, e8, e9], below_grown M.old⟩
    · skip
      refine pl_val (want_no rfl) (some 18) rfl (.bool false) (fun w => Eq.trans (b := .ok (.value (.bool (decide (p = 17)))) w) (by kernel_rfl) (by rw [decide_eq_false (c1)])) ?_
      refine pl_val (want_no rfl) (some 19) rfl (.bool false) (fun _ => by kernel_rfl) ?_
      refine pl_skip (want_off 3 true rfl 19 rfl (by kernel_rfl)) (some 20) rfl ?_
      refine pl_skip (want_off 3 true rfl 19 rfl (by kernel_rfl)) (some 21) rfl ?_
      refine pl_val (want_no rfl) (some 22) rfl (.bool false) (fun _ => by kernel_rfl) ?_
      refine pl_nil ?_
      refine au_then ?_
      refine wp_cond_false (by kernel_rfl) ?_
      refine wp_skip ?_
      refine au_then ?_
      refine wp_seq ?_
      refine rg_tail M 15 (by kernel_rfl) (by kernel_rfl) ?_
      simp only [List.take_succ_cons, List.take_zero]
      refine k_val (want_no rfl) (some 23) rfl (.pointer (some ⟨g1, 8, none⟩)) (fun _ => by kernel_rfl) ?_
      refine k_cell M (want_no rfl) (some 24) rfl 9 _ rfl g1 8 (by kernel_rfl) (.string s) (fun _ => by kernel_rfl) (fun w M => M.cell 0 rfl (by decide) rfl) ?_
      refine k_val (want_no rfl) (some 25) rfl (.int .i64 (k : Int)) (fun _ => by kernel_rfl) ?_
      refine k_val (want_no rfl) (some 26) rfl (.string (s.extract 0 k)) (run_strh 9 Try.underlying9 _ _ rfl s (by kernel_rfl) .i64 k (by kernel_rfl) (by omega) _ rfl) ?_
      refine k_val (want_no rfl) (some 27) rfl (.int .u16 (sO v0 h0 l0 v1 h1 l1 p s)) (fun _ => by kernel_rfl) ?_
      refine k_val (want_no rfl) (some 28) rfl (.int .u64 (cv .u64 (sO v0 h0 l0 v1 h1 l1 p s))) (fun _ => by kernel_rfl) ?_
      refine k_call M (want_no rfl) (some 29) rfl 32 #[.int .u64 (cv .u64 (sO v0 h0 l0 v1 h1 l1 p s)), .int .i64 2] (.string (be2 (cv .u64 (sO v0 h0 l0 v1 h1 l1 p s)))) (fun _ => by kernel_rfl) (fun w M => c_num2 (cv .u64 (sO v0 h0 l0 v1 h1 l1 p s)) w M.laid) ?_
      refine k_val (want_no rfl) (some 30) rfl (.string ((s.extract 0 k) ++ (be2 (cv .u64 (sO v0 h0 l0 v1 h1 l1 p s))))) (run_cat 9 9 _ _ rfl (s.extract 0 k) (be2 (cv .u64 (sO v0 h0 l0 v1 h1 l1 p s))) (by kernel_rfl) (by kernel_rfl) (by (try simp only [ByteArray.size_append, ByteArray.size_extract, be2_size, be4_size, be8_size, bs_size, sz_mk, List.size_toArray, List.length_cons, List.length_nil]); omega)) ?_
      refine k_val (want_no rfl) (some 31) rfl (.pointer (some ⟨g1, 8, none⟩)) (fun _ => by kernel_rfl) ?_
      refine k_cell M (want_no rfl) (some 32) rfl 9 _ rfl g1 8 (by kernel_rfl) (.string s) (fun _ => by kernel_rfl) (fun w M => M.cell 0 rfl (by decide) rfl) ?_
      refine k_val (want_no rfl) (some 33) rfl (.int .i64 (k : Int)) (fun _ => by kernel_rfl) ?_
      refine k_val (want_no rfl) (some 34) rfl (.int .i64 ((k + 2 : Nat) : Int)) (fun w => Eq.trans (b := .ok (.value (.int .i64 (IntKind.wrap .i64 ((k : Int) + 2)))) w) (by kernel_rfl) (by rw [wrap64 (by omega) (by omega)]; rfl)) ?_
      refine k_val (want_no rfl) (some 35) rfl (.string (s.extract (k + 2) s.size)) (run_strl 9 Try.underlying9 _ _ rfl s (by kernel_rfl) .i64 (k + 2) (by kernel_rfl) (by omega) _ rfl) ?_
      refine k_val (want_no rfl) (some 36) rfl (.string (((s.extract 0 k) ++ (be2 (cv .u64 (sO v0 h0 l0 v1 h1 l1 p s)))) ++ (s.extract (k + 2) s.size))) (run_cat 9 9 _ _ rfl ((s.extract 0 k) ++ (be2 (cv .u64 (sO v0 h0 l0 v1 h1 l1 p s)))) (s.extract (k + 2) s.size) (by kernel_rfl) (by kernel_rfl) (by (try simp only [ByteArray.size_append, ByteArray.size_extract, be2_size, be4_size, be8_size, bs_size, sz_mk, List.size_toArray, List.length_cons, List.length_nil]); omega)) ?_
      refine k_val (want_no rfl) (some 37) rfl (.pointer (some ⟨g1, 8, none⟩)) (fun _ => by kernel_rfl) ?_
      refine kl_nil ?_
      intro u5 M
      replace M : Mem ⟨w, []⟩ [⟨g1, .cells (av 9 (ls [.bool (v0), .int .u64 h0, .int .u64 l0, .bool (v1), .int .u64 h1, .int .u64 l1, .int .u8 p, .int .u8 64, .string s])) 26⟩, ⟨g2, .cells (av 9 (ls [.bool false, .int .u64 0, .int .u64 0, .bool false, .int .u64 0, .int .u64 0, .int .u8 0, .int .u8 0, .string ⟨#[]⟩])) 26⟩] u5 := M
      refine pl_put1 M (want_no rfl) rfl 9 _ _ rfl 0 g1 8 (by kernel_rfl) 9 26 (ls [.bool (v0), .int .u64 h0, .int .u64 l0, .bool (v1), .int .u64 h1, .int .u64 l1, .int .u8 p, .int .u8 64, .string s]) rfl (.string (((s.extract 0 k) ++ (be2 (cv .u64 (sO v0 h0 l0 v1 h1 l1 p s)))) ++ (s.extract (k + 2) s.size))) (ls [.bool (v0), .int .u64 h0, .int .u64 l0, .bool (v1), .int .u64 h1, .int .u64 l1, .int .u8 p, .int .u8 64, .string (((s.extract 0 k) ++ (be2 (cv .u64 (sO v0 h0 l0 v1 h1 l1 p s)))) ++ (s.extract (k + 2) s.size))]) (by kernel_rfl) inz9 (by decide) rfl rfl (put_ls _ 8 _ _ rfl) ?_
      intro u6 M
      replace M : Mem ⟨w, []⟩ [⟨g1, .cells (av 9 (ls [.bool (v0), .int .u64 h0, .int .u64 l0, .bool (v1), .int .u64 h1, .int .u64 l1, .int .u8 p, .int .u8 64, .string (((s.extract 0 k) ++ (be2 (cv .u64 (sO v0 h0 l0 v1 h1 l1 p s)))) ++ (s.extract (k + 2) s.size))])) 26⟩, ⟨g2, .cells (av 9 (ls [.bool false, .int .u64 0, .int .u64 0, .bool false, .int .u64 0, .int .u64 0, .int .u8 0, .int .u8 0, .string ⟨#[]⟩])) 26⟩] u6 := M
      refine pl_nil ?_
      refine au_then ?_
      refine wp_seq ?_
      refine rg_lit ?_
      refine pl_load M (want_no rfl) (some 38) rfl 26 _ rfl 0 g1 0 (by kernel_rfl) 9 26 (ls [.bool (v0), .int .u64 h0, .int .u64 l0, .bool (v1), .int .u64 h1, .int .u64 l1, .int .u8 p, .int .u8 64, .string (((s.extract 0 k) ++ (be2 (cv .u64 (sO v0 h0 l0 v1 h1 l1 p s)))) ++ (s.extract (k + 2) s.size))]) rfl 9 (ls [.bool (v0), .int .u64 h0, .int .u64 l0, .bool (v1), .int .u64 h1, .int .u64 l1, .int .u8 p, .int .u8 64, .string (((s.extract 0 k) ++ (be2 (cv .u64 (sO v0 h0 l0 v1 h1 l1 p s)))) ++ (s.extract (k + 2) s.size))]) (fun j _ => by rw [Nat.zero_add]) (by decide) _ Try.underlying26 rfl inz26 ?_
      refine pl_put M (want_no rfl) rfl 26 _ _ rfl 1 g2 0 (by kernel_rfl) 9 26 (ls [.bool false, .int .u64 0, .int .u64 0, .bool false, .int .u64 0, .int .u64 0, .int .u8 0, .int .u8 0, .string ⟨#[]⟩]) rfl 9 (ls [.bool (v0), .int .u64 h0, .int .u64 l0, .bool (v1), .int .u64 h1, .int .u64 l1, .int .u8 p, .int .u8 64, .string (((s.extract 0 k) ++ (be2 (cv .u64 (sO v0 h0 l0 v1 h1 l1 p s)))) ++ (s.extract (k + 2) s.size))]) (ls [.bool (v0), .int .u64 h0, .int .u64 l0, .bool (v1), .int .u64 h1, .int .u64 l1, .int .u8 p, .int .u8 64, .string (((s.extract 0 k) ++ (be2 (cv .u64 (sO v0 h0 l0 v1 h1 l1 p s)))) ++ (s.extract (k + 2) s.size))]) (by kernel_rfl) inz26 (by decide) (one_ls _ rfl) (fun j hj => by rw [if_pos (by omega), Nat.sub_zero]) ?_
      intro u7 M
      replace M : Mem ⟨w, []⟩ [⟨g1, .cells (av 9 (ls [.bool (v0), .int .u64 h0, .int .u64 l0, .bool (v1), .int .u64 h1, .int .u64 l1, .int .u8 p, .int .u8 64, .string (((s.extract 0 k) ++ (be2 (cv .u64 (sO v0 h0 l0 v1 h1 l1 p s)))) ++ (s.extract (k + 2) s.size))])) 26⟩, ⟨g2, .cells (av 9 (ls [.bool (v0), .int .u64 h0, .int .u64 l0, .bool (v1), .int .u64 h1, .int .u64 l1, .int .u8 p, .int .u8 64, .string (((s.extract 0 k) ++ (be2 (cv .u64 (sO v0 h0 l0 v1 h1 l1 p s)))) ++ (s.extract (k + 2) s.size))])) 26⟩] u7 := M
      refine pl_val (want_no rfl) (some 5) rfl (.int .i64 0) (fun _ => by kernel_rfl) ?_
      refine pl_nil ?_
      refine au_then ?_
      refine wp_ret ?_
      have e0 : zB (my v0 h0 l0 v1 h1 l1 (s.size : Int)) v0 = v0 := if_pos c0
      have e1 : (zI (my v0 h0 l0 v1 h1 l1 (s.size : Int)) h0) = h0 := if_pos c0
      have e2 : (zI (my v0 h0 l0 v1 h1 l1 (s.size : Int)) l0) = l0 := if_pos c0
      have e3 : zB (my v0 h0 l0 v1 h1 l1 (s.size : Int)) v1 = v1 := if_pos c0
      have e4 : (zI (my v0 h0 l0 v1 h1 l1 (s.size : Int)) h1) = h1 := if_pos c0
      have e5 : (zI (my v0 h0 l0 v1 h1 l1 (s.size : Int)) l1) = l1 := if_pos c0
      have e6 : (zI (my v0 h0 l0 v1 h1 l1 (s.size : Int)) p) = p := if_pos c0
      have e7 : (zI (my v0 h0 l0 v1 h1 l1 (s.size : Int)) 64) = 64 := if_pos c0
      have e8 : (zS (my v0 h0 l0 v1 h1 l1 (s.size : Int)) ((A ++ be2 (cv .u64 (tS v0 h0 l0 v1 h1 l1 p s))) ++ B)) = (((s.extract 0 k) ++ (be2 (cv .u64 (sO v0 h0 l0 v1 h1 l1 p s)))) ++ (s.extract (k + 2) s.size)) := by unfold zS; rw [if_pos c0, app_ext _ A B k hk s hD]; simp only [tS, if_neg c1] <;> rfl
      have e9 : (my v0 h0 l0 v1 h1 l1 (s.size : Int)) = 0 := c0
      exact bodyPost_ret (v := .tuple #[.agg (av 9 (ls [.bool (v0), .int .u64 h0, .int .u64 l0, .bool (v1), .int .u64 h1, .int .u64 l1, .int .u8 p, .int .u8 64, .string (((s.extract 0 k) ++ (be2 (cv .u64 (sO v0 h0 l0 v1 h1 l1 p s)))) ++ (s.extract (k + 2) s.size))])), .int .i64 0]) (results_cell_tmp Try.results33 _ _ g2 26 (av 9 (ls [.bool (v0), .int .u64 h0, .int .u64 l0, .bool (v1), .int .u64 h1, .int .u64 l1, .int .u8 p, .int .u8 64, .string (((s.extract 0 k) ++ (be2 (cv .u64 (sO v0 h0 l0 v1 h1 l1 p s)))) ++ (s.extract (k + 2) s.size))])) (0, 0) _ _ (by kernel_rfl) (by kernel_rfl) (M.get 1 rfl) Try.underlying26 rfl (by rw [av_size]; exact inz26)) (by kernel_rfl) ⟨by rw [e0, e1, e2, e3, e4, e5, e6, e7, e8, e9], below_grown M.old⟩
  · skip
    refine pl_val (want_no rfl) (some 11) rfl (.bool true) (fun w => Eq.trans (b := .ok (.value (.bool (!(decide ((my v0 h0 l0 v1 h1 l1 (s.size : Int)) = 0))))) w) (by kernel_rfl) (by rw [decide_eq_false (c0)]; rfl)) ?_
    refine pl_nil ?_
    refine au_then ?_
    refine wp_cond_true (by kernel_rfl) ?_
    refine wp_seq ?_
    refine rg_lit ?_
    refine pl_val (want_no rfl) (some 12) rfl (.agg (av 9 (ls [.bool false, .int .u64 0, .int .u64 0, .bool false, .int .u64 0, .int .u64 0, .int .u8 0, .int .u8 0, .string ⟨#[]⟩]))) (fun _ => by kernel_rfl) ?_
    refine pl_val (want_no rfl) (some 13) rfl (.int .i64 (my v0 h0 l0 v1 h1 l1 (s.size : Int))) (fun _ => by kernel_rfl) ?_
    refine pl_put M (want_no rfl) rfl 26 _ _ rfl 1 g2 0 (by kernel_rfl) 9 26 (ls [.bool false, .int .u64 0, .int .u64 0, .bool false, .int .u64 0, .int .u64 0, .int .u8 0, .int .u8 0, .string ⟨#[]⟩]) rfl 9 (ls [.bool false, .int .u64 0, .int .u64 0, .bool false, .int .u64 0, .int .u64 0, .int .u8 0, .int .u8 0, .string ⟨#[]⟩]) (ls [.bool false, .int .u64 0, .int .u64 0, .bool false, .int .u64 0, .int .u64 0, .int .u8 0, .int .u8 0, .string ⟨#[]⟩]) (by kernel_rfl) inz26 (by decide) (one_ls _ rfl) (fun j hj => by rw [if_pos (by omega), Nat.sub_zero]) ?_
    intro u4 M
    replace M : Mem ⟨w, []⟩ [⟨g1, .cells (av 9 (ls [.bool (v0), .int .u64 h0, .int .u64 l0, .bool (v1), .int .u64 h1, .int .u64 l1, .int .u8 p, .int .u8 64, .string s])) 26⟩, ⟨g2, .cells (av 9 (ls [.bool false, .int .u64 0, .int .u64 0, .bool false, .int .u64 0, .int .u64 0, .int .u8 0, .int .u8 0, .string ⟨#[]⟩])) 26⟩] u4 := M
    refine pl_val (want_no rfl) (some 5) rfl (.int .i64 (my v0 h0 l0 v1 h1 l1 (s.size : Int))) (fun _ => by kernel_rfl) ?_
    refine pl_nil ?_
    refine au_then ?_
    refine wp_ret ?_
    refine au_then_ret ?_
    have e0 : zB (my v0 h0 l0 v1 h1 l1 (s.size : Int)) v0 = false := if_neg c0
    have e1 : (zI (my v0 h0 l0 v1 h1 l1 (s.size : Int)) h0) = 0 := if_neg c0
    have e2 : (zI (my v0 h0 l0 v1 h1 l1 (s.size : Int)) l0) = 0 := if_neg c0
    have e3 : zB (my v0 h0 l0 v1 h1 l1 (s.size : Int)) v1 = false := if_neg c0
    have e4 : (zI (my v0 h0 l0 v1 h1 l1 (s.size : Int)) h1) = 0 := if_neg c0
    have e5 : (zI (my v0 h0 l0 v1 h1 l1 (s.size : Int)) l1) = 0 := if_neg c0
    have e6 : (zI (my v0 h0 l0 v1 h1 l1 (s.size : Int)) p) = 0 := if_neg c0
    have e7 : (zI (my v0 h0 l0 v1 h1 l1 (s.size : Int)) 64) = 0 := if_neg c0
    have e8 : (zS (my v0 h0 l0 v1 h1 l1 (s.size : Int)) ((A ++ be2 (cv .u64 (tS v0 h0 l0 v1 h1 l1 p s))) ++ B)) = ⟨#[]⟩ := if_neg c0
    exact bodyPost_ret (v := .tuple #[.agg (av 9 (ls [.bool false, .int .u64 0, .int .u64 0, .bool false, .int .u64 0, .int .u64 0, .int .u8 0, .int .u8 0, .string ⟨#[]⟩])), .int .i64 (my v0 h0 l0 v1 h1 l1 (s.size : Int))]) (results_cell_tmp Try.results33 _ _ g2 26 (av 9 (ls [.bool false, .int .u64 0, .int .u64 0, .bool false, .int .u64 0, .int .u64 0, .int .u8 0, .int .u8 0, .string ⟨#[]⟩])) (0, 0) _ _ (by kernel_rfl) (by kernel_rfl) (M.get 1 rfl) Try.underlying26 rfl (by rw [av_size]; exact inz26)) (by kernel_rfl) ⟨by rw [e0, e1, e2, e3, e4, e5, e6, e7, e8], below_grown M.old⟩

set_option maxRecDepth 100000 in
set_option maxHeartbeats 4000000 in
set_option linter.unusedSimpArgs false in
theorem d_Udp (v0 : Bool) (h0 l0 f : Int) (v1 : Bool) (h1 l1 g : Int) (d : ByteArray) (hd : d.size ≤ 8192) (w : World) (hL : Laid w)  :
    Calls Try.prog 15 #[.agg (av 4 (ls [.bool (v0), .int .u64 h0, .int .u64 l0, .int .u16 f])), .agg (av 4 (ls [.bool (v1), .int .u64 h1, .int .u64 l1, .int .u16 g])), .string d] w fun r w' => r = .returned (.tuple #[.agg (av 9 (ls [.bool (zB (pkE v0 h0 l0 v1 h1 l1 (udA f g (d.size : Int)) d) v0), .int .u64 (zI (pkE v0 h0 l0 v1 h1 l1 (udA f g (d.size : Int)) d) h0), .int .u64 (zI (pkE v0 h0 l0 v1 h1 l1 (udA f g (d.size : Int)) d) l0), .bool (zB (pkE v0 h0 l0 v1 h1 l1 (udA f g (d.size : Int)) d) v1), .int .u64 (zI (pkE v0 h0 l0 v1 h1 l1 (udA f g (d.size : Int)) d) h1), .int .u64 (zI (pkE v0 h0 l0 v1 h1 l1 (udA f g (d.size : Int)) d) l1), .int .u8 (zI (pkE v0 h0 l0 v1 h1 l1 (udA f g (d.size : Int)) d) 17), .int .u8 (zI (pkE v0 h0 l0 v1 h1 l1 (udA f g (d.size : Int)) d) 64), .string (zS (pkE v0 h0 l0 v1 h1 l1 (udA f g (d.size : Int)) d) (pkO v0 h0 l0 v1 h1 l1 17 (udA f g (d.size : Int)) d))])), .int .i64 (pkE v0 h0 l0 v1 h1 l1 (udA f g (d.size : Int)) d)]) ∧ Below w.heap.size w w' := by
  go_enter Try.func15, Try.ntmps15
  have M := Mem.start hL
  refine wp_seq ?_
  refine rg_lit ?_
  refine pl_new M (want_no rfl) (some 3) rfl (.cells (av 4 (ls [.bool (v0), .int .u64 h0, .int .u64 l0, .int .u16 f])) 40) (fun _ => by kernel_rfl) ?_
  intro g1 u1 M
  replace M : Mem ⟨w, []⟩ [⟨g1, .cells (av 4 (ls [.bool (v0), .int .u64 h0, .int .u64 l0, .int .u16 f])) 40⟩] u1 := M
  refine pl_new M (want_no rfl) (some 4) rfl (.cells (av 4 (ls [.bool (v1), .int .u64 h1, .int .u64 l1, .int .u16 g])) 40) (fun _ => by kernel_rfl) ?_
  intro g2 u2 M
  replace M : Mem ⟨w, []⟩ [⟨g1, .cells (av 4 (ls [.bool (v0), .int .u64 h0, .int .u64 l0, .int .u16 f])) 40⟩, ⟨g2, .cells (av 4 (ls [.bool (v1), .int .u64 h1, .int .u64 l1, .int .u16 g])) 40⟩] u2 := M
  refine pl_new M (want_no rfl) (some 6) rfl (.cells (av 9 (ls [.bool false, .int .u64 0, .int .u64 0, .bool false, .int .u64 0, .int .u64 0, .int .u8 0, .int .u8 0, .string ⟨#[]⟩])) 26) (fun _ => by kernel_rfl) ?_
  intro g3 u3 M
  replace M : Mem ⟨w, []⟩ [⟨g1, .cells (av 4 (ls [.bool (v0), .int .u64 h0, .int .u64 l0, .int .u16 f])) 40⟩, ⟨g2, .cells (av 4 (ls [.bool (v1), .int .u64 h1, .int .u64 l1, .int .u16 g])) 40⟩, ⟨g3, .cells (av 9 (ls [.bool false, .int .u64 0, .int .u64 0, .bool false, .int .u64 0, .int .u64 0, .int .u8 0, .int .u8 0, .string ⟨#[]⟩])) 26⟩] u3 := M
  refine pl_val (want_no rfl) (some 7) rfl (.int .i64 0) (fun _ => by kernel_rfl) ?_
  refine pl_nil ?_
  refine au_then ?_
  refine wp_seq ?_
  refine rg_tail M 18 (by kernel_rfl) (by kernel_rfl) ?_
  simp only [List.take_succ_cons, List.take_zero]
  refine k_val (want_no rfl) (some 9) rfl (.pointer (some ⟨g1, 3, none⟩)) (fun _ => by kernel_rfl) ?_
  refine k_cell M (want_no rfl) (some 10) rfl 27 _ rfl g1 3 (by kernel_rfl) (.int .u16 f) (fun _ => by kernel_rfl) (fun w M => M.cell 0 rfl (by decide) rfl) ?_
  refine k_val (want_no rfl) (some 11) rfl (.int .u64 (cv .u64 f)) (fun _ => by kernel_rfl) ?_
  refine k_call M (want_no rfl) (some 12) rfl 32 #[.int .u64 (cv .u64 f), .int .i64 2] (.string (be2 (cv .u64 f))) (fun _ => by kernel_rfl) (fun w M => c_num2 (cv .u64 f) w M.laid) ?_
  refine k_val (want_no rfl) (some 13) rfl (.pointer (some ⟨g2, 3, none⟩)) (fun _ => by kernel_rfl) ?_
  refine k_cell M (want_no rfl) (some 14) rfl 27 _ rfl g2 3 (by kernel_rfl) (.int .u16 g) (fun _ => by kernel_rfl) (fun w M => M.cell 1 rfl (by decide) rfl) ?_
  refine k_val (want_no rfl) (some 15) rfl (.int .u64 (cv .u64 g)) (fun _ => by kernel_rfl) ?_
  refine k_call M (want_no rfl) (some 16) rfl 32 #[.int .u64 (cv .u64 g), .int .i64 2] (.string (be2 (cv .u64 g))) (fun _ => by kernel_rfl) (fun w M => c_num2 (cv .u64 g) w M.laid) ?_
  refine k_val (want_no rfl) (some 17) rfl (.string ((be2 (cv .u64 f)) ++ (be2 (cv .u64 g)))) (run_cat 9 9 _ _ rfl (be2 (cv .u64 f)) (be2 (cv .u64 g)) (by kernel_rfl) (by kernel_rfl) (by (try simp only [ByteArray.size_append, ByteArray.size_extract, be2_size, be4_size, be8_size, bs_size, sz_mk, List.size_toArray, List.length_cons, List.length_nil]); omega)) ?_
  refine k_val (want_no rfl) (some 18) rfl (.string d) (fun _ => by kernel_rfl) ?_
  refine k_val (want_no rfl) (some 19) rfl (.int .i64 (d.size : Int)) (fun _ => by kernel_rfl) ?_
  refine k_val (want_no rfl) (some 20) rfl (.int .i64 (8 + (d.size : Int))) (fun w => Eq.trans (b := .ok (.value (.int .i64 (IntKind.wrap .i64 (8 + (d.size : Int))))) w) (by kernel_rfl) (by rw [wrap64 (by omega) (by omega)])) ?_
  refine k_val (want_no rfl) (some 21) rfl (.int .u64 (cv .u64 (8 + (d.size : Int)))) (fun _ => by kernel_rfl) ?_
  refine k_call M (want_no rfl) (some 22) rfl 32 #[.int .u64 (cv .u64 (8 + (d.size : Int))), .int .i64 2] (.string (be2 (cv .u64 (8 + (d.size : Int))))) (fun _ => by kernel_rfl) (fun w M => c_num2 (cv .u64 (8 + (d.size : Int))) w M.laid) ?_
  refine k_val (want_no rfl) (some 23) rfl (.string (((be2 (cv .u64 f)) ++ (be2 (cv .u64 g))) ++ (be2 (cv .u64 (8 + (d.size : Int)))))) (run_cat 9 9 _ _ rfl ((be2 (cv .u64 f)) ++ (be2 (cv .u64 g))) (be2 (cv .u64 (8 + (d.size : Int)))) (by kernel_rfl) (by kernel_rfl) (by (try simp only [ByteArray.size_append, ByteArray.size_extract, be2_size, be4_size, be8_size, bs_size, sz_mk, List.size_toArray, List.length_cons, List.length_nil]); omega)) ?_
  refine k_val (want_no rfl) (some 24) rfl (.string ((((be2 (cv .u64 f)) ++ (be2 (cv .u64 g))) ++ (be2 (cv .u64 (8 + (d.size : Int))))) ++ (⟨#[0, 0]⟩ : ByteArray))) (run_cat 9 9 _ _ rfl (((be2 (cv .u64 f)) ++ (be2 (cv .u64 g))) ++ (be2 (cv .u64 (8 + (d.size : Int))))) ⟨#[0, 0]⟩ (by kernel_rfl) (by kernel_rfl) (by (try simp only [ByteArray.size_append, ByteArray.size_extract, be2_size, be4_size, be8_size, bs_size, sz_mk, List.size_toArray, List.length_cons, List.length_nil]); omega)) ?_
  refine k_val (want_no rfl) (some 25) rfl (.string d) (fun _ => by kernel_rfl) ?_
  refine k_val (want_no rfl) (some 26) rfl (.string (((((be2 (cv .u64 f)) ++ (be2 (cv .u64 g))) ++ (be2 (cv .u64 (8 + (d.size : Int))))) ++ (⟨#[0, 0]⟩ : ByteArray)) ++ d)) (run_cat 9 9 _ _ rfl ((((be2 (cv .u64 f)) ++ (be2 (cv .u64 g))) ++ (be2 (cv .u64 (8 + (d.size : Int))))) ++ (⟨#[0, 0]⟩ : ByteArray)) d (by kernel_rfl) (by kernel_rfl) (by (try simp only [ByteArray.size_append, ByteArray.size_extract, be2_size, be4_size, be8_size, bs_size, sz_mk, List.size_toArray, List.length_cons, List.length_nil]); omega)) ?_
  refine kl_nil ?_
  intro u4 M
  replace M : Mem ⟨w, []⟩ [⟨g1, .cells (av 4 (ls [.bool (v0), .int .u64 h0, .int .u64 l0, .int .u16 f])) 40⟩, ⟨g2, .cells (av 4 (ls [.bool (v1), .int .u64 h1, .int .u64 l1, .int .u16 g])) 40⟩, ⟨g3, .cells (av 9 (ls [.bool false, .int .u64 0, .int .u64 0, .bool false, .int .u64 0, .int .u64 0, .int .u8 0, .int .u8 0, .string ⟨#[]⟩])) 26⟩] u4 := M
  refine pl_val (want_no rfl) (some 8) rfl (.string (((((be2 (cv .u64 f)) ++ (be2 (cv .u64 g))) ++ (be2 (cv .u64 (8 + (d.size : Int))))) ++ (⟨#[0, 0]⟩ : ByteArray)) ++ d)) (fun _ => by kernel_rfl) ?_
  refine pl_nil ?_
  refine au_then ?_
  refine wp_seq ?_
  refine rg_lit ?_
  refine pl_val (want_no rfl) (some 27) rfl (.pointer (some ⟨g1, 0, none⟩)) (fun _ => by kernel_rfl) ?_
  refine pl_load M (want_no rfl) (some 28) rfl 24 _ rfl 0 g1 0 (by kernel_rfl) 4 40 (ls [.bool (v0), .int .u64 h0, .int .u64 l0, .int .u16 f]) rfl 3 (ls [.bool (v0), .int .u64 h0, .int .u64 l0]) (part_ls _ 0 3 _ rfl) (by decide) _ Try.underlying24 rfl inz24 ?_
  refine pl_val (want_no rfl) (some 29) rfl (.pointer (some ⟨g2, 0, none⟩)) (fun _ => by kernel_rfl) ?_
  refine pl_load M (want_no rfl) (some 30) rfl 24 _ rfl 1 g2 0 (by kernel_rfl) 4 40 (ls [.bool (v1), .int .u64 h1, .int .u64 l1, .int .u16 g]) rfl 3 (ls [.bool (v1), .int .u64 h1, .int .u64 l1]) (part_ls _ 0 3 _ rfl) (by decide) _ Try.underlying24 rfl inz24 ?_
  refine pl_val (want_no rfl) (some 31) rfl (.string (((((be2 (cv .u64 f)) ++ (be2 (cv .u64 g))) ++ (be2 (cv .u64 (8 + (d.size : Int))))) ++ (⟨#[0, 0]⟩ : ByteArray)) ++ d)) (fun _ => by kernel_rfl) ?_
  refine pl_val (want_no rfl) (some 32) rfl (.agg (av 9 (ls [.bool (v0), .int .u64 h0, .int .u64 l0, .bool (v1), .int .u64 h1, .int .u64 l1, .int .u8 17, .int .u8 64, .string (((((be2 (cv .u64 f)) ++ (be2 (cv .u64 g))) ++ (be2 (cv .u64 (8 + (d.size : Int))))) ++ (⟨#[0, 0]⟩ : ByteArray)) ++ d)]))) (fun _ => by kernel_rfl) ?_
  refine pl_call M (want_no rfl) (some 33) rfl 33 #[.agg (av 9 (ls [.bool (v0), .int .u64 h0, .int .u64 l0, .bool (v1), .int .u64 h1, .int .u64 l1, .int .u8 17, .int .u8 64, .string (((((be2 (cv .u64 f)) ++ (be2 (cv .u64 g))) ++ (be2 (cv .u64 (8 + (d.size : Int))))) ++ (⟨#[0, 0]⟩ : ByteArray)) ++ d)])), .int .i64 6] (.tuple #[.agg (av 9 (ls [.bool (zB (pkE v0 h0 l0 v1 h1 l1 (udA f g (d.size : Int)) d) v0), .int .u64 (zI (pkE v0 h0 l0 v1 h1 l1 (udA f g (d.size : Int)) d) h0), .int .u64 (zI (pkE v0 h0 l0 v1 h1 l1 (udA f g (d.size : Int)) d) l0), .bool (zB (pkE v0 h0 l0 v1 h1 l1 (udA f g (d.size : Int)) d) v1), .int .u64 (zI (pkE v0 h0 l0 v1 h1 l1 (udA f g (d.size : Int)) d) h1), .int .u64 (zI (pkE v0 h0 l0 v1 h1 l1 (udA f g (d.size : Int)) d) l1), .int .u8 (zI (pkE v0 h0 l0 v1 h1 l1 (udA f g (d.size : Int)) d) 17), .int .u8 (zI (pkE v0 h0 l0 v1 h1 l1 (udA f g (d.size : Int)) d) 64), .string (zS (pkE v0 h0 l0 v1 h1 l1 (udA f g (d.size : Int)) d) (pkO v0 h0 l0 v1 h1 l1 17 (udA f g (d.size : Int)) d))])), .int .i64 (pkE v0 h0 l0 v1 h1 l1 (udA f g (d.size : Int)) d)]) (fun _ => by kernel_rfl) (fun w M => call_val (d_made v0 h0 l0 v1 h1 l1 17 (((((be2 (cv .u64 f)) ++ (be2 (cv .u64 g))) ++ (be2 (cv .u64 (8 + (d.size : Int))))) ++ (⟨#[0, 0]⟩ : ByteArray)) ++ d) (udA f g (d.size : Int)) d 6 (udA_size _ _ _).symm (ud_doc f g (d.size : Int) d) (by (try simp only [ByteArray.size_append, ByteArray.size_extract, be2_size, be4_size, be8_size, bs_size, sz_mk, List.size_toArray, List.length_cons, List.length_nil]); omega) (by omega) w M.laid) (by rw [(ud_doc f g (d.size : Int) d)]; rfl)) ?_
  intro u5 M
  refine pl_val (want_no rfl) (some 34) rfl (.agg (av 9 (ls [.bool (zB (pkE v0 h0 l0 v1 h1 l1 (udA f g (d.size : Int)) d) v0), .int .u64 (zI (pkE v0 h0 l0 v1 h1 l1 (udA f g (d.size : Int)) d) h0), .int .u64 (zI (pkE v0 h0 l0 v1 h1 l1 (udA f g (d.size : Int)) d) l0), .bool (zB (pkE v0 h0 l0 v1 h1 l1 (udA f g (d.size : Int)) d) v1), .int .u64 (zI (pkE v0 h0 l0 v1 h1 l1 (udA f g (d.size : Int)) d) h1), .int .u64 (zI (pkE v0 h0 l0 v1 h1 l1 (udA f g (d.size : Int)) d) l1), .int .u8 (zI (pkE v0 h0 l0 v1 h1 l1 (udA f g (d.size : Int)) d) 17), .int .u8 (zI (pkE v0 h0 l0 v1 h1 l1 (udA f g (d.size : Int)) d) 64), .string (zS (pkE v0 h0 l0 v1 h1 l1 (udA f g (d.size : Int)) d) (pkO v0 h0 l0 v1 h1 l1 17 (udA f g (d.size : Int)) d))]))) (fun _ => by kernel_rfl) ?_
  refine pl_val (want_no rfl) (some 35) rfl (.int .i64 (pkE v0 h0 l0 v1 h1 l1 (udA f g (d.size : Int)) d)) (fun _ => by kernel_rfl) ?_
  refine pl_put M (want_no rfl) rfl 26 _ _ rfl 2 g3 0 (by kernel_rfl) 9 26 (ls [.bool false, .int .u64 0, .int .u64 0, .bool false, .int .u64 0, .int .u64 0, .int .u8 0, .int .u8 0, .string ⟨#[]⟩]) rfl 9 (ls [.bool (zB (pkE v0 h0 l0 v1 h1 l1 (udA f g (d.size : Int)) d) v0), .int .u64 (zI (pkE v0 h0 l0 v1 h1 l1 (udA f g (d.size : Int)) d) h0), .int .u64 (zI (pkE v0 h0 l0 v1 h1 l1 (udA f g (d.size : Int)) d) l0), .bool (zB (pkE v0 h0 l0 v1 h1 l1 (udA f g (d.size : Int)) d) v1), .int .u64 (zI (pkE v0 h0 l0 v1 h1 l1 (udA f g (d.size : Int)) d) h1), .int .u64 (zI (pkE v0 h0 l0 v1 h1 l1 (udA f g (d.size : Int)) d) l1), .int .u8 (zI (pkE v0 h0 l0 v1 h1 l1 (udA f g (d.size : Int)) d) 17), .int .u8 (zI (pkE v0 h0 l0 v1 h1 l1 (udA f g (d.size : Int)) d) 64), .string (zS (pkE v0 h0 l0 v1 h1 l1 (udA f g (d.size : Int)) d) (pkO v0 h0 l0 v1 h1 l1 17 (udA f g (d.size : Int)) d))]) (ls [.bool (zB (pkE v0 h0 l0 v1 h1 l1 (udA f g (d.size : Int)) d) v0), .int .u64 (zI (pkE v0 h0 l0 v1 h1 l1 (udA f g (d.size : Int)) d) h0), .int .u64 (zI (pkE v0 h0 l0 v1 h1 l1 (udA f g (d.size : Int)) d) l0), .bool (zB (pkE v0 h0 l0 v1 h1 l1 (udA f g (d.size : Int)) d) v1), .int .u64 (zI (pkE v0 h0 l0 v1 h1 l1 (udA f g (d.size : Int)) d) h1), .int .u64 (zI (pkE v0 h0 l0 v1 h1 l1 (udA f g (d.size : Int)) d) l1), .int .u8 (zI (pkE v0 h0 l0 v1 h1 l1 (udA f g (d.size : Int)) d) 17), .int .u8 (zI (pkE v0 h0 l0 v1 h1 l1 (udA f g (d.size : Int)) d) 64), .string (zS (pkE v0 h0 l0 v1 h1 l1 (udA f g (d.size : Int)) d) (pkO v0 h0 l0 v1 h1 l1 17 (udA f g (d.size : Int)) d))]) (by kernel_rfl) inz26 (by decide) (one_ls _ rfl) (fun j hj => by rw [if_pos (by omega), Nat.sub_zero]) ?_
  intro u6 M
  replace M : Mem ⟨w, []⟩ [⟨g1, .cells (av 4 (ls [.bool (v0), .int .u64 h0, .int .u64 l0, .int .u16 f])) 40⟩, ⟨g2, .cells (av 4 (ls [.bool (v1), .int .u64 h1, .int .u64 l1, .int .u16 g])) 40⟩, ⟨g3, .cells (av 9 (ls [.bool (zB (pkE v0 h0 l0 v1 h1 l1 (udA f g (d.size : Int)) d) v0), .int .u64 (zI (pkE v0 h0 l0 v1 h1 l1 (udA f g (d.size : Int)) d) h0), .int .u64 (zI (pkE v0 h0 l0 v1 h1 l1 (udA f g (d.size : Int)) d) l0), .bool (zB (pkE v0 h0 l0 v1 h1 l1 (udA f g (d.size : Int)) d) v1), .int .u64 (zI (pkE v0 h0 l0 v1 h1 l1 (udA f g (d.size : Int)) d) h1), .int .u64 (zI (pkE v0 h0 l0 v1 h1 l1 (udA f g (d.size : Int)) d) l1), .int .u8 (zI (pkE v0 h0 l0 v1 h1 l1 (udA f g (d.size : Int)) d) 17), .int .u8 (zI (pkE v0 h0 l0 v1 h1 l1 (udA f g (d.size : Int)) d) 64), .string (zS (pkE v0 h0 l0 v1 h1 l1 (udA f g (d.size : Int)) d) (pkO v0 h0 l0 v1 h1 l1 17 (udA f g (d.size : Int)) d))])) 26⟩] u6 := M
  refine pl_val (want_no rfl) (some 7) rfl (.int .i64 (pkE v0 h0 l0 v1 h1 l1 (udA f g (d.size : Int)) d)) (fun _ => by kernel_rfl) ?_
  refine pl_nil ?_
  refine au_then ?_
  refine wp_ret ?_
  exact bodyPost_ret (v := .tuple #[.agg (av 9 (ls [.bool (zB (pkE v0 h0 l0 v1 h1 l1 (udA f g (d.size : Int)) d) v0), .int .u64 (zI (pkE v0 h0 l0 v1 h1 l1 (udA f g (d.size : Int)) d) h0), .int .u64 (zI (pkE v0 h0 l0 v1 h1 l1 (udA f g (d.size : Int)) d) l0), .bool (zB (pkE v0 h0 l0 v1 h1 l1 (udA f g (d.size : Int)) d) v1), .int .u64 (zI (pkE v0 h0 l0 v1 h1 l1 (udA f g (d.size : Int)) d) h1), .int .u64 (zI (pkE v0 h0 l0 v1 h1 l1 (udA f g (d.size : Int)) d) l1), .int .u8 (zI (pkE v0 h0 l0 v1 h1 l1 (udA f g (d.size : Int)) d) 17), .int .u8 (zI (pkE v0 h0 l0 v1 h1 l1 (udA f g (d.size : Int)) d) 64), .string (zS (pkE v0 h0 l0 v1 h1 l1 (udA f g (d.size : Int)) d) (pkO v0 h0 l0 v1 h1 l1 17 (udA f g (d.size : Int)) d))])), .int .i64 (pkE v0 h0 l0 v1 h1 l1 (udA f g (d.size : Int)) d)]) (results_cell_tmp Try.results15 _ _ g3 26 (av 9 (ls [.bool (zB (pkE v0 h0 l0 v1 h1 l1 (udA f g (d.size : Int)) d) v0), .int .u64 (zI (pkE v0 h0 l0 v1 h1 l1 (udA f g (d.size : Int)) d) h0), .int .u64 (zI (pkE v0 h0 l0 v1 h1 l1 (udA f g (d.size : Int)) d) l0), .bool (zB (pkE v0 h0 l0 v1 h1 l1 (udA f g (d.size : Int)) d) v1), .int .u64 (zI (pkE v0 h0 l0 v1 h1 l1 (udA f g (d.size : Int)) d) h1), .int .u64 (zI (pkE v0 h0 l0 v1 h1 l1 (udA f g (d.size : Int)) d) l1), .int .u8 (zI (pkE v0 h0 l0 v1 h1 l1 (udA f g (d.size : Int)) d) 17), .int .u8 (zI (pkE v0 h0 l0 v1 h1 l1 (udA f g (d.size : Int)) d) 64), .string (zS (pkE v0 h0 l0 v1 h1 l1 (udA f g (d.size : Int)) d) (pkO v0 h0 l0 v1 h1 l1 17 (udA f g (d.size : Int)) d))])) (0, 0) _ _ (by kernel_rfl) (by kernel_rfl) (M.get 2 rfl) Try.underlying26 rfl (by rw [av_size]; exact inz26)) (by kernel_rfl) ⟨rfl, below_grown M.old⟩

set_option maxRecDepth 100000 in
set_option maxHeartbeats 4000000 in
set_option linter.unusedSimpArgs false in
theorem d_Tcp (v0 : Bool) (h0 l0 f : Int) (v1 : Bool) (h1 l1 g : Int) (q : Int) (d : ByteArray) (hd : d.size ≤ 8192) (hq : 0 ≤ q ∧ q < 256) (w : World) (hL : Laid w)  :
    Calls Try.prog 17 #[.agg (av 4 (ls [.bool (v0), .int .u64 h0, .int .u64 l0, .int .u16 f])), .agg (av 4 (ls [.bool (v1), .int .u64 h1, .int .u64 l1, .int .u16 g])), .int .u8 q, .string d] w fun r w' => r = .returned (.tuple #[.agg (av 9 (ls [.bool (zB (pkE v0 h0 l0 v1 h1 l1 (tcA f g q) (tcB d)) v0), .int .u64 (zI (pkE v0 h0 l0 v1 h1 l1 (tcA f g q) (tcB d)) h0), .int .u64 (zI (pkE v0 h0 l0 v1 h1 l1 (tcA f g q) (tcB d)) l0), .bool (zB (pkE v0 h0 l0 v1 h1 l1 (tcA f g q) (tcB d)) v1), .int .u64 (zI (pkE v0 h0 l0 v1 h1 l1 (tcA f g q) (tcB d)) h1), .int .u64 (zI (pkE v0 h0 l0 v1 h1 l1 (tcA f g q) (tcB d)) l1), .int .u8 (zI (pkE v0 h0 l0 v1 h1 l1 (tcA f g q) (tcB d)) 6), .int .u8 (zI (pkE v0 h0 l0 v1 h1 l1 (tcA f g q) (tcB d)) 64), .string (zS (pkE v0 h0 l0 v1 h1 l1 (tcA f g q) (tcB d)) (pkO v0 h0 l0 v1 h1 l1 6 (tcA f g q) (tcB d)))])), .int .i64 (pkE v0 h0 l0 v1 h1 l1 (tcA f g q) (tcB d))]) ∧ Below w.heap.size w w' := by
  go_enter Try.func17, Try.ntmps17
  have M := Mem.start hL
  refine wp_seq ?_
  refine rg_lit ?_
  refine pl_new M (want_no rfl) (some 4) rfl (.cells (av 4 (ls [.bool (v0), .int .u64 h0, .int .u64 l0, .int .u16 f])) 40) (fun _ => by kernel_rfl) ?_
  intro g1 u1 M
  replace M : Mem ⟨w, []⟩ [⟨g1, .cells (av 4 (ls [.bool (v0), .int .u64 h0, .int .u64 l0, .int .u16 f])) 40⟩] u1 := M
  refine pl_new M (want_no rfl) (some 5) rfl (.cells (av 4 (ls [.bool (v1), .int .u64 h1, .int .u64 l1, .int .u16 g])) 40) (fun _ => by kernel_rfl) ?_
  intro g2 u2 M
  replace M : Mem ⟨w, []⟩ [⟨g1, .cells (av 4 (ls [.bool (v0), .int .u64 h0, .int .u64 l0, .int .u16 f])) 40⟩, ⟨g2, .cells (av 4 (ls [.bool (v1), .int .u64 h1, .int .u64 l1, .int .u16 g])) 40⟩] u2 := M
  refine pl_new M (want_no rfl) (some 8) rfl (.cells (av 9 (ls [.bool false, .int .u64 0, .int .u64 0, .bool false, .int .u64 0, .int .u64 0, .int .u8 0, .int .u8 0, .string ⟨#[]⟩])) 26) (fun _ => by kernel_rfl) ?_
  intro g3 u3 M
  replace M : Mem ⟨w, []⟩ [⟨g1, .cells (av 4 (ls [.bool (v0), .int .u64 h0, .int .u64 l0, .int .u16 f])) 40⟩, ⟨g2, .cells (av 4 (ls [.bool (v1), .int .u64 h1, .int .u64 l1, .int .u16 g])) 40⟩, ⟨g3, .cells (av 9 (ls [.bool false, .int .u64 0, .int .u64 0, .bool false, .int .u64 0, .int .u64 0, .int .u8 0, .int .u8 0, .string ⟨#[]⟩])) 26⟩] u3 := M
  refine pl_val (want_no rfl) (some 9) rfl (.int .i64 0) (fun _ => by kernel_rfl) ?_
  refine pl_nil ?_
  refine au_then ?_
  refine wp_seq ?_
  refine rg_held M [⟨g1, .cells (av 4 (ls [.bool (v0), .int .u64 h0, .int .u64 l0, .int .u16 f])) 40⟩, ⟨g2, .cells (av 4 (ls [.bool (v1), .int .u64 h1, .int .u64 l1, .int .u16 g])) 40⟩, ⟨g3, .cells (av 9 (ls [.bool false, .int .u64 0, .int .u64 0, .bool false, .int .u64 0, .int .u64 0, .int .u8 0, .int .u8 0, .string ⟨#[]⟩])) 26⟩] 20 rfl (by kernel_rfl) (by kernel_rfl) (fun _ _ d _ _ h => by cases d <;> exact h) ?_
  intro u4 M
  replace M : Mem ⟨w, []⟩ [⟨g1, .cells (av 4 (ls [.bool (v0), .int .u64 h0, .int .u64 l0, .int .u16 f])) 40⟩, ⟨g2, .cells (av 4 (ls [.bool (v1), .int .u64 h1, .int .u64 l1, .int .u16 g])) 40⟩, ⟨g3, .cells (av 9 (ls [.bool false, .int .u64 0, .int .u64 0, .bool false, .int .u64 0, .int .u64 0, .int .u8 0, .int .u8 0, .string ⟨#[]⟩])) 26⟩] u4 := M
  refine hl_val M 0 rfl (by decide) (by kernel_rfl) (by kernel_rfl) (want_no rfl) (some 11) rfl (.pointer (some ⟨g1, 3, none⟩)) (fun _ _ => by kernel_rfl) ?_
  refine hl_cell M 1 rfl (by decide) (by kernel_rfl) (by kernel_rfl) (want_no rfl) (some 12) rfl 27 _ rfl g1 3 (by kernel_rfl) (.int .u16 f) (fun _ => by kernel_rfl) (fun w M => M.cell 0 rfl (by decide) rfl) ?_
  refine hl_val M 2 rfl (by decide) (by kernel_rfl) (by kernel_rfl) (want_no rfl) (some 13) rfl (.int .u64 (cv .u64 f)) (fun _ _ => by kernel_rfl) ?_
  refine hl_val M 4 rfl (by decide) (by kernel_rfl) (by kernel_rfl) (want_no rfl) (some 15) rfl (.pointer (some ⟨g2, 3, none⟩)) (fun _ _ => by kernel_rfl) ?_
  refine hl_cell M 5 rfl (by decide) (by kernel_rfl) (by kernel_rfl) (want_no rfl) (some 16) rfl 27 _ rfl g2 3 (by kernel_rfl) (.int .u16 g) (fun _ => by kernel_rfl) (fun w M => M.cell 1 rfl (by decide) rfl) ?_
  refine hl_val M 6 rfl (by decide) (by kernel_rfl) (by kernel_rfl) (want_no rfl) (some 17) rfl (.int .u64 (cv .u64 g)) (fun _ _ => by kernel_rfl) ?_
  refine hl_val M 13 rfl (by decide) (by kernel_rfl) (by kernel_rfl) (want_no rfl) (some 24) rfl (.int .u8 q) (fun _ _ => by kernel_rfl) ?_
  refine hl_val M 18 rfl (by decide) (by kernel_rfl) (by kernel_rfl) (want_no rfl) (some 29) rfl (.string d) (fun _ _ => by kernel_rfl) ?_
  refine hl_name ?_
  intro H hA hB
  have s29 : ∀ (a : Act) (l : Array Bool) (x_20 x_25 : Value) (w0 : World), a = ⟨#[.agg (av 4 (ls [.bool (v0), .int .u64 h0, .int .u64 l0, .int .u16 f])), .agg (av 4 (ls [.bool (v1), .int .u64 h1, .int .u64 l1, .int .u16 g])), .int .u8 q, .string d, .pointer (some ⟨g1, 0, none⟩), .pointer (some ⟨g2, 0, none⟩), undef, undef, .pointer (some ⟨g3, 0, none⟩), .int .i64 0, undef, .pointer (some ⟨g1, 3, none⟩), .int .u16 f, .int .u64 (cv .u64 f), .string (be2 (cv .u64 f)), .pointer (some ⟨g2, 3, none⟩), .int .u16 g, .int .u64 (cv .u64 g), .string (be2 (cv .u64 g)), .string ((be2 (cv .u64 f)) ++ (be2 (cv .u64 g))), x_20, .string (bs [0, 0, 0, 0, 0, 0, 0, 0]), .string (((be2 (cv .u64 f)) ++ (be2 (cv .u64 g))) ++ (bs [0, 0, 0, 0, 0, 0, 0, 0])), .string ((((be2 (cv .u64 f)) ++ (be2 (cv .u64 g))) ++ (bs [0, 0, 0, 0, 0, 0, 0, 0])) ++ (⟨#[80]⟩ : ByteArray)), .int .u8 q, x_25, .string (bs [q]), .string (((((be2 (cv .u64 f)) ++ (be2 (cv .u64 g))) ++ (bs [0, 0, 0, 0, 0, 0, 0, 0])) ++ (⟨#[80]⟩ : ByteArray)) ++ (bs [q])), .string ((((((be2 (cv .u64 f)) ++ (be2 (cv .u64 g))) ++ (bs [0, 0, 0, 0, 0, 0, 0, 0])) ++ (⟨#[80]⟩ : ByteArray)) ++ (bs [q])) ++ (⟨#[255, 255, 0, 0, 0, 0]⟩ : ByteArray)), .string d, .string (((((((be2 (cv .u64 f)) ++ (be2 (cv .u64 g))) ++ (bs [0, 0, 0, 0, 0, 0, 0, 0])) ++ (⟨#[80]⟩ : ByteArray)) ++ (bs [q])) ++ (⟨#[255, 255, 0, 0, 0, 0]⟩ : ByteArray)) ++ d), undef, undef, undef, undef, undef, undef, undef, undef, undef], []⟩ → l = #[true, true, true, true, true, true, true, true, true, true, true, true, true, true, true, true, true, true, true, true, false] → Mem ⟨w, []⟩ [⟨g1, .cells (av 4 (ls [.bool (v0), .int .u64 h0, .int .u64 l0, .int .u16 f])) 40⟩, ⟨g2, .cells (av 4 (ls [.bool (v1), .int .u64 h1, .int .u64 l1, .int .u16 g])) 40⟩, ⟨g3, .cells (av 9 (ls [.bool false, .int .u64 0, .int .u64 0, .bool false, .int .u64 0, .int .u64 0, .int .u8 0, .int .u8 0, .string ⟨#[]⟩])) 26⟩] w0 → H 1 l a w0 := by
    intro a l  x_20 x_25 u0 ha hl M
    subst ha hl
    refine hB _ _ _ _ ?_
    refine hl_end (by kernel_rfl) (by kernel_rfl) rfl ?_
    refine pl_val (want_no rfl) (some 10) rfl (.string (((((((be2 (cv .u64 f)) ++ (be2 (cv .u64 g))) ++ (bs [0, 0, 0, 0, 0, 0, 0, 0])) ++ (⟨#[80]⟩ : ByteArray)) ++ (bs [q])) ++ (⟨#[255, 255, 0, 0, 0, 0]⟩ : ByteArray)) ++ d)) (fun _ => by kernel_rfl) ?_
    refine pl_nil ?_
    refine au_then ?_
    refine au_then ?_
    refine wp_seq ?_
    refine rg_lit ?_
    refine pl_val (want_no rfl) (some 31) rfl (.pointer (some ⟨g1, 0, none⟩)) (fun _ => by kernel_rfl) ?_
    refine pl_load M (want_no rfl) (some 32) rfl 24 _ rfl 0 g1 0 (by kernel_rfl) 4 40 (ls [.bool (v0), .int .u64 h0, .int .u64 l0, .int .u16 f]) rfl 3 (ls [.bool (v0), .int .u64 h0, .int .u64 l0]) (part_ls _ 0 3 _ rfl) (by decide) _ Try.underlying24 rfl inz24 ?_
    refine pl_val (want_no rfl) (some 33) rfl (.pointer (some ⟨g2, 0, none⟩)) (fun _ => by kernel_rfl) ?_
    refine pl_load M (want_no rfl) (some 34) rfl 24 _ rfl 1 g2 0 (by kernel_rfl) 4 40 (ls [.bool (v1), .int .u64 h1, .int .u64 l1, .int .u16 g]) rfl 3 (ls [.bool (v1), .int .u64 h1, .int .u64 l1]) (part_ls _ 0 3 _ rfl) (by decide) _ Try.underlying24 rfl inz24 ?_
    refine pl_val (want_no rfl) (some 35) rfl (.string (((((((be2 (cv .u64 f)) ++ (be2 (cv .u64 g))) ++ (bs [0, 0, 0, 0, 0, 0, 0, 0])) ++ (⟨#[80]⟩ : ByteArray)) ++ (bs [q])) ++ (⟨#[255, 255, 0, 0, 0, 0]⟩ : ByteArray)) ++ d)) (fun _ => by kernel_rfl) ?_
    refine pl_val (want_no rfl) (some 36) rfl (.agg (av 9 (ls [.bool (v0), .int .u64 h0, .int .u64 l0, .bool (v1), .int .u64 h1, .int .u64 l1, .int .u8 6, .int .u8 64, .string (((((((be2 (cv .u64 f)) ++ (be2 (cv .u64 g))) ++ (bs [0, 0, 0, 0, 0, 0, 0, 0])) ++ (⟨#[80]⟩ : ByteArray)) ++ (bs [q])) ++ (⟨#[255, 255, 0, 0, 0, 0]⟩ : ByteArray)) ++ d)]))) (fun _ => by kernel_rfl) ?_
    refine pl_call M (want_no rfl) (some 37) rfl 33 #[.agg (av 9 (ls [.bool (v0), .int .u64 h0, .int .u64 l0, .bool (v1), .int .u64 h1, .int .u64 l1, .int .u8 6, .int .u8 64, .string (((((((be2 (cv .u64 f)) ++ (be2 (cv .u64 g))) ++ (bs [0, 0, 0, 0, 0, 0, 0, 0])) ++ (⟨#[80]⟩ : ByteArray)) ++ (bs [q])) ++ (⟨#[255, 255, 0, 0, 0, 0]⟩ : ByteArray)) ++ d)])), .int .i64 16] (.tuple #[.agg (av 9 (ls [.bool (zB (pkE v0 h0 l0 v1 h1 l1 (tcA f g q) (tcB d)) v0), .int .u64 (zI (pkE v0 h0 l0 v1 h1 l1 (tcA f g q) (tcB d)) h0), .int .u64 (zI (pkE v0 h0 l0 v1 h1 l1 (tcA f g q) (tcB d)) l0), .bool (zB (pkE v0 h0 l0 v1 h1 l1 (tcA f g q) (tcB d)) v1), .int .u64 (zI (pkE v0 h0 l0 v1 h1 l1 (tcA f g q) (tcB d)) h1), .int .u64 (zI (pkE v0 h0 l0 v1 h1 l1 (tcA f g q) (tcB d)) l1), .int .u8 (zI (pkE v0 h0 l0 v1 h1 l1 (tcA f g q) (tcB d)) 6), .int .u8 (zI (pkE v0 h0 l0 v1 h1 l1 (tcA f g q) (tcB d)) 64), .string (zS (pkE v0 h0 l0 v1 h1 l1 (tcA f g q) (tcB d)) (pkO v0 h0 l0 v1 h1 l1 6 (tcA f g q) (tcB d)))])), .int .i64 (pkE v0 h0 l0 v1 h1 l1 (tcA f g q) (tcB d))]) (fun _ => by kernel_rfl) (fun w M => call_val (d_made v0 h0 l0 v1 h1 l1 6 (((((((be2 (cv .u64 f)) ++ (be2 (cv .u64 g))) ++ (bs [0, 0, 0, 0, 0, 0, 0, 0])) ++ (⟨#[80]⟩ : ByteArray)) ++ (bs [q])) ++ (⟨#[255, 255, 0, 0, 0, 0]⟩ : ByteArray)) ++ d) (tcA f g q) (tcB d) 16 (tcA_size _ _ _).symm (tc_doc f g q d) (by (try simp only [ByteArray.size_append, ByteArray.size_extract, be2_size, be4_size, be8_size, bs_size, sz_mk, List.size_toArray, List.length_cons, List.length_nil]); omega) (by omega) w M.laid) (by rw [(tc_doc f g q d)]; rfl)) ?_
    intro u9 M
    refine pl_val (want_no rfl) (some 38) rfl (.agg (av 9 (ls [.bool (zB (pkE v0 h0 l0 v1 h1 l1 (tcA f g q) (tcB d)) v0), .int .u64 (zI (pkE v0 h0 l0 v1 h1 l1 (tcA f g q) (tcB d)) h0), .int .u64 (zI (pkE v0 h0 l0 v1 h1 l1 (tcA f g q) (tcB d)) l0), .bool (zB (pkE v0 h0 l0 v1 h1 l1 (tcA f g q) (tcB d)) v1), .int .u64 (zI (pkE v0 h0 l0 v1 h1 l1 (tcA f g q) (tcB d)) h1), .int .u64 (zI (pkE v0 h0 l0 v1 h1 l1 (tcA f g q) (tcB d)) l1), .int .u8 (zI (pkE v0 h0 l0 v1 h1 l1 (tcA f g q) (tcB d)) 6), .int .u8 (zI (pkE v0 h0 l0 v1 h1 l1 (tcA f g q) (tcB d)) 64), .string (zS (pkE v0 h0 l0 v1 h1 l1 (tcA f g q) (tcB d)) (pkO v0 h0 l0 v1 h1 l1 6 (tcA f g q) (tcB d)))]))) (fun _ => by kernel_rfl) ?_
    refine pl_val (want_no rfl) (some 39) rfl (.int .i64 (pkE v0 h0 l0 v1 h1 l1 (tcA f g q) (tcB d))) (fun _ => by kernel_rfl) ?_
    refine pl_put M (want_no rfl) rfl 26 _ _ rfl 2 g3 0 (by kernel_rfl) 9 26 (ls [.bool false, .int .u64 0, .int .u64 0, .bool false, .int .u64 0, .int .u64 0, .int .u8 0, .int .u8 0, .string ⟨#[]⟩]) rfl 9 (ls [.bool (zB (pkE v0 h0 l0 v1 h1 l1 (tcA f g q) (tcB d)) v0), .int .u64 (zI (pkE v0 h0 l0 v1 h1 l1 (tcA f g q) (tcB d)) h0), .int .u64 (zI (pkE v0 h0 l0 v1 h1 l1 (tcA f g q) (tcB d)) l0), .bool (zB (pkE v0 h0 l0 v1 h1 l1 (tcA f g q) (tcB d)) v1), .int .u64 (zI (pkE v0 h0 l0 v1 h1 l1 (tcA f g q) (tcB d)) h1), .int .u64 (zI (pkE v0 h0 l0 v1 h1 l1 (tcA f g q) (tcB d)) l1), .int .u8 (zI (pkE v0 h0 l0 v1 h1 l1 (tcA f g q) (tcB d)) 6), .int .u8 (zI (pkE v0 h0 l0 v1 h1 l1 (tcA f g q) (tcB d)) 64), .string (zS (pkE v0 h0 l0 v1 h1 l1 (tcA f g q) (tcB d)) (pkO v0 h0 l0 v1 h1 l1 6 (tcA f g q) (tcB d)))]) (ls [.bool (zB (pkE v0 h0 l0 v1 h1 l1 (tcA f g q) (tcB d)) v0), .int .u64 (zI (pkE v0 h0 l0 v1 h1 l1 (tcA f g q) (tcB d)) h0), .int .u64 (zI (pkE v0 h0 l0 v1 h1 l1 (tcA f g q) (tcB d)) l0), .bool (zB (pkE v0 h0 l0 v1 h1 l1 (tcA f g q) (tcB d)) v1), .int .u64 (zI (pkE v0 h0 l0 v1 h1 l1 (tcA f g q) (tcB d)) h1), .int .u64 (zI (pkE v0 h0 l0 v1 h1 l1 (tcA f g q) (tcB d)) l1), .int .u8 (zI (pkE v0 h0 l0 v1 h1 l1 (tcA f g q) (tcB d)) 6), .int .u8 (zI (pkE v0 h0 l0 v1 h1 l1 (tcA f g q) (tcB d)) 64), .string (zS (pkE v0 h0 l0 v1 h1 l1 (tcA f g q) (tcB d)) (pkO v0 h0 l0 v1 h1 l1 6 (tcA f g q) (tcB d)))]) (by kernel_rfl) inz26 (by decide) (one_ls _ rfl) (fun j hj => by rw [if_pos (by omega), Nat.sub_zero]) ?_
    intro u10 M
    replace M : Mem ⟨w, []⟩ [⟨g1, .cells (av 4 (ls [.bool (v0), .int .u64 h0, .int .u64 l0, .int .u16 f])) 40⟩, ⟨g2, .cells (av 4 (ls [.bool (v1), .int .u64 h1, .int .u64 l1, .int .u16 g])) 40⟩, ⟨g3, .cells (av 9 (ls [.bool (zB (pkE v0 h0 l0 v1 h1 l1 (tcA f g q) (tcB d)) v0), .int .u64 (zI (pkE v0 h0 l0 v1 h1 l1 (tcA f g q) (tcB d)) h0), .int .u64 (zI (pkE v0 h0 l0 v1 h1 l1 (tcA f g q) (tcB d)) l0), .bool (zB (pkE v0 h0 l0 v1 h1 l1 (tcA f g q) (tcB d)) v1), .int .u64 (zI (pkE v0 h0 l0 v1 h1 l1 (tcA f g q) (tcB d)) h1), .int .u64 (zI (pkE v0 h0 l0 v1 h1 l1 (tcA f g q) (tcB d)) l1), .int .u8 (zI (pkE v0 h0 l0 v1 h1 l1 (tcA f g q) (tcB d)) 6), .int .u8 (zI (pkE v0 h0 l0 v1 h1 l1 (tcA f g q) (tcB d)) 64), .string (zS (pkE v0 h0 l0 v1 h1 l1 (tcA f g q) (tcB d)) (pkO v0 h0 l0 v1 h1 l1 6 (tcA f g q) (tcB d)))])) 26⟩] u10 := M
    refine pl_val (want_no rfl) (some 9) rfl (.int .i64 (pkE v0 h0 l0 v1 h1 l1 (tcA f g q) (tcB d))) (fun _ => by kernel_rfl) ?_
    refine pl_nil ?_
    refine au_then ?_
    refine wp_ret ?_
    exact bodyPost_ret (v := .tuple #[.agg (av 9 (ls [.bool (zB (pkE v0 h0 l0 v1 h1 l1 (tcA f g q) (tcB d)) v0), .int .u64 (zI (pkE v0 h0 l0 v1 h1 l1 (tcA f g q) (tcB d)) h0), .int .u64 (zI (pkE v0 h0 l0 v1 h1 l1 (tcA f g q) (tcB d)) l0), .bool (zB (pkE v0 h0 l0 v1 h1 l1 (tcA f g q) (tcB d)) v1), .int .u64 (zI (pkE v0 h0 l0 v1 h1 l1 (tcA f g q) (tcB d)) h1), .int .u64 (zI (pkE v0 h0 l0 v1 h1 l1 (tcA f g q) (tcB d)) l1), .int .u8 (zI (pkE v0 h0 l0 v1 h1 l1 (tcA f g q) (tcB d)) 6), .int .u8 (zI (pkE v0 h0 l0 v1 h1 l1 (tcA f g q) (tcB d)) 64), .string (zS (pkE v0 h0 l0 v1 h1 l1 (tcA f g q) (tcB d)) (pkO v0 h0 l0 v1 h1 l1 6 (tcA f g q) (tcB d)))])), .int .i64 (pkE v0 h0 l0 v1 h1 l1 (tcA f g q) (tcB d))]) (results_cell_tmp Try.results17 _ _ g3 26 (av 9 (ls [.bool (zB (pkE v0 h0 l0 v1 h1 l1 (tcA f g q) (tcB d)) v0), .int .u64 (zI (pkE v0 h0 l0 v1 h1 l1 (tcA f g q) (tcB d)) h0), .int .u64 (zI (pkE v0 h0 l0 v1 h1 l1 (tcA f g q) (tcB d)) l0), .bool (zB (pkE v0 h0 l0 v1 h1 l1 (tcA f g q) (tcB d)) v1), .int .u64 (zI (pkE v0 h0 l0 v1 h1 l1 (tcA f g q) (tcB d)) h1), .int .u64 (zI (pkE v0 h0 l0 v1 h1 l1 (tcA f g q) (tcB d)) l1), .int .u8 (zI (pkE v0 h0 l0 v1 h1 l1 (tcA f g q) (tcB d)) 6), .int .u8 (zI (pkE v0 h0 l0 v1 h1 l1 (tcA f g q) (tcB d)) 64), .string (zS (pkE v0 h0 l0 v1 h1 l1 (tcA f g q) (tcB d)) (pkO v0 h0 l0 v1 h1 l1 6 (tcA f g q) (tcB d)))])) (0, 0) _ _ (by kernel_rfl) (by kernel_rfl) (M.get 2 rfl) Try.underlying26 rfl (by rw [av_size]; exact inz26)) (by kernel_rfl) ⟨rfl, below_grown M.old⟩
  have s26 : ∀ (a : Act) (l : Array Bool) (g5 : Nat) (x_20 : Value) (w0 : World), a = ⟨#[.agg (av 4 (ls [.bool (v0), .int .u64 h0, .int .u64 l0, .int .u16 f])), .agg (av 4 (ls [.bool (v1), .int .u64 h1, .int .u64 l1, .int .u16 g])), .int .u8 q, .string d, .pointer (some ⟨g1, 0, none⟩), .pointer (some ⟨g2, 0, none⟩), undef, undef, .pointer (some ⟨g3, 0, none⟩), .int .i64 0, undef, .pointer (some ⟨g1, 3, none⟩), .int .u16 f, .int .u64 (cv .u64 f), .string (be2 (cv .u64 f)), .pointer (some ⟨g2, 3, none⟩), .int .u16 g, .int .u64 (cv .u64 g), .string (be2 (cv .u64 g)), .string ((be2 (cv .u64 f)) ++ (be2 (cv .u64 g))), x_20, .string (bs [0, 0, 0, 0, 0, 0, 0, 0]), .string (((be2 (cv .u64 f)) ++ (be2 (cv .u64 g))) ++ (bs [0, 0, 0, 0, 0, 0, 0, 0])), .string ((((be2 (cv .u64 f)) ++ (be2 (cv .u64 g))) ++ (bs [0, 0, 0, 0, 0, 0, 0, 0])) ++ (⟨#[80]⟩ : ByteArray)), .int .u8 q, .slice (some ⟨g5, 0, none⟩) 1 1, undef, undef, undef, .string d, undef, undef, undef, undef, undef, undef, undef, undef, undef, undef], []⟩ → l = #[true, true, true, true, true, true, true, true, true, true, true, true, true, true, true, false, false, false, true, false, false] → Mem ⟨w, []⟩ [⟨g1, .cells (av 4 (ls [.bool (v0), .int .u64 h0, .int .u64 l0, .int .u16 f])) 40⟩, ⟨g2, .cells (av 4 (ls [.bool (v1), .int .u64 h1, .int .u64 l1, .int .u16 g])) 40⟩, ⟨g3, .cells (av 9 (ls [.bool false, .int .u64 0, .int .u64 0, .bool false, .int .u64 0, .int .u64 0, .int .u8 0, .int .u8 0, .string ⟨#[]⟩])) 26⟩, ⟨g5, .cells (av 1 (ls [.int .u8 q])) 5⟩] w0 → H 5 l a w0 := by
    intro a l g5 x_20 u0 ha hl M
    subst ha hl
    refine hB _ _ _ _ ?_
    refine hl_one 15 (by decide) (by kernel_rfl) rfl ?_
    refine pl_back M (want_no rfl) (some 26) rfl _ rfl 3 g5 1 1 (by kernel_rfl) _ rfl [q] 1 (sb_ls [q] _) rfl (by intro x hx; simp only [List.mem_cons, List.mem_nil_iff, or_false] at hx; subst hx; omega) ?_
    refine pl_nil ?_
    refine au_then ?_
    refine ⟨(M.drop (.cons_cons _ (.cons_cons _ (.cons_cons _ (.cons _ (.slnil)))))), ?_⟩
    refine hl_val (M.drop (.cons_cons _ (.cons_cons _ (.cons_cons _ (.cons _ (.slnil)))))) 16 rfl (by decide) (by kernel_rfl) (by kernel_rfl) (want_no rfl) (some 27) rfl (.string (((((be2 (cv .u64 f)) ++ (be2 (cv .u64 g))) ++ (bs [0, 0, 0, 0, 0, 0, 0, 0])) ++ (⟨#[80]⟩ : ByteArray)) ++ (bs [q]))) (fun w _ => (run_cat 9 9 _ _ rfl ((((be2 (cv .u64 f)) ++ (be2 (cv .u64 g))) ++ (bs [0, 0, 0, 0, 0, 0, 0, 0])) ++ (⟨#[80]⟩ : ByteArray)) (bs [q]) (by kernel_rfl) (by kernel_rfl) (by (try simp only [ByteArray.size_append, ByteArray.size_extract, be2_size, be4_size, be8_size, bs_size, sz_mk, List.size_toArray, List.length_cons, List.length_nil]); omega)) w) ?_
    refine hl_val (M.drop (.cons_cons _ (.cons_cons _ (.cons_cons _ (.cons _ (.slnil)))))) 17 rfl (by decide) (by kernel_rfl) (by kernel_rfl) (want_no rfl) (some 28) rfl (.string ((((((be2 (cv .u64 f)) ++ (be2 (cv .u64 g))) ++ (bs [0, 0, 0, 0, 0, 0, 0, 0])) ++ (⟨#[80]⟩ : ByteArray)) ++ (bs [q])) ++ (⟨#[255, 255, 0, 0, 0, 0]⟩ : ByteArray))) (fun w _ => (run_cat 9 9 _ _ rfl (((((be2 (cv .u64 f)) ++ (be2 (cv .u64 g))) ++ (bs [0, 0, 0, 0, 0, 0, 0, 0])) ++ (⟨#[80]⟩ : ByteArray)) ++ (bs [q])) ⟨#[255, 255, 0, 0, 0, 0]⟩ (by kernel_rfl) (by kernel_rfl) (by (try simp only [ByteArray.size_append, ByteArray.size_extract, be2_size, be4_size, be8_size, bs_size, sz_mk, List.size_toArray, List.length_cons, List.length_nil]); omega)) w) ?_
    refine hl_val (M.drop (.cons_cons _ (.cons_cons _ (.cons_cons _ (.cons _ (.slnil)))))) 19 rfl (by decide) (by kernel_rfl) (by kernel_rfl) (want_no rfl) (some 30) rfl (.string (((((((be2 (cv .u64 f)) ++ (be2 (cv .u64 g))) ++ (bs [0, 0, 0, 0, 0, 0, 0, 0])) ++ (⟨#[80]⟩ : ByteArray)) ++ (bs [q])) ++ (⟨#[255, 255, 0, 0, 0, 0]⟩ : ByteArray)) ++ d)) (fun w _ => (run_cat 9 9 _ _ rfl ((((((be2 (cv .u64 f)) ++ (be2 (cv .u64 g))) ++ (bs [0, 0, 0, 0, 0, 0, 0, 0])) ++ (⟨#[80]⟩ : ByteArray)) ++ (bs [q])) ++ (⟨#[255, 255, 0, 0, 0, 0]⟩ : ByteArray)) d (by kernel_rfl) (by kernel_rfl) (by (try simp only [ByteArray.size_append, ByteArray.size_extract, be2_size, be4_size, be8_size, bs_size, sz_mk, List.size_toArray, List.length_cons, List.length_nil]); omega)) w) ?_
    exact hA _ _ _ _ (s29 _ _ (x_20) (.slice (some ⟨g5, 0, none⟩) 1 1) _ (by kernel_rfl) (by kernel_rfl) (M.drop (.cons_cons _ (.cons_cons _ (.cons_cons _ (.cons _ (.slnil)))))))
  have s19 : ∀ (a : Act) (l : Array Bool) (x_20 : Value) (w0 : World), a = ⟨#[.agg (av 4 (ls [.bool (v0), .int .u64 h0, .int .u64 l0, .int .u16 f])), .agg (av 4 (ls [.bool (v1), .int .u64 h1, .int .u64 l1, .int .u16 g])), .int .u8 q, .string d, .pointer (some ⟨g1, 0, none⟩), .pointer (some ⟨g2, 0, none⟩), undef, undef, .pointer (some ⟨g3, 0, none⟩), .int .i64 0, undef, .pointer (some ⟨g1, 3, none⟩), .int .u16 f, .int .u64 (cv .u64 f), .string (be2 (cv .u64 f)), .pointer (some ⟨g2, 3, none⟩), .int .u16 g, .int .u64 (cv .u64 g), .string (be2 (cv .u64 g)), .string ((be2 (cv .u64 f)) ++ (be2 (cv .u64 g))), x_20, .string (bs [0, 0, 0, 0, 0, 0, 0, 0]), .string (((be2 (cv .u64 f)) ++ (be2 (cv .u64 g))) ++ (bs [0, 0, 0, 0, 0, 0, 0, 0])), .string ((((be2 (cv .u64 f)) ++ (be2 (cv .u64 g))) ++ (bs [0, 0, 0, 0, 0, 0, 0, 0])) ++ (⟨#[80]⟩ : ByteArray)), .int .u8 q, undef, undef, undef, undef, .string d, undef, undef, undef, undef, undef, undef, undef, undef, undef, undef], []⟩ → l = #[true, true, true, true, true, true, true, true, true, true, true, true, true, true, false, false, false, false, true, false, false] → Mem ⟨w, []⟩ [⟨g1, .cells (av 4 (ls [.bool (v0), .int .u64 h0, .int .u64 l0, .int .u16 f])) 40⟩, ⟨g2, .cells (av 4 (ls [.bool (v1), .int .u64 h1, .int .u64 l1, .int .u16 g])) 40⟩, ⟨g3, .cells (av 9 (ls [.bool false, .int .u64 0, .int .u64 0, .bool false, .int .u64 0, .int .u64 0, .int .u8 0, .int .u8 0, .string ⟨#[]⟩])) 26⟩] w0 → H 6 l a w0 := by
    intro a l  x_20 u0 ha hl M
    subst ha hl
    refine hB _ _ _ _ ?_
    refine hl_one 14 (by decide) (by kernel_rfl) rfl ?_
    refine pl_mk M (want_no rfl) (some 25) rfl (fun g5 => .slice (some ⟨g5, 0, none⟩) 1 1) (.cells (av 1 (ls [.int .u8 q])) 5) (fun _ => by kernel_rfl) ?_
    intro g5 u8 M
    replace M : Mem ⟨w, []⟩ [⟨g1, .cells (av 4 (ls [.bool (v0), .int .u64 h0, .int .u64 l0, .int .u16 f])) 40⟩, ⟨g2, .cells (av 4 (ls [.bool (v1), .int .u64 h1, .int .u64 l1, .int .u16 g])) 40⟩, ⟨g3, .cells (av 9 (ls [.bool false, .int .u64 0, .int .u64 0, .bool false, .int .u64 0, .int .u64 0, .int .u8 0, .int .u8 0, .string ⟨#[]⟩])) 26⟩, ⟨g5, .cells (av 1 (ls [.int .u8 q])) 5⟩] u8 := M
    refine pl_nil ?_
    refine au_then ?_
    refine ⟨(M.drop (.cons_cons _ (.cons_cons _ (.cons_cons _ (.cons _ (.slnil)))))), ?_⟩
    exact hA _ _ _ _ (s26 _ _ g5 (x_20) _ (by kernel_rfl) (by kernel_rfl) M)
  have s27 : ∀ (a : Act) (l : Array Bool) (g4 : Nat) (x_25 : Value) (w0 : World), a = ⟨#[.agg (av 4 (ls [.bool (v0), .int .u64 h0, .int .u64 l0, .int .u16 f])), .agg (av 4 (ls [.bool (v1), .int .u64 h1, .int .u64 l1, .int .u16 g])), .int .u8 q, .string d, .pointer (some ⟨g1, 0, none⟩), .pointer (some ⟨g2, 0, none⟩), undef, undef, .pointer (some ⟨g3, 0, none⟩), .int .i64 0, undef, .pointer (some ⟨g1, 3, none⟩), .int .u16 f, .int .u64 (cv .u64 f), .string (be2 (cv .u64 f)), .pointer (some ⟨g2, 3, none⟩), .int .u16 g, .int .u64 (cv .u64 g), .string (be2 (cv .u64 g)), .string ((be2 (cv .u64 f)) ++ (be2 (cv .u64 g))), .slice (some ⟨g4, 0, none⟩) 8 8, undef, undef, undef, .int .u8 q, x_25, .string (bs [q]), undef, undef, .string d, undef, undef, undef, undef, undef, undef, undef, undef, undef, undef], []⟩ → l = #[true, true, true, true, true, true, true, true, true, true, false, false, false, true, true, true, false, false, true, false, false] → Mem ⟨w, []⟩ [⟨g1, .cells (av 4 (ls [.bool (v0), .int .u64 h0, .int .u64 l0, .int .u16 f])) 40⟩, ⟨g2, .cells (av 4 (ls [.bool (v1), .int .u64 h1, .int .u64 l1, .int .u16 g])) 40⟩, ⟨g3, .cells (av 9 (ls [.bool false, .int .u64 0, .int .u64 0, .bool false, .int .u64 0, .int .u64 0, .int .u8 0, .int .u8 0, .string ⟨#[]⟩])) 26⟩, ⟨g4, .cells (av 8 (ls [.int .u8 0, .int .u8 0, .int .u8 0, .int .u8 0, .int .u8 0, .int .u8 0, .int .u8 0, .int .u8 0])) 5⟩] w0 → H 7 l a w0 := by
    intro a l g4 x_25 u0 ha hl M
    subst ha hl
    refine hB _ _ _ _ ?_
    refine hl_one 10 (by decide) (by kernel_rfl) rfl ?_
    refine pl_back M (want_no rfl) (some 21) rfl _ rfl 3 g4 8 8 (by kernel_rfl) _ rfl [0, 0, 0, 0, 0, 0, 0, 0] 8 (sb_ls [0, 0, 0, 0, 0, 0, 0, 0] _) rfl (by intro x hx; simp only [List.mem_cons, List.mem_nil_iff, or_false] at hx; rcases hx with rfl | rfl | rfl | rfl | rfl | rfl | rfl | rfl <;> omega) ?_
    refine pl_nil ?_
    refine au_then ?_
    refine ⟨(M.drop (.cons_cons _ (.cons_cons _ (.cons_cons _ (.cons _ (.slnil)))))), ?_⟩
    refine hl_val (M.drop (.cons_cons _ (.cons_cons _ (.cons_cons _ (.cons _ (.slnil)))))) 11 rfl (by decide) (by kernel_rfl) (by kernel_rfl) (want_no rfl) (some 22) rfl (.string (((be2 (cv .u64 f)) ++ (be2 (cv .u64 g))) ++ (bs [0, 0, 0, 0, 0, 0, 0, 0]))) (fun w _ => (run_cat 9 9 _ _ rfl ((be2 (cv .u64 f)) ++ (be2 (cv .u64 g))) (bs [0, 0, 0, 0, 0, 0, 0, 0]) (by kernel_rfl) (by kernel_rfl) (by (try simp only [ByteArray.size_append, ByteArray.size_extract, be2_size, be4_size, be8_size, bs_size, sz_mk, List.size_toArray, List.length_cons, List.length_nil]); omega)) w) ?_
    refine hl_val (M.drop (.cons_cons _ (.cons_cons _ (.cons_cons _ (.cons _ (.slnil)))))) 12 rfl (by decide) (by kernel_rfl) (by kernel_rfl) (want_no rfl) (some 23) rfl (.string ((((be2 (cv .u64 f)) ++ (be2 (cv .u64 g))) ++ (bs [0, 0, 0, 0, 0, 0, 0, 0])) ++ (⟨#[80]⟩ : ByteArray))) (fun w _ => (run_cat 9 9 _ _ rfl (((be2 (cv .u64 f)) ++ (be2 (cv .u64 g))) ++ (bs [0, 0, 0, 0, 0, 0, 0, 0])) ⟨#[80]⟩ (by kernel_rfl) (by kernel_rfl) (by (try simp only [ByteArray.size_append, ByteArray.size_extract, be2_size, be4_size, be8_size, bs_size, sz_mk, List.size_toArray, List.length_cons, List.length_nil]); omega)) w) ?_
    refine hl_val (M.drop (.cons_cons _ (.cons_cons _ (.cons_cons _ (.cons _ (.slnil)))))) 16 rfl (by decide) (by kernel_rfl) (by kernel_rfl) (want_no rfl) (some 27) rfl (.string (((((be2 (cv .u64 f)) ++ (be2 (cv .u64 g))) ++ (bs [0, 0, 0, 0, 0, 0, 0, 0])) ++ (⟨#[80]⟩ : ByteArray)) ++ (bs [q]))) (fun w _ => (run_cat 9 9 _ _ rfl ((((be2 (cv .u64 f)) ++ (be2 (cv .u64 g))) ++ (bs [0, 0, 0, 0, 0, 0, 0, 0])) ++ (⟨#[80]⟩ : ByteArray)) (bs [q]) (by kernel_rfl) (by kernel_rfl) (by (try simp only [ByteArray.size_append, ByteArray.size_extract, be2_size, be4_size, be8_size, bs_size, sz_mk, List.size_toArray, List.length_cons, List.length_nil]); omega)) w) ?_
    refine hl_val (M.drop (.cons_cons _ (.cons_cons _ (.cons_cons _ (.cons _ (.slnil)))))) 17 rfl (by decide) (by kernel_rfl) (by kernel_rfl) (want_no rfl) (some 28) rfl (.string ((((((be2 (cv .u64 f)) ++ (be2 (cv .u64 g))) ++ (bs [0, 0, 0, 0, 0, 0, 0, 0])) ++ (⟨#[80]⟩ : ByteArray)) ++ (bs [q])) ++ (⟨#[255, 255, 0, 0, 0, 0]⟩ : ByteArray))) (fun w _ => (run_cat 9 9 _ _ rfl (((((be2 (cv .u64 f)) ++ (be2 (cv .u64 g))) ++ (bs [0, 0, 0, 0, 0, 0, 0, 0])) ++ (⟨#[80]⟩ : ByteArray)) ++ (bs [q])) ⟨#[255, 255, 0, 0, 0, 0]⟩ (by kernel_rfl) (by kernel_rfl) (by (try simp only [ByteArray.size_append, ByteArray.size_extract, be2_size, be4_size, be8_size, bs_size, sz_mk, List.size_toArray, List.length_cons, List.length_nil]); omega)) w) ?_
    refine hl_val (M.drop (.cons_cons _ (.cons_cons _ (.cons_cons _ (.cons _ (.slnil)))))) 19 rfl (by decide) (by kernel_rfl) (by kernel_rfl) (want_no rfl) (some 30) rfl (.string (((((((be2 (cv .u64 f)) ++ (be2 (cv .u64 g))) ++ (bs [0, 0, 0, 0, 0, 0, 0, 0])) ++ (⟨#[80]⟩ : ByteArray)) ++ (bs [q])) ++ (⟨#[255, 255, 0, 0, 0, 0]⟩ : ByteArray)) ++ d)) (fun w _ => (run_cat 9 9 _ _ rfl ((((((be2 (cv .u64 f)) ++ (be2 (cv .u64 g))) ++ (bs [0, 0, 0, 0, 0, 0, 0, 0])) ++ (⟨#[80]⟩ : ByteArray)) ++ (bs [q])) ++ (⟨#[255, 255, 0, 0, 0, 0]⟩ : ByteArray)) d (by kernel_rfl) (by kernel_rfl) (by (try simp only [ByteArray.size_append, ByteArray.size_extract, be2_size, be4_size, be8_size, bs_size, sz_mk, List.size_toArray, List.length_cons, List.length_nil]); omega)) w) ?_
    exact hA _ _ _ _ (s29 _ _ (.slice (some ⟨g4, 0, none⟩) 8 8) (x_25) _ (by kernel_rfl) (by kernel_rfl) (M.drop (.cons_cons _ (.cons_cons _ (.cons_cons _ (.cons _ (.slnil)))))))
  have s20 : ∀ (a : Act) (l : Array Bool) (g4 g5 : Nat) (w0 : World), a = ⟨#[.agg (av 4 (ls [.bool (v0), .int .u64 h0, .int .u64 l0, .int .u16 f])), .agg (av 4 (ls [.bool (v1), .int .u64 h1, .int .u64 l1, .int .u16 g])), .int .u8 q, .string d, .pointer (some ⟨g1, 0, none⟩), .pointer (some ⟨g2, 0, none⟩), undef, undef, .pointer (some ⟨g3, 0, none⟩), .int .i64 0, undef, .pointer (some ⟨g1, 3, none⟩), .int .u16 f, .int .u64 (cv .u64 f), .string (be2 (cv .u64 f)), .pointer (some ⟨g2, 3, none⟩), .int .u16 g, .int .u64 (cv .u64 g), .string (be2 (cv .u64 g)), .string ((be2 (cv .u64 f)) ++ (be2 (cv .u64 g))), .slice (some ⟨g4, 0, none⟩) 8 8, undef, undef, undef, .int .u8 q, .slice (some ⟨g5, 0, none⟩) 1 1, undef, undef, undef, .string d, undef, undef, undef, undef, undef, undef, undef, undef, undef, undef], []⟩ → l = #[true, true, true, true, true, true, true, true, true, true, false, false, false, true, true, false, false, false, true, false, false] → Mem ⟨w, []⟩ [⟨g1, .cells (av 4 (ls [.bool (v0), .int .u64 h0, .int .u64 l0, .int .u16 f])) 40⟩, ⟨g2, .cells (av 4 (ls [.bool (v1), .int .u64 h1, .int .u64 l1, .int .u16 g])) 40⟩, ⟨g3, .cells (av 9 (ls [.bool false, .int .u64 0, .int .u64 0, .bool false, .int .u64 0, .int .u64 0, .int .u8 0, .int .u8 0, .string ⟨#[]⟩])) 26⟩, ⟨g4, .cells (av 8 (ls [.int .u8 0, .int .u8 0, .int .u8 0, .int .u8 0, .int .u8 0, .int .u8 0, .int .u8 0, .int .u8 0])) 5⟩, ⟨g5, .cells (av 1 (ls [.int .u8 q])) 5⟩] w0 → H 8 l a w0 := by
    intro a l g4 g5  u0 ha hl M
    subst ha hl
    refine hB _ _ _ _ ?_
    refine hl_two 10 15 (by decide) (by decide) (by kernel_rfl) rfl rfl ?_ ?_
    · skip
      refine pl_back M (want_no rfl) (some 21) rfl _ rfl 3 g4 8 8 (by kernel_rfl) _ rfl [0, 0, 0, 0, 0, 0, 0, 0] 8 (sb_ls [0, 0, 0, 0, 0, 0, 0, 0] _) rfl (by intro x hx; simp only [List.mem_cons, List.mem_nil_iff, or_false] at hx; rcases hx with rfl | rfl | rfl | rfl | rfl | rfl | rfl | rfl <;> omega) ?_
      refine pl_nil ?_
      refine au_then ?_
      refine ⟨(M.drop (.cons_cons _ (.cons_cons _ (.cons_cons _ (.cons _ (.cons _ (.slnil))))))), ?_⟩
      refine hl_val (M.drop (.cons_cons _ (.cons_cons _ (.cons_cons _ (.cons _ (.cons _ (.slnil))))))) 11 rfl (by decide) (by kernel_rfl) (by kernel_rfl) (want_no rfl) (some 22) rfl (.string (((be2 (cv .u64 f)) ++ (be2 (cv .u64 g))) ++ (bs [0, 0, 0, 0, 0, 0, 0, 0]))) (fun w _ => (run_cat 9 9 _ _ rfl ((be2 (cv .u64 f)) ++ (be2 (cv .u64 g))) (bs [0, 0, 0, 0, 0, 0, 0, 0]) (by kernel_rfl) (by kernel_rfl) (by (try simp only [ByteArray.size_append, ByteArray.size_extract, be2_size, be4_size, be8_size, bs_size, sz_mk, List.size_toArray, List.length_cons, List.length_nil]); omega)) w) ?_
      refine hl_val (M.drop (.cons_cons _ (.cons_cons _ (.cons_cons _ (.cons _ (.cons _ (.slnil))))))) 12 rfl (by decide) (by kernel_rfl) (by kernel_rfl) (want_no rfl) (some 23) rfl (.string ((((be2 (cv .u64 f)) ++ (be2 (cv .u64 g))) ++ (bs [0, 0, 0, 0, 0, 0, 0, 0])) ++ (⟨#[80]⟩ : ByteArray))) (fun w _ => (run_cat 9 9 _ _ rfl (((be2 (cv .u64 f)) ++ (be2 (cv .u64 g))) ++ (bs [0, 0, 0, 0, 0, 0, 0, 0])) ⟨#[80]⟩ (by kernel_rfl) (by kernel_rfl) (by (try simp only [ByteArray.size_append, ByteArray.size_extract, be2_size, be4_size, be8_size, bs_size, sz_mk, List.size_toArray, List.length_cons, List.length_nil]); omega)) w) ?_
      exact hA _ _ _ _ (s26 _ _ g5 (.slice (some ⟨g4, 0, none⟩) 8 8) _ (by kernel_rfl) (by kernel_rfl) (M.drop (.cons_cons _ (.cons_cons _ (.cons_cons _ (.cons _ (.cons_cons _ (.slnil))))))))
    · skip
      refine pl_back M (want_no rfl) (some 26) rfl _ rfl 4 g5 1 1 (by kernel_rfl) _ rfl [q] 1 (sb_ls [q] _) rfl (by intro x hx; simp only [List.mem_cons, List.mem_nil_iff, or_false] at hx; subst hx; omega) ?_
      refine pl_nil ?_
      refine au_then ?_
      refine ⟨(M.drop (.cons_cons _ (.cons_cons _ (.cons_cons _ (.cons _ (.cons _ (.slnil))))))), ?_⟩
      exact hA _ _ _ _ (s27 _ _ g4 (.slice (some ⟨g5, 0, none⟩) 1 1) _ (by kernel_rfl) (by kernel_rfl) (M.drop (.cons_cons _ (.cons_cons _ (.cons_cons _ (.cons_cons _ (.cons _ (.slnil))))))))
  have s21 : ∀ (a : Act) (l : Array Bool) (g4 g5 : Nat) (w0 : World), a = ⟨#[.agg (av 4 (ls [.bool (v0), .int .u64 h0, .int .u64 l0, .int .u16 f])), .agg (av 4 (ls [.bool (v1), .int .u64 h1, .int .u64 l1, .int .u16 g])), .int .u8 q, .string d, .pointer (some ⟨g1, 0, none⟩), .pointer (some ⟨g2, 0, none⟩), undef, undef, .pointer (some ⟨g3, 0, none⟩), .int .i64 0, undef, .pointer (some ⟨g1, 3, none⟩), .int .u16 f, .int .u64 (cv .u64 f), .string (be2 (cv .u64 f)), .pointer (some ⟨g2, 3, none⟩), .int .u16 g, .int .u64 (cv .u64 g), .string (be2 (cv .u64 g)), .string ((be2 (cv .u64 f)) ++ (be2 (cv .u64 g))), .slice (some ⟨g5, 0, none⟩) 8 8, undef, undef, undef, .int .u8 q, .slice (some ⟨g4, 0, none⟩) 1 1, undef, undef, undef, .string d, undef, undef, undef, undef, undef, undef, undef, undef, undef, undef], []⟩ → l = #[true, true, true, true, true, true, true, true, true, true, false, false, false, true, true, false, false, false, true, false, false] → Mem ⟨w, []⟩ [⟨g1, .cells (av 4 (ls [.bool (v0), .int .u64 h0, .int .u64 l0, .int .u16 f])) 40⟩, ⟨g2, .cells (av 4 (ls [.bool (v1), .int .u64 h1, .int .u64 l1, .int .u16 g])) 40⟩, ⟨g3, .cells (av 9 (ls [.bool false, .int .u64 0, .int .u64 0, .bool false, .int .u64 0, .int .u64 0, .int .u8 0, .int .u8 0, .string ⟨#[]⟩])) 26⟩, ⟨g4, .cells (av 1 (ls [.int .u8 q])) 5⟩, ⟨g5, .cells (av 8 (ls [.int .u8 0, .int .u8 0, .int .u8 0, .int .u8 0, .int .u8 0, .int .u8 0, .int .u8 0, .int .u8 0])) 5⟩] w0 → H 8 l a w0 := by
    intro a l g4 g5  u0 ha hl M
    subst ha hl
    refine hB _ _ _ _ ?_
    refine hl_two 10 15 (by decide) (by decide) (by kernel_rfl) rfl rfl ?_ ?_
    · skip
      refine pl_back M (want_no rfl) (some 21) rfl _ rfl 4 g5 8 8 (by kernel_rfl) _ rfl [0, 0, 0, 0, 0, 0, 0, 0] 8 (sb_ls [0, 0, 0, 0, 0, 0, 0, 0] _) rfl (by intro x hx; simp only [List.mem_cons, List.mem_nil_iff, or_false] at hx; rcases hx with rfl | rfl | rfl | rfl | rfl | rfl | rfl | rfl <;> omega) ?_
      refine pl_nil ?_
      refine au_then ?_
      refine ⟨(M.drop (.cons_cons _ (.cons_cons _ (.cons_cons _ (.cons _ (.cons _ (.slnil))))))), ?_⟩
      refine hl_val (M.drop (.cons_cons _ (.cons_cons _ (.cons_cons _ (.cons _ (.cons _ (.slnil))))))) 11 rfl (by decide) (by kernel_rfl) (by kernel_rfl) (want_no rfl) (some 22) rfl (.string (((be2 (cv .u64 f)) ++ (be2 (cv .u64 g))) ++ (bs [0, 0, 0, 0, 0, 0, 0, 0]))) (fun w _ => (run_cat 9 9 _ _ rfl ((be2 (cv .u64 f)) ++ (be2 (cv .u64 g))) (bs [0, 0, 0, 0, 0, 0, 0, 0]) (by kernel_rfl) (by kernel_rfl) (by (try simp only [ByteArray.size_append, ByteArray.size_extract, be2_size, be4_size, be8_size, bs_size, sz_mk, List.size_toArray, List.length_cons, List.length_nil]); omega)) w) ?_
      refine hl_val (M.drop (.cons_cons _ (.cons_cons _ (.cons_cons _ (.cons _ (.cons _ (.slnil))))))) 12 rfl (by decide) (by kernel_rfl) (by kernel_rfl) (want_no rfl) (some 23) rfl (.string ((((be2 (cv .u64 f)) ++ (be2 (cv .u64 g))) ++ (bs [0, 0, 0, 0, 0, 0, 0, 0])) ++ (⟨#[80]⟩ : ByteArray))) (fun w _ => (run_cat 9 9 _ _ rfl (((be2 (cv .u64 f)) ++ (be2 (cv .u64 g))) ++ (bs [0, 0, 0, 0, 0, 0, 0, 0])) ⟨#[80]⟩ (by kernel_rfl) (by kernel_rfl) (by (try simp only [ByteArray.size_append, ByteArray.size_extract, be2_size, be4_size, be8_size, bs_size, sz_mk, List.size_toArray, List.length_cons, List.length_nil]); omega)) w) ?_
      exact hA _ _ _ _ (s26 _ _ g4 (.slice (some ⟨g5, 0, none⟩) 8 8) _ (by kernel_rfl) (by kernel_rfl) (M.drop (.cons_cons _ (.cons_cons _ (.cons_cons _ (.cons_cons _ (.cons _ (.slnil))))))))
    · skip
      refine pl_back M (want_no rfl) (some 26) rfl _ rfl 3 g4 1 1 (by kernel_rfl) _ rfl [q] 1 (sb_ls [q] _) rfl (by intro x hx; simp only [List.mem_cons, List.mem_nil_iff, or_false] at hx; subst hx; omega) ?_
      refine pl_nil ?_
      refine au_then ?_
      refine ⟨(M.drop (.cons_cons _ (.cons_cons _ (.cons_cons _ (.cons _ (.cons _ (.slnil))))))), ?_⟩
      exact hA _ _ _ _ (s27 _ _ g5 (.slice (some ⟨g4, 0, none⟩) 1 1) _ (by kernel_rfl) (by kernel_rfl) (M.drop (.cons_cons _ (.cons_cons _ (.cons_cons _ (.cons _ (.cons_cons _ (.slnil))))))))
  have s22 : ∀ (a : Act) (l : Array Bool) (x_25 : Value) (w0 : World), a = ⟨#[.agg (av 4 (ls [.bool (v0), .int .u64 h0, .int .u64 l0, .int .u16 f])), .agg (av 4 (ls [.bool (v1), .int .u64 h1, .int .u64 l1, .int .u16 g])), .int .u8 q, .string d, .pointer (some ⟨g1, 0, none⟩), .pointer (some ⟨g2, 0, none⟩), undef, undef, .pointer (some ⟨g3, 0, none⟩), .int .i64 0, undef, .pointer (some ⟨g1, 3, none⟩), .int .u16 f, .int .u64 (cv .u64 f), .string (be2 (cv .u64 f)), .pointer (some ⟨g2, 3, none⟩), .int .u16 g, .int .u64 (cv .u64 g), .string (be2 (cv .u64 g)), .string ((be2 (cv .u64 f)) ++ (be2 (cv .u64 g))), undef, undef, undef, undef, .int .u8 q, x_25, .string (bs [q]), undef, undef, .string d, undef, undef, undef, undef, undef, undef, undef, undef, undef, undef], []⟩ → l = #[true, true, true, true, true, true, true, true, true, false, false, false, false, true, true, true, false, false, true, false, false] → Mem ⟨w, []⟩ [⟨g1, .cells (av 4 (ls [.bool (v0), .int .u64 h0, .int .u64 l0, .int .u16 f])) 40⟩, ⟨g2, .cells (av 4 (ls [.bool (v1), .int .u64 h1, .int .u64 l1, .int .u16 g])) 40⟩, ⟨g3, .cells (av 9 (ls [.bool false, .int .u64 0, .int .u64 0, .bool false, .int .u64 0, .int .u64 0, .int .u8 0, .int .u8 0, .string ⟨#[]⟩])) 26⟩] w0 → H 8 l a w0 := by
    intro a l  x_25 u0 ha hl M
    subst ha hl
    refine hB _ _ _ _ ?_
    refine hl_one 9 (by decide) (by kernel_rfl) rfl ?_
    refine pl_mk M (want_no rfl) (some 20) rfl (fun g5 => .slice (some ⟨g5, 0, none⟩) 8 8) (.cells (av 8 (ls [.int .u8 0, .int .u8 0, .int .u8 0, .int .u8 0, .int .u8 0, .int .u8 0, .int .u8 0, .int .u8 0])) 5) (fun _ => by kernel_rfl) ?_
    intro g5 u8 M
    replace M : Mem ⟨w, []⟩ [⟨g1, .cells (av 4 (ls [.bool (v0), .int .u64 h0, .int .u64 l0, .int .u16 f])) 40⟩, ⟨g2, .cells (av 4 (ls [.bool (v1), .int .u64 h1, .int .u64 l1, .int .u16 g])) 40⟩, ⟨g3, .cells (av 9 (ls [.bool false, .int .u64 0, .int .u64 0, .bool false, .int .u64 0, .int .u64 0, .int .u8 0, .int .u8 0, .string ⟨#[]⟩])) 26⟩, ⟨g5, .cells (av 8 (ls [.int .u8 0, .int .u8 0, .int .u8 0, .int .u8 0, .int .u8 0, .int .u8 0, .int .u8 0, .int .u8 0])) 5⟩] u8 := M
    refine pl_nil ?_
    refine au_then ?_
    refine ⟨(M.drop (.cons_cons _ (.cons_cons _ (.cons_cons _ (.cons _ (.slnil)))))), ?_⟩
    exact hA _ _ _ _ (s27 _ _ g5 (x_25) _ (by kernel_rfl) (by kernel_rfl) M)
  have s28 : ∀ (a : Act) (l : Array Bool) (x_20 x_25 : Value) (w0 : World), a = ⟨#[.agg (av 4 (ls [.bool (v0), .int .u64 h0, .int .u64 l0, .int .u16 f])), .agg (av 4 (ls [.bool (v1), .int .u64 h1, .int .u64 l1, .int .u16 g])), .int .u8 q, .string d, .pointer (some ⟨g1, 0, none⟩), .pointer (some ⟨g2, 0, none⟩), undef, undef, .pointer (some ⟨g3, 0, none⟩), .int .i64 0, undef, .pointer (some ⟨g1, 3, none⟩), .int .u16 f, .int .u64 (cv .u64 f), .string (be2 (cv .u64 f)), .pointer (some ⟨g2, 3, none⟩), .int .u16 g, .int .u64 (cv .u64 g), undef, undef, x_20, .string (bs [0, 0, 0, 0, 0, 0, 0, 0]), undef, undef, .int .u8 q, x_25, .string (bs [q]), undef, undef, .string d, undef, undef, undef, undef, undef, undef, undef, undef, undef, undef], []⟩ → l = #[true, true, true, true, true, true, true, false, false, true, true, false, false, true, true, true, false, false, true, false, false] → Mem ⟨w, []⟩ [⟨g1, .cells (av 4 (ls [.bool (v0), .int .u64 h0, .int .u64 l0, .int .u16 f])) 40⟩, ⟨g2, .cells (av 4 (ls [.bool (v1), .int .u64 h1, .int .u64 l1, .int .u16 g])) 40⟩, ⟨g3, .cells (av 9 (ls [.bool false, .int .u64 0, .int .u64 0, .bool false, .int .u64 0, .int .u64 0, .int .u8 0, .int .u8 0, .string ⟨#[]⟩])) 26⟩] w0 → H 8 l a w0 := by
    intro a l  x_20 x_25 u0 ha hl M
    subst ha hl
    refine hB _ _ _ _ ?_
    refine hl_one 7 (by decide) (by kernel_rfl) rfl ?_
    refine pl_call M (want_no rfl) (some 18) rfl 32 #[.int .u64 (cv .u64 g), .int .i64 2] (.string (be2 (cv .u64 g))) (fun _ => by kernel_rfl) (fun w M => c_num2 (cv .u64 g) w M.laid) ?_
    intro u8 M
    refine pl_nil ?_
    refine au_then ?_
    refine ⟨M, ?_⟩
    refine hl_val M 8 rfl (by decide) (by kernel_rfl) (by kernel_rfl) (want_no rfl) (some 19) rfl (.string ((be2 (cv .u64 f)) ++ (be2 (cv .u64 g)))) (fun w _ => (run_cat 9 9 _ _ rfl (be2 (cv .u64 f)) (be2 (cv .u64 g)) (by kernel_rfl) (by kernel_rfl) (by (try simp only [ByteArray.size_append, ByteArray.size_extract, be2_size, be4_size, be8_size, bs_size, sz_mk, List.size_toArray, List.length_cons, List.length_nil]); omega)) w) ?_
    refine hl_val M 11 rfl (by decide) (by kernel_rfl) (by kernel_rfl) (want_no rfl) (some 22) rfl (.string (((be2 (cv .u64 f)) ++ (be2 (cv .u64 g))) ++ (bs [0, 0, 0, 0, 0, 0, 0, 0]))) (fun w _ => (run_cat 9 9 _ _ rfl ((be2 (cv .u64 f)) ++ (be2 (cv .u64 g))) (bs [0, 0, 0, 0, 0, 0, 0, 0]) (by kernel_rfl) (by kernel_rfl) (by (try simp only [ByteArray.size_append, ByteArray.size_extract, be2_size, be4_size, be8_size, bs_size, sz_mk, List.size_toArray, List.length_cons, List.length_nil]); omega)) w) ?_
    refine hl_val M 12 rfl (by decide) (by kernel_rfl) (by kernel_rfl) (want_no rfl) (some 23) rfl (.string ((((be2 (cv .u64 f)) ++ (be2 (cv .u64 g))) ++ (bs [0, 0, 0, 0, 0, 0, 0, 0])) ++ (⟨#[80]⟩ : ByteArray))) (fun w _ => (run_cat 9 9 _ _ rfl (((be2 (cv .u64 f)) ++ (be2 (cv .u64 g))) ++ (bs [0, 0, 0, 0, 0, 0, 0, 0])) ⟨#[80]⟩ (by kernel_rfl) (by kernel_rfl) (by (try simp only [ByteArray.size_append, ByteArray.size_extract, be2_size, be4_size, be8_size, bs_size, sz_mk, List.size_toArray, List.length_cons, List.length_nil]); omega)) w) ?_
    refine hl_val M 16 rfl (by decide) (by kernel_rfl) (by kernel_rfl) (want_no rfl) (some 27) rfl (.string (((((be2 (cv .u64 f)) ++ (be2 (cv .u64 g))) ++ (bs [0, 0, 0, 0, 0, 0, 0, 0])) ++ (⟨#[80]⟩ : ByteArray)) ++ (bs [q]))) (fun w _ => (run_cat 9 9 _ _ rfl ((((be2 (cv .u64 f)) ++ (be2 (cv .u64 g))) ++ (bs [0, 0, 0, 0, 0, 0, 0, 0])) ++ (⟨#[80]⟩ : ByteArray)) (bs [q]) (by kernel_rfl) (by kernel_rfl) (by (try simp only [ByteArray.size_append, ByteArray.size_extract, be2_size, be4_size, be8_size, bs_size, sz_mk, List.size_toArray, List.length_cons, List.length_nil]); omega)) w) ?_
    refine hl_val M 17 rfl (by decide) (by kernel_rfl) (by kernel_rfl) (want_no rfl) (some 28) rfl (.string ((((((be2 (cv .u64 f)) ++ (be2 (cv .u64 g))) ++ (bs [0, 0, 0, 0, 0, 0, 0, 0])) ++ (⟨#[80]⟩ : ByteArray)) ++ (bs [q])) ++ (⟨#[255, 255, 0, 0, 0, 0]⟩ : ByteArray))) (fun w _ => (run_cat 9 9 _ _ rfl (((((be2 (cv .u64 f)) ++ (be2 (cv .u64 g))) ++ (bs [0, 0, 0, 0, 0, 0, 0, 0])) ++ (⟨#[80]⟩ : ByteArray)) ++ (bs [q])) ⟨#[255, 255, 0, 0, 0, 0]⟩ (by kernel_rfl) (by kernel_rfl) (by (try simp only [ByteArray.size_append, ByteArray.size_extract, be2_size, be4_size, be8_size, bs_size, sz_mk, List.size_toArray, List.length_cons, List.length_nil]); omega)) w) ?_
    refine hl_val M 19 rfl (by decide) (by kernel_rfl) (by kernel_rfl) (want_no rfl) (some 30) rfl (.string (((((((be2 (cv .u64 f)) ++ (be2 (cv .u64 g))) ++ (bs [0, 0, 0, 0, 0, 0, 0, 0])) ++ (⟨#[80]⟩ : ByteArray)) ++ (bs [q])) ++ (⟨#[255, 255, 0, 0, 0, 0]⟩ : ByteArray)) ++ d)) (fun w _ => (run_cat 9 9 _ _ rfl ((((((be2 (cv .u64 f)) ++ (be2 (cv .u64 g))) ++ (bs [0, 0, 0, 0, 0, 0, 0, 0])) ++ (⟨#[80]⟩ : ByteArray)) ++ (bs [q])) ++ (⟨#[255, 255, 0, 0, 0, 0]⟩ : ByteArray)) d (by kernel_rfl) (by kernel_rfl) (by (try simp only [ByteArray.size_append, ByteArray.size_extract, be2_size, be4_size, be8_size, bs_size, sz_mk, List.size_toArray, List.length_cons, List.length_nil]); omega)) w) ?_
    exact hA _ _ _ _ (s29 _ _ (x_20) (x_25) _ (by kernel_rfl) (by kernel_rfl) M)
  have s11 : ∀ (a : Act) (l : Array Bool) (g4 : Nat) (w0 : World), a = ⟨#[.agg (av 4 (ls [.bool (v0), .int .u64 h0, .int .u64 l0, .int .u16 f])), .agg (av 4 (ls [.bool (v1), .int .u64 h1, .int .u64 l1, .int .u16 g])), .int .u8 q, .string d, .pointer (some ⟨g1, 0, none⟩), .pointer (some ⟨g2, 0, none⟩), undef, undef, .pointer (some ⟨g3, 0, none⟩), .int .i64 0, undef, .pointer (some ⟨g1, 3, none⟩), .int .u16 f, .int .u64 (cv .u64 f), .string (be2 (cv .u64 f)), .pointer (some ⟨g2, 3, none⟩), .int .u16 g, .int .u64 (cv .u64 g), .string (be2 (cv .u64 g)), .string ((be2 (cv .u64 f)) ++ (be2 (cv .u64 g))), .slice (some ⟨g4, 0, none⟩) 8 8, undef, undef, undef, .int .u8 q, undef, undef, undef, undef, .string d, undef, undef, undef, undef, undef, undef, undef, undef, undef, undef], []⟩ → l = #[true, true, true, true, true, true, true, true, true, true, false, false, false, true, false, false, false, false, true, false, false] → Mem ⟨w, []⟩ [⟨g1, .cells (av 4 (ls [.bool (v0), .int .u64 h0, .int .u64 l0, .int .u16 f])) 40⟩, ⟨g2, .cells (av 4 (ls [.bool (v1), .int .u64 h1, .int .u64 l1, .int .u16 g])) 40⟩, ⟨g3, .cells (av 9 (ls [.bool false, .int .u64 0, .int .u64 0, .bool false, .int .u64 0, .int .u64 0, .int .u8 0, .int .u8 0, .string ⟨#[]⟩])) 26⟩, ⟨g4, .cells (av 8 (ls [.int .u8 0, .int .u8 0, .int .u8 0, .int .u8 0, .int .u8 0, .int .u8 0, .int .u8 0, .int .u8 0])) 5⟩] w0 → H 9 l a w0 := by
    intro a l g4  u0 ha hl M
    subst ha hl
    refine hB _ _ _ _ ?_
    refine hl_two 10 14 (by decide) (by decide) (by kernel_rfl) rfl rfl ?_ ?_
    · skip
      refine pl_back M (want_no rfl) (some 21) rfl _ rfl 3 g4 8 8 (by kernel_rfl) _ rfl [0, 0, 0, 0, 0, 0, 0, 0] 8 (sb_ls [0, 0, 0, 0, 0, 0, 0, 0] _) rfl (by intro x hx; simp only [List.mem_cons, List.mem_nil_iff, or_false] at hx; rcases hx with rfl | rfl | rfl | rfl | rfl | rfl | rfl | rfl <;> omega) ?_
      refine pl_nil ?_
      refine au_then ?_
      refine ⟨(M.drop (.cons_cons _ (.cons_cons _ (.cons_cons _ (.cons _ (.slnil)))))), ?_⟩
      refine hl_val (M.drop (.cons_cons _ (.cons_cons _ (.cons_cons _ (.cons _ (.slnil)))))) 11 rfl (by decide) (by kernel_rfl) (by kernel_rfl) (want_no rfl) (some 22) rfl (.string (((be2 (cv .u64 f)) ++ (be2 (cv .u64 g))) ++ (bs [0, 0, 0, 0, 0, 0, 0, 0]))) (fun w _ => (run_cat 9 9 _ _ rfl ((be2 (cv .u64 f)) ++ (be2 (cv .u64 g))) (bs [0, 0, 0, 0, 0, 0, 0, 0]) (by kernel_rfl) (by kernel_rfl) (by (try simp only [ByteArray.size_append, ByteArray.size_extract, be2_size, be4_size, be8_size, bs_size, sz_mk, List.size_toArray, List.length_cons, List.length_nil]); omega)) w) ?_
      refine hl_val (M.drop (.cons_cons _ (.cons_cons _ (.cons_cons _ (.cons _ (.slnil)))))) 12 rfl (by decide) (by kernel_rfl) (by kernel_rfl) (want_no rfl) (some 23) rfl (.string ((((be2 (cv .u64 f)) ++ (be2 (cv .u64 g))) ++ (bs [0, 0, 0, 0, 0, 0, 0, 0])) ++ (⟨#[80]⟩ : ByteArray))) (fun w _ => (run_cat 9 9 _ _ rfl (((be2 (cv .u64 f)) ++ (be2 (cv .u64 g))) ++ (bs [0, 0, 0, 0, 0, 0, 0, 0])) ⟨#[80]⟩ (by kernel_rfl) (by kernel_rfl) (by (try simp only [ByteArray.size_append, ByteArray.size_extract, be2_size, be4_size, be8_size, bs_size, sz_mk, List.size_toArray, List.length_cons, List.length_nil]); omega)) w) ?_
      exact hA _ _ _ _ (s19 _ _ (.slice (some ⟨g4, 0, none⟩) 8 8) _ (by kernel_rfl) (by kernel_rfl) (M.drop (.cons_cons _ (.cons_cons _ (.cons_cons _ (.cons _ (.slnil)))))))
    · skip
      refine pl_mk M (want_no rfl) (some 25) rfl (fun g5 => .slice (some ⟨g5, 0, none⟩) 1 1) (.cells (av 1 (ls [.int .u8 q])) 5) (fun _ => by kernel_rfl) ?_
      intro g5 u8 M
      replace M : Mem ⟨w, []⟩ [⟨g1, .cells (av 4 (ls [.bool (v0), .int .u64 h0, .int .u64 l0, .int .u16 f])) 40⟩, ⟨g2, .cells (av 4 (ls [.bool (v1), .int .u64 h1, .int .u64 l1, .int .u16 g])) 40⟩, ⟨g3, .cells (av 9 (ls [.bool false, .int .u64 0, .int .u64 0, .bool false, .int .u64 0, .int .u64 0, .int .u8 0, .int .u8 0, .string ⟨#[]⟩])) 26⟩, ⟨g4, .cells (av 8 (ls [.int .u8 0, .int .u8 0, .int .u8 0, .int .u8 0, .int .u8 0, .int .u8 0, .int .u8 0, .int .u8 0])) 5⟩, ⟨g5, .cells (av 1 (ls [.int .u8 q])) 5⟩] u8 := M
      refine pl_nil ?_
      refine au_then ?_
      refine ⟨(M.drop (.cons_cons _ (.cons_cons _ (.cons_cons _ (.cons _ (.cons _ (.slnil))))))), ?_⟩
      exact hA _ _ _ _ (s20 _ _ g4 g5 _ (by kernel_rfl) (by kernel_rfl) M)
  have s12 : ∀ (a : Act) (l : Array Bool) (g4 : Nat) (w0 : World), a = ⟨#[.agg (av 4 (ls [.bool (v0), .int .u64 h0, .int .u64 l0, .int .u16 f])), .agg (av 4 (ls [.bool (v1), .int .u64 h1, .int .u64 l1, .int .u16 g])), .int .u8 q, .string d, .pointer (some ⟨g1, 0, none⟩), .pointer (some ⟨g2, 0, none⟩), undef, undef, .pointer (some ⟨g3, 0, none⟩), .int .i64 0, undef, .pointer (some ⟨g1, 3, none⟩), .int .u16 f, .int .u64 (cv .u64 f), .string (be2 (cv .u64 f)), .pointer (some ⟨g2, 3, none⟩), .int .u16 g, .int .u64 (cv .u64 g), .string (be2 (cv .u64 g)), .string ((be2 (cv .u64 f)) ++ (be2 (cv .u64 g))), undef, undef, undef, undef, .int .u8 q, .slice (some ⟨g4, 0, none⟩) 1 1, undef, undef, undef, .string d, undef, undef, undef, undef, undef, undef, undef, undef, undef, undef], []⟩ → l = #[true, true, true, true, true, true, true, true, true, false, false, false, false, true, true, false, false, false, true, false, false] → Mem ⟨w, []⟩ [⟨g1, .cells (av 4 (ls [.bool (v0), .int .u64 h0, .int .u64 l0, .int .u16 f])) 40⟩, ⟨g2, .cells (av 4 (ls [.bool (v1), .int .u64 h1, .int .u64 l1, .int .u16 g])) 40⟩, ⟨g3, .cells (av 9 (ls [.bool false, .int .u64 0, .int .u64 0, .bool false, .int .u64 0, .int .u64 0, .int .u8 0, .int .u8 0, .string ⟨#[]⟩])) 26⟩, ⟨g4, .cells (av 1 (ls [.int .u8 q])) 5⟩] w0 → H 9 l a w0 := by
    intro a l g4  u0 ha hl M
    subst ha hl
    refine hB _ _ _ _ ?_
    refine hl_two 9 15 (by decide) (by decide) (by kernel_rfl) rfl rfl ?_ ?_
    · skip
      refine pl_mk M (want_no rfl) (some 20) rfl (fun g5 => .slice (some ⟨g5, 0, none⟩) 8 8) (.cells (av 8 (ls [.int .u8 0, .int .u8 0, .int .u8 0, .int .u8 0, .int .u8 0, .int .u8 0, .int .u8 0, .int .u8 0])) 5) (fun _ => by kernel_rfl) ?_
      intro g5 u8 M
      replace M : Mem ⟨w, []⟩ [⟨g1, .cells (av 4 (ls [.bool (v0), .int .u64 h0, .int .u64 l0, .int .u16 f])) 40⟩, ⟨g2, .cells (av 4 (ls [.bool (v1), .int .u64 h1, .int .u64 l1, .int .u16 g])) 40⟩, ⟨g3, .cells (av 9 (ls [.bool false, .int .u64 0, .int .u64 0, .bool false, .int .u64 0, .int .u64 0, .int .u8 0, .int .u8 0, .string ⟨#[]⟩])) 26⟩, ⟨g4, .cells (av 1 (ls [.int .u8 q])) 5⟩, ⟨g5, .cells (av 8 (ls [.int .u8 0, .int .u8 0, .int .u8 0, .int .u8 0, .int .u8 0, .int .u8 0, .int .u8 0, .int .u8 0])) 5⟩] u8 := M
      refine pl_nil ?_
      refine au_then ?_
      refine ⟨(M.drop (.cons_cons _ (.cons_cons _ (.cons_cons _ (.cons _ (.cons _ (.slnil))))))), ?_⟩
      exact hA _ _ _ _ (s21 _ _ g4 g5 _ (by kernel_rfl) (by kernel_rfl) M)
    · skip
      refine pl_back M (want_no rfl) (some 26) rfl _ rfl 3 g4 1 1 (by kernel_rfl) _ rfl [q] 1 (sb_ls [q] _) rfl (by intro x hx; simp only [List.mem_cons, List.mem_nil_iff, or_false] at hx; subst hx; omega) ?_
      refine pl_nil ?_
      refine au_then ?_
      refine ⟨(M.drop (.cons_cons _ (.cons_cons _ (.cons_cons _ (.cons _ (.slnil)))))), ?_⟩
      exact hA _ _ _ _ (s22 _ _ (.slice (some ⟨g4, 0, none⟩) 1 1) _ (by kernel_rfl) (by kernel_rfl) (M.drop (.cons_cons _ (.cons_cons _ (.cons_cons _ (.cons _ (.slnil)))))))
  have s23 : ∀ (a : Act) (l : Array Bool) (g5 : Nat) (x_20 : Value) (w0 : World), a = ⟨#[.agg (av 4 (ls [.bool (v0), .int .u64 h0, .int .u64 l0, .int .u16 f])), .agg (av 4 (ls [.bool (v1), .int .u64 h1, .int .u64 l1, .int .u16 g])), .int .u8 q, .string d, .pointer (some ⟨g1, 0, none⟩), .pointer (some ⟨g2, 0, none⟩), undef, undef, .pointer (some ⟨g3, 0, none⟩), .int .i64 0, undef, .pointer (some ⟨g1, 3, none⟩), .int .u16 f, .int .u64 (cv .u64 f), .string (be2 (cv .u64 f)), .pointer (some ⟨g2, 3, none⟩), .int .u16 g, .int .u64 (cv .u64 g), undef, undef, x_20, .string (bs [0, 0, 0, 0, 0, 0, 0, 0]), undef, undef, .int .u8 q, .slice (some ⟨g5, 0, none⟩) 1 1, undef, undef, undef, .string d, undef, undef, undef, undef, undef, undef, undef, undef, undef, undef], []⟩ → l = #[true, true, true, true, true, true, true, false, false, true, true, false, false, true, true, false, false, false, true, false, false] → Mem ⟨w, []⟩ [⟨g1, .cells (av 4 (ls [.bool (v0), .int .u64 h0, .int .u64 l0, .int .u16 f])) 40⟩, ⟨g2, .cells (av 4 (ls [.bool (v1), .int .u64 h1, .int .u64 l1, .int .u16 g])) 40⟩, ⟨g3, .cells (av 9 (ls [.bool false, .int .u64 0, .int .u64 0, .bool false, .int .u64 0, .int .u64 0, .int .u8 0, .int .u8 0, .string ⟨#[]⟩])) 26⟩, ⟨g5, .cells (av 1 (ls [.int .u8 q])) 5⟩] w0 → H 9 l a w0 := by
    intro a l g5 x_20 u0 ha hl M
    subst ha hl
    refine hB _ _ _ _ ?_
    refine hl_two 7 15 (by decide) (by decide) (by kernel_rfl) rfl rfl ?_ ?_
    · skip
      refine pl_call M (want_no rfl) (some 18) rfl 32 #[.int .u64 (cv .u64 g), .int .i64 2] (.string (be2 (cv .u64 g))) (fun _ => by kernel_rfl) (fun w M => c_num2 (cv .u64 g) w M.laid) ?_
      intro u8 M
      refine pl_nil ?_
      refine au_then ?_
      refine ⟨(M.drop (.cons_cons _ (.cons_cons _ (.cons_cons _ (.cons _ (.slnil)))))), ?_⟩
      refine hl_val (M.drop (.cons_cons _ (.cons_cons _ (.cons_cons _ (.cons _ (.slnil)))))) 8 rfl (by decide) (by kernel_rfl) (by kernel_rfl) (want_no rfl) (some 19) rfl (.string ((be2 (cv .u64 f)) ++ (be2 (cv .u64 g)))) (fun w _ => (run_cat 9 9 _ _ rfl (be2 (cv .u64 f)) (be2 (cv .u64 g)) (by kernel_rfl) (by kernel_rfl) (by (try simp only [ByteArray.size_append, ByteArray.size_extract, be2_size, be4_size, be8_size, bs_size, sz_mk, List.size_toArray, List.length_cons, List.length_nil]); omega)) w) ?_
      refine hl_val (M.drop (.cons_cons _ (.cons_cons _ (.cons_cons _ (.cons _ (.slnil)))))) 11 rfl (by decide) (by kernel_rfl) (by kernel_rfl) (want_no rfl) (some 22) rfl (.string (((be2 (cv .u64 f)) ++ (be2 (cv .u64 g))) ++ (bs [0, 0, 0, 0, 0, 0, 0, 0]))) (fun w _ => (run_cat 9 9 _ _ rfl ((be2 (cv .u64 f)) ++ (be2 (cv .u64 g))) (bs [0, 0, 0, 0, 0, 0, 0, 0]) (by kernel_rfl) (by kernel_rfl) (by (try simp only [ByteArray.size_append, ByteArray.size_extract, be2_size, be4_size, be8_size, bs_size, sz_mk, List.size_toArray, List.length_cons, List.length_nil]); omega)) w) ?_
      refine hl_val (M.drop (.cons_cons _ (.cons_cons _ (.cons_cons _ (.cons _ (.slnil)))))) 12 rfl (by decide) (by kernel_rfl) (by kernel_rfl) (want_no rfl) (some 23) rfl (.string ((((be2 (cv .u64 f)) ++ (be2 (cv .u64 g))) ++ (bs [0, 0, 0, 0, 0, 0, 0, 0])) ++ (⟨#[80]⟩ : ByteArray))) (fun w _ => (run_cat 9 9 _ _ rfl (((be2 (cv .u64 f)) ++ (be2 (cv .u64 g))) ++ (bs [0, 0, 0, 0, 0, 0, 0, 0])) ⟨#[80]⟩ (by kernel_rfl) (by kernel_rfl) (by (try simp only [ByteArray.size_append, ByteArray.size_extract, be2_size, be4_size, be8_size, bs_size, sz_mk, List.size_toArray, List.length_cons, List.length_nil]); omega)) w) ?_
      exact hA _ _ _ _ (s26 _ _ g5 (x_20) _ (by kernel_rfl) (by kernel_rfl) M)
    · skip
      refine pl_back M (want_no rfl) (some 26) rfl _ rfl 3 g5 1 1 (by kernel_rfl) _ rfl [q] 1 (sb_ls [q] _) rfl (by intro x hx; simp only [List.mem_cons, List.mem_nil_iff, or_false] at hx; subst hx; omega) ?_
      refine pl_nil ?_
      refine au_then ?_
      refine ⟨(M.drop (.cons_cons _ (.cons_cons _ (.cons_cons _ (.cons _ (.slnil)))))), ?_⟩
      exact hA _ _ _ _ (s28 _ _ (x_20) (.slice (some ⟨g5, 0, none⟩) 1 1) _ (by kernel_rfl) (by kernel_rfl) (M.drop (.cons_cons _ (.cons_cons _ (.cons_cons _ (.cons _ (.slnil)))))))
  have s24 : ∀ (a : Act) (l : Array Bool) (g4 : Nat) (x_25 : Value) (w0 : World), a = ⟨#[.agg (av 4 (ls [.bool (v0), .int .u64 h0, .int .u64 l0, .int .u16 f])), .agg (av 4 (ls [.bool (v1), .int .u64 h1, .int .u64 l1, .int .u16 g])), .int .u8 q, .string d, .pointer (some ⟨g1, 0, none⟩), .pointer (some ⟨g2, 0, none⟩), undef, undef, .pointer (some ⟨g3, 0, none⟩), .int .i64 0, undef, .pointer (some ⟨g1, 3, none⟩), .int .u16 f, .int .u64 (cv .u64 f), .string (be2 (cv .u64 f)), .pointer (some ⟨g2, 3, none⟩), .int .u16 g, .int .u64 (cv .u64 g), undef, undef, .slice (some ⟨g4, 0, none⟩) 8 8, undef, undef, undef, .int .u8 q, x_25, .string (bs [q]), undef, undef, .string d, undef, undef, undef, undef, undef, undef, undef, undef, undef, undef], []⟩ → l = #[true, true, true, true, true, true, true, false, false, true, false, false, false, true, true, true, false, false, true, false, false] → Mem ⟨w, []⟩ [⟨g1, .cells (av 4 (ls [.bool (v0), .int .u64 h0, .int .u64 l0, .int .u16 f])) 40⟩, ⟨g2, .cells (av 4 (ls [.bool (v1), .int .u64 h1, .int .u64 l1, .int .u16 g])) 40⟩, ⟨g3, .cells (av 9 (ls [.bool false, .int .u64 0, .int .u64 0, .bool false, .int .u64 0, .int .u64 0, .int .u8 0, .int .u8 0, .string ⟨#[]⟩])) 26⟩, ⟨g4, .cells (av 8 (ls [.int .u8 0, .int .u8 0, .int .u8 0, .int .u8 0, .int .u8 0, .int .u8 0, .int .u8 0, .int .u8 0])) 5⟩] w0 → H 9 l a w0 := by
    intro a l g4 x_25 u0 ha hl M
    subst ha hl
    refine hB _ _ _ _ ?_
    refine hl_two 7 10 (by decide) (by decide) (by kernel_rfl) rfl rfl ?_ ?_
    · skip
      refine pl_call M (want_no rfl) (some 18) rfl 32 #[.int .u64 (cv .u64 g), .int .i64 2] (.string (be2 (cv .u64 g))) (fun _ => by kernel_rfl) (fun w M => c_num2 (cv .u64 g) w M.laid) ?_
      intro u8 M
      refine pl_nil ?_
      refine au_then ?_
      refine ⟨(M.drop (.cons_cons _ (.cons_cons _ (.cons_cons _ (.cons _ (.slnil)))))), ?_⟩
      refine hl_val (M.drop (.cons_cons _ (.cons_cons _ (.cons_cons _ (.cons _ (.slnil)))))) 8 rfl (by decide) (by kernel_rfl) (by kernel_rfl) (want_no rfl) (some 19) rfl (.string ((be2 (cv .u64 f)) ++ (be2 (cv .u64 g)))) (fun w _ => (run_cat 9 9 _ _ rfl (be2 (cv .u64 f)) (be2 (cv .u64 g)) (by kernel_rfl) (by kernel_rfl) (by (try simp only [ByteArray.size_append, ByteArray.size_extract, be2_size, be4_size, be8_size, bs_size, sz_mk, List.size_toArray, List.length_cons, List.length_nil]); omega)) w) ?_
      exact hA _ _ _ _ (s27 _ _ g4 (x_25) _ (by kernel_rfl) (by kernel_rfl) M)
    · skip
      refine pl_back M (want_no rfl) (some 21) rfl _ rfl 3 g4 8 8 (by kernel_rfl) _ rfl [0, 0, 0, 0, 0, 0, 0, 0] 8 (sb_ls [0, 0, 0, 0, 0, 0, 0, 0] _) rfl (by intro x hx; simp only [List.mem_cons, List.mem_nil_iff, or_false] at hx; rcases hx with rfl | rfl | rfl | rfl | rfl | rfl | rfl | rfl <;> omega) ?_
      refine pl_nil ?_
      refine au_then ?_
      refine ⟨(M.drop (.cons_cons _ (.cons_cons _ (.cons_cons _ (.cons _ (.slnil)))))), ?_⟩
      exact hA _ _ _ _ (s28 _ _ (.slice (some ⟨g4, 0, none⟩) 8 8) (x_25) _ (by kernel_rfl) (by kernel_rfl) (M.drop (.cons_cons _ (.cons_cons _ (.cons_cons _ (.cons _ (.slnil)))))))
  have s25 : ∀ (a : Act) (l : Array Bool) (x_20 x_25 : Value) (w0 : World), a = ⟨#[.agg (av 4 (ls [.bool (v0), .int .u64 h0, .int .u64 l0, .int .u16 f])), .agg (av 4 (ls [.bool (v1), .int .u64 h1, .int .u64 l1, .int .u16 g])), .int .u8 q, .string d, .pointer (some ⟨g1, 0, none⟩), .pointer (some ⟨g2, 0, none⟩), undef, undef, .pointer (some ⟨g3, 0, none⟩), .int .i64 0, undef, .pointer (some ⟨g1, 3, none⟩), .int .u16 f, .int .u64 (cv .u64 f), undef, .pointer (some ⟨g2, 3, none⟩), .int .u16 g, .int .u64 (cv .u64 g), undef, undef, x_20, .string (bs [0, 0, 0, 0, 0, 0, 0, 0]), undef, undef, .int .u8 q, x_25, .string (bs [q]), undef, undef, .string d, undef, undef, undef, undef, undef, undef, undef, undef, undef, undef], []⟩ → l = #[true, true, true, false, true, true, true, false, false, true, true, false, false, true, true, true, false, false, true, false, false] → Mem ⟨w, []⟩ [⟨g1, .cells (av 4 (ls [.bool (v0), .int .u64 h0, .int .u64 l0, .int .u16 f])) 40⟩, ⟨g2, .cells (av 4 (ls [.bool (v1), .int .u64 h1, .int .u64 l1, .int .u16 g])) 40⟩, ⟨g3, .cells (av 9 (ls [.bool false, .int .u64 0, .int .u64 0, .bool false, .int .u64 0, .int .u64 0, .int .u8 0, .int .u8 0, .string ⟨#[]⟩])) 26⟩] w0 → H 9 l a w0 := by
    intro a l  x_20 x_25 u0 ha hl M
    subst ha hl
    refine hB _ _ _ _ ?_
    refine hl_one 3 (by decide) (by kernel_rfl) rfl ?_
    refine pl_call M (want_no rfl) (some 14) rfl 32 #[.int .u64 (cv .u64 f), .int .i64 2] (.string (be2 (cv .u64 f))) (fun _ => by kernel_rfl) (fun w M => c_num2 (cv .u64 f) w M.laid) ?_
    intro u7 M
    refine pl_nil ?_
    refine au_then ?_
    refine ⟨M, ?_⟩
    exact hA _ _ _ _ (s28 _ _ (x_20) (x_25) _ (by kernel_rfl) (by kernel_rfl) M)
  have s4 : ∀ (a : Act) (l : Array Bool) (w0 : World), a = ⟨#[.agg (av 4 (ls [.bool (v0), .int .u64 h0, .int .u64 l0, .int .u16 f])), .agg (av 4 (ls [.bool (v1), .int .u64 h1, .int .u64 l1, .int .u16 g])), .int .u8 q, .string d, .pointer (some ⟨g1, 0, none⟩), .pointer (some ⟨g2, 0, none⟩), undef, undef, .pointer (some ⟨g3, 0, none⟩), .int .i64 0, undef, .pointer (some ⟨g1, 3, none⟩), .int .u16 f, .int .u64 (cv .u64 f), .string (be2 (cv .u64 f)), .pointer (some ⟨g2, 3, none⟩), .int .u16 g, .int .u64 (cv .u64 g), .string (be2 (cv .u64 g)), .string ((be2 (cv .u64 f)) ++ (be2 (cv .u64 g))), undef, undef, undef, undef, .int .u8 q, undef, undef, undef, undef, .string d, undef, undef, undef, undef, undef, undef, undef, undef, undef, undef], []⟩ → l = #[true, true, true, true, true, true, true, true, true, false, false, false, false, true, false, false, false, false, true, false, false] → Mem ⟨w, []⟩ [⟨g1, .cells (av 4 (ls [.bool (v0), .int .u64 h0, .int .u64 l0, .int .u16 f])) 40⟩, ⟨g2, .cells (av 4 (ls [.bool (v1), .int .u64 h1, .int .u64 l1, .int .u16 g])) 40⟩, ⟨g3, .cells (av 9 (ls [.bool false, .int .u64 0, .int .u64 0, .bool false, .int .u64 0, .int .u64 0, .int .u8 0, .int .u8 0, .string ⟨#[]⟩])) 26⟩] w0 → H 10 l a w0 := by
    intro a l   u0 ha hl M
    subst ha hl
    refine hB _ _ _ _ ?_
    refine hl_two 9 14 (by decide) (by decide) (by kernel_rfl) rfl rfl ?_ ?_
    · skip
      refine pl_mk M (want_no rfl) (some 20) rfl (fun g4 => .slice (some ⟨g4, 0, none⟩) 8 8) (.cells (av 8 (ls [.int .u8 0, .int .u8 0, .int .u8 0, .int .u8 0, .int .u8 0, .int .u8 0, .int .u8 0, .int .u8 0])) 5) (fun _ => by kernel_rfl) ?_
      intro g4 u7 M
      replace M : Mem ⟨w, []⟩ [⟨g1, .cells (av 4 (ls [.bool (v0), .int .u64 h0, .int .u64 l0, .int .u16 f])) 40⟩, ⟨g2, .cells (av 4 (ls [.bool (v1), .int .u64 h1, .int .u64 l1, .int .u16 g])) 40⟩, ⟨g3, .cells (av 9 (ls [.bool false, .int .u64 0, .int .u64 0, .bool false, .int .u64 0, .int .u64 0, .int .u8 0, .int .u8 0, .string ⟨#[]⟩])) 26⟩, ⟨g4, .cells (av 8 (ls [.int .u8 0, .int .u8 0, .int .u8 0, .int .u8 0, .int .u8 0, .int .u8 0, .int .u8 0, .int .u8 0])) 5⟩] u7 := M
      refine pl_nil ?_
      refine au_then ?_
      refine ⟨(M.drop (.cons_cons _ (.cons_cons _ (.cons_cons _ (.cons _ (.slnil)))))), ?_⟩
      exact hA _ _ _ _ (s11 _ _ g4 _ (by kernel_rfl) (by kernel_rfl) M)
    · skip
      refine pl_mk M (want_no rfl) (some 25) rfl (fun g4 => .slice (some ⟨g4, 0, none⟩) 1 1) (.cells (av 1 (ls [.int .u8 q])) 5) (fun _ => by kernel_rfl) ?_
      intro g4 u7 M
      replace M : Mem ⟨w, []⟩ [⟨g1, .cells (av 4 (ls [.bool (v0), .int .u64 h0, .int .u64 l0, .int .u16 f])) 40⟩, ⟨g2, .cells (av 4 (ls [.bool (v1), .int .u64 h1, .int .u64 l1, .int .u16 g])) 40⟩, ⟨g3, .cells (av 9 (ls [.bool false, .int .u64 0, .int .u64 0, .bool false, .int .u64 0, .int .u64 0, .int .u8 0, .int .u8 0, .string ⟨#[]⟩])) 26⟩, ⟨g4, .cells (av 1 (ls [.int .u8 q])) 5⟩] u7 := M
      refine pl_nil ?_
      refine au_then ?_
      refine ⟨(M.drop (.cons_cons _ (.cons_cons _ (.cons_cons _ (.cons _ (.slnil)))))), ?_⟩
      exact hA _ _ _ _ (s12 _ _ g4 _ (by kernel_rfl) (by kernel_rfl) M)
  have s13 : ∀ (a : Act) (l : Array Bool) (x_20 : Value) (w0 : World), a = ⟨#[.agg (av 4 (ls [.bool (v0), .int .u64 h0, .int .u64 l0, .int .u16 f])), .agg (av 4 (ls [.bool (v1), .int .u64 h1, .int .u64 l1, .int .u16 g])), .int .u8 q, .string d, .pointer (some ⟨g1, 0, none⟩), .pointer (some ⟨g2, 0, none⟩), undef, undef, .pointer (some ⟨g3, 0, none⟩), .int .i64 0, undef, .pointer (some ⟨g1, 3, none⟩), .int .u16 f, .int .u64 (cv .u64 f), .string (be2 (cv .u64 f)), .pointer (some ⟨g2, 3, none⟩), .int .u16 g, .int .u64 (cv .u64 g), undef, undef, x_20, .string (bs [0, 0, 0, 0, 0, 0, 0, 0]), undef, undef, .int .u8 q, undef, undef, undef, undef, .string d, undef, undef, undef, undef, undef, undef, undef, undef, undef, undef], []⟩ → l = #[true, true, true, true, true, true, true, false, false, true, true, false, false, true, false, false, false, false, true, false, false] → Mem ⟨w, []⟩ [⟨g1, .cells (av 4 (ls [.bool (v0), .int .u64 h0, .int .u64 l0, .int .u16 f])) 40⟩, ⟨g2, .cells (av 4 (ls [.bool (v1), .int .u64 h1, .int .u64 l1, .int .u16 g])) 40⟩, ⟨g3, .cells (av 9 (ls [.bool false, .int .u64 0, .int .u64 0, .bool false, .int .u64 0, .int .u64 0, .int .u8 0, .int .u8 0, .string ⟨#[]⟩])) 26⟩] w0 → H 10 l a w0 := by
    intro a l  x_20 u0 ha hl M
    subst ha hl
    refine hB _ _ _ _ ?_
    refine hl_two 7 14 (by decide) (by decide) (by kernel_rfl) rfl rfl ?_ ?_
    · skip
      refine pl_call M (want_no rfl) (some 18) rfl 32 #[.int .u64 (cv .u64 g), .int .i64 2] (.string (be2 (cv .u64 g))) (fun _ => by kernel_rfl) (fun w M => c_num2 (cv .u64 g) w M.laid) ?_
      intro u7 M
      refine pl_nil ?_
      refine au_then ?_
      refine ⟨M, ?_⟩
      refine hl_val M 8 rfl (by decide) (by kernel_rfl) (by kernel_rfl) (want_no rfl) (some 19) rfl (.string ((be2 (cv .u64 f)) ++ (be2 (cv .u64 g)))) (fun w _ => (run_cat 9 9 _ _ rfl (be2 (cv .u64 f)) (be2 (cv .u64 g)) (by kernel_rfl) (by kernel_rfl) (by (try simp only [ByteArray.size_append, ByteArray.size_extract, be2_size, be4_size, be8_size, bs_size, sz_mk, List.size_toArray, List.length_cons, List.length_nil]); omega)) w) ?_
      refine hl_val M 11 rfl (by decide) (by kernel_rfl) (by kernel_rfl) (want_no rfl) (some 22) rfl (.string (((be2 (cv .u64 f)) ++ (be2 (cv .u64 g))) ++ (bs [0, 0, 0, 0, 0, 0, 0, 0]))) (fun w _ => (run_cat 9 9 _ _ rfl ((be2 (cv .u64 f)) ++ (be2 (cv .u64 g))) (bs [0, 0, 0, 0, 0, 0, 0, 0]) (by kernel_rfl) (by kernel_rfl) (by (try simp only [ByteArray.size_append, ByteArray.size_extract, be2_size, be4_size, be8_size, bs_size, sz_mk, List.size_toArray, List.length_cons, List.length_nil]); omega)) w) ?_
      refine hl_val M 12 rfl (by decide) (by kernel_rfl) (by kernel_rfl) (want_no rfl) (some 23) rfl (.string ((((be2 (cv .u64 f)) ++ (be2 (cv .u64 g))) ++ (bs [0, 0, 0, 0, 0, 0, 0, 0])) ++ (⟨#[80]⟩ : ByteArray))) (fun w _ => (run_cat 9 9 _ _ rfl (((be2 (cv .u64 f)) ++ (be2 (cv .u64 g))) ++ (bs [0, 0, 0, 0, 0, 0, 0, 0])) ⟨#[80]⟩ (by kernel_rfl) (by kernel_rfl) (by (try simp only [ByteArray.size_append, ByteArray.size_extract, be2_size, be4_size, be8_size, bs_size, sz_mk, List.size_toArray, List.length_cons, List.length_nil]); omega)) w) ?_
      exact hA _ _ _ _ (s19 _ _ (x_20) _ (by kernel_rfl) (by kernel_rfl) M)
    · skip
      refine pl_mk M (want_no rfl) (some 25) rfl (fun g5 => .slice (some ⟨g5, 0, none⟩) 1 1) (.cells (av 1 (ls [.int .u8 q])) 5) (fun _ => by kernel_rfl) ?_
      intro g5 u7 M
      replace M : Mem ⟨w, []⟩ [⟨g1, .cells (av 4 (ls [.bool (v0), .int .u64 h0, .int .u64 l0, .int .u16 f])) 40⟩, ⟨g2, .cells (av 4 (ls [.bool (v1), .int .u64 h1, .int .u64 l1, .int .u16 g])) 40⟩, ⟨g3, .cells (av 9 (ls [.bool false, .int .u64 0, .int .u64 0, .bool false, .int .u64 0, .int .u64 0, .int .u8 0, .int .u8 0, .string ⟨#[]⟩])) 26⟩, ⟨g5, .cells (av 1 (ls [.int .u8 q])) 5⟩] u7 := M
      refine pl_nil ?_
      refine au_then ?_
      refine ⟨(M.drop (.cons_cons _ (.cons_cons _ (.cons_cons _ (.cons _ (.slnil)))))), ?_⟩
      exact hA _ _ _ _ (s23 _ _ g5 (x_20) _ (by kernel_rfl) (by kernel_rfl) M)
  have s14 : ∀ (a : Act) (l : Array Bool) (g4 g5 : Nat) (w0 : World), a = ⟨#[.agg (av 4 (ls [.bool (v0), .int .u64 h0, .int .u64 l0, .int .u16 f])), .agg (av 4 (ls [.bool (v1), .int .u64 h1, .int .u64 l1, .int .u16 g])), .int .u8 q, .string d, .pointer (some ⟨g1, 0, none⟩), .pointer (some ⟨g2, 0, none⟩), undef, undef, .pointer (some ⟨g3, 0, none⟩), .int .i64 0, undef, .pointer (some ⟨g1, 3, none⟩), .int .u16 f, .int .u64 (cv .u64 f), .string (be2 (cv .u64 f)), .pointer (some ⟨g2, 3, none⟩), .int .u16 g, .int .u64 (cv .u64 g), undef, undef, .slice (some ⟨g4, 0, none⟩) 8 8, undef, undef, undef, .int .u8 q, .slice (some ⟨g5, 0, none⟩) 1 1, undef, undef, undef, .string d, undef, undef, undef, undef, undef, undef, undef, undef, undef, undef], []⟩ → l = #[true, true, true, true, true, true, true, false, false, true, false, false, false, true, true, false, false, false, true, false, false] → Mem ⟨w, []⟩ [⟨g1, .cells (av 4 (ls [.bool (v0), .int .u64 h0, .int .u64 l0, .int .u16 f])) 40⟩, ⟨g2, .cells (av 4 (ls [.bool (v1), .int .u64 h1, .int .u64 l1, .int .u16 g])) 40⟩, ⟨g3, .cells (av 9 (ls [.bool false, .int .u64 0, .int .u64 0, .bool false, .int .u64 0, .int .u64 0, .int .u8 0, .int .u8 0, .string ⟨#[]⟩])) 26⟩, ⟨g4, .cells (av 8 (ls [.int .u8 0, .int .u8 0, .int .u8 0, .int .u8 0, .int .u8 0, .int .u8 0, .int .u8 0, .int .u8 0])) 5⟩, ⟨g5, .cells (av 1 (ls [.int .u8 q])) 5⟩] w0 → H 10 l a w0 := by
    intro a l g4 g5  u0 ha hl M
    subst ha hl
    refine hB _ _ _ _ ?_
    refine hl_three 7 10 15 (by decide) (by decide) (by decide) (by kernel_rfl) rfl rfl rfl ?_ ?_ ?_
    · skip
      refine pl_call M (want_no rfl) (some 18) rfl 32 #[.int .u64 (cv .u64 g), .int .i64 2] (.string (be2 (cv .u64 g))) (fun _ => by kernel_rfl) (fun w M => c_num2 (cv .u64 g) w M.laid) ?_
      intro u8 M
      refine pl_nil ?_
      refine au_then ?_
      refine ⟨(M.drop (.cons_cons _ (.cons_cons _ (.cons_cons _ (.cons _ (.cons _ (.slnil))))))), ?_⟩
      refine hl_val (M.drop (.cons_cons _ (.cons_cons _ (.cons_cons _ (.cons _ (.cons _ (.slnil))))))) 8 rfl (by decide) (by kernel_rfl) (by kernel_rfl) (want_no rfl) (some 19) rfl (.string ((be2 (cv .u64 f)) ++ (be2 (cv .u64 g)))) (fun w _ => (run_cat 9 9 _ _ rfl (be2 (cv .u64 f)) (be2 (cv .u64 g)) (by kernel_rfl) (by kernel_rfl) (by (try simp only [ByteArray.size_append, ByteArray.size_extract, be2_size, be4_size, be8_size, bs_size, sz_mk, List.size_toArray, List.length_cons, List.length_nil]); omega)) w) ?_
      exact hA _ _ _ _ (s20 _ _ g4 g5 _ (by kernel_rfl) (by kernel_rfl) M)
    · skip
      refine pl_back M (want_no rfl) (some 21) rfl _ rfl 3 g4 8 8 (by kernel_rfl) _ rfl [0, 0, 0, 0, 0, 0, 0, 0] 8 (sb_ls [0, 0, 0, 0, 0, 0, 0, 0] _) rfl (by intro x hx; simp only [List.mem_cons, List.mem_nil_iff, or_false] at hx; rcases hx with rfl | rfl | rfl | rfl | rfl | rfl | rfl | rfl <;> omega) ?_
      refine pl_nil ?_
      refine au_then ?_
      refine ⟨(M.drop (.cons_cons _ (.cons_cons _ (.cons_cons _ (.cons _ (.cons _ (.slnil))))))), ?_⟩
      exact hA _ _ _ _ (s23 _ _ g5 (.slice (some ⟨g4, 0, none⟩) 8 8) _ (by kernel_rfl) (by kernel_rfl) (M.drop (.cons_cons _ (.cons_cons _ (.cons_cons _ (.cons _ (.cons_cons _ (.slnil))))))))
    · skip
      refine pl_back M (want_no rfl) (some 26) rfl _ rfl 4 g5 1 1 (by kernel_rfl) _ rfl [q] 1 (sb_ls [q] _) rfl (by intro x hx; simp only [List.mem_cons, List.mem_nil_iff, or_false] at hx; subst hx; omega) ?_
      refine pl_nil ?_
      refine au_then ?_
      refine ⟨(M.drop (.cons_cons _ (.cons_cons _ (.cons_cons _ (.cons _ (.cons _ (.slnil))))))), ?_⟩
      exact hA _ _ _ _ (s24 _ _ g4 (.slice (some ⟨g5, 0, none⟩) 1 1) _ (by kernel_rfl) (by kernel_rfl) (M.drop (.cons_cons _ (.cons_cons _ (.cons_cons _ (.cons_cons _ (.cons _ (.slnil))))))))
  have s15 : ∀ (a : Act) (l : Array Bool) (g4 g5 : Nat) (w0 : World), a = ⟨#[.agg (av 4 (ls [.bool (v0), .int .u64 h0, .int .u64 l0, .int .u16 f])), .agg (av 4 (ls [.bool (v1), .int .u64 h1, .int .u64 l1, .int .u16 g])), .int .u8 q, .string d, .pointer (some ⟨g1, 0, none⟩), .pointer (some ⟨g2, 0, none⟩), undef, undef, .pointer (some ⟨g3, 0, none⟩), .int .i64 0, undef, .pointer (some ⟨g1, 3, none⟩), .int .u16 f, .int .u64 (cv .u64 f), .string (be2 (cv .u64 f)), .pointer (some ⟨g2, 3, none⟩), .int .u16 g, .int .u64 (cv .u64 g), undef, undef, .slice (some ⟨g5, 0, none⟩) 8 8, undef, undef, undef, .int .u8 q, .slice (some ⟨g4, 0, none⟩) 1 1, undef, undef, undef, .string d, undef, undef, undef, undef, undef, undef, undef, undef, undef, undef], []⟩ → l = #[true, true, true, true, true, true, true, false, false, true, false, false, false, true, true, false, false, false, true, false, false] → Mem ⟨w, []⟩ [⟨g1, .cells (av 4 (ls [.bool (v0), .int .u64 h0, .int .u64 l0, .int .u16 f])) 40⟩, ⟨g2, .cells (av 4 (ls [.bool (v1), .int .u64 h1, .int .u64 l1, .int .u16 g])) 40⟩, ⟨g3, .cells (av 9 (ls [.bool false, .int .u64 0, .int .u64 0, .bool false, .int .u64 0, .int .u64 0, .int .u8 0, .int .u8 0, .string ⟨#[]⟩])) 26⟩, ⟨g4, .cells (av 1 (ls [.int .u8 q])) 5⟩, ⟨g5, .cells (av 8 (ls [.int .u8 0, .int .u8 0, .int .u8 0, .int .u8 0, .int .u8 0, .int .u8 0, .int .u8 0, .int .u8 0])) 5⟩] w0 → H 10 l a w0 := by
    intro a l g4 g5  u0 ha hl M
    subst ha hl
    refine hB _ _ _ _ ?_
    refine hl_three 7 10 15 (by decide) (by decide) (by decide) (by kernel_rfl) rfl rfl rfl ?_ ?_ ?_
    · skip
      refine pl_call M (want_no rfl) (some 18) rfl 32 #[.int .u64 (cv .u64 g), .int .i64 2] (.string (be2 (cv .u64 g))) (fun _ => by kernel_rfl) (fun w M => c_num2 (cv .u64 g) w M.laid) ?_
      intro u8 M
      refine pl_nil ?_
      refine au_then ?_
      refine ⟨(M.drop (.cons_cons _ (.cons_cons _ (.cons_cons _ (.cons _ (.cons _ (.slnil))))))), ?_⟩
      refine hl_val (M.drop (.cons_cons _ (.cons_cons _ (.cons_cons _ (.cons _ (.cons _ (.slnil))))))) 8 rfl (by decide) (by kernel_rfl) (by kernel_rfl) (want_no rfl) (some 19) rfl (.string ((be2 (cv .u64 f)) ++ (be2 (cv .u64 g)))) (fun w _ => (run_cat 9 9 _ _ rfl (be2 (cv .u64 f)) (be2 (cv .u64 g)) (by kernel_rfl) (by kernel_rfl) (by (try simp only [ByteArray.size_append, ByteArray.size_extract, be2_size, be4_size, be8_size, bs_size, sz_mk, List.size_toArray, List.length_cons, List.length_nil]); omega)) w) ?_
      exact hA _ _ _ _ (s21 _ _ g4 g5 _ (by kernel_rfl) (by kernel_rfl) M)
    · skip
      refine pl_back M (want_no rfl) (some 21) rfl _ rfl 4 g5 8 8 (by kernel_rfl) _ rfl [0, 0, 0, 0, 0, 0, 0, 0] 8 (sb_ls [0, 0, 0, 0, 0, 0, 0, 0] _) rfl (by intro x hx; simp only [List.mem_cons, List.mem_nil_iff, or_false] at hx; rcases hx with rfl | rfl | rfl | rfl | rfl | rfl | rfl | rfl <;> omega) ?_
      refine pl_nil ?_
      refine au_then ?_
      refine ⟨(M.drop (.cons_cons _ (.cons_cons _ (.cons_cons _ (.cons _ (.cons _ (.slnil))))))), ?_⟩
      exact hA _ _ _ _ (s23 _ _ g4 (.slice (some ⟨g5, 0, none⟩) 8 8) _ (by kernel_rfl) (by kernel_rfl) (M.drop (.cons_cons _ (.cons_cons _ (.cons_cons _ (.cons_cons _ (.cons _ (.slnil))))))))
    · skip
      refine pl_back M (want_no rfl) (some 26) rfl _ rfl 3 g4 1 1 (by kernel_rfl) _ rfl [q] 1 (sb_ls [q] _) rfl (by intro x hx; simp only [List.mem_cons, List.mem_nil_iff, or_false] at hx; subst hx; omega) ?_
      refine pl_nil ?_
      refine au_then ?_
      refine ⟨(M.drop (.cons_cons _ (.cons_cons _ (.cons_cons _ (.cons _ (.cons _ (.slnil))))))), ?_⟩
      exact hA _ _ _ _ (s24 _ _ g5 (.slice (some ⟨g4, 0, none⟩) 1 1) _ (by kernel_rfl) (by kernel_rfl) (M.drop (.cons_cons _ (.cons_cons _ (.cons_cons _ (.cons _ (.cons_cons _ (.slnil))))))))
  have s16 : ∀ (a : Act) (l : Array Bool) (x_25 : Value) (w0 : World), a = ⟨#[.agg (av 4 (ls [.bool (v0), .int .u64 h0, .int .u64 l0, .int .u16 f])), .agg (av 4 (ls [.bool (v1), .int .u64 h1, .int .u64 l1, .int .u16 g])), .int .u8 q, .string d, .pointer (some ⟨g1, 0, none⟩), .pointer (some ⟨g2, 0, none⟩), undef, undef, .pointer (some ⟨g3, 0, none⟩), .int .i64 0, undef, .pointer (some ⟨g1, 3, none⟩), .int .u16 f, .int .u64 (cv .u64 f), .string (be2 (cv .u64 f)), .pointer (some ⟨g2, 3, none⟩), .int .u16 g, .int .u64 (cv .u64 g), undef, undef, undef, undef, undef, undef, .int .u8 q, x_25, .string (bs [q]), undef, undef, .string d, undef, undef, undef, undef, undef, undef, undef, undef, undef, undef], []⟩ → l = #[true, true, true, true, true, true, true, false, false, false, false, false, false, true, true, true, false, false, true, false, false] → Mem ⟨w, []⟩ [⟨g1, .cells (av 4 (ls [.bool (v0), .int .u64 h0, .int .u64 l0, .int .u16 f])) 40⟩, ⟨g2, .cells (av 4 (ls [.bool (v1), .int .u64 h1, .int .u64 l1, .int .u16 g])) 40⟩, ⟨g3, .cells (av 9 (ls [.bool false, .int .u64 0, .int .u64 0, .bool false, .int .u64 0, .int .u64 0, .int .u8 0, .int .u8 0, .string ⟨#[]⟩])) 26⟩] w0 → H 10 l a w0 := by
    intro a l  x_25 u0 ha hl M
    subst ha hl
    refine hB _ _ _ _ ?_
    refine hl_two 7 9 (by decide) (by decide) (by kernel_rfl) rfl rfl ?_ ?_
    · skip
      refine pl_call M (want_no rfl) (some 18) rfl 32 #[.int .u64 (cv .u64 g), .int .i64 2] (.string (be2 (cv .u64 g))) (fun _ => by kernel_rfl) (fun w M => c_num2 (cv .u64 g) w M.laid) ?_
      intro u7 M
      refine pl_nil ?_
      refine au_then ?_
      refine ⟨M, ?_⟩
      refine hl_val M 8 rfl (by decide) (by kernel_rfl) (by kernel_rfl) (want_no rfl) (some 19) rfl (.string ((be2 (cv .u64 f)) ++ (be2 (cv .u64 g)))) (fun w _ => (run_cat 9 9 _ _ rfl (be2 (cv .u64 f)) (be2 (cv .u64 g)) (by kernel_rfl) (by kernel_rfl) (by (try simp only [ByteArray.size_append, ByteArray.size_extract, be2_size, be4_size, be8_size, bs_size, sz_mk, List.size_toArray, List.length_cons, List.length_nil]); omega)) w) ?_
      exact hA _ _ _ _ (s22 _ _ (x_25) _ (by kernel_rfl) (by kernel_rfl) M)
    · skip
      refine pl_mk M (want_no rfl) (some 20) rfl (fun g5 => .slice (some ⟨g5, 0, none⟩) 8 8) (.cells (av 8 (ls [.int .u8 0, .int .u8 0, .int .u8 0, .int .u8 0, .int .u8 0, .int .u8 0, .int .u8 0, .int .u8 0])) 5) (fun _ => by kernel_rfl) ?_
      intro g5 u7 M
      replace M : Mem ⟨w, []⟩ [⟨g1, .cells (av 4 (ls [.bool (v0), .int .u64 h0, .int .u64 l0, .int .u16 f])) 40⟩, ⟨g2, .cells (av 4 (ls [.bool (v1), .int .u64 h1, .int .u64 l1, .int .u16 g])) 40⟩, ⟨g3, .cells (av 9 (ls [.bool false, .int .u64 0, .int .u64 0, .bool false, .int .u64 0, .int .u64 0, .int .u8 0, .int .u8 0, .string ⟨#[]⟩])) 26⟩, ⟨g5, .cells (av 8 (ls [.int .u8 0, .int .u8 0, .int .u8 0, .int .u8 0, .int .u8 0, .int .u8 0, .int .u8 0, .int .u8 0])) 5⟩] u7 := M
      refine pl_nil ?_
      refine au_then ?_
      refine ⟨(M.drop (.cons_cons _ (.cons_cons _ (.cons_cons _ (.cons _ (.slnil)))))), ?_⟩
      exact hA _ _ _ _ (s24 _ _ g5 (x_25) _ (by kernel_rfl) (by kernel_rfl) M)
  have s17 : ∀ (a : Act) (l : Array Bool) (g5 : Nat) (x_20 : Value) (w0 : World), a = ⟨#[.agg (av 4 (ls [.bool (v0), .int .u64 h0, .int .u64 l0, .int .u16 f])), .agg (av 4 (ls [.bool (v1), .int .u64 h1, .int .u64 l1, .int .u16 g])), .int .u8 q, .string d, .pointer (some ⟨g1, 0, none⟩), .pointer (some ⟨g2, 0, none⟩), undef, undef, .pointer (some ⟨g3, 0, none⟩), .int .i64 0, undef, .pointer (some ⟨g1, 3, none⟩), .int .u16 f, .int .u64 (cv .u64 f), undef, .pointer (some ⟨g2, 3, none⟩), .int .u16 g, .int .u64 (cv .u64 g), undef, undef, x_20, .string (bs [0, 0, 0, 0, 0, 0, 0, 0]), undef, undef, .int .u8 q, .slice (some ⟨g5, 0, none⟩) 1 1, undef, undef, undef, .string d, undef, undef, undef, undef, undef, undef, undef, undef, undef, undef], []⟩ → l = #[true, true, true, false, true, true, true, false, false, true, true, false, false, true, true, false, false, false, true, false, false] → Mem ⟨w, []⟩ [⟨g1, .cells (av 4 (ls [.bool (v0), .int .u64 h0, .int .u64 l0, .int .u16 f])) 40⟩, ⟨g2, .cells (av 4 (ls [.bool (v1), .int .u64 h1, .int .u64 l1, .int .u16 g])) 40⟩, ⟨g3, .cells (av 9 (ls [.bool false, .int .u64 0, .int .u64 0, .bool false, .int .u64 0, .int .u64 0, .int .u8 0, .int .u8 0, .string ⟨#[]⟩])) 26⟩, ⟨g5, .cells (av 1 (ls [.int .u8 q])) 5⟩] w0 → H 10 l a w0 := by
    intro a l g5 x_20 u0 ha hl M
    subst ha hl
    refine hB _ _ _ _ ?_
    refine hl_two 3 15 (by decide) (by decide) (by kernel_rfl) rfl rfl ?_ ?_
    · skip
      refine pl_call M (want_no rfl) (some 14) rfl 32 #[.int .u64 (cv .u64 f), .int .i64 2] (.string (be2 (cv .u64 f))) (fun _ => by kernel_rfl) (fun w M => c_num2 (cv .u64 f) w M.laid) ?_
      intro u7 M
      refine pl_nil ?_
      refine au_then ?_
      refine ⟨(M.drop (.cons_cons _ (.cons_cons _ (.cons_cons _ (.cons _ (.slnil)))))), ?_⟩
      exact hA _ _ _ _ (s23 _ _ g5 (x_20) _ (by kernel_rfl) (by kernel_rfl) M)
    · skip
      refine pl_back M (want_no rfl) (some 26) rfl _ rfl 3 g5 1 1 (by kernel_rfl) _ rfl [q] 1 (sb_ls [q] _) rfl (by intro x hx; simp only [List.mem_cons, List.mem_nil_iff, or_false] at hx; subst hx; omega) ?_
      refine pl_nil ?_
      refine au_then ?_
      refine ⟨(M.drop (.cons_cons _ (.cons_cons _ (.cons_cons _ (.cons _ (.slnil)))))), ?_⟩
      exact hA _ _ _ _ (s25 _ _ (x_20) (.slice (some ⟨g5, 0, none⟩) 1 1) _ (by kernel_rfl) (by kernel_rfl) (M.drop (.cons_cons _ (.cons_cons _ (.cons_cons _ (.cons _ (.slnil)))))))
  have s18 : ∀ (a : Act) (l : Array Bool) (g4 : Nat) (x_25 : Value) (w0 : World), a = ⟨#[.agg (av 4 (ls [.bool (v0), .int .u64 h0, .int .u64 l0, .int .u16 f])), .agg (av 4 (ls [.bool (v1), .int .u64 h1, .int .u64 l1, .int .u16 g])), .int .u8 q, .string d, .pointer (some ⟨g1, 0, none⟩), .pointer (some ⟨g2, 0, none⟩), undef, undef, .pointer (some ⟨g3, 0, none⟩), .int .i64 0, undef, .pointer (some ⟨g1, 3, none⟩), .int .u16 f, .int .u64 (cv .u64 f), undef, .pointer (some ⟨g2, 3, none⟩), .int .u16 g, .int .u64 (cv .u64 g), undef, undef, .slice (some ⟨g4, 0, none⟩) 8 8, undef, undef, undef, .int .u8 q, x_25, .string (bs [q]), undef, undef, .string d, undef, undef, undef, undef, undef, undef, undef, undef, undef, undef], []⟩ → l = #[true, true, true, false, true, true, true, false, false, true, false, false, false, true, true, true, false, false, true, false, false] → Mem ⟨w, []⟩ [⟨g1, .cells (av 4 (ls [.bool (v0), .int .u64 h0, .int .u64 l0, .int .u16 f])) 40⟩, ⟨g2, .cells (av 4 (ls [.bool (v1), .int .u64 h1, .int .u64 l1, .int .u16 g])) 40⟩, ⟨g3, .cells (av 9 (ls [.bool false, .int .u64 0, .int .u64 0, .bool false, .int .u64 0, .int .u64 0, .int .u8 0, .int .u8 0, .string ⟨#[]⟩])) 26⟩, ⟨g4, .cells (av 8 (ls [.int .u8 0, .int .u8 0, .int .u8 0, .int .u8 0, .int .u8 0, .int .u8 0, .int .u8 0, .int .u8 0])) 5⟩] w0 → H 10 l a w0 := by
    intro a l g4 x_25 u0 ha hl M
    subst ha hl
    refine hB _ _ _ _ ?_
    refine hl_two 3 10 (by decide) (by decide) (by kernel_rfl) rfl rfl ?_ ?_
    · skip
      refine pl_call M (want_no rfl) (some 14) rfl 32 #[.int .u64 (cv .u64 f), .int .i64 2] (.string (be2 (cv .u64 f))) (fun _ => by kernel_rfl) (fun w M => c_num2 (cv .u64 f) w M.laid) ?_
      intro u7 M
      refine pl_nil ?_
      refine au_then ?_
      refine ⟨(M.drop (.cons_cons _ (.cons_cons _ (.cons_cons _ (.cons _ (.slnil)))))), ?_⟩
      exact hA _ _ _ _ (s24 _ _ g4 (x_25) _ (by kernel_rfl) (by kernel_rfl) M)
    · skip
      refine pl_back M (want_no rfl) (some 21) rfl _ rfl 3 g4 8 8 (by kernel_rfl) _ rfl [0, 0, 0, 0, 0, 0, 0, 0] 8 (sb_ls [0, 0, 0, 0, 0, 0, 0, 0] _) rfl (by intro x hx; simp only [List.mem_cons, List.mem_nil_iff, or_false] at hx; rcases hx with rfl | rfl | rfl | rfl | rfl | rfl | rfl | rfl <;> omega) ?_
      refine pl_nil ?_
      refine au_then ?_
      refine ⟨(M.drop (.cons_cons _ (.cons_cons _ (.cons_cons _ (.cons _ (.slnil)))))), ?_⟩
      exact hA _ _ _ _ (s25 _ _ (.slice (some ⟨g4, 0, none⟩) 8 8) (x_25) _ (by kernel_rfl) (by kernel_rfl) (M.drop (.cons_cons _ (.cons_cons _ (.cons_cons _ (.cons _ (.slnil)))))))
  have s5 : ∀ (a : Act) (l : Array Bool) (g4 : Nat) (w0 : World), a = ⟨#[.agg (av 4 (ls [.bool (v0), .int .u64 h0, .int .u64 l0, .int .u16 f])), .agg (av 4 (ls [.bool (v1), .int .u64 h1, .int .u64 l1, .int .u16 g])), .int .u8 q, .string d, .pointer (some ⟨g1, 0, none⟩), .pointer (some ⟨g2, 0, none⟩), undef, undef, .pointer (some ⟨g3, 0, none⟩), .int .i64 0, undef, .pointer (some ⟨g1, 3, none⟩), .int .u16 f, .int .u64 (cv .u64 f), .string (be2 (cv .u64 f)), .pointer (some ⟨g2, 3, none⟩), .int .u16 g, .int .u64 (cv .u64 g), undef, undef, .slice (some ⟨g4, 0, none⟩) 8 8, undef, undef, undef, .int .u8 q, undef, undef, undef, undef, .string d, undef, undef, undef, undef, undef, undef, undef, undef, undef, undef], []⟩ → l = #[true, true, true, true, true, true, true, false, false, true, false, false, false, true, false, false, false, false, true, false, false] → Mem ⟨w, []⟩ [⟨g1, .cells (av 4 (ls [.bool (v0), .int .u64 h0, .int .u64 l0, .int .u16 f])) 40⟩, ⟨g2, .cells (av 4 (ls [.bool (v1), .int .u64 h1, .int .u64 l1, .int .u16 g])) 40⟩, ⟨g3, .cells (av 9 (ls [.bool false, .int .u64 0, .int .u64 0, .bool false, .int .u64 0, .int .u64 0, .int .u8 0, .int .u8 0, .string ⟨#[]⟩])) 26⟩, ⟨g4, .cells (av 8 (ls [.int .u8 0, .int .u8 0, .int .u8 0, .int .u8 0, .int .u8 0, .int .u8 0, .int .u8 0, .int .u8 0])) 5⟩] w0 → H 11 l a w0 := by
    intro a l g4  u0 ha hl M
    subst ha hl
    refine hB _ _ _ _ ?_
    refine hl_three 7 10 14 (by decide) (by decide) (by decide) (by kernel_rfl) rfl rfl rfl ?_ ?_ ?_
    · skip
      refine pl_call M (want_no rfl) (some 18) rfl 32 #[.int .u64 (cv .u64 g), .int .i64 2] (.string (be2 (cv .u64 g))) (fun _ => by kernel_rfl) (fun w M => c_num2 (cv .u64 g) w M.laid) ?_
      intro u7 M
      refine pl_nil ?_
      refine au_then ?_
      refine ⟨(M.drop (.cons_cons _ (.cons_cons _ (.cons_cons _ (.cons _ (.slnil)))))), ?_⟩
      refine hl_val (M.drop (.cons_cons _ (.cons_cons _ (.cons_cons _ (.cons _ (.slnil)))))) 8 rfl (by decide) (by kernel_rfl) (by kernel_rfl) (want_no rfl) (some 19) rfl (.string ((be2 (cv .u64 f)) ++ (be2 (cv .u64 g)))) (fun w _ => (run_cat 9 9 _ _ rfl (be2 (cv .u64 f)) (be2 (cv .u64 g)) (by kernel_rfl) (by kernel_rfl) (by (try simp only [ByteArray.size_append, ByteArray.size_extract, be2_size, be4_size, be8_size, bs_size, sz_mk, List.size_toArray, List.length_cons, List.length_nil]); omega)) w) ?_
      exact hA _ _ _ _ (s11 _ _ g4 _ (by kernel_rfl) (by kernel_rfl) M)
    · skip
      refine pl_back M (want_no rfl) (some 21) rfl _ rfl 3 g4 8 8 (by kernel_rfl) _ rfl [0, 0, 0, 0, 0, 0, 0, 0] 8 (sb_ls [0, 0, 0, 0, 0, 0, 0, 0] _) rfl (by intro x hx; simp only [List.mem_cons, List.mem_nil_iff, or_false] at hx; rcases hx with rfl | rfl | rfl | rfl | rfl | rfl | rfl | rfl <;> omega) ?_
      refine pl_nil ?_
      refine au_then ?_
      refine ⟨(M.drop (.cons_cons _ (.cons_cons _ (.cons_cons _ (.cons _ (.slnil)))))), ?_⟩
      exact hA _ _ _ _ (s13 _ _ (.slice (some ⟨g4, 0, none⟩) 8 8) _ (by kernel_rfl) (by kernel_rfl) (M.drop (.cons_cons _ (.cons_cons _ (.cons_cons _ (.cons _ (.slnil)))))))
    · skip
      refine pl_mk M (want_no rfl) (some 25) rfl (fun g5 => .slice (some ⟨g5, 0, none⟩) 1 1) (.cells (av 1 (ls [.int .u8 q])) 5) (fun _ => by kernel_rfl) ?_
      intro g5 u7 M
      replace M : Mem ⟨w, []⟩ [⟨g1, .cells (av 4 (ls [.bool (v0), .int .u64 h0, .int .u64 l0, .int .u16 f])) 40⟩, ⟨g2, .cells (av 4 (ls [.bool (v1), .int .u64 h1, .int .u64 l1, .int .u16 g])) 40⟩, ⟨g3, .cells (av 9 (ls [.bool false, .int .u64 0, .int .u64 0, .bool false, .int .u64 0, .int .u64 0, .int .u8 0, .int .u8 0, .string ⟨#[]⟩])) 26⟩, ⟨g4, .cells (av 8 (ls [.int .u8 0, .int .u8 0, .int .u8 0, .int .u8 0, .int .u8 0, .int .u8 0, .int .u8 0, .int .u8 0])) 5⟩, ⟨g5, .cells (av 1 (ls [.int .u8 q])) 5⟩] u7 := M
      refine pl_nil ?_
      refine au_then ?_
      refine ⟨(M.drop (.cons_cons _ (.cons_cons _ (.cons_cons _ (.cons _ (.cons _ (.slnil))))))), ?_⟩
      exact hA _ _ _ _ (s14 _ _ g4 g5 _ (by kernel_rfl) (by kernel_rfl) M)
  have s6 : ∀ (a : Act) (l : Array Bool) (g4 : Nat) (w0 : World), a = ⟨#[.agg (av 4 (ls [.bool (v0), .int .u64 h0, .int .u64 l0, .int .u16 f])), .agg (av 4 (ls [.bool (v1), .int .u64 h1, .int .u64 l1, .int .u16 g])), .int .u8 q, .string d, .pointer (some ⟨g1, 0, none⟩), .pointer (some ⟨g2, 0, none⟩), undef, undef, .pointer (some ⟨g3, 0, none⟩), .int .i64 0, undef, .pointer (some ⟨g1, 3, none⟩), .int .u16 f, .int .u64 (cv .u64 f), .string (be2 (cv .u64 f)), .pointer (some ⟨g2, 3, none⟩), .int .u16 g, .int .u64 (cv .u64 g), undef, undef, undef, undef, undef, undef, .int .u8 q, .slice (some ⟨g4, 0, none⟩) 1 1, undef, undef, undef, .string d, undef, undef, undef, undef, undef, undef, undef, undef, undef, undef], []⟩ → l = #[true, true, true, true, true, true, true, false, false, false, false, false, false, true, true, false, false, false, true, false, false] → Mem ⟨w, []⟩ [⟨g1, .cells (av 4 (ls [.bool (v0), .int .u64 h0, .int .u64 l0, .int .u16 f])) 40⟩, ⟨g2, .cells (av 4 (ls [.bool (v1), .int .u64 h1, .int .u64 l1, .int .u16 g])) 40⟩, ⟨g3, .cells (av 9 (ls [.bool false, .int .u64 0, .int .u64 0, .bool false, .int .u64 0, .int .u64 0, .int .u8 0, .int .u8 0, .string ⟨#[]⟩])) 26⟩, ⟨g4, .cells (av 1 (ls [.int .u8 q])) 5⟩] w0 → H 11 l a w0 := by
    intro a l g4  u0 ha hl M
    subst ha hl
    refine hB _ _ _ _ ?_
    refine hl_three 7 9 15 (by decide) (by decide) (by decide) (by kernel_rfl) rfl rfl rfl ?_ ?_ ?_
    · skip
      refine pl_call M (want_no rfl) (some 18) rfl 32 #[.int .u64 (cv .u64 g), .int .i64 2] (.string (be2 (cv .u64 g))) (fun _ => by kernel_rfl) (fun w M => c_num2 (cv .u64 g) w M.laid) ?_
      intro u7 M
      refine pl_nil ?_
      refine au_then ?_
      refine ⟨(M.drop (.cons_cons _ (.cons_cons _ (.cons_cons _ (.cons _ (.slnil)))))), ?_⟩
      refine hl_val (M.drop (.cons_cons _ (.cons_cons _ (.cons_cons _ (.cons _ (.slnil)))))) 8 rfl (by decide) (by kernel_rfl) (by kernel_rfl) (want_no rfl) (some 19) rfl (.string ((be2 (cv .u64 f)) ++ (be2 (cv .u64 g)))) (fun w _ => (run_cat 9 9 _ _ rfl (be2 (cv .u64 f)) (be2 (cv .u64 g)) (by kernel_rfl) (by kernel_rfl) (by (try simp only [ByteArray.size_append, ByteArray.size_extract, be2_size, be4_size, be8_size, bs_size, sz_mk, List.size_toArray, List.length_cons, List.length_nil]); omega)) w) ?_
      exact hA _ _ _ _ (s12 _ _ g4 _ (by kernel_rfl) (by kernel_rfl) M)
    · skip
      refine pl_mk M (want_no rfl) (some 20) rfl (fun g5 => .slice (some ⟨g5, 0, none⟩) 8 8) (.cells (av 8 (ls [.int .u8 0, .int .u8 0, .int .u8 0, .int .u8 0, .int .u8 0, .int .u8 0, .int .u8 0, .int .u8 0])) 5) (fun _ => by kernel_rfl) ?_
      intro g5 u7 M
      replace M : Mem ⟨w, []⟩ [⟨g1, .cells (av 4 (ls [.bool (v0), .int .u64 h0, .int .u64 l0, .int .u16 f])) 40⟩, ⟨g2, .cells (av 4 (ls [.bool (v1), .int .u64 h1, .int .u64 l1, .int .u16 g])) 40⟩, ⟨g3, .cells (av 9 (ls [.bool false, .int .u64 0, .int .u64 0, .bool false, .int .u64 0, .int .u64 0, .int .u8 0, .int .u8 0, .string ⟨#[]⟩])) 26⟩, ⟨g4, .cells (av 1 (ls [.int .u8 q])) 5⟩, ⟨g5, .cells (av 8 (ls [.int .u8 0, .int .u8 0, .int .u8 0, .int .u8 0, .int .u8 0, .int .u8 0, .int .u8 0, .int .u8 0])) 5⟩] u7 := M
      refine pl_nil ?_
      refine au_then ?_
      refine ⟨(M.drop (.cons_cons _ (.cons_cons _ (.cons_cons _ (.cons _ (.cons _ (.slnil))))))), ?_⟩
      exact hA _ _ _ _ (s15 _ _ g4 g5 _ (by kernel_rfl) (by kernel_rfl) M)
    · skip
      refine pl_back M (want_no rfl) (some 26) rfl _ rfl 3 g4 1 1 (by kernel_rfl) _ rfl [q] 1 (sb_ls [q] _) rfl (by intro x hx; simp only [List.mem_cons, List.mem_nil_iff, or_false] at hx; subst hx; omega) ?_
      refine pl_nil ?_
      refine au_then ?_
      refine ⟨(M.drop (.cons_cons _ (.cons_cons _ (.cons_cons _ (.cons _ (.slnil)))))), ?_⟩
      exact hA _ _ _ _ (s16 _ _ (.slice (some ⟨g4, 0, none⟩) 1 1) _ (by kernel_rfl) (by kernel_rfl) (M.drop (.cons_cons _ (.cons_cons _ (.cons_cons _ (.cons _ (.slnil)))))))
  have s7 : ∀ (a : Act) (l : Array Bool) (x_20 : Value) (w0 : World), a = ⟨#[.agg (av 4 (ls [.bool (v0), .int .u64 h0, .int .u64 l0, .int .u16 f])), .agg (av 4 (ls [.bool (v1), .int .u64 h1, .int .u64 l1, .int .u16 g])), .int .u8 q, .string d, .pointer (some ⟨g1, 0, none⟩), .pointer (some ⟨g2, 0, none⟩), undef, undef, .pointer (some ⟨g3, 0, none⟩), .int .i64 0, undef, .pointer (some ⟨g1, 3, none⟩), .int .u16 f, .int .u64 (cv .u64 f), undef, .pointer (some ⟨g2, 3, none⟩), .int .u16 g, .int .u64 (cv .u64 g), undef, undef, x_20, .string (bs [0, 0, 0, 0, 0, 0, 0, 0]), undef, undef, .int .u8 q, undef, undef, undef, undef, .string d, undef, undef, undef, undef, undef, undef, undef, undef, undef, undef], []⟩ → l = #[true, true, true, false, true, true, true, false, false, true, true, false, false, true, false, false, false, false, true, false, false] → Mem ⟨w, []⟩ [⟨g1, .cells (av 4 (ls [.bool (v0), .int .u64 h0, .int .u64 l0, .int .u16 f])) 40⟩, ⟨g2, .cells (av 4 (ls [.bool (v1), .int .u64 h1, .int .u64 l1, .int .u16 g])) 40⟩, ⟨g3, .cells (av 9 (ls [.bool false, .int .u64 0, .int .u64 0, .bool false, .int .u64 0, .int .u64 0, .int .u8 0, .int .u8 0, .string ⟨#[]⟩])) 26⟩] w0 → H 11 l a w0 := by
    intro a l  x_20 u0 ha hl M
    subst ha hl
    refine hB _ _ _ _ ?_
    refine hl_two 3 14 (by decide) (by decide) (by kernel_rfl) rfl rfl ?_ ?_
    · skip
      refine pl_call M (want_no rfl) (some 14) rfl 32 #[.int .u64 (cv .u64 f), .int .i64 2] (.string (be2 (cv .u64 f))) (fun _ => by kernel_rfl) (fun w M => c_num2 (cv .u64 f) w M.laid) ?_
      intro u6 M
      refine pl_nil ?_
      refine au_then ?_
      refine ⟨M, ?_⟩
      exact hA _ _ _ _ (s13 _ _ (x_20) _ (by kernel_rfl) (by kernel_rfl) M)
    · skip
      refine pl_mk M (want_no rfl) (some 25) rfl (fun g5 => .slice (some ⟨g5, 0, none⟩) 1 1) (.cells (av 1 (ls [.int .u8 q])) 5) (fun _ => by kernel_rfl) ?_
      intro g5 u6 M
      replace M : Mem ⟨w, []⟩ [⟨g1, .cells (av 4 (ls [.bool (v0), .int .u64 h0, .int .u64 l0, .int .u16 f])) 40⟩, ⟨g2, .cells (av 4 (ls [.bool (v1), .int .u64 h1, .int .u64 l1, .int .u16 g])) 40⟩, ⟨g3, .cells (av 9 (ls [.bool false, .int .u64 0, .int .u64 0, .bool false, .int .u64 0, .int .u64 0, .int .u8 0, .int .u8 0, .string ⟨#[]⟩])) 26⟩, ⟨g5, .cells (av 1 (ls [.int .u8 q])) 5⟩] u6 := M
      refine pl_nil ?_
      refine au_then ?_
      refine ⟨(M.drop (.cons_cons _ (.cons_cons _ (.cons_cons _ (.cons _ (.slnil)))))), ?_⟩
      exact hA _ _ _ _ (s17 _ _ g5 (x_20) _ (by kernel_rfl) (by kernel_rfl) M)
  have s8 : ∀ (a : Act) (l : Array Bool) (g4 g5 : Nat) (w0 : World), a = ⟨#[.agg (av 4 (ls [.bool (v0), .int .u64 h0, .int .u64 l0, .int .u16 f])), .agg (av 4 (ls [.bool (v1), .int .u64 h1, .int .u64 l1, .int .u16 g])), .int .u8 q, .string d, .pointer (some ⟨g1, 0, none⟩), .pointer (some ⟨g2, 0, none⟩), undef, undef, .pointer (some ⟨g3, 0, none⟩), .int .i64 0, undef, .pointer (some ⟨g1, 3, none⟩), .int .u16 f, .int .u64 (cv .u64 f), undef, .pointer (some ⟨g2, 3, none⟩), .int .u16 g, .int .u64 (cv .u64 g), undef, undef, .slice (some ⟨g4, 0, none⟩) 8 8, undef, undef, undef, .int .u8 q, .slice (some ⟨g5, 0, none⟩) 1 1, undef, undef, undef, .string d, undef, undef, undef, undef, undef, undef, undef, undef, undef, undef], []⟩ → l = #[true, true, true, false, true, true, true, false, false, true, false, false, false, true, true, false, false, false, true, false, false] → Mem ⟨w, []⟩ [⟨g1, .cells (av 4 (ls [.bool (v0), .int .u64 h0, .int .u64 l0, .int .u16 f])) 40⟩, ⟨g2, .cells (av 4 (ls [.bool (v1), .int .u64 h1, .int .u64 l1, .int .u16 g])) 40⟩, ⟨g3, .cells (av 9 (ls [.bool false, .int .u64 0, .int .u64 0, .bool false, .int .u64 0, .int .u64 0, .int .u8 0, .int .u8 0, .string ⟨#[]⟩])) 26⟩, ⟨g4, .cells (av 8 (ls [.int .u8 0, .int .u8 0, .int .u8 0, .int .u8 0, .int .u8 0, .int .u8 0, .int .u8 0, .int .u8 0])) 5⟩, ⟨g5, .cells (av 1 (ls [.int .u8 q])) 5⟩] w0 → H 11 l a w0 := by
    intro a l g4 g5  u0 ha hl M
    subst ha hl
    refine hB _ _ _ _ ?_
    refine hl_three 3 10 15 (by decide) (by decide) (by decide) (by kernel_rfl) rfl rfl rfl ?_ ?_ ?_
    · skip
      refine pl_call M (want_no rfl) (some 14) rfl 32 #[.int .u64 (cv .u64 f), .int .i64 2] (.string (be2 (cv .u64 f))) (fun _ => by kernel_rfl) (fun w M => c_num2 (cv .u64 f) w M.laid) ?_
      intro u7 M
      refine pl_nil ?_
      refine au_then ?_
      refine ⟨(M.drop (.cons_cons _ (.cons_cons _ (.cons_cons _ (.cons _ (.cons _ (.slnil))))))), ?_⟩
      exact hA _ _ _ _ (s14 _ _ g4 g5 _ (by kernel_rfl) (by kernel_rfl) M)
    · skip
      refine pl_back M (want_no rfl) (some 21) rfl _ rfl 3 g4 8 8 (by kernel_rfl) _ rfl [0, 0, 0, 0, 0, 0, 0, 0] 8 (sb_ls [0, 0, 0, 0, 0, 0, 0, 0] _) rfl (by intro x hx; simp only [List.mem_cons, List.mem_nil_iff, or_false] at hx; rcases hx with rfl | rfl | rfl | rfl | rfl | rfl | rfl | rfl <;> omega) ?_
      refine pl_nil ?_
      refine au_then ?_
      refine ⟨(M.drop (.cons_cons _ (.cons_cons _ (.cons_cons _ (.cons _ (.cons _ (.slnil))))))), ?_⟩
      exact hA _ _ _ _ (s17 _ _ g5 (.slice (some ⟨g4, 0, none⟩) 8 8) _ (by kernel_rfl) (by kernel_rfl) (M.drop (.cons_cons _ (.cons_cons _ (.cons_cons _ (.cons _ (.cons_cons _ (.slnil))))))))
    · skip
      refine pl_back M (want_no rfl) (some 26) rfl _ rfl 4 g5 1 1 (by kernel_rfl) _ rfl [q] 1 (sb_ls [q] _) rfl (by intro x hx; simp only [List.mem_cons, List.mem_nil_iff, or_false] at hx; subst hx; omega) ?_
      refine pl_nil ?_
      refine au_then ?_
      refine ⟨(M.drop (.cons_cons _ (.cons_cons _ (.cons_cons _ (.cons _ (.cons _ (.slnil))))))), ?_⟩
      exact hA _ _ _ _ (s18 _ _ g4 (.slice (some ⟨g5, 0, none⟩) 1 1) _ (by kernel_rfl) (by kernel_rfl) (M.drop (.cons_cons _ (.cons_cons _ (.cons_cons _ (.cons_cons _ (.cons _ (.slnil))))))))
  have s9 : ∀ (a : Act) (l : Array Bool) (g4 g5 : Nat) (w0 : World), a = ⟨#[.agg (av 4 (ls [.bool (v0), .int .u64 h0, .int .u64 l0, .int .u16 f])), .agg (av 4 (ls [.bool (v1), .int .u64 h1, .int .u64 l1, .int .u16 g])), .int .u8 q, .string d, .pointer (some ⟨g1, 0, none⟩), .pointer (some ⟨g2, 0, none⟩), undef, undef, .pointer (some ⟨g3, 0, none⟩), .int .i64 0, undef, .pointer (some ⟨g1, 3, none⟩), .int .u16 f, .int .u64 (cv .u64 f), undef, .pointer (some ⟨g2, 3, none⟩), .int .u16 g, .int .u64 (cv .u64 g), undef, undef, .slice (some ⟨g5, 0, none⟩) 8 8, undef, undef, undef, .int .u8 q, .slice (some ⟨g4, 0, none⟩) 1 1, undef, undef, undef, .string d, undef, undef, undef, undef, undef, undef, undef, undef, undef, undef], []⟩ → l = #[true, true, true, false, true, true, true, false, false, true, false, false, false, true, true, false, false, false, true, false, false] → Mem ⟨w, []⟩ [⟨g1, .cells (av 4 (ls [.bool (v0), .int .u64 h0, .int .u64 l0, .int .u16 f])) 40⟩, ⟨g2, .cells (av 4 (ls [.bool (v1), .int .u64 h1, .int .u64 l1, .int .u16 g])) 40⟩, ⟨g3, .cells (av 9 (ls [.bool false, .int .u64 0, .int .u64 0, .bool false, .int .u64 0, .int .u64 0, .int .u8 0, .int .u8 0, .string ⟨#[]⟩])) 26⟩, ⟨g4, .cells (av 1 (ls [.int .u8 q])) 5⟩, ⟨g5, .cells (av 8 (ls [.int .u8 0, .int .u8 0, .int .u8 0, .int .u8 0, .int .u8 0, .int .u8 0, .int .u8 0, .int .u8 0])) 5⟩] w0 → H 11 l a w0 := by
    intro a l g4 g5  u0 ha hl M
    subst ha hl
    refine hB _ _ _ _ ?_
    refine hl_three 3 10 15 (by decide) (by decide) (by decide) (by kernel_rfl) rfl rfl rfl ?_ ?_ ?_
    · skip
      refine pl_call M (want_no rfl) (some 14) rfl 32 #[.int .u64 (cv .u64 f), .int .i64 2] (.string (be2 (cv .u64 f))) (fun _ => by kernel_rfl) (fun w M => c_num2 (cv .u64 f) w M.laid) ?_
      intro u7 M
      refine pl_nil ?_
      refine au_then ?_
      refine ⟨(M.drop (.cons_cons _ (.cons_cons _ (.cons_cons _ (.cons _ (.cons _ (.slnil))))))), ?_⟩
      exact hA _ _ _ _ (s15 _ _ g4 g5 _ (by kernel_rfl) (by kernel_rfl) M)
    · skip
      refine pl_back M (want_no rfl) (some 21) rfl _ rfl 4 g5 8 8 (by kernel_rfl) _ rfl [0, 0, 0, 0, 0, 0, 0, 0] 8 (sb_ls [0, 0, 0, 0, 0, 0, 0, 0] _) rfl (by intro x hx; simp only [List.mem_cons, List.mem_nil_iff, or_false] at hx; rcases hx with rfl | rfl | rfl | rfl | rfl | rfl | rfl | rfl <;> omega) ?_
      refine pl_nil ?_
      refine au_then ?_
      refine ⟨(M.drop (.cons_cons _ (.cons_cons _ (.cons_cons _ (.cons _ (.cons _ (.slnil))))))), ?_⟩
      exact hA _ _ _ _ (s17 _ _ g4 (.slice (some ⟨g5, 0, none⟩) 8 8) _ (by kernel_rfl) (by kernel_rfl) (M.drop (.cons_cons _ (.cons_cons _ (.cons_cons _ (.cons_cons _ (.cons _ (.slnil))))))))
    · skip
      refine pl_back M (want_no rfl) (some 26) rfl _ rfl 3 g4 1 1 (by kernel_rfl) _ rfl [q] 1 (sb_ls [q] _) rfl (by intro x hx; simp only [List.mem_cons, List.mem_nil_iff, or_false] at hx; subst hx; omega) ?_
      refine pl_nil ?_
      refine au_then ?_
      refine ⟨(M.drop (.cons_cons _ (.cons_cons _ (.cons_cons _ (.cons _ (.cons _ (.slnil))))))), ?_⟩
      exact hA _ _ _ _ (s18 _ _ g5 (.slice (some ⟨g4, 0, none⟩) 1 1) _ (by kernel_rfl) (by kernel_rfl) (M.drop (.cons_cons _ (.cons_cons _ (.cons_cons _ (.cons _ (.cons_cons _ (.slnil))))))))
  have s10 : ∀ (a : Act) (l : Array Bool) (x_25 : Value) (w0 : World), a = ⟨#[.agg (av 4 (ls [.bool (v0), .int .u64 h0, .int .u64 l0, .int .u16 f])), .agg (av 4 (ls [.bool (v1), .int .u64 h1, .int .u64 l1, .int .u16 g])), .int .u8 q, .string d, .pointer (some ⟨g1, 0, none⟩), .pointer (some ⟨g2, 0, none⟩), undef, undef, .pointer (some ⟨g3, 0, none⟩), .int .i64 0, undef, .pointer (some ⟨g1, 3, none⟩), .int .u16 f, .int .u64 (cv .u64 f), undef, .pointer (some ⟨g2, 3, none⟩), .int .u16 g, .int .u64 (cv .u64 g), undef, undef, undef, undef, undef, undef, .int .u8 q, x_25, .string (bs [q]), undef, undef, .string d, undef, undef, undef, undef, undef, undef, undef, undef, undef, undef], []⟩ → l = #[true, true, true, false, true, true, true, false, false, false, false, false, false, true, true, true, false, false, true, false, false] → Mem ⟨w, []⟩ [⟨g1, .cells (av 4 (ls [.bool (v0), .int .u64 h0, .int .u64 l0, .int .u16 f])) 40⟩, ⟨g2, .cells (av 4 (ls [.bool (v1), .int .u64 h1, .int .u64 l1, .int .u16 g])) 40⟩, ⟨g3, .cells (av 9 (ls [.bool false, .int .u64 0, .int .u64 0, .bool false, .int .u64 0, .int .u64 0, .int .u8 0, .int .u8 0, .string ⟨#[]⟩])) 26⟩] w0 → H 11 l a w0 := by
    intro a l  x_25 u0 ha hl M
    subst ha hl
    refine hB _ _ _ _ ?_
    refine hl_two 3 9 (by decide) (by decide) (by kernel_rfl) rfl rfl ?_ ?_
    · skip
      refine pl_call M (want_no rfl) (some 14) rfl 32 #[.int .u64 (cv .u64 f), .int .i64 2] (.string (be2 (cv .u64 f))) (fun _ => by kernel_rfl) (fun w M => c_num2 (cv .u64 f) w M.laid) ?_
      intro u6 M
      refine pl_nil ?_
      refine au_then ?_
      refine ⟨M, ?_⟩
      exact hA _ _ _ _ (s16 _ _ (x_25) _ (by kernel_rfl) (by kernel_rfl) M)
    · skip
      refine pl_mk M (want_no rfl) (some 20) rfl (fun g5 => .slice (some ⟨g5, 0, none⟩) 8 8) (.cells (av 8 (ls [.int .u8 0, .int .u8 0, .int .u8 0, .int .u8 0, .int .u8 0, .int .u8 0, .int .u8 0, .int .u8 0])) 5) (fun _ => by kernel_rfl) ?_
      intro g5 u6 M
      replace M : Mem ⟨w, []⟩ [⟨g1, .cells (av 4 (ls [.bool (v0), .int .u64 h0, .int .u64 l0, .int .u16 f])) 40⟩, ⟨g2, .cells (av 4 (ls [.bool (v1), .int .u64 h1, .int .u64 l1, .int .u16 g])) 40⟩, ⟨g3, .cells (av 9 (ls [.bool false, .int .u64 0, .int .u64 0, .bool false, .int .u64 0, .int .u64 0, .int .u8 0, .int .u8 0, .string ⟨#[]⟩])) 26⟩, ⟨g5, .cells (av 8 (ls [.int .u8 0, .int .u8 0, .int .u8 0, .int .u8 0, .int .u8 0, .int .u8 0, .int .u8 0, .int .u8 0])) 5⟩] u6 := M
      refine pl_nil ?_
      refine au_then ?_
      refine ⟨(M.drop (.cons_cons _ (.cons_cons _ (.cons_cons _ (.cons _ (.slnil)))))), ?_⟩
      exact hA _ _ _ _ (s18 _ _ g5 (x_25) _ (by kernel_rfl) (by kernel_rfl) M)
  have s1 : ∀ (a : Act) (l : Array Bool) (w0 : World), a = ⟨#[.agg (av 4 (ls [.bool (v0), .int .u64 h0, .int .u64 l0, .int .u16 f])), .agg (av 4 (ls [.bool (v1), .int .u64 h1, .int .u64 l1, .int .u16 g])), .int .u8 q, .string d, .pointer (some ⟨g1, 0, none⟩), .pointer (some ⟨g2, 0, none⟩), undef, undef, .pointer (some ⟨g3, 0, none⟩), .int .i64 0, undef, .pointer (some ⟨g1, 3, none⟩), .int .u16 f, .int .u64 (cv .u64 f), .string (be2 (cv .u64 f)), .pointer (some ⟨g2, 3, none⟩), .int .u16 g, .int .u64 (cv .u64 g), undef, undef, undef, undef, undef, undef, .int .u8 q, undef, undef, undef, undef, .string d, undef, undef, undef, undef, undef, undef, undef, undef, undef, undef], []⟩ → l = #[true, true, true, true, true, true, true, false, false, false, false, false, false, true, false, false, false, false, true, false, false] → Mem ⟨w, []⟩ [⟨g1, .cells (av 4 (ls [.bool (v0), .int .u64 h0, .int .u64 l0, .int .u16 f])) 40⟩, ⟨g2, .cells (av 4 (ls [.bool (v1), .int .u64 h1, .int .u64 l1, .int .u16 g])) 40⟩, ⟨g3, .cells (av 9 (ls [.bool false, .int .u64 0, .int .u64 0, .bool false, .int .u64 0, .int .u64 0, .int .u8 0, .int .u8 0, .string ⟨#[]⟩])) 26⟩] w0 → H 12 l a w0 := by
    intro a l   u0 ha hl M
    subst ha hl
    refine hB _ _ _ _ ?_
    refine hl_three 7 9 14 (by decide) (by decide) (by decide) (by kernel_rfl) rfl rfl rfl ?_ ?_ ?_
    · skip
      refine pl_call M (want_no rfl) (some 18) rfl 32 #[.int .u64 (cv .u64 g), .int .i64 2] (.string (be2 (cv .u64 g))) (fun _ => by kernel_rfl) (fun w M => c_num2 (cv .u64 g) w M.laid) ?_
      intro u6 M
      refine pl_nil ?_
      refine au_then ?_
      refine ⟨M, ?_⟩
      refine hl_val M 8 rfl (by decide) (by kernel_rfl) (by kernel_rfl) (want_no rfl) (some 19) rfl (.string ((be2 (cv .u64 f)) ++ (be2 (cv .u64 g)))) (fun w _ => (run_cat 9 9 _ _ rfl (be2 (cv .u64 f)) (be2 (cv .u64 g)) (by kernel_rfl) (by kernel_rfl) (by (try simp only [ByteArray.size_append, ByteArray.size_extract, be2_size, be4_size, be8_size, bs_size, sz_mk, List.size_toArray, List.length_cons, List.length_nil]); omega)) w) ?_
      exact hA _ _ _ _ (s4 _ _  _ (by kernel_rfl) (by kernel_rfl) M)
    · skip
      refine pl_mk M (want_no rfl) (some 20) rfl (fun g4 => .slice (some ⟨g4, 0, none⟩) 8 8) (.cells (av 8 (ls [.int .u8 0, .int .u8 0, .int .u8 0, .int .u8 0, .int .u8 0, .int .u8 0, .int .u8 0, .int .u8 0])) 5) (fun _ => by kernel_rfl) ?_
      intro g4 u6 M
      replace M : Mem ⟨w, []⟩ [⟨g1, .cells (av 4 (ls [.bool (v0), .int .u64 h0, .int .u64 l0, .int .u16 f])) 40⟩, ⟨g2, .cells (av 4 (ls [.bool (v1), .int .u64 h1, .int .u64 l1, .int .u16 g])) 40⟩, ⟨g3, .cells (av 9 (ls [.bool false, .int .u64 0, .int .u64 0, .bool false, .int .u64 0, .int .u64 0, .int .u8 0, .int .u8 0, .string ⟨#[]⟩])) 26⟩, ⟨g4, .cells (av 8 (ls [.int .u8 0, .int .u8 0, .int .u8 0, .int .u8 0, .int .u8 0, .int .u8 0, .int .u8 0, .int .u8 0])) 5⟩] u6 := M
      refine pl_nil ?_
      refine au_then ?_
      refine ⟨(M.drop (.cons_cons _ (.cons_cons _ (.cons_cons _ (.cons _ (.slnil)))))), ?_⟩
      exact hA _ _ _ _ (s5 _ _ g4 _ (by kernel_rfl) (by kernel_rfl) M)
    · skip
      refine pl_mk M (want_no rfl) (some 25) rfl (fun g4 => .slice (some ⟨g4, 0, none⟩) 1 1) (.cells (av 1 (ls [.int .u8 q])) 5) (fun _ => by kernel_rfl) ?_
      intro g4 u6 M
      replace M : Mem ⟨w, []⟩ [⟨g1, .cells (av 4 (ls [.bool (v0), .int .u64 h0, .int .u64 l0, .int .u16 f])) 40⟩, ⟨g2, .cells (av 4 (ls [.bool (v1), .int .u64 h1, .int .u64 l1, .int .u16 g])) 40⟩, ⟨g3, .cells (av 9 (ls [.bool false, .int .u64 0, .int .u64 0, .bool false, .int .u64 0, .int .u64 0, .int .u8 0, .int .u8 0, .string ⟨#[]⟩])) 26⟩, ⟨g4, .cells (av 1 (ls [.int .u8 q])) 5⟩] u6 := M
      refine pl_nil ?_
      refine au_then ?_
      refine ⟨(M.drop (.cons_cons _ (.cons_cons _ (.cons_cons _ (.cons _ (.slnil)))))), ?_⟩
      exact hA _ _ _ _ (s6 _ _ g4 _ (by kernel_rfl) (by kernel_rfl) M)
  have s2 : ∀ (a : Act) (l : Array Bool) (g4 : Nat) (w0 : World), a = ⟨#[.agg (av 4 (ls [.bool (v0), .int .u64 h0, .int .u64 l0, .int .u16 f])), .agg (av 4 (ls [.bool (v1), .int .u64 h1, .int .u64 l1, .int .u16 g])), .int .u8 q, .string d, .pointer (some ⟨g1, 0, none⟩), .pointer (some ⟨g2, 0, none⟩), undef, undef, .pointer (some ⟨g3, 0, none⟩), .int .i64 0, undef, .pointer (some ⟨g1, 3, none⟩), .int .u16 f, .int .u64 (cv .u64 f), undef, .pointer (some ⟨g2, 3, none⟩), .int .u16 g, .int .u64 (cv .u64 g), undef, undef, .slice (some ⟨g4, 0, none⟩) 8 8, undef, undef, undef, .int .u8 q, undef, undef, undef, undef, .string d, undef, undef, undef, undef, undef, undef, undef, undef, undef, undef], []⟩ → l = #[true, true, true, false, true, true, true, false, false, true, false, false, false, true, false, false, false, false, true, false, false] → Mem ⟨w, []⟩ [⟨g1, .cells (av 4 (ls [.bool (v0), .int .u64 h0, .int .u64 l0, .int .u16 f])) 40⟩, ⟨g2, .cells (av 4 (ls [.bool (v1), .int .u64 h1, .int .u64 l1, .int .u16 g])) 40⟩, ⟨g3, .cells (av 9 (ls [.bool false, .int .u64 0, .int .u64 0, .bool false, .int .u64 0, .int .u64 0, .int .u8 0, .int .u8 0, .string ⟨#[]⟩])) 26⟩, ⟨g4, .cells (av 8 (ls [.int .u8 0, .int .u8 0, .int .u8 0, .int .u8 0, .int .u8 0, .int .u8 0, .int .u8 0, .int .u8 0])) 5⟩] w0 → H 12 l a w0 := by
    intro a l g4  u0 ha hl M
    subst ha hl
    refine hB _ _ _ _ ?_
    refine hl_three 3 10 14 (by decide) (by decide) (by decide) (by kernel_rfl) rfl rfl rfl ?_ ?_ ?_
    · skip
      refine pl_call M (want_no rfl) (some 14) rfl 32 #[.int .u64 (cv .u64 f), .int .i64 2] (.string (be2 (cv .u64 f))) (fun _ => by kernel_rfl) (fun w M => c_num2 (cv .u64 f) w M.laid) ?_
      intro u6 M
      refine pl_nil ?_
      refine au_then ?_
      refine ⟨(M.drop (.cons_cons _ (.cons_cons _ (.cons_cons _ (.cons _ (.slnil)))))), ?_⟩
      exact hA _ _ _ _ (s5 _ _ g4 _ (by kernel_rfl) (by kernel_rfl) M)
    · skip
      refine pl_back M (want_no rfl) (some 21) rfl _ rfl 3 g4 8 8 (by kernel_rfl) _ rfl [0, 0, 0, 0, 0, 0, 0, 0] 8 (sb_ls [0, 0, 0, 0, 0, 0, 0, 0] _) rfl (by intro x hx; simp only [List.mem_cons, List.mem_nil_iff, or_false] at hx; rcases hx with rfl | rfl | rfl | rfl | rfl | rfl | rfl | rfl <;> omega) ?_
      refine pl_nil ?_
      refine au_then ?_
      refine ⟨(M.drop (.cons_cons _ (.cons_cons _ (.cons_cons _ (.cons _ (.slnil)))))), ?_⟩
      exact hA _ _ _ _ (s7 _ _ (.slice (some ⟨g4, 0, none⟩) 8 8) _ (by kernel_rfl) (by kernel_rfl) (M.drop (.cons_cons _ (.cons_cons _ (.cons_cons _ (.cons _ (.slnil)))))))
    · skip
      refine pl_mk M (want_no rfl) (some 25) rfl (fun g5 => .slice (some ⟨g5, 0, none⟩) 1 1) (.cells (av 1 (ls [.int .u8 q])) 5) (fun _ => by kernel_rfl) ?_
      intro g5 u6 M
      replace M : Mem ⟨w, []⟩ [⟨g1, .cells (av 4 (ls [.bool (v0), .int .u64 h0, .int .u64 l0, .int .u16 f])) 40⟩, ⟨g2, .cells (av 4 (ls [.bool (v1), .int .u64 h1, .int .u64 l1, .int .u16 g])) 40⟩, ⟨g3, .cells (av 9 (ls [.bool false, .int .u64 0, .int .u64 0, .bool false, .int .u64 0, .int .u64 0, .int .u8 0, .int .u8 0, .string ⟨#[]⟩])) 26⟩, ⟨g4, .cells (av 8 (ls [.int .u8 0, .int .u8 0, .int .u8 0, .int .u8 0, .int .u8 0, .int .u8 0, .int .u8 0, .int .u8 0])) 5⟩, ⟨g5, .cells (av 1 (ls [.int .u8 q])) 5⟩] u6 := M
      refine pl_nil ?_
      refine au_then ?_
      refine ⟨(M.drop (.cons_cons _ (.cons_cons _ (.cons_cons _ (.cons _ (.cons _ (.slnil))))))), ?_⟩
      exact hA _ _ _ _ (s8 _ _ g4 g5 _ (by kernel_rfl) (by kernel_rfl) M)
  have s3 : ∀ (a : Act) (l : Array Bool) (g4 : Nat) (w0 : World), a = ⟨#[.agg (av 4 (ls [.bool (v0), .int .u64 h0, .int .u64 l0, .int .u16 f])), .agg (av 4 (ls [.bool (v1), .int .u64 h1, .int .u64 l1, .int .u16 g])), .int .u8 q, .string d, .pointer (some ⟨g1, 0, none⟩), .pointer (some ⟨g2, 0, none⟩), undef, undef, .pointer (some ⟨g3, 0, none⟩), .int .i64 0, undef, .pointer (some ⟨g1, 3, none⟩), .int .u16 f, .int .u64 (cv .u64 f), undef, .pointer (some ⟨g2, 3, none⟩), .int .u16 g, .int .u64 (cv .u64 g), undef, undef, undef, undef, undef, undef, .int .u8 q, .slice (some ⟨g4, 0, none⟩) 1 1, undef, undef, undef, .string d, undef, undef, undef, undef, undef, undef, undef, undef, undef, undef], []⟩ → l = #[true, true, true, false, true, true, true, false, false, false, false, false, false, true, true, false, false, false, true, false, false] → Mem ⟨w, []⟩ [⟨g1, .cells (av 4 (ls [.bool (v0), .int .u64 h0, .int .u64 l0, .int .u16 f])) 40⟩, ⟨g2, .cells (av 4 (ls [.bool (v1), .int .u64 h1, .int .u64 l1, .int .u16 g])) 40⟩, ⟨g3, .cells (av 9 (ls [.bool false, .int .u64 0, .int .u64 0, .bool false, .int .u64 0, .int .u64 0, .int .u8 0, .int .u8 0, .string ⟨#[]⟩])) 26⟩, ⟨g4, .cells (av 1 (ls [.int .u8 q])) 5⟩] w0 → H 12 l a w0 := by
    intro a l g4  u0 ha hl M
    subst ha hl
    refine hB _ _ _ _ ?_
    refine hl_three 3 9 15 (by decide) (by decide) (by decide) (by kernel_rfl) rfl rfl rfl ?_ ?_ ?_
    · skip
      refine pl_call M (want_no rfl) (some 14) rfl 32 #[.int .u64 (cv .u64 f), .int .i64 2] (.string (be2 (cv .u64 f))) (fun _ => by kernel_rfl) (fun w M => c_num2 (cv .u64 f) w M.laid) ?_
      intro u6 M
      refine pl_nil ?_
      refine au_then ?_
      refine ⟨(M.drop (.cons_cons _ (.cons_cons _ (.cons_cons _ (.cons _ (.slnil)))))), ?_⟩
      exact hA _ _ _ _ (s6 _ _ g4 _ (by kernel_rfl) (by kernel_rfl) M)
    · skip
      refine pl_mk M (want_no rfl) (some 20) rfl (fun g5 => .slice (some ⟨g5, 0, none⟩) 8 8) (.cells (av 8 (ls [.int .u8 0, .int .u8 0, .int .u8 0, .int .u8 0, .int .u8 0, .int .u8 0, .int .u8 0, .int .u8 0])) 5) (fun _ => by kernel_rfl) ?_
      intro g5 u6 M
      replace M : Mem ⟨w, []⟩ [⟨g1, .cells (av 4 (ls [.bool (v0), .int .u64 h0, .int .u64 l0, .int .u16 f])) 40⟩, ⟨g2, .cells (av 4 (ls [.bool (v1), .int .u64 h1, .int .u64 l1, .int .u16 g])) 40⟩, ⟨g3, .cells (av 9 (ls [.bool false, .int .u64 0, .int .u64 0, .bool false, .int .u64 0, .int .u64 0, .int .u8 0, .int .u8 0, .string ⟨#[]⟩])) 26⟩, ⟨g4, .cells (av 1 (ls [.int .u8 q])) 5⟩, ⟨g5, .cells (av 8 (ls [.int .u8 0, .int .u8 0, .int .u8 0, .int .u8 0, .int .u8 0, .int .u8 0, .int .u8 0, .int .u8 0])) 5⟩] u6 := M
      refine pl_nil ?_
      refine au_then ?_
      refine ⟨(M.drop (.cons_cons _ (.cons_cons _ (.cons_cons _ (.cons _ (.cons _ (.slnil))))))), ?_⟩
      exact hA _ _ _ _ (s9 _ _ g4 g5 _ (by kernel_rfl) (by kernel_rfl) M)
    · skip
      refine pl_back M (want_no rfl) (some 26) rfl _ rfl 3 g4 1 1 (by kernel_rfl) _ rfl [q] 1 (sb_ls [q] _) rfl (by intro x hx; simp only [List.mem_cons, List.mem_nil_iff, or_false] at hx; subst hx; omega) ?_
      refine pl_nil ?_
      refine au_then ?_
      refine ⟨(M.drop (.cons_cons _ (.cons_cons _ (.cons_cons _ (.cons _ (.slnil)))))), ?_⟩
      exact hA _ _ _ _ (s10 _ _ (.slice (some ⟨g4, 0, none⟩) 1 1) _ (by kernel_rfl) (by kernel_rfl) (M.drop (.cons_cons _ (.cons_cons _ (.cons_cons _ (.cons _ (.slnil)))))))
  have s0 : ∀ (a : Act) (l : Array Bool) (w0 : World), a = ⟨#[.agg (av 4 (ls [.bool (v0), .int .u64 h0, .int .u64 l0, .int .u16 f])), .agg (av 4 (ls [.bool (v1), .int .u64 h1, .int .u64 l1, .int .u16 g])), .int .u8 q, .string d, .pointer (some ⟨g1, 0, none⟩), .pointer (some ⟨g2, 0, none⟩), undef, undef, .pointer (some ⟨g3, 0, none⟩), .int .i64 0, undef, .pointer (some ⟨g1, 3, none⟩), .int .u16 f, .int .u64 (cv .u64 f), undef, .pointer (some ⟨g2, 3, none⟩), .int .u16 g, .int .u64 (cv .u64 g), undef, undef, undef, undef, undef, undef, .int .u8 q, undef, undef, undef, undef, .string d, undef, undef, undef, undef, undef, undef, undef, undef, undef, undef], []⟩ → l = #[true, true, true, false, true, true, true, false, false, false, false, false, false, true, false, false, false, false, true, false, false] → Mem ⟨w, []⟩ [⟨g1, .cells (av 4 (ls [.bool (v0), .int .u64 h0, .int .u64 l0, .int .u16 f])) 40⟩, ⟨g2, .cells (av 4 (ls [.bool (v1), .int .u64 h1, .int .u64 l1, .int .u16 g])) 40⟩, ⟨g3, .cells (av 9 (ls [.bool false, .int .u64 0, .int .u64 0, .bool false, .int .u64 0, .int .u64 0, .int .u8 0, .int .u8 0, .string ⟨#[]⟩])) 26⟩] w0 → H 13 l a w0 := by
    intro a l   u0 ha hl M
    subst ha hl
    refine hB _ _ _ _ ?_
    refine hl_three 3 9 14 (by decide) (by decide) (by decide) (by kernel_rfl) rfl rfl rfl ?_ ?_ ?_
    · skip
      refine pl_call M (want_no rfl) (some 14) rfl 32 #[.int .u64 (cv .u64 f), .int .i64 2] (.string (be2 (cv .u64 f))) (fun _ => by kernel_rfl) (fun w M => c_num2 (cv .u64 f) w M.laid) ?_
      intro u5 M
      refine pl_nil ?_
      refine au_then ?_
      refine ⟨M, ?_⟩
      exact hA _ _ _ _ (s1 _ _  _ (by kernel_rfl) (by kernel_rfl) M)
    · skip
      refine pl_mk M (want_no rfl) (some 20) rfl (fun g4 => .slice (some ⟨g4, 0, none⟩) 8 8) (.cells (av 8 (ls [.int .u8 0, .int .u8 0, .int .u8 0, .int .u8 0, .int .u8 0, .int .u8 0, .int .u8 0, .int .u8 0])) 5) (fun _ => by kernel_rfl) ?_
      intro g4 u5 M
      replace M : Mem ⟨w, []⟩ [⟨g1, .cells (av 4 (ls [.bool (v0), .int .u64 h0, .int .u64 l0, .int .u16 f])) 40⟩, ⟨g2, .cells (av 4 (ls [.bool (v1), .int .u64 h1, .int .u64 l1, .int .u16 g])) 40⟩, ⟨g3, .cells (av 9 (ls [.bool false, .int .u64 0, .int .u64 0, .bool false, .int .u64 0, .int .u64 0, .int .u8 0, .int .u8 0, .string ⟨#[]⟩])) 26⟩, ⟨g4, .cells (av 8 (ls [.int .u8 0, .int .u8 0, .int .u8 0, .int .u8 0, .int .u8 0, .int .u8 0, .int .u8 0, .int .u8 0])) 5⟩] u5 := M
      refine pl_nil ?_
      refine au_then ?_
      refine ⟨(M.drop (.cons_cons _ (.cons_cons _ (.cons_cons _ (.cons _ (.slnil)))))), ?_⟩
      exact hA _ _ _ _ (s2 _ _ g4 _ (by kernel_rfl) (by kernel_rfl) M)
    · skip
      refine pl_mk M (want_no rfl) (some 25) rfl (fun g4 => .slice (some ⟨g4, 0, none⟩) 1 1) (.cells (av 1 (ls [.int .u8 q])) 5) (fun _ => by kernel_rfl) ?_
      intro g4 u5 M
      replace M : Mem ⟨w, []⟩ [⟨g1, .cells (av 4 (ls [.bool (v0), .int .u64 h0, .int .u64 l0, .int .u16 f])) 40⟩, ⟨g2, .cells (av 4 (ls [.bool (v1), .int .u64 h1, .int .u64 l1, .int .u16 g])) 40⟩, ⟨g3, .cells (av 9 (ls [.bool false, .int .u64 0, .int .u64 0, .bool false, .int .u64 0, .int .u64 0, .int .u8 0, .int .u8 0, .string ⟨#[]⟩])) 26⟩, ⟨g4, .cells (av 1 (ls [.int .u8 q])) 5⟩] u5 := M
      refine pl_nil ?_
      refine au_then ?_
      refine ⟨(M.drop (.cons_cons _ (.cons_cons _ (.cons_cons _ (.cons _ (.slnil)))))), ?_⟩
      exact hA _ _ _ _ (s3 _ _ g4 _ (by kernel_rfl) (by kernel_rfl) M)
  exact s0 _ _  _ (by kernel_rfl) (by kernel_rfl) M

set_option maxRecDepth 100000 in
set_option maxHeartbeats 4000000 in
set_option linter.unusedSimpArgs false in
theorem d_EchoT (v0 : Bool) (h0 l0 : Int) (v1 : Bool) (h1 l1 : Int) (f : Int) (d : ByteArray) (hd : d.size ≤ 8192) (w : World) (hL : Laid w)  :
    Calls Try.prog 19 #[.agg (av 3 (ls [.bool (v0), .int .u64 h0, .int .u64 l0])), .agg (av 3 (ls [.bool (v1), .int .u64 h1, .int .u64 l1])), .int .u16 f, .bool true, .string d] w fun r w' => r = .returned (.tuple #[.agg (av 9 (ls [.bool (zB (pkE v0 h0 l0 v1 h1 l1 (ehA (kO (eP v0) true)) (ehB f d)) v0), .int .u64 (zI (pkE v0 h0 l0 v1 h1 l1 (ehA (kO (eP v0) true)) (ehB f d)) h0), .int .u64 (zI (pkE v0 h0 l0 v1 h1 l1 (ehA (kO (eP v0) true)) (ehB f d)) l0), .bool (zB (pkE v0 h0 l0 v1 h1 l1 (ehA (kO (eP v0) true)) (ehB f d)) v1), .int .u64 (zI (pkE v0 h0 l0 v1 h1 l1 (ehA (kO (eP v0) true)) (ehB f d)) h1), .int .u64 (zI (pkE v0 h0 l0 v1 h1 l1 (ehA (kO (eP v0) true)) (ehB f d)) l1), .int .u8 (zI (pkE v0 h0 l0 v1 h1 l1 (ehA (kO (eP v0) true)) (ehB f d)) (eP v0)), .int .u8 (zI (pkE v0 h0 l0 v1 h1 l1 (ehA (kO (eP v0) true)) (ehB f d)) 64), .string (zS (pkE v0 h0 l0 v1 h1 l1 (ehA (kO (eP v0) true)) (ehB f d)) (pkO v0 h0 l0 v1 h1 l1 (eP v0) (ehA (kO (eP v0) true)) (ehB f d)))])), .int .i64 (pkE v0 h0 l0 v1 h1 l1 (ehA (kO (eP v0) true)) (ehB f d))]) ∧ Below w.heap.size w w' := by
  go_enter Try.func19, Try.ntmps19
  have M := Mem.start hL
  refine wp_seq ?_
  refine rg_lit ?_
  refine pl_new M (want_no rfl) (some 5) rfl (.cells (av 3 (ls [.bool (v0), .int .u64 h0, .int .u64 l0])) 24) (fun _ => by kernel_rfl) ?_
  intro g1 u1 M
  replace M : Mem ⟨w, []⟩ [⟨g1, .cells (av 3 (ls [.bool (v0), .int .u64 h0, .int .u64 l0])) 24⟩] u1 := M
  refine pl_new M (want_no rfl) (some 6) rfl (.cells (av 3 (ls [.bool (v1), .int .u64 h1, .int .u64 l1])) 24) (fun _ => by kernel_rfl) ?_
  intro g2 u2 M
  replace M : Mem ⟨w, []⟩ [⟨g1, .cells (av 3 (ls [.bool (v0), .int .u64 h0, .int .u64 l0])) 24⟩, ⟨g2, .cells (av 3 (ls [.bool (v1), .int .u64 h1, .int .u64 l1])) 24⟩] u2 := M
  refine pl_new M (want_no rfl) (some 10) rfl (.cells (av 9 (ls [.bool false, .int .u64 0, .int .u64 0, .bool false, .int .u64 0, .int .u64 0, .int .u8 0, .int .u8 0, .string ⟨#[]⟩])) 26) (fun _ => by kernel_rfl) ?_
  intro g3 u3 M
  replace M : Mem ⟨w, []⟩ [⟨g1, .cells (av 3 (ls [.bool (v0), .int .u64 h0, .int .u64 l0])) 24⟩, ⟨g2, .cells (av 3 (ls [.bool (v1), .int .u64 h1, .int .u64 l1])) 24⟩, ⟨g3, .cells (av 9 (ls [.bool false, .int .u64 0, .int .u64 0, .bool false, .int .u64 0, .int .u64 0, .int .u8 0, .int .u8 0, .string ⟨#[]⟩])) 26⟩] u3 := M
  refine pl_val (want_no rfl) (some 11) rfl (.int .i64 0) (fun _ => by kernel_rfl) ?_
  refine pl_nil ?_
  refine au_then ?_
  refine wp_seq ?_
  refine rg_lit ?_
  refine pl_val (want_no rfl) (some 12) rfl (.int .u8 8) (fun _ => by kernel_rfl) ?_
  refine pl_nil ?_
  refine au_then ?_
  refine wp_seq ?_
  refine rg_lit ?_
  refine pl_val (want_no rfl) (some 13) rfl (.int .u8 1) (fun _ => by kernel_rfl) ?_
  refine pl_nil ?_
  refine au_then ?_
  refine wp_seq ?_
  refine wp_seq ?_
  refine rg_lit ?_
  refine pl_val (want_no rfl) (some 15) rfl (.bool true) (fun _ => by kernel_rfl) ?_
  refine pl_nil ?_
  refine au_then ?_
  refine wp_cond_true (by kernel_rfl) ?_
  refine rg_lit ?_
  refine pl_val (want_no rfl) (some 12) rfl (.int .u8 0) (fun _ => by kernel_rfl) ?_
  refine pl_nil ?_
  refine au_then ?_
  refine wp_seq ?_
  refine wp_seq ?_
  refine rg_lit ?_
  refine pl_val (want_no rfl) (some 16) rfl (.pointer (some ⟨g1, 0, none⟩)) (fun _ => by kernel_rfl) ?_
  rcases Bool.eq_false_or_eq_true (v0) with c0 | c0
  · skip
    refine pl_cell M (want_no rfl) (some 17) rfl 4 _ rfl g1 0 (by kernel_rfl) (.bool true) (fun _ => by kernel_rfl) (fun w M => M.cell 0 rfl (by decide) (congrArg Value.bool c0)) ?_
    refine pl_nil ?_
    refine au_then ?_
    refine wp_cond_true (by kernel_rfl) ?_
    refine wp_seq ?_
    refine rg_lit ?_
    refine pl_val (want_no rfl) (some 12) rfl (.int .u8 128) (fun _ => by kernel_rfl) ?_
    refine pl_nil ?_
    refine au_then ?_
    refine wp_seq ?_
    refine rg_lit ?_
    refine pl_val (want_no rfl) (some 13) rfl (.int .u8 58) (fun _ => by kernel_rfl) ?_
    refine pl_nil ?_
    refine au_then ?_
    refine wp_seq ?_
    refine rg_lit ?_
    refine pl_val (want_no rfl) (some 18) rfl (.bool true) (fun _ => by kernel_rfl) ?_
    refine pl_nil ?_
    refine au_then ?_
    refine wp_cond_true (by kernel_rfl) ?_
    refine rg_lit ?_
    refine pl_val (want_no rfl) (some 12) rfl (.int .u8 129) (fun _ => by kernel_rfl) ?_
    refine pl_nil ?_
    refine au_then ?_
    refine wp_seq ?_
    refine rg_held M [⟨g1, .cells (av 3 (ls [.bool (v0), .int .u64 h0, .int .u64 l0])) 24⟩, ⟨g2, .cells (av 3 (ls [.bool (v1), .int .u64 h1, .int .u64 l1])) 24⟩, ⟨g3, .cells (av 9 (ls [.bool false, .int .u64 0, .int .u64 0, .bool false, .int .u64 0, .int .u64 0, .int .u8 0, .int .u8 0, .string ⟨#[]⟩])) 26⟩] 11 rfl (by kernel_rfl) (by kernel_rfl) (fun _ _ d _ _ h => by cases d <;> exact h) ?_
    intro u4 M
    replace M : Mem ⟨w, []⟩ [⟨g1, .cells (av 3 (ls [.bool (v0), .int .u64 h0, .int .u64 l0])) 24⟩, ⟨g2, .cells (av 3 (ls [.bool (v1), .int .u64 h1, .int .u64 l1])) 24⟩, ⟨g3, .cells (av 9 (ls [.bool false, .int .u64 0, .int .u64 0, .bool false, .int .u64 0, .int .u64 0, .int .u8 0, .int .u8 0, .string ⟨#[]⟩])) 26⟩] u4 := M
    refine hl_val M 0 rfl (by decide) (by kernel_rfl) (by kernel_rfl) (want_no rfl) (some 19) rfl (.int .u8 129) (fun _ _ => by kernel_rfl) ?_
    refine hl_val M 4 rfl (by decide) (by kernel_rfl) (by kernel_rfl) (want_no rfl) (some 23) rfl (.int .u16 f) (fun _ _ => by kernel_rfl) ?_
    refine hl_val M 5 rfl (by decide) (by kernel_rfl) (by kernel_rfl) (want_no rfl) (some 24) rfl (.int .u64 (cv .u64 f)) (fun _ _ => by kernel_rfl) ?_
    refine hl_val M 9 rfl (by decide) (by kernel_rfl) (by kernel_rfl) (want_no rfl) (some 28) rfl (.string d) (fun _ _ => by kernel_rfl) ?_
    refine hl_name ?_
    intro H hA hB
    have s5 : ∀ (a : Act) (l : Array Bool) (x_20 : Value) (w0 : World), a = ⟨#[.agg (av 3 (ls [.bool (v0), .int .u64 h0, .int .u64 l0])), .agg (av 3 (ls [.bool (v1), .int .u64 h1, .int .u64 l1])), .int .u16 f, .bool true, .string d, .pointer (some ⟨g1, 0, none⟩), .pointer (some ⟨g2, 0, none⟩), undef, undef, undef, .pointer (some ⟨g3, 0, none⟩), .int .i64 0, .int .u8 129, .int .u8 58, undef, .bool true, .pointer (some ⟨g1, 0, none⟩), .bool true, .bool true, .int .u8 129, x_20, .string (bs [129]), .string ((bs [129]) ++ (⟨#[0, 0, 0]⟩ : ByteArray)), .int .u16 f, .int .u64 (cv .u64 f), .string (be2 (cv .u64 f)), .string (((bs [129]) ++ (⟨#[0, 0, 0]⟩ : ByteArray)) ++ (be2 (cv .u64 f))), .string ((((bs [129]) ++ (⟨#[0, 0, 0]⟩ : ByteArray)) ++ (be2 (cv .u64 f))) ++ (⟨#[0, 0]⟩ : ByteArray)), .string d, .string (((((bs [129]) ++ (⟨#[0, 0, 0]⟩ : ByteArray)) ++ (be2 (cv .u64 f))) ++ (⟨#[0, 0]⟩ : ByteArray)) ++ d), undef, undef, undef, undef, undef, undef, undef, undef], []⟩ → l = #[true, true, true, true, true, true, true, true, true, true, true, false] → Mem ⟨w, []⟩ [⟨g1, .cells (av 3 (ls [.bool (v0), .int .u64 h0, .int .u64 l0])) 24⟩, ⟨g2, .cells (av 3 (ls [.bool (v1), .int .u64 h1, .int .u64 l1])) 24⟩, ⟨g3, .cells (av 9 (ls [.bool false, .int .u64 0, .int .u64 0, .bool false, .int .u64 0, .int .u64 0, .int .u8 0, .int .u8 0, .string ⟨#[]⟩])) 26⟩] w0 → H 1 l a w0 := by
      intro a l  x_20 u0 ha hl M
      subst ha hl
      refine hB _ _ _ _ ?_
      refine hl_end (by kernel_rfl) (by kernel_rfl) rfl ?_
      refine pl_val (want_no rfl) (some 14) rfl (.string (((((bs [129]) ++ (⟨#[0, 0, 0]⟩ : ByteArray)) ++ (be2 (cv .u64 f))) ++ (⟨#[0, 0]⟩ : ByteArray)) ++ d)) (fun _ => by kernel_rfl) ?_
      refine pl_nil ?_
      refine au_then ?_
      refine au_then ?_
      refine wp_seq ?_
      refine rg_lit ?_
      refine pl_load M (want_no rfl) (some 30) rfl 24 _ rfl 0 g1 0 (by kernel_rfl) 3 24 (ls [.bool (v0), .int .u64 h0, .int .u64 l0]) rfl 3 (ls [.bool (v0), .int .u64 h0, .int .u64 l0]) (fun j _ => by rw [Nat.zero_add]) (by decide) _ Try.underlying24 rfl inz24 ?_
      refine pl_load M (want_no rfl) (some 31) rfl 24 _ rfl 1 g2 0 (by kernel_rfl) 3 24 (ls [.bool (v1), .int .u64 h1, .int .u64 l1]) rfl 3 (ls [.bool (v1), .int .u64 h1, .int .u64 l1]) (fun j _ => by rw [Nat.zero_add]) (by decide) _ Try.underlying24 rfl inz24 ?_
      refine pl_val (want_no rfl) (some 32) rfl (.int .u8 58) (fun _ => by kernel_rfl) ?_
      refine pl_val (want_no rfl) (some 33) rfl (.string (((((bs [129]) ++ (⟨#[0, 0, 0]⟩ : ByteArray)) ++ (be2 (cv .u64 f))) ++ (⟨#[0, 0]⟩ : ByteArray)) ++ d)) (fun _ => by kernel_rfl) ?_
      refine pl_val (want_no rfl) (some 34) rfl (.agg (av 9 (ls [.bool (v0), .int .u64 h0, .int .u64 l0, .bool (v1), .int .u64 h1, .int .u64 l1, .int .u8 58, .int .u8 64, .string (((((bs [129]) ++ (⟨#[0, 0, 0]⟩ : ByteArray)) ++ (be2 (cv .u64 f))) ++ (⟨#[0, 0]⟩ : ByteArray)) ++ d)]))) (fun _ => by kernel_rfl) ?_
      refine pl_call M (want_no rfl) (some 35) rfl 33 #[.agg (av 9 (ls [.bool (v0), .int .u64 h0, .int .u64 l0, .bool (v1), .int .u64 h1, .int .u64 l1, .int .u8 58, .int .u8 64, .string (((((bs [129]) ++ (⟨#[0, 0, 0]⟩ : ByteArray)) ++ (be2 (cv .u64 f))) ++ (⟨#[0, 0]⟩ : ByteArray)) ++ d)])), .int .i64 2] (.tuple #[.agg (av 9 (ls [.bool (zB (pkE v0 h0 l0 v1 h1 l1 (ehA (kO (eP v0) true)) (ehB f d)) v0), .int .u64 (zI (pkE v0 h0 l0 v1 h1 l1 (ehA (kO (eP v0) true)) (ehB f d)) h0), .int .u64 (zI (pkE v0 h0 l0 v1 h1 l1 (ehA (kO (eP v0) true)) (ehB f d)) l0), .bool (zB (pkE v0 h0 l0 v1 h1 l1 (ehA (kO (eP v0) true)) (ehB f d)) v1), .int .u64 (zI (pkE v0 h0 l0 v1 h1 l1 (ehA (kO (eP v0) true)) (ehB f d)) h1), .int .u64 (zI (pkE v0 h0 l0 v1 h1 l1 (ehA (kO (eP v0) true)) (ehB f d)) l1), .int .u8 (zI (pkE v0 h0 l0 v1 h1 l1 (ehA (kO (eP v0) true)) (ehB f d)) (eP v0)), .int .u8 (zI (pkE v0 h0 l0 v1 h1 l1 (ehA (kO (eP v0) true)) (ehB f d)) 64), .string (zS (pkE v0 h0 l0 v1 h1 l1 (ehA (kO (eP v0) true)) (ehB f d)) (pkO v0 h0 l0 v1 h1 l1 (eP v0) (ehA (kO (eP v0) true)) (ehB f d)))])), .int .i64 (pkE v0 h0 l0 v1 h1 l1 (ehA (kO (eP v0) true)) (ehB f d))]) (fun _ => by kernel_rfl) (fun w M => call_val (d_made v0 h0 l0 v1 h1 l1 58 (((((bs [129]) ++ (⟨#[0, 0, 0]⟩ : ByteArray)) ++ (be2 (cv .u64 f))) ++ (⟨#[0, 0]⟩ : ByteArray)) ++ d) (ehA 129) (ehB f d) 2 (ehA_size _).symm (eh_doc 129 f d) (by (try simp only [ByteArray.size_append, ByteArray.size_extract, be2_size, be4_size, be8_size, bs_size, sz_mk, List.size_toArray, List.length_cons, List.length_nil]); omega) (by omega) w M.laid) (by rw [show eP v0 = 58 by rw [c0]; rfl, show kO 58 true = 129 by decide, eh_doc 129 f d]; rfl)) ?_
      intro u7 M
      refine pl_val (want_no rfl) (some 36) rfl (.agg (av 9 (ls [.bool (zB (pkE v0 h0 l0 v1 h1 l1 (ehA (kO (eP v0) true)) (ehB f d)) v0), .int .u64 (zI (pkE v0 h0 l0 v1 h1 l1 (ehA (kO (eP v0) true)) (ehB f d)) h0), .int .u64 (zI (pkE v0 h0 l0 v1 h1 l1 (ehA (kO (eP v0) true)) (ehB f d)) l0), .bool (zB (pkE v0 h0 l0 v1 h1 l1 (ehA (kO (eP v0) true)) (ehB f d)) v1), .int .u64 (zI (pkE v0 h0 l0 v1 h1 l1 (ehA (kO (eP v0) true)) (ehB f d)) h1), .int .u64 (zI (pkE v0 h0 l0 v1 h1 l1 (ehA (kO (eP v0) true)) (ehB f d)) l1), .int .u8 (zI (pkE v0 h0 l0 v1 h1 l1 (ehA (kO (eP v0) true)) (ehB f d)) (eP v0)), .int .u8 (zI (pkE v0 h0 l0 v1 h1 l1 (ehA (kO (eP v0) true)) (ehB f d)) 64), .string (zS (pkE v0 h0 l0 v1 h1 l1 (ehA (kO (eP v0) true)) (ehB f d)) (pkO v0 h0 l0 v1 h1 l1 (eP v0) (ehA (kO (eP v0) true)) (ehB f d)))]))) (fun _ => by kernel_rfl) ?_
      refine pl_val (want_no rfl) (some 37) rfl (.int .i64 (pkE v0 h0 l0 v1 h1 l1 (ehA (kO (eP v0) true)) (ehB f d))) (fun _ => by kernel_rfl) ?_
      refine pl_put M (want_no rfl) rfl 26 _ _ rfl 2 g3 0 (by kernel_rfl) 9 26 (ls [.bool false, .int .u64 0, .int .u64 0, .bool false, .int .u64 0, .int .u64 0, .int .u8 0, .int .u8 0, .string ⟨#[]⟩]) rfl 9 (ls [.bool (zB (pkE v0 h0 l0 v1 h1 l1 (ehA (kO (eP v0) true)) (ehB f d)) v0), .int .u64 (zI (pkE v0 h0 l0 v1 h1 l1 (ehA (kO (eP v0) true)) (ehB f d)) h0), .int .u64 (zI (pkE v0 h0 l0 v1 h1 l1 (ehA (kO (eP v0) true)) (ehB f d)) l0), .bool (zB (pkE v0 h0 l0 v1 h1 l1 (ehA (kO (eP v0) true)) (ehB f d)) v1), .int .u64 (zI (pkE v0 h0 l0 v1 h1 l1 (ehA (kO (eP v0) true)) (ehB f d)) h1), .int .u64 (zI (pkE v0 h0 l0 v1 h1 l1 (ehA (kO (eP v0) true)) (ehB f d)) l1), .int .u8 (zI (pkE v0 h0 l0 v1 h1 l1 (ehA (kO (eP v0) true)) (ehB f d)) (eP v0)), .int .u8 (zI (pkE v0 h0 l0 v1 h1 l1 (ehA (kO (eP v0) true)) (ehB f d)) 64), .string (zS (pkE v0 h0 l0 v1 h1 l1 (ehA (kO (eP v0) true)) (ehB f d)) (pkO v0 h0 l0 v1 h1 l1 (eP v0) (ehA (kO (eP v0) true)) (ehB f d)))]) (ls [.bool (zB (pkE v0 h0 l0 v1 h1 l1 (ehA (kO (eP v0) true)) (ehB f d)) v0), .int .u64 (zI (pkE v0 h0 l0 v1 h1 l1 (ehA (kO (eP v0) true)) (ehB f d)) h0), .int .u64 (zI (pkE v0 h0 l0 v1 h1 l1 (ehA (kO (eP v0) true)) (ehB f d)) l0), .bool (zB (pkE v0 h0 l0 v1 h1 l1 (ehA (kO (eP v0) true)) (ehB f d)) v1), .int .u64 (zI (pkE v0 h0 l0 v1 h1 l1 (ehA (kO (eP v0) true)) (ehB f d)) h1), .int .u64 (zI (pkE v0 h0 l0 v1 h1 l1 (ehA (kO (eP v0) true)) (ehB f d)) l1), .int .u8 (zI (pkE v0 h0 l0 v1 h1 l1 (ehA (kO (eP v0) true)) (ehB f d)) (eP v0)), .int .u8 (zI (pkE v0 h0 l0 v1 h1 l1 (ehA (kO (eP v0) true)) (ehB f d)) 64), .string (zS (pkE v0 h0 l0 v1 h1 l1 (ehA (kO (eP v0) true)) (ehB f d)) (pkO v0 h0 l0 v1 h1 l1 (eP v0) (ehA (kO (eP v0) true)) (ehB f d)))]) (by kernel_rfl) inz26 (by decide) (one_ls _ rfl) (fun j hj => by rw [if_pos (by omega), Nat.sub_zero]) ?_
      intro u8 M
      replace M : Mem ⟨w, []⟩ [⟨g1, .cells (av 3 (ls [.bool (v0), .int .u64 h0, .int .u64 l0])) 24⟩, ⟨g2, .cells (av 3 (ls [.bool (v1), .int .u64 h1, .int .u64 l1])) 24⟩, ⟨g3, .cells (av 9 (ls [.bool (zB (pkE v0 h0 l0 v1 h1 l1 (ehA (kO (eP v0) true)) (ehB f d)) v0), .int .u64 (zI (pkE v0 h0 l0 v1 h1 l1 (ehA (kO (eP v0) true)) (ehB f d)) h0), .int .u64 (zI (pkE v0 h0 l0 v1 h1 l1 (ehA (kO (eP v0) true)) (ehB f d)) l0), .bool (zB (pkE v0 h0 l0 v1 h1 l1 (ehA (kO (eP v0) true)) (ehB f d)) v1), .int .u64 (zI (pkE v0 h0 l0 v1 h1 l1 (ehA (kO (eP v0) true)) (ehB f d)) h1), .int .u64 (zI (pkE v0 h0 l0 v1 h1 l1 (ehA (kO (eP v0) true)) (ehB f d)) l1), .int .u8 (zI (pkE v0 h0 l0 v1 h1 l1 (ehA (kO (eP v0) true)) (ehB f d)) (eP v0)), .int .u8 (zI (pkE v0 h0 l0 v1 h1 l1 (ehA (kO (eP v0) true)) (ehB f d)) 64), .string (zS (pkE v0 h0 l0 v1 h1 l1 (ehA (kO (eP v0) true)) (ehB f d)) (pkO v0 h0 l0 v1 h1 l1 (eP v0) (ehA (kO (eP v0) true)) (ehB f d)))])) 26⟩] u8 := M
      refine pl_val (want_no rfl) (some 11) rfl (.int .i64 (pkE v0 h0 l0 v1 h1 l1 (ehA (kO (eP v0) true)) (ehB f d))) (fun _ => by kernel_rfl) ?_
      refine pl_nil ?_
      refine au_then ?_
      refine wp_ret ?_
      exact bodyPost_ret (v := .tuple #[.agg (av 9 (ls [.bool (zB (pkE v0 h0 l0 v1 h1 l1 (ehA (kO (eP v0) true)) (ehB f d)) v0), .int .u64 (zI (pkE v0 h0 l0 v1 h1 l1 (ehA (kO (eP v0) true)) (ehB f d)) h0), .int .u64 (zI (pkE v0 h0 l0 v1 h1 l1 (ehA (kO (eP v0) true)) (ehB f d)) l0), .bool (zB (pkE v0 h0 l0 v1 h1 l1 (ehA (kO (eP v0) true)) (ehB f d)) v1), .int .u64 (zI (pkE v0 h0 l0 v1 h1 l1 (ehA (kO (eP v0) true)) (ehB f d)) h1), .int .u64 (zI (pkE v0 h0 l0 v1 h1 l1 (ehA (kO (eP v0) true)) (ehB f d)) l1), .int .u8 (zI (pkE v0 h0 l0 v1 h1 l1 (ehA (kO (eP v0) true)) (ehB f d)) (eP v0)), .int .u8 (zI (pkE v0 h0 l0 v1 h1 l1 (ehA (kO (eP v0) true)) (ehB f d)) 64), .string (zS (pkE v0 h0 l0 v1 h1 l1 (ehA (kO (eP v0) true)) (ehB f d)) (pkO v0 h0 l0 v1 h1 l1 (eP v0) (ehA (kO (eP v0) true)) (ehB f d)))])), .int .i64 (pkE v0 h0 l0 v1 h1 l1 (ehA (kO (eP v0) true)) (ehB f d))]) (results_cell_tmp Try.results19 _ _ g3 26 (av 9 (ls [.bool (zB (pkE v0 h0 l0 v1 h1 l1 (ehA (kO (eP v0) true)) (ehB f d)) v0), .int .u64 (zI (pkE v0 h0 l0 v1 h1 l1 (ehA (kO (eP v0) true)) (ehB f d)) h0), .int .u64 (zI (pkE v0 h0 l0 v1 h1 l1 (ehA (kO (eP v0) true)) (ehB f d)) l0), .bool (zB (pkE v0 h0 l0 v1 h1 l1 (ehA (kO (eP v0) true)) (ehB f d)) v1), .int .u64 (zI (pkE v0 h0 l0 v1 h1 l1 (ehA (kO (eP v0) true)) (ehB f d)) h1), .int .u64 (zI (pkE v0 h0 l0 v1 h1 l1 (ehA (kO (eP v0) true)) (ehB f d)) l1), .int .u8 (zI (pkE v0 h0 l0 v1 h1 l1 (ehA (kO (eP v0) true)) (ehB f d)) (eP v0)), .int .u8 (zI (pkE v0 h0 l0 v1 h1 l1 (ehA (kO (eP v0) true)) (ehB f d)) 64), .string (zS (pkE v0 h0 l0 v1 h1 l1 (ehA (kO (eP v0) true)) (ehB f d)) (pkO v0 h0 l0 v1 h1 l1 (eP v0) (ehA (kO (eP v0) true)) (ehB f d)))])) (0, 0) _ _ (by kernel_rfl) (by kernel_rfl) (M.get 2 rfl) Try.underlying26 rfl (by rw [av_size]; exact inz26)) (by kernel_rfl) ⟨rfl, below_grown M.old⟩
    have s3 : ∀ (a : Act) (l : Array Bool) (x_20 : Value) (w0 : World), a = ⟨#[.agg (av 3 (ls [.bool (v0), .int .u64 h0, .int .u64 l0])), .agg (av 3 (ls [.bool (v1), .int .u64 h1, .int .u64 l1])), .int .u16 f, .bool true, .string d, .pointer (some ⟨g1, 0, none⟩), .pointer (some ⟨g2, 0, none⟩), undef, undef, undef, .pointer (some ⟨g3, 0, none⟩), .int .i64 0, .int .u8 129, .int .u8 58, undef, .bool true, .pointer (some ⟨g1, 0, none⟩), .bool true, .bool true, .int .u8 129, x_20, .string (bs [129]), .string ((bs [129]) ++ (⟨#[0, 0, 0]⟩ : ByteArray)), .int .u16 f, .int .u64 (cv .u64 f), undef, undef, undef, .string d, undef, undef, undef, undef, undef, undef, undef, undef, undef], []⟩ → l = #[true, true, true, true, true, true, false, false, false, true, false, false] → Mem ⟨w, []⟩ [⟨g1, .cells (av 3 (ls [.bool (v0), .int .u64 h0, .int .u64 l0])) 24⟩, ⟨g2, .cells (av 3 (ls [.bool (v1), .int .u64 h1, .int .u64 l1])) 24⟩, ⟨g3, .cells (av 9 (ls [.bool false, .int .u64 0, .int .u64 0, .bool false, .int .u64 0, .int .u64 0, .int .u8 0, .int .u8 0, .string ⟨#[]⟩])) 26⟩] w0 → H 5 l a w0 := by
      intro a l  x_20 u0 ha hl M
      subst ha hl
      refine hB _ _ _ _ ?_
      refine hl_one 6 (by decide) (by kernel_rfl) rfl ?_
      refine pl_call M (want_no rfl) (some 25) rfl 32 #[.int .u64 (cv .u64 f), .int .i64 2] (.string (be2 (cv .u64 f))) (fun _ => by kernel_rfl) (fun w M => c_num2 (cv .u64 f) w M.laid) ?_
      intro u6 M
      refine pl_nil ?_
      refine au_then ?_
      refine ⟨M, ?_⟩
      refine hl_val M 7 rfl (by decide) (by kernel_rfl) (by kernel_rfl) (want_no rfl) (some 26) rfl (.string (((bs [129]) ++ (⟨#[0, 0, 0]⟩ : ByteArray)) ++ (be2 (cv .u64 f)))) (fun w _ => (run_cat 9 9 _ _ rfl ((bs [129]) ++ (⟨#[0, 0, 0]⟩ : ByteArray)) (be2 (cv .u64 f)) (by kernel_rfl) (by kernel_rfl) (by (try simp only [ByteArray.size_append, ByteArray.size_extract, be2_size, be4_size, be8_size, bs_size, sz_mk, List.size_toArray, List.length_cons, List.length_nil]); omega)) w) ?_
      refine hl_val M 8 rfl (by decide) (by kernel_rfl) (by kernel_rfl) (want_no rfl) (some 27) rfl (.string ((((bs [129]) ++ (⟨#[0, 0, 0]⟩ : ByteArray)) ++ (be2 (cv .u64 f))) ++ (⟨#[0, 0]⟩ : ByteArray))) (fun w _ => (run_cat 9 9 _ _ rfl (((bs [129]) ++ (⟨#[0, 0, 0]⟩ : ByteArray)) ++ (be2 (cv .u64 f))) ⟨#[0, 0]⟩ (by kernel_rfl) (by kernel_rfl) (by (try simp only [ByteArray.size_append, ByteArray.size_extract, be2_size, be4_size, be8_size, bs_size, sz_mk, List.size_toArray, List.length_cons, List.length_nil]); omega)) w) ?_
      refine hl_val M 10 rfl (by decide) (by kernel_rfl) (by kernel_rfl) (want_no rfl) (some 29) rfl (.string (((((bs [129]) ++ (⟨#[0, 0, 0]⟩ : ByteArray)) ++ (be2 (cv .u64 f))) ++ (⟨#[0, 0]⟩ : ByteArray)) ++ d)) (fun w _ => (run_cat 9 9 _ _ rfl ((((bs [129]) ++ (⟨#[0, 0, 0]⟩ : ByteArray)) ++ (be2 (cv .u64 f))) ++ (⟨#[0, 0]⟩ : ByteArray)) d (by kernel_rfl) (by kernel_rfl) (by (try simp only [ByteArray.size_append, ByteArray.size_extract, be2_size, be4_size, be8_size, bs_size, sz_mk, List.size_toArray, List.length_cons, List.length_nil]); omega)) w) ?_
      exact hA _ _ _ _ (s5 _ _ (x_20) _ (by kernel_rfl) (by kernel_rfl) M)
    have s4 : ∀ (a : Act) (l : Array Bool) (g4 : Nat) (w0 : World), a = ⟨#[.agg (av 3 (ls [.bool (v0), .int .u64 h0, .int .u64 l0])), .agg (av 3 (ls [.bool (v1), .int .u64 h1, .int .u64 l1])), .int .u16 f, .bool true, .string d, .pointer (some ⟨g1, 0, none⟩), .pointer (some ⟨g2, 0, none⟩), undef, undef, undef, .pointer (some ⟨g3, 0, none⟩), .int .i64 0, .int .u8 129, .int .u8 58, undef, .bool true, .pointer (some ⟨g1, 0, none⟩), .bool true, .bool true, .int .u8 129, .slice (some ⟨g4, 0, none⟩) 1 1, undef, undef, .int .u16 f, .int .u64 (cv .u64 f), .string (be2 (cv .u64 f)), undef, undef, .string d, undef, undef, undef, undef, undef, undef, undef, undef, undef], []⟩ → l = #[true, true, false, false, true, true, true, false, false, true, false, false] → Mem ⟨w, []⟩ [⟨g1, .cells (av 3 (ls [.bool (v0), .int .u64 h0, .int .u64 l0])) 24⟩, ⟨g2, .cells (av 3 (ls [.bool (v1), .int .u64 h1, .int .u64 l1])) 24⟩, ⟨g3, .cells (av 9 (ls [.bool false, .int .u64 0, .int .u64 0, .bool false, .int .u64 0, .int .u64 0, .int .u8 0, .int .u8 0, .string ⟨#[]⟩])) 26⟩, ⟨g4, .cells (av 1 (ls [.int .u8 129])) 5⟩] w0 → H 6 l a w0 := by
      intro a l g4  u0 ha hl M
      subst ha hl
      refine hB _ _ _ _ ?_
      refine hl_one 2 (by decide) (by kernel_rfl) rfl ?_
      refine pl_back M (want_no rfl) (some 21) rfl _ rfl 3 g4 1 1 (by kernel_rfl) _ rfl [129] 1 (sb_ls [129] _) rfl (by intro x hx; simp only [List.mem_cons, List.mem_nil_iff, or_false] at hx; subst hx; omega) ?_
      refine pl_nil ?_
      refine au_then ?_
      refine ⟨(M.drop (.cons_cons _ (.cons_cons _ (.cons_cons _ (.cons _ (.slnil)))))), ?_⟩
      refine hl_val (M.drop (.cons_cons _ (.cons_cons _ (.cons_cons _ (.cons _ (.slnil)))))) 3 rfl (by decide) (by kernel_rfl) (by kernel_rfl) (want_no rfl) (some 22) rfl (.string ((bs [129]) ++ (⟨#[0, 0, 0]⟩ : ByteArray))) (fun w _ => (run_cat 9 9 _ _ rfl (bs [129]) ⟨#[0, 0, 0]⟩ (by kernel_rfl) (by kernel_rfl) (by (try simp only [ByteArray.size_append, ByteArray.size_extract, be2_size, be4_size, be8_size, bs_size, sz_mk, List.size_toArray, List.length_cons, List.length_nil]); omega)) w) ?_
      refine hl_val (M.drop (.cons_cons _ (.cons_cons _ (.cons_cons _ (.cons _ (.slnil)))))) 7 rfl (by decide) (by kernel_rfl) (by kernel_rfl) (want_no rfl) (some 26) rfl (.string (((bs [129]) ++ (⟨#[0, 0, 0]⟩ : ByteArray)) ++ (be2 (cv .u64 f)))) (fun w _ => (run_cat 9 9 _ _ rfl ((bs [129]) ++ (⟨#[0, 0, 0]⟩ : ByteArray)) (be2 (cv .u64 f)) (by kernel_rfl) (by kernel_rfl) (by (try simp only [ByteArray.size_append, ByteArray.size_extract, be2_size, be4_size, be8_size, bs_size, sz_mk, List.size_toArray, List.length_cons, List.length_nil]); omega)) w) ?_
      refine hl_val (M.drop (.cons_cons _ (.cons_cons _ (.cons_cons _ (.cons _ (.slnil)))))) 8 rfl (by decide) (by kernel_rfl) (by kernel_rfl) (want_no rfl) (some 27) rfl (.string ((((bs [129]) ++ (⟨#[0, 0, 0]⟩ : ByteArray)) ++ (be2 (cv .u64 f))) ++ (⟨#[0, 0]⟩ : ByteArray))) (fun w _ => (run_cat 9 9 _ _ rfl (((bs [129]) ++ (⟨#[0, 0, 0]⟩ : ByteArray)) ++ (be2 (cv .u64 f))) ⟨#[0, 0]⟩ (by kernel_rfl) (by kernel_rfl) (by (try simp only [ByteArray.size_append, ByteArray.size_extract, be2_size, be4_size, be8_size, bs_size, sz_mk, List.size_toArray, List.length_cons, List.length_nil]); omega)) w) ?_
      refine hl_val (M.drop (.cons_cons _ (.cons_cons _ (.cons_cons _ (.cons _ (.slnil)))))) 10 rfl (by decide) (by kernel_rfl) (by kernel_rfl) (want_no rfl) (some 29) rfl (.string (((((bs [129]) ++ (⟨#[0, 0, 0]⟩ : ByteArray)) ++ (be2 (cv .u64 f))) ++ (⟨#[0, 0]⟩ : ByteArray)) ++ d)) (fun w _ => (run_cat 9 9 _ _ rfl ((((bs [129]) ++ (⟨#[0, 0, 0]⟩ : ByteArray)) ++ (be2 (cv .u64 f))) ++ (⟨#[0, 0]⟩ : ByteArray)) d (by kernel_rfl) (by kernel_rfl) (by (try simp only [ByteArray.size_append, ByteArray.size_extract, be2_size, be4_size, be8_size, bs_size, sz_mk, List.size_toArray, List.length_cons, List.length_nil]); omega)) w) ?_
      exact hA _ _ _ _ (s5 _ _ (.slice (some ⟨g4, 0, none⟩) 1 1) _ (by kernel_rfl) (by kernel_rfl) (M.drop (.cons_cons _ (.cons_cons _ (.cons_cons _ (.cons _ (.slnil)))))))
    have s1 : ∀ (a : Act) (l : Array Bool) (g4 : Nat) (w0 : World), a = ⟨#[.agg (av 3 (ls [.bool (v0), .int .u64 h0, .int .u64 l0])), .agg (av 3 (ls [.bool (v1), .int .u64 h1, .int .u64 l1])), .int .u16 f, .bool true, .string d, .pointer (some ⟨g1, 0, none⟩), .pointer (some ⟨g2, 0, none⟩), undef, undef, undef, .pointer (some ⟨g3, 0, none⟩), .int .i64 0, .int .u8 129, .int .u8 58, undef, .bool true, .pointer (some ⟨g1, 0, none⟩), .bool true, .bool true, .int .u8 129, .slice (some ⟨g4, 0, none⟩) 1 1, undef, undef, .int .u16 f, .int .u64 (cv .u64 f), undef, undef, undef, .string d, undef, undef, undef, undef, undef, undef, undef, undef, undef], []⟩ → l = #[true, true, false, false, true, true, false, false, false, true, false, false] → Mem ⟨w, []⟩ [⟨g1, .cells (av 3 (ls [.bool (v0), .int .u64 h0, .int .u64 l0])) 24⟩, ⟨g2, .cells (av 3 (ls [.bool (v1), .int .u64 h1, .int .u64 l1])) 24⟩, ⟨g3, .cells (av 9 (ls [.bool false, .int .u64 0, .int .u64 0, .bool false, .int .u64 0, .int .u64 0, .int .u8 0, .int .u8 0, .string ⟨#[]⟩])) 26⟩, ⟨g4, .cells (av 1 (ls [.int .u8 129])) 5⟩] w0 → H 7 l a w0 := by
      intro a l g4  u0 ha hl M
      subst ha hl
      refine hB _ _ _ _ ?_
      refine hl_two 2 6 (by decide) (by decide) (by kernel_rfl) rfl rfl ?_ ?_
      · skip
        refine pl_back M (want_no rfl) (some 21) rfl _ rfl 3 g4 1 1 (by kernel_rfl) _ rfl [129] 1 (sb_ls [129] _) rfl (by intro x hx; simp only [List.mem_cons, List.mem_nil_iff, or_false] at hx; subst hx; omega) ?_
        refine pl_nil ?_
        refine au_then ?_
        refine ⟨(M.drop (.cons_cons _ (.cons_cons _ (.cons_cons _ (.cons _ (.slnil)))))), ?_⟩
        refine hl_val (M.drop (.cons_cons _ (.cons_cons _ (.cons_cons _ (.cons _ (.slnil)))))) 3 rfl (by decide) (by kernel_rfl) (by kernel_rfl) (want_no rfl) (some 22) rfl (.string ((bs [129]) ++ (⟨#[0, 0, 0]⟩ : ByteArray))) (fun w _ => (run_cat 9 9 _ _ rfl (bs [129]) ⟨#[0, 0, 0]⟩ (by kernel_rfl) (by kernel_rfl) (by (try simp only [ByteArray.size_append, ByteArray.size_extract, be2_size, be4_size, be8_size, bs_size, sz_mk, List.size_toArray, List.length_cons, List.length_nil]); omega)) w) ?_
        exact hA _ _ _ _ (s3 _ _ (.slice (some ⟨g4, 0, none⟩) 1 1) _ (by kernel_rfl) (by kernel_rfl) (M.drop (.cons_cons _ (.cons_cons _ (.cons_cons _ (.cons _ (.slnil)))))))
      · skip
        refine pl_call M (want_no rfl) (some 25) rfl 32 #[.int .u64 (cv .u64 f), .int .i64 2] (.string (be2 (cv .u64 f))) (fun _ => by kernel_rfl) (fun w M => c_num2 (cv .u64 f) w M.laid) ?_
        intro u6 M
        refine pl_nil ?_
        refine au_then ?_
        refine ⟨(M.drop (.cons_cons _ (.cons_cons _ (.cons_cons _ (.cons _ (.slnil)))))), ?_⟩
        exact hA _ _ _ _ (s4 _ _ g4 _ (by kernel_rfl) (by kernel_rfl) M)
    have s2 : ∀ (a : Act) (l : Array Bool) (w0 : World), a = ⟨#[.agg (av 3 (ls [.bool (v0), .int .u64 h0, .int .u64 l0])), .agg (av 3 (ls [.bool (v1), .int .u64 h1, .int .u64 l1])), .int .u16 f, .bool true, .string d, .pointer (some ⟨g1, 0, none⟩), .pointer (some ⟨g2, 0, none⟩), undef, undef, undef, .pointer (some ⟨g3, 0, none⟩), .int .i64 0, .int .u8 129, .int .u8 58, undef, .bool true, .pointer (some ⟨g1, 0, none⟩), .bool true, .bool true, .int .u8 129, undef, undef, undef, .int .u16 f, .int .u64 (cv .u64 f), .string (be2 (cv .u64 f)), undef, undef, .string d, undef, undef, undef, undef, undef, undef, undef, undef, undef], []⟩ → l = #[true, false, false, false, true, true, true, false, false, true, false, false] → Mem ⟨w, []⟩ [⟨g1, .cells (av 3 (ls [.bool (v0), .int .u64 h0, .int .u64 l0])) 24⟩, ⟨g2, .cells (av 3 (ls [.bool (v1), .int .u64 h1, .int .u64 l1])) 24⟩, ⟨g3, .cells (av 9 (ls [.bool false, .int .u64 0, .int .u64 0, .bool false, .int .u64 0, .int .u64 0, .int .u8 0, .int .u8 0, .string ⟨#[]⟩])) 26⟩] w0 → H 7 l a w0 := by
      intro a l   u0 ha hl M
      subst ha hl
      refine hB _ _ _ _ ?_
      refine hl_one 1 (by decide) (by kernel_rfl) rfl ?_
      refine pl_mk M (want_no rfl) (some 20) rfl (fun g4 => .slice (some ⟨g4, 0, none⟩) 1 1) (.cells (av 1 (ls [.int .u8 129])) 5) (fun _ => by kernel_rfl) ?_
      intro g4 u6 M
      replace M : Mem ⟨w, []⟩ [⟨g1, .cells (av 3 (ls [.bool (v0), .int .u64 h0, .int .u64 l0])) 24⟩, ⟨g2, .cells (av 3 (ls [.bool (v1), .int .u64 h1, .int .u64 l1])) 24⟩, ⟨g3, .cells (av 9 (ls [.bool false, .int .u64 0, .int .u64 0, .bool false, .int .u64 0, .int .u64 0, .int .u8 0, .int .u8 0, .string ⟨#[]⟩])) 26⟩, ⟨g4, .cells (av 1 (ls [.int .u8 129])) 5⟩] u6 := M
      refine pl_nil ?_
      refine au_then ?_
      refine ⟨(M.drop (.cons_cons _ (.cons_cons _ (.cons_cons _ (.cons _ (.slnil)))))), ?_⟩
      exact hA _ _ _ _ (s4 _ _ g4 _ (by kernel_rfl) (by kernel_rfl) M)
    have s0 : ∀ (a : Act) (l : Array Bool) (w0 : World), a = ⟨#[.agg (av 3 (ls [.bool (v0), .int .u64 h0, .int .u64 l0])), .agg (av 3 (ls [.bool (v1), .int .u64 h1, .int .u64 l1])), .int .u16 f, .bool true, .string d, .pointer (some ⟨g1, 0, none⟩), .pointer (some ⟨g2, 0, none⟩), undef, undef, undef, .pointer (some ⟨g3, 0, none⟩), .int .i64 0, .int .u8 129, .int .u8 58, undef, .bool true, .pointer (some ⟨g1, 0, none⟩), .bool true, .bool true, .int .u8 129, undef, undef, undef, .int .u16 f, .int .u64 (cv .u64 f), undef, undef, undef, .string d, undef, undef, undef, undef, undef, undef, undef, undef, undef], []⟩ → l = #[true, false, false, false, true, true, false, false, false, true, false, false] → Mem ⟨w, []⟩ [⟨g1, .cells (av 3 (ls [.bool (v0), .int .u64 h0, .int .u64 l0])) 24⟩, ⟨g2, .cells (av 3 (ls [.bool (v1), .int .u64 h1, .int .u64 l1])) 24⟩, ⟨g3, .cells (av 9 (ls [.bool false, .int .u64 0, .int .u64 0, .bool false, .int .u64 0, .int .u64 0, .int .u8 0, .int .u8 0, .string ⟨#[]⟩])) 26⟩] w0 → H 8 l a w0 := by
      intro a l   u0 ha hl M
      subst ha hl
      refine hB _ _ _ _ ?_
      refine hl_two 1 6 (by decide) (by decide) (by kernel_rfl) rfl rfl ?_ ?_
      · skip
        refine pl_mk M (want_no rfl) (some 20) rfl (fun g4 => .slice (some ⟨g4, 0, none⟩) 1 1) (.cells (av 1 (ls [.int .u8 129])) 5) (fun _ => by kernel_rfl) ?_
        intro g4 u5 M
        replace M : Mem ⟨w, []⟩ [⟨g1, .cells (av 3 (ls [.bool (v0), .int .u64 h0, .int .u64 l0])) 24⟩, ⟨g2, .cells (av 3 (ls [.bool (v1), .int .u64 h1, .int .u64 l1])) 24⟩, ⟨g3, .cells (av 9 (ls [.bool false, .int .u64 0, .int .u64 0, .bool false, .int .u64 0, .int .u64 0, .int .u8 0, .int .u8 0, .string ⟨#[]⟩])) 26⟩, ⟨g4, .cells (av 1 (ls [.int .u8 129])) 5⟩] u5 := M
        refine pl_nil ?_
        refine au_then ?_
        refine ⟨(M.drop (.cons_cons _ (.cons_cons _ (.cons_cons _ (.cons _ (.slnil)))))), ?_⟩
        exact hA _ _ _ _ (s1 _ _ g4 _ (by kernel_rfl) (by kernel_rfl) M)
      · skip
        refine pl_call M (want_no rfl) (some 25) rfl 32 #[.int .u64 (cv .u64 f), .int .i64 2] (.string (be2 (cv .u64 f))) (fun _ => by kernel_rfl) (fun w M => c_num2 (cv .u64 f) w M.laid) ?_
        intro u5 M
        refine pl_nil ?_
        refine au_then ?_
        refine ⟨M, ?_⟩
        exact hA _ _ _ _ (s2 _ _  _ (by kernel_rfl) (by kernel_rfl) M)
    exact s0 _ _  _ (by kernel_rfl) (by kernel_rfl) M
  · skip
    refine pl_cell M (want_no rfl) (some 17) rfl 4 _ rfl g1 0 (by kernel_rfl) (.bool false) (fun _ => by kernel_rfl) (fun w M => M.cell 0 rfl (by decide) (congrArg Value.bool c0)) ?_
    refine pl_nil ?_
    refine au_then ?_
    refine wp_cond_false (by kernel_rfl) ?_
    refine wp_skip ?_
    refine au_then ?_
    refine wp_seq ?_
    refine rg_held M [⟨g1, .cells (av 3 (ls [.bool (v0), .int .u64 h0, .int .u64 l0])) 24⟩, ⟨g2, .cells (av 3 (ls [.bool (v1), .int .u64 h1, .int .u64 l1])) 24⟩, ⟨g3, .cells (av 9 (ls [.bool false, .int .u64 0, .int .u64 0, .bool false, .int .u64 0, .int .u64 0, .int .u8 0, .int .u8 0, .string ⟨#[]⟩])) 26⟩] 11 rfl (by kernel_rfl) (by kernel_rfl) (fun _ _ d _ _ h => by cases d <;> exact h) ?_
    intro u4 M
    replace M : Mem ⟨w, []⟩ [⟨g1, .cells (av 3 (ls [.bool (v0), .int .u64 h0, .int .u64 l0])) 24⟩, ⟨g2, .cells (av 3 (ls [.bool (v1), .int .u64 h1, .int .u64 l1])) 24⟩, ⟨g3, .cells (av 9 (ls [.bool false, .int .u64 0, .int .u64 0, .bool false, .int .u64 0, .int .u64 0, .int .u8 0, .int .u8 0, .string ⟨#[]⟩])) 26⟩] u4 := M
    refine hl_val M 0 rfl (by decide) (by kernel_rfl) (by kernel_rfl) (want_no rfl) (some 19) rfl (.int .u8 0) (fun _ _ => by kernel_rfl) ?_
    refine hl_val M 4 rfl (by decide) (by kernel_rfl) (by kernel_rfl) (want_no rfl) (some 23) rfl (.int .u16 f) (fun _ _ => by kernel_rfl) ?_
    refine hl_val M 5 rfl (by decide) (by kernel_rfl) (by kernel_rfl) (want_no rfl) (some 24) rfl (.int .u64 (cv .u64 f)) (fun _ _ => by kernel_rfl) ?_
    refine hl_val M 9 rfl (by decide) (by kernel_rfl) (by kernel_rfl) (want_no rfl) (some 28) rfl (.string d) (fun _ _ => by kernel_rfl) ?_
    refine hl_name ?_
    intro H hA hB
    have s5 : ∀ (a : Act) (l : Array Bool) (x_20 : Value) (w0 : World), a = ⟨#[.agg (av 3 (ls [.bool (v0), .int .u64 h0, .int .u64 l0])), .agg (av 3 (ls [.bool (v1), .int .u64 h1, .int .u64 l1])), .int .u16 f, .bool true, .string d, .pointer (some ⟨g1, 0, none⟩), .pointer (some ⟨g2, 0, none⟩), undef, undef, undef, .pointer (some ⟨g3, 0, none⟩), .int .i64 0, .int .u8 0, .int .u8 1, undef, .bool true, .pointer (some ⟨g1, 0, none⟩), .bool false, undef, .int .u8 0, x_20, .string (bs [0]), .string ((bs [0]) ++ (⟨#[0, 0, 0]⟩ : ByteArray)), .int .u16 f, .int .u64 (cv .u64 f), .string (be2 (cv .u64 f)), .string (((bs [0]) ++ (⟨#[0, 0, 0]⟩ : ByteArray)) ++ (be2 (cv .u64 f))), .string ((((bs [0]) ++ (⟨#[0, 0, 0]⟩ : ByteArray)) ++ (be2 (cv .u64 f))) ++ (⟨#[0, 0]⟩ : ByteArray)), .string d, .string (((((bs [0]) ++ (⟨#[0, 0, 0]⟩ : ByteArray)) ++ (be2 (cv .u64 f))) ++ (⟨#[0, 0]⟩ : ByteArray)) ++ d), undef, undef, undef, undef, undef, undef, undef, undef], []⟩ → l = #[true, true, true, true, true, true, true, true, true, true, true, false] → Mem ⟨w, []⟩ [⟨g1, .cells (av 3 (ls [.bool (v0), .int .u64 h0, .int .u64 l0])) 24⟩, ⟨g2, .cells (av 3 (ls [.bool (v1), .int .u64 h1, .int .u64 l1])) 24⟩, ⟨g3, .cells (av 9 (ls [.bool false, .int .u64 0, .int .u64 0, .bool false, .int .u64 0, .int .u64 0, .int .u8 0, .int .u8 0, .string ⟨#[]⟩])) 26⟩] w0 → H 1 l a w0 := by
      intro a l  x_20 u0 ha hl M
      subst ha hl
      refine hB _ _ _ _ ?_
      refine hl_end (by kernel_rfl) (by kernel_rfl) rfl ?_
      refine pl_val (want_no rfl) (some 14) rfl (.string (((((bs [0]) ++ (⟨#[0, 0, 0]⟩ : ByteArray)) ++ (be2 (cv .u64 f))) ++ (⟨#[0, 0]⟩ : ByteArray)) ++ d)) (fun _ => by kernel_rfl) ?_
      refine pl_nil ?_
      refine au_then ?_
      refine au_then ?_
      refine wp_seq ?_
      refine rg_lit ?_
      refine pl_load M (want_no rfl) (some 30) rfl 24 _ rfl 0 g1 0 (by kernel_rfl) 3 24 (ls [.bool (v0), .int .u64 h0, .int .u64 l0]) rfl 3 (ls [.bool (v0), .int .u64 h0, .int .u64 l0]) (fun j _ => by rw [Nat.zero_add]) (by decide) _ Try.underlying24 rfl inz24 ?_
      refine pl_load M (want_no rfl) (some 31) rfl 24 _ rfl 1 g2 0 (by kernel_rfl) 3 24 (ls [.bool (v1), .int .u64 h1, .int .u64 l1]) rfl 3 (ls [.bool (v1), .int .u64 h1, .int .u64 l1]) (fun j _ => by rw [Nat.zero_add]) (by decide) _ Try.underlying24 rfl inz24 ?_
      refine pl_val (want_no rfl) (some 32) rfl (.int .u8 1) (fun _ => by kernel_rfl) ?_
      refine pl_val (want_no rfl) (some 33) rfl (.string (((((bs [0]) ++ (⟨#[0, 0, 0]⟩ : ByteArray)) ++ (be2 (cv .u64 f))) ++ (⟨#[0, 0]⟩ : ByteArray)) ++ d)) (fun _ => by kernel_rfl) ?_
      refine pl_val (want_no rfl) (some 34) rfl (.agg (av 9 (ls [.bool (v0), .int .u64 h0, .int .u64 l0, .bool (v1), .int .u64 h1, .int .u64 l1, .int .u8 1, .int .u8 64, .string (((((bs [0]) ++ (⟨#[0, 0, 0]⟩ : ByteArray)) ++ (be2 (cv .u64 f))) ++ (⟨#[0, 0]⟩ : ByteArray)) ++ d)]))) (fun _ => by kernel_rfl) ?_
      refine pl_call M (want_no rfl) (some 35) rfl 33 #[.agg (av 9 (ls [.bool (v0), .int .u64 h0, .int .u64 l0, .bool (v1), .int .u64 h1, .int .u64 l1, .int .u8 1, .int .u8 64, .string (((((bs [0]) ++ (⟨#[0, 0, 0]⟩ : ByteArray)) ++ (be2 (cv .u64 f))) ++ (⟨#[0, 0]⟩ : ByteArray)) ++ d)])), .int .i64 2] (.tuple #[.agg (av 9 (ls [.bool (zB (pkE v0 h0 l0 v1 h1 l1 (ehA (kO (eP v0) true)) (ehB f d)) v0), .int .u64 (zI (pkE v0 h0 l0 v1 h1 l1 (ehA (kO (eP v0) true)) (ehB f d)) h0), .int .u64 (zI (pkE v0 h0 l0 v1 h1 l1 (ehA (kO (eP v0) true)) (ehB f d)) l0), .bool (zB (pkE v0 h0 l0 v1 h1 l1 (ehA (kO (eP v0) true)) (ehB f d)) v1), .int .u64 (zI (pkE v0 h0 l0 v1 h1 l1 (ehA (kO (eP v0) true)) (ehB f d)) h1), .int .u64 (zI (pkE v0 h0 l0 v1 h1 l1 (ehA (kO (eP v0) true)) (ehB f d)) l1), .int .u8 (zI (pkE v0 h0 l0 v1 h1 l1 (ehA (kO (eP v0) true)) (ehB f d)) (eP v0)), .int .u8 (zI (pkE v0 h0 l0 v1 h1 l1 (ehA (kO (eP v0) true)) (ehB f d)) 64), .string (zS (pkE v0 h0 l0 v1 h1 l1 (ehA (kO (eP v0) true)) (ehB f d)) (pkO v0 h0 l0 v1 h1 l1 (eP v0) (ehA (kO (eP v0) true)) (ehB f d)))])), .int .i64 (pkE v0 h0 l0 v1 h1 l1 (ehA (kO (eP v0) true)) (ehB f d))]) (fun _ => by kernel_rfl) (fun w M => call_val (d_made v0 h0 l0 v1 h1 l1 1 (((((bs [0]) ++ (⟨#[0, 0, 0]⟩ : ByteArray)) ++ (be2 (cv .u64 f))) ++ (⟨#[0, 0]⟩ : ByteArray)) ++ d) (ehA 0) (ehB f d) 2 (ehA_size _).symm (eh_doc 0 f d) (by (try simp only [ByteArray.size_append, ByteArray.size_extract, be2_size, be4_size, be8_size, bs_size, sz_mk, List.size_toArray, List.length_cons, List.length_nil]); omega) (by omega) w M.laid) (by rw [show eP v0 = 1 by rw [c0]; rfl, show kO 1 true = 0 by decide, eh_doc 0 f d]; rfl)) ?_
      intro u7 M
      refine pl_val (want_no rfl) (some 36) rfl (.agg (av 9 (ls [.bool (zB (pkE v0 h0 l0 v1 h1 l1 (ehA (kO (eP v0) true)) (ehB f d)) v0), .int .u64 (zI (pkE v0 h0 l0 v1 h1 l1 (ehA (kO (eP v0) true)) (ehB f d)) h0), .int .u64 (zI (pkE v0 h0 l0 v1 h1 l1 (ehA (kO (eP v0) true)) (ehB f d)) l0), .bool (zB (pkE v0 h0 l0 v1 h1 l1 (ehA (kO (eP v0) true)) (ehB f d)) v1), .int .u64 (zI (pkE v0 h0 l0 v1 h1 l1 (ehA (kO (eP v0) true)) (ehB f d)) h1), .int .u64 (zI (pkE v0 h0 l0 v1 h1 l1 (ehA (kO (eP v0) true)) (ehB f d)) l1), .int .u8 (zI (pkE v0 h0 l0 v1 h1 l1 (ehA (kO (eP v0) true)) (ehB f d)) (eP v0)), .int .u8 (zI (pkE v0 h0 l0 v1 h1 l1 (ehA (kO (eP v0) true)) (ehB f d)) 64), .string (zS (pkE v0 h0 l0 v1 h1 l1 (ehA (kO (eP v0) true)) (ehB f d)) (pkO v0 h0 l0 v1 h1 l1 (eP v0) (ehA (kO (eP v0) true)) (ehB f d)))]))) (fun _ => by kernel_rfl) ?_
      refine pl_val (want_no rfl) (some 37) rfl (.int .i64 (pkE v0 h0 l0 v1 h1 l1 (ehA (kO (eP v0) true)) (ehB f d))) (fun _ => by kernel_rfl) ?_
      refine pl_put M (want_no rfl) rfl 26 _ _ rfl 2 g3 0 (by kernel_rfl) 9 26 (ls [.bool false, .int .u64 0, .int .u64 0, .bool false, .int .u64 0, .int .u64 0, .int .u8 0, .int .u8 0, .string ⟨#[]⟩]) rfl 9 (ls [.bool (zB (pkE v0 h0 l0 v1 h1 l1 (ehA (kO (eP v0) true)) (ehB f d)) v0), .int .u64 (zI (pkE v0 h0 l0 v1 h1 l1 (ehA (kO (eP v0) true)) (ehB f d)) h0), .int .u64 (zI (pkE v0 h0 l0 v1 h1 l1 (ehA (kO (eP v0) true)) (ehB f d)) l0), .bool (zB (pkE v0 h0 l0 v1 h1 l1 (ehA (kO (eP v0) true)) (ehB f d)) v1), .int .u64 (zI (pkE v0 h0 l0 v1 h1 l1 (ehA (kO (eP v0) true)) (ehB f d)) h1), .int .u64 (zI (pkE v0 h0 l0 v1 h1 l1 (ehA (kO (eP v0) true)) (ehB f d)) l1), .int .u8 (zI (pkE v0 h0 l0 v1 h1 l1 (ehA (kO (eP v0) true)) (ehB f d)) (eP v0)), .int .u8 (zI (pkE v0 h0 l0 v1 h1 l1 (ehA (kO (eP v0) true)) (ehB f d)) 64), .string (zS (pkE v0 h0 l0 v1 h1 l1 (ehA (kO (eP v0) true)) (ehB f d)) (pkO v0 h0 l0 v1 h1 l1 (eP v0) (ehA (kO (eP v0) true)) (ehB f d)))]) (ls [.bool (zB (pkE v0 h0 l0 v1 h1 l1 (ehA (kO (eP v0) true)) (ehB f d)) v0), .int .u64 (zI (pkE v0 h0 l0 v1 h1 l1 (ehA (kO (eP v0) true)) (ehB f d)) h0), .int .u64 (zI (pkE v0 h0 l0 v1 h1 l1 (ehA (kO (eP v0) true)) (ehB f d)) l0), .bool (zB (pkE v0 h0 l0 v1 h1 l1 (ehA (kO (eP v0) true)) (ehB f d)) v1), .int .u64 (zI (pkE v0 h0 l0 v1 h1 l1 (ehA (kO (eP v0) true)) (ehB f d)) h1), .int .u64 (zI (pkE v0 h0 l0 v1 h1 l1 (ehA (kO (eP v0) true)) (ehB f d)) l1), .int .u8 (zI (pkE v0 h0 l0 v1 h1 l1 (ehA (kO (eP v0) true)) (ehB f d)) (eP v0)), .int .u8 (zI (pkE v0 h0 l0 v1 h1 l1 (ehA (kO (eP v0) true)) (ehB f d)) 64), .string (zS (pkE v0 h0 l0 v1 h1 l1 (ehA (kO (eP v0) true)) (ehB f d)) (pkO v0 h0 l0 v1 h1 l1 (eP v0) (ehA (kO (eP v0) true)) (ehB f d)))]) (by kernel_rfl) inz26 (by decide) (one_ls _ rfl) (fun j hj => by rw [if_pos (by omega), Nat.sub_zero]) ?_
      intro u8 M
      replace M : Mem ⟨w, []⟩ [⟨g1, .cells (av 3 (ls [.bool (v0), .int .u64 h0, .int .u64 l0])) 24⟩, ⟨g2, .cells (av 3 (ls [.bool (v1), .int .u64 h1, .int .u64 l1])) 24⟩, ⟨g3, .cells (av 9 (ls [.bool (zB (pkE v0 h0 l0 v1 h1 l1 (ehA (kO (eP v0) true)) (ehB f d)) v0), .int .u64 (zI (pkE v0 h0 l0 v1 h1 l1 (ehA (kO (eP v0) true)) (ehB f d)) h0), .int .u64 (zI (pkE v0 h0 l0 v1 h1 l1 (ehA (kO (eP v0) true)) (ehB f d)) l0), .bool (zB (pkE v0 h0 l0 v1 h1 l1 (ehA (kO (eP v0) true)) (ehB f d)) v1), .int .u64 (zI (pkE v0 h0 l0 v1 h1 l1 (ehA (kO (eP v0) true)) (ehB f d)) h1), .int .u64 (zI (pkE v0 h0 l0 v1 h1 l1 (ehA (kO (eP v0) true)) (ehB f d)) l1), .int .u8 (zI (pkE v0 h0 l0 v1 h1 l1 (ehA (kO (eP v0) true)) (ehB f d)) (eP v0)), .int .u8 (zI (pkE v0 h0 l0 v1 h1 l1 (ehA (kO (eP v0) true)) (ehB f d)) 64), .string (zS (pkE v0 h0 l0 v1 h1 l1 (ehA (kO (eP v0) true)) (ehB f d)) (pkO v0 h0 l0 v1 h1 l1 (eP v0) (ehA (kO (eP v0) true)) (ehB f d)))])) 26⟩] u8 := M
      refine pl_val (want_no rfl) (some 11) rfl (.int .i64 (pkE v0 h0 l0 v1 h1 l1 (ehA (kO (eP v0) true)) (ehB f d))) (fun _ => by kernel_rfl) ?_
      refine pl_nil ?_
      refine au_then ?_
      refine wp_ret ?_
      exact bodyPost_ret (v := .tuple #[.agg (av 9 (ls [.bool (zB (pkE v0 h0 l0 v1 h1 l1 (ehA (kO (eP v0) true)) (ehB f d)) v0), .int .u64 (zI (pkE v0 h0 l0 v1 h1 l1 (ehA (kO (eP v0) true)) (ehB f d)) h0), .int .u64 (zI (pkE v0 h0 l0 v1 h1 l1 (ehA (kO (eP v0) true)) (ehB f d)) l0), .bool (zB (pkE v0 h0 l0 v1 h1 l1 (ehA (kO (eP v0) true)) (ehB f d)) v1), .int .u64 (zI (pkE v0 h0 l0 v1 h1 l1 (ehA (kO (eP v0) true)) (ehB f d)) h1), .int .u64 (zI (pkE v0 h0 l0 v1 h1 l1 (ehA (kO (eP v0) true)) (ehB f d)) l1), .int .u8 (zI (pkE v0 h0 l0 v1 h1 l1 (ehA (kO (eP v0) true)) (ehB f d)) (eP v0)), .int .u8 (zI (pkE v0 h0 l0 v1 h1 l1 (ehA (kO (eP v0) true)) (ehB f d)) 64), .string (zS (pkE v0 h0 l0 v1 h1 l1 (ehA (kO (eP v0) true)) (ehB f d)) (pkO v0 h0 l0 v1 h1 l1 (eP v0) (ehA (kO (eP v0) true)) (ehB f d)))])), .int .i64 (pkE v0 h0 l0 v1 h1 l1 (ehA (kO (eP v0) true)) (ehB f d))]) (results_cell_tmp Try.results19 _ _ g3 26 (av 9 (ls [.bool (zB (pkE v0 h0 l0 v1 h1 l1 (ehA (kO (eP v0) true)) (ehB f d)) v0), .int .u64 (zI (pkE v0 h0 l0 v1 h1 l1 (ehA (kO (eP v0) true)) (ehB f d)) h0), .int .u64 (zI (pkE v0 h0 l0 v1 h1 l1 (ehA (kO (eP v0) true)) (ehB f d)) l0), .bool (zB (pkE v0 h0 l0 v1 h1 l1 (ehA (kO (eP v0) true)) (ehB f d)) v1), .int .u64 (zI (pkE v0 h0 l0 v1 h1 l1 (ehA (kO (eP v0) true)) (ehB f d)) h1), .int .u64 (zI (pkE v0 h0 l0 v1 h1 l1 (ehA (kO (eP v0) true)) (ehB f d)) l1), .int .u8 (zI (pkE v0 h0 l0 v1 h1 l1 (ehA (kO (eP v0) true)) (ehB f d)) (eP v0)), .int .u8 (zI (pkE v0 h0 l0 v1 h1 l1 (ehA (kO (eP v0) true)) (ehB f d)) 64), .string (zS (pkE v0 h0 l0 v1 h1 l1 (ehA (kO (eP v0) true)) (ehB f d)) (pkO v0 h0 l0 v1 h1 l1 (eP v0) (ehA (kO (eP v0) true)) (ehB f d)))])) (0, 0) _ _ (by kernel_rfl) (by kernel_rfl) (M.get 2 rfl) Try.underlying26 rfl (by rw [av_size]; exact inz26)) (by kernel_rfl) ⟨rfl, below_grown M.old⟩
    have s3 : ∀ (a : Act) (l : Array Bool) (x_20 : Value) (w0 : World), a = ⟨#[.agg (av 3 (ls [.bool (v0), .int .u64 h0, .int .u64 l0])), .agg (av 3 (ls [.bool (v1), .int .u64 h1, .int .u64 l1])), .int .u16 f, .bool true, .string d, .pointer (some ⟨g1, 0, none⟩), .pointer (some ⟨g2, 0, none⟩), undef, undef, undef, .pointer (some ⟨g3, 0, none⟩), .int .i64 0, .int .u8 0, .int .u8 1, undef, .bool true, .pointer (some ⟨g1, 0, none⟩), .bool false, undef, .int .u8 0, x_20, .string (bs [0]), .string ((bs [0]) ++ (⟨#[0, 0, 0]⟩ : ByteArray)), .int .u16 f, .int .u64 (cv .u64 f), undef, undef, undef, .string d, undef, undef, undef, undef, undef, undef, undef, undef, undef], []⟩ → l = #[true, true, true, true, true, true, false, false, false, true, false, false] → Mem ⟨w, []⟩ [⟨g1, .cells (av 3 (ls [.bool (v0), .int .u64 h0, .int .u64 l0])) 24⟩, ⟨g2, .cells (av 3 (ls [.bool (v1), .int .u64 h1, .int .u64 l1])) 24⟩, ⟨g3, .cells (av 9 (ls [.bool false, .int .u64 0, .int .u64 0, .bool false, .int .u64 0, .int .u64 0, .int .u8 0, .int .u8 0, .string ⟨#[]⟩])) 26⟩] w0 → H 5 l a w0 := by
      intro a l  x_20 u0 ha hl M
      subst ha hl
      refine hB _ _ _ _ ?_
      refine hl_one 6 (by decide) (by kernel_rfl) rfl ?_
      refine pl_call M (want_no rfl) (some 25) rfl 32 #[.int .u64 (cv .u64 f), .int .i64 2] (.string (be2 (cv .u64 f))) (fun _ => by kernel_rfl) (fun w M => c_num2 (cv .u64 f) w M.laid) ?_
      intro u6 M
      refine pl_nil ?_
      refine au_then ?_
      refine ⟨M, ?_⟩
      refine hl_val M 7 rfl (by decide) (by kernel_rfl) (by kernel_rfl) (want_no rfl) (some 26) rfl (.string (((bs [0]) ++ (⟨#[0, 0, 0]⟩ : ByteArray)) ++ (be2 (cv .u64 f)))) (fun w _ => (run_cat 9 9 _ _ rfl ((bs [0]) ++ (⟨#[0, 0, 0]⟩ : ByteArray)) (be2 (cv .u64 f)) (by kernel_rfl) (by kernel_rfl) (by (try simp only [ByteArray.size_append, ByteArray.size_extract, be2_size, be4_size, be8_size, bs_size, sz_mk, List.size_toArray, List.length_cons, List.length_nil]); omega)) w) ?_
      refine hl_val M 8 rfl (by decide) (by kernel_rfl) (by kernel_rfl) (want_no rfl) (some 27) rfl (.string ((((bs [0]) ++ (⟨#[0, 0, 0]⟩ : ByteArray)) ++ (be2 (cv .u64 f))) ++ (⟨#[0, 0]⟩ : ByteArray))) (fun w _ => (run_cat 9 9 _ _ rfl (((bs [0]) ++ (⟨#[0, 0, 0]⟩ : ByteArray)) ++ (be2 (cv .u64 f))) ⟨#[0, 0]⟩ (by kernel_rfl) (by kernel_rfl) (by (try simp only [ByteArray.size_append, ByteArray.size_extract, be2_size, be4_size, be8_size, bs_size, sz_mk, List.size_toArray, List.length_cons, List.length_nil]); omega)) w) ?_
      refine hl_val M 10 rfl (by decide) (by kernel_rfl) (by kernel_rfl) (want_no rfl) (some 29) rfl (.string (((((bs [0]) ++ (⟨#[0, 0, 0]⟩ : ByteArray)) ++ (be2 (cv .u64 f))) ++ (⟨#[0, 0]⟩ : ByteArray)) ++ d)) (fun w _ => (run_cat 9 9 _ _ rfl ((((bs [0]) ++ (⟨#[0, 0, 0]⟩ : ByteArray)) ++ (be2 (cv .u64 f))) ++ (⟨#[0, 0]⟩ : ByteArray)) d (by kernel_rfl) (by kernel_rfl) (by (try simp only [ByteArray.size_append, ByteArray.size_extract, be2_size, be4_size, be8_size, bs_size, sz_mk, List.size_toArray, List.length_cons, List.length_nil]); omega)) w) ?_
      exact hA _ _ _ _ (s5 _ _ (x_20) _ (by kernel_rfl) (by kernel_rfl) M)
    have s4 : ∀ (a : Act) (l : Array Bool) (g4 : Nat) (w0 : World), a = ⟨#[.agg (av 3 (ls [.bool (v0), .int .u64 h0, .int .u64 l0])), .agg (av 3 (ls [.bool (v1), .int .u64 h1, .int .u64 l1])), .int .u16 f, .bool true, .string d, .pointer (some ⟨g1, 0, none⟩), .pointer (some ⟨g2, 0, none⟩), undef, undef, undef, .pointer (some ⟨g3, 0, none⟩), .int .i64 0, .int .u8 0, .int .u8 1, undef, .bool true, .pointer (some ⟨g1, 0, none⟩), .bool false, undef, .int .u8 0, .slice (some ⟨g4, 0, none⟩) 1 1, undef, undef, .int .u16 f, .int .u64 (cv .u64 f), .string (be2 (cv .u64 f)), undef, undef, .string d, undef, undef, undef, undef, undef, undef, undef, undef, undef], []⟩ → l = #[true, true, false, false, true, true, true, false, false, true, false, false] → Mem ⟨w, []⟩ [⟨g1, .cells (av 3 (ls [.bool (v0), .int .u64 h0, .int .u64 l0])) 24⟩, ⟨g2, .cells (av 3 (ls [.bool (v1), .int .u64 h1, .int .u64 l1])) 24⟩, ⟨g3, .cells (av 9 (ls [.bool false, .int .u64 0, .int .u64 0, .bool false, .int .u64 0, .int .u64 0, .int .u8 0, .int .u8 0, .string ⟨#[]⟩])) 26⟩, ⟨g4, .cells (av 1 (ls [.int .u8 0])) 5⟩] w0 → H 6 l a w0 := by
      intro a l g4  u0 ha hl M
      subst ha hl
      refine hB _ _ _ _ ?_
      refine hl_one 2 (by decide) (by kernel_rfl) rfl ?_
      refine pl_back M (want_no rfl) (some 21) rfl _ rfl 3 g4 1 1 (by kernel_rfl) _ rfl [0] 1 (sb_ls [0] _) rfl (by intro x hx; simp only [List.mem_cons, List.mem_nil_iff, or_false] at hx; subst hx; omega) ?_
      refine pl_nil ?_
      refine au_then ?_
      refine ⟨(M.drop (.cons_cons _ (.cons_cons _ (.cons_cons _ (.cons _ (.slnil)))))), ?_⟩
      refine hl_val (M.drop (.cons_cons _ (.cons_cons _ (.cons_cons _ (.cons _ (.slnil)))))) 3 rfl (by decide) (by kernel_rfl) (by kernel_rfl) (want_no rfl) (some 22) rfl (.string ((bs [0]) ++ (⟨#[0, 0, 0]⟩ : ByteArray))) (fun w _ => (run_cat 9 9 _ _ rfl (bs [0]) ⟨#[0, 0, 0]⟩ (by kernel_rfl) (by kernel_rfl) (by (try simp only [ByteArray.size_append, ByteArray.size_extract, be2_size, be4_size, be8_size, bs_size, sz_mk, List.size_toArray, List.length_cons, List.length_nil]); omega)) w) ?_
      refine hl_val (M.drop (.cons_cons _ (.cons_cons _ (.cons_cons _ (.cons _ (.slnil)))))) 7 rfl (by decide) (by kernel_rfl) (by kernel_rfl) (want_no rfl) (some 26) rfl (.string (((bs [0]) ++ (⟨#[0, 0, 0]⟩ : ByteArray)) ++ (be2 (cv .u64 f)))) (fun w _ => (run_cat 9 9 _ _ rfl ((bs [0]) ++ (⟨#[0, 0, 0]⟩ : ByteArray)) (be2 (cv .u64 f)) (by kernel_rfl) (by kernel_rfl) (by (try simp only [ByteArray.size_append, ByteArray.size_extract, be2_size, be4_size, be8_size, bs_size, sz_mk, List.size_toArray, List.length_cons, List.length_nil]); omega)) w) ?_
      refine hl_val (M.drop (.cons_cons _ (.cons_cons _ (.cons_cons _ (.cons _ (.slnil)))))) 8 rfl (by decide) (by kernel_rfl) (by kernel_rfl) (want_no rfl) (some 27) rfl (.string ((((bs [0]) ++ (⟨#[0, 0, 0]⟩ : ByteArray)) ++ (be2 (cv .u64 f))) ++ (⟨#[0, 0]⟩ : ByteArray))) (fun w _ => (run_cat 9 9 _ _ rfl (((bs [0]) ++ (⟨#[0, 0, 0]⟩ : ByteArray)) ++ (be2 (cv .u64 f))) ⟨#[0, 0]⟩ (by kernel_rfl) (by kernel_rfl) (by (try simp only [ByteArray.size_append, ByteArray.size_extract, be2_size, be4_size, be8_size, bs_size, sz_mk, List.size_toArray, List.length_cons, List.length_nil]); omega)) w) ?_
      refine hl_val (M.drop (.cons_cons _ (.cons_cons _ (.cons_cons _ (.cons _ (.slnil)))))) 10 rfl (by decide) (by kernel_rfl) (by kernel_rfl) (want_no rfl) (some 29) rfl (.string (((((bs [0]) ++ (⟨#[0, 0, 0]⟩ : ByteArray)) ++ (be2 (cv .u64 f))) ++ (⟨#[0, 0]⟩ : ByteArray)) ++ d)) (fun w _ => (run_cat 9 9 _ _ rfl ((((bs [0]) ++ (⟨#[0, 0, 0]⟩ : ByteArray)) ++ (be2 (cv .u64 f))) ++ (⟨#[0, 0]⟩ : ByteArray)) d (by kernel_rfl) (by kernel_rfl) (by (try simp only [ByteArray.size_append, ByteArray.size_extract, be2_size, be4_size, be8_size, bs_size, sz_mk, List.size_toArray, List.length_cons, List.length_nil]); omega)) w) ?_
      exact hA _ _ _ _ (s5 _ _ (.slice (some ⟨g4, 0, none⟩) 1 1) _ (by kernel_rfl) (by kernel_rfl) (M.drop (.cons_cons _ (.cons_cons _ (.cons_cons _ (.cons _ (.slnil)))))))
    have s1 : ∀ (a : Act) (l : Array Bool) (g4 : Nat) (w0 : World), a = ⟨#[.agg (av 3 (ls [.bool (v0), .int .u64 h0, .int .u64 l0])), .agg (av 3 (ls [.bool (v1), .int .u64 h1, .int .u64 l1])), .int .u16 f, .bool true, .string d, .pointer (some ⟨g1, 0, none⟩), .pointer (some ⟨g2, 0, none⟩), undef, undef, undef, .pointer (some ⟨g3, 0, none⟩), .int .i64 0, .int .u8 0, .int .u8 1, undef, .bool true, .pointer (some ⟨g1, 0, none⟩), .bool false, undef, .int .u8 0, .slice (some ⟨g4, 0, none⟩) 1 1, undef, undef, .int .u16 f, .int .u64 (cv .u64 f), undef, undef, undef, .string d, undef, undef, undef, undef, undef, undef, undef, undef, undef], []⟩ → l = #[true, true, false, false, true, true, false, false, false, true, false, false] → Mem ⟨w, []⟩ [⟨g1, .cells (av 3 (ls [.bool (v0), .int .u64 h0, .int .u64 l0])) 24⟩, ⟨g2, .cells (av 3 (ls [.bool (v1), .int .u64 h1, .int .u64 l1])) 24⟩, ⟨g3, .cells (av 9 (ls [.bool false, .int .u64 0, .int .u64 0, .bool false, .int .u64 0, .int .u64 0, .int .u8 0, .int .u8 0, .string ⟨#[]⟩])) 26⟩, ⟨g4, .cells (av 1 (ls [.int .u8 0])) 5⟩] w0 → H 7 l a w0 := by
      intro a l g4  u0 ha hl M
      subst ha hl
      refine hB _ _ _ _ ?_
      refine hl_two 2 6 (by decide) (by decide) (by kernel_rfl) rfl rfl ?_ ?_
      · skip
        refine pl_back M (want_no rfl) (some 21) rfl _ rfl 3 g4 1 1 (by kernel_rfl) _ rfl [0] 1 (sb_ls [0] _) rfl (by intro x hx; simp only [List.mem_cons, List.mem_nil_iff, or_false] at hx; subst hx; omega) ?_
        refine pl_nil ?_
        refine au_then ?_
        refine ⟨(M.drop (.cons_cons _ (.cons_cons _ (.cons_cons _ (.cons _ (.slnil)))))), ?_⟩
        refine hl_val (M.drop (.cons_cons _ (.cons_cons _ (.cons_cons _ (.cons _ (.slnil)))))) 3 rfl (by decide) (by kernel_rfl) (by kernel_rfl) (want_no rfl) (some 22) rfl (.string ((bs [0]) ++ (⟨#[0, 0, 0]⟩ : ByteArray))) (fun w _ => (run_cat 9 9 _ _ rfl (bs [0]) ⟨#[0, 0, 0]⟩ (by kernel_rfl) (by kernel_rfl) (by (try simp only [ByteArray.size_append, ByteArray.size_extract, be2_size, be4_size, be8_size, bs_size, sz_mk, List.size_toArray, List.length_cons, List.length_nil]); omega)) w) ?_
        exact hA _ _ _ _ (s3 _ _ (.slice (some ⟨g4, 0, none⟩) 1 1) _ (by kernel_rfl) (by kernel_rfl) (M.drop (.cons_cons _ (.cons_cons _ (.cons_cons _ (.cons _ (.slnil)))))))
      · skip
        refine pl_call M (want_no rfl) (some 25) rfl 32 #[.int .u64 (cv .u64 f), .int .i64 2] (.string (be2 (cv .u64 f))) (fun _ => by kernel_rfl) (fun w M => c_num2 (cv .u64 f) w M.laid) ?_
        intro u6 M
        refine pl_nil ?_
        refine au_then ?_
        refine ⟨(M.drop (.cons_cons _ (.cons_cons _ (.cons_cons _ (.cons _ (.slnil)))))), ?_⟩
        exact hA _ _ _ _ (s4 _ _ g4 _ (by kernel_rfl) (by kernel_rfl) M)
    have s2 : ∀ (a : Act) (l : Array Bool) (w0 : World), a = ⟨#[.agg (av 3 (ls [.bool (v0), .int .u64 h0, .int .u64 l0])), .agg (av 3 (ls [.bool (v1), .int .u64 h1, .int .u64 l1])), .int .u16 f, .bool true, .string d, .pointer (some ⟨g1, 0, none⟩), .pointer (some ⟨g2, 0, none⟩), undef, undef, undef, .pointer (some ⟨g3, 0, none⟩), .int .i64 0, .int .u8 0, .int .u8 1, undef, .bool true, .pointer (some ⟨g1, 0, none⟩), .bool false, undef, .int .u8 0, undef, undef, undef, .int .u16 f, .int .u64 (cv .u64 f), .string (be2 (cv .u64 f)), undef, undef, .string d, undef, undef, undef, undef, undef, undef, undef, undef, undef], []⟩ → l = #[true, false, false, false, true, true, true, false, false, true, false, false] → Mem ⟨w, []⟩ [⟨g1, .cells (av 3 (ls [.bool (v0), .int .u64 h0, .int .u64 l0])) 24⟩, ⟨g2, .cells (av 3 (ls [.bool (v1), .int .u64 h1, .int .u64 l1])) 24⟩, ⟨g3, .cells (av 9 (ls [.bool false, .int .u64 0, .int .u64 0, .bool false, .int .u64 0, .int .u64 0, .int .u8 0, .int .u8 0, .string ⟨#[]⟩])) 26⟩] w0 → H 7 l a w0 := by
      intro a l   u0 ha hl M
      subst ha hl
      refine hB _ _ _ _ ?_
      refine hl_one 1 (by decide) (by kernel_rfl) rfl ?_
      refine pl_mk M (want_no rfl) (some 20) rfl (fun g4 => .slice (some ⟨g4, 0, none⟩) 1 1) (.cells (av 1 (ls [.int .u8 0])) 5) (fun _ => by kernel_rfl) ?_
      intro g4 u6 M
      replace M : Mem ⟨w, []⟩ [⟨g1, .cells (av 3 (ls [.bool (v0), .int .u64 h0, .int .u64 l0])) 24⟩, ⟨g2, .cells (av 3 (ls [.bool (v1), .int .u64 h1, .int .u64 l1])) 24⟩, ⟨g3, .cells (av 9 (ls [.bool false, .int .u64 0, .int .u64 0, .bool false, .int .u64 0, .int .u64 0, .int .u8 0, .int .u8 0, .string ⟨#[]⟩])) 26⟩, ⟨g4, .cells (av 1 (ls [.int .u8 0])) 5⟩] u6 := M
      refine pl_nil ?_
      refine au_then ?_
      refine ⟨(M.drop (.cons_cons _ (.cons_cons _ (.cons_cons _ (.cons _ (.slnil)))))), ?_⟩
      exact hA _ _ _ _ (s4 _ _ g4 _ (by kernel_rfl) (by kernel_rfl) M)
    have s0 : ∀ (a : Act) (l : Array Bool) (w0 : World), a = ⟨#[.agg (av 3 (ls [.bool (v0), .int .u64 h0, .int .u64 l0])), .agg (av 3 (ls [.bool (v1), .int .u64 h1, .int .u64 l1])), .int .u16 f, .bool true, .string d, .pointer (some ⟨g1, 0, none⟩), .pointer (some ⟨g2, 0, none⟩), undef, undef, undef, .pointer (some ⟨g3, 0, none⟩), .int .i64 0, .int .u8 0, .int .u8 1, undef, .bool true, .pointer (some ⟨g1, 0, none⟩), .bool false, undef, .int .u8 0, undef, undef, undef, .int .u16 f, .int .u64 (cv .u64 f), undef, undef, undef, .string d, undef, undef, undef, undef, undef, undef, undef, undef, undef], []⟩ → l = #[true, false, false, false, true, true, false, false, false, true, false, false] → Mem ⟨w, []⟩ [⟨g1, .cells (av 3 (ls [.bool (v0), .int .u64 h0, .int .u64 l0])) 24⟩, ⟨g2, .cells (av 3 (ls [.bool (v1), .int .u64 h1, .int .u64 l1])) 24⟩, ⟨g3, .cells (av 9 (ls [.bool false, .int .u64 0, .int .u64 0, .bool false, .int .u64 0, .int .u64 0, .int .u8 0, .int .u8 0, .string ⟨#[]⟩])) 26⟩] w0 → H 8 l a w0 := by
      intro a l   u0 ha hl M
      subst ha hl
      refine hB _ _ _ _ ?_
      refine hl_two 1 6 (by decide) (by decide) (by kernel_rfl) rfl rfl ?_ ?_
      · skip
        refine pl_mk M (want_no rfl) (some 20) rfl (fun g4 => .slice (some ⟨g4, 0, none⟩) 1 1) (.cells (av 1 (ls [.int .u8 0])) 5) (fun _ => by kernel_rfl) ?_
        intro g4 u5 M
        replace M : Mem ⟨w, []⟩ [⟨g1, .cells (av 3 (ls [.bool (v0), .int .u64 h0, .int .u64 l0])) 24⟩, ⟨g2, .cells (av 3 (ls [.bool (v1), .int .u64 h1, .int .u64 l1])) 24⟩, ⟨g3, .cells (av 9 (ls [.bool false, .int .u64 0, .int .u64 0, .bool false, .int .u64 0, .int .u64 0, .int .u8 0, .int .u8 0, .string ⟨#[]⟩])) 26⟩, ⟨g4, .cells (av 1 (ls [.int .u8 0])) 5⟩] u5 := M
        refine pl_nil ?_
        refine au_then ?_
        refine ⟨(M.drop (.cons_cons _ (.cons_cons _ (.cons_cons _ (.cons _ (.slnil)))))), ?_⟩
        exact hA _ _ _ _ (s1 _ _ g4 _ (by kernel_rfl) (by kernel_rfl) M)
      · skip
        refine pl_call M (want_no rfl) (some 25) rfl 32 #[.int .u64 (cv .u64 f), .int .i64 2] (.string (be2 (cv .u64 f))) (fun _ => by kernel_rfl) (fun w M => c_num2 (cv .u64 f) w M.laid) ?_
        intro u5 M
        refine pl_nil ?_
        refine au_then ?_
        refine ⟨M, ?_⟩
        exact hA _ _ _ _ (s2 _ _  _ (by kernel_rfl) (by kernel_rfl) M)
    exact s0 _ _  _ (by kernel_rfl) (by kernel_rfl) M

set_option maxRecDepth 100000 in
set_option maxHeartbeats 4000000 in
set_option linter.unusedSimpArgs false in
theorem d_EchoF (v0 : Bool) (h0 l0 : Int) (v1 : Bool) (h1 l1 : Int) (f : Int) (d : ByteArray) (hd : d.size ≤ 8192) (w : World) (hL : Laid w)  :
    Calls Try.prog 19 #[.agg (av 3 (ls [.bool (v0), .int .u64 h0, .int .u64 l0])), .agg (av 3 (ls [.bool (v1), .int .u64 h1, .int .u64 l1])), .int .u16 f, .bool false, .string d] w fun r w' => r = .returned (.tuple #[.agg (av 9 (ls [.bool (zB (pkE v0 h0 l0 v1 h1 l1 (ehA (kO (eP v0) false)) (ehB f d)) v0), .int .u64 (zI (pkE v0 h0 l0 v1 h1 l1 (ehA (kO (eP v0) false)) (ehB f d)) h0), .int .u64 (zI (pkE v0 h0 l0 v1 h1 l1 (ehA (kO (eP v0) false)) (ehB f d)) l0), .bool (zB (pkE v0 h0 l0 v1 h1 l1 (ehA (kO (eP v0) false)) (ehB f d)) v1), .int .u64 (zI (pkE v0 h0 l0 v1 h1 l1 (ehA (kO (eP v0) false)) (ehB f d)) h1), .int .u64 (zI (pkE v0 h0 l0 v1 h1 l1 (ehA (kO (eP v0) false)) (ehB f d)) l1), .int .u8 (zI (pkE v0 h0 l0 v1 h1 l1 (ehA (kO (eP v0) false)) (ehB f d)) (eP v0)), .int .u8 (zI (pkE v0 h0 l0 v1 h1 l1 (ehA (kO (eP v0) false)) (ehB f d)) 64), .string (zS (pkE v0 h0 l0 v1 h1 l1 (ehA (kO (eP v0) false)) (ehB f d)) (pkO v0 h0 l0 v1 h1 l1 (eP v0) (ehA (kO (eP v0) false)) (ehB f d)))])), .int .i64 (pkE v0 h0 l0 v1 h1 l1 (ehA (kO (eP v0) false)) (ehB f d))]) ∧ Below w.heap.size w w' := by
  go_enter Try.func19, Try.ntmps19
  have M := Mem.start hL
  refine wp_seq ?_
  refine rg_lit ?_
  refine pl_new M (want_no rfl) (some 5) rfl (.cells (av 3 (ls [.bool (v0), .int .u64 h0, .int .u64 l0])) 24) (fun _ => by kernel_rfl) ?_
  intro g1 u1 M
  replace M : Mem ⟨w, []⟩ [⟨g1, .cells (av 3 (ls [.bool (v0), .int .u64 h0, .int .u64 l0])) 24⟩] u1 := M
  refine pl_new M (want_no rfl) (some 6) rfl (.cells (av 3 (ls [.bool (v1), .int .u64 h1, .int .u64 l1])) 24) (fun _ => by kernel_rfl) ?_
  intro g2 u2 M
  replace M : Mem ⟨w, []⟩ [⟨g1, .cells (av 3 (ls [.bool (v0), .int .u64 h0, .int .u64 l0])) 24⟩, ⟨g2, .cells (av 3 (ls [.bool (v1), .int .u64 h1, .int .u64 l1])) 24⟩] u2 := M
  refine pl_new M (want_no rfl) (some 10) rfl (.cells (av 9 (ls [.bool false, .int .u64 0, .int .u64 0, .bool false, .int .u64 0, .int .u64 0, .int .u8 0, .int .u8 0, .string ⟨#[]⟩])) 26) (fun _ => by kernel_rfl) ?_
  intro g3 u3 M
  replace M : Mem ⟨w, []⟩ [⟨g1, .cells (av 3 (ls [.bool (v0), .int .u64 h0, .int .u64 l0])) 24⟩, ⟨g2, .cells (av 3 (ls [.bool (v1), .int .u64 h1, .int .u64 l1])) 24⟩, ⟨g3, .cells (av 9 (ls [.bool false, .int .u64 0, .int .u64 0, .bool false, .int .u64 0, .int .u64 0, .int .u8 0, .int .u8 0, .string ⟨#[]⟩])) 26⟩] u3 := M
  refine pl_val (want_no rfl) (some 11) rfl (.int .i64 0) (fun _ => by kernel_rfl) ?_
  refine pl_nil ?_
  refine au_then ?_
  refine wp_seq ?_
  refine rg_lit ?_
  refine pl_val (want_no rfl) (some 12) rfl (.int .u8 8) (fun _ => by kernel_rfl) ?_
  refine pl_nil ?_
  refine au_then ?_
  refine wp_seq ?_
  refine rg_lit ?_
  refine pl_val (want_no rfl) (some 13) rfl (.int .u8 1) (fun _ => by kernel_rfl) ?_
  refine pl_nil ?_
  refine au_then ?_
  refine wp_seq ?_
  refine wp_seq ?_
  refine rg_lit ?_
  refine pl_val (want_no rfl) (some 15) rfl (.bool false) (fun _ => by kernel_rfl) ?_
  refine pl_nil ?_
  refine au_then ?_
  refine wp_cond_false (by kernel_rfl) ?_
  refine wp_skip ?_
  refine au_then ?_
  refine wp_seq ?_
  refine wp_seq ?_
  refine rg_lit ?_
  refine pl_val (want_no rfl) (some 16) rfl (.pointer (some ⟨g1, 0, none⟩)) (fun _ => by kernel_rfl) ?_
  rcases Bool.eq_false_or_eq_true (v0) with c0 | c0
  · skip
    refine pl_cell M (want_no rfl) (some 17) rfl 4 _ rfl g1 0 (by kernel_rfl) (.bool true) (fun _ => by kernel_rfl) (fun w M => M.cell 0 rfl (by decide) (congrArg Value.bool c0)) ?_
    refine pl_nil ?_
    refine au_then ?_
    refine wp_cond_true (by kernel_rfl) ?_
    refine wp_seq ?_
    refine rg_lit ?_
    refine pl_val (want_no rfl) (some 12) rfl (.int .u8 128) (fun _ => by kernel_rfl) ?_
    refine pl_nil ?_
    refine au_then ?_
    refine wp_seq ?_
    refine rg_lit ?_
    refine pl_val (want_no rfl) (some 13) rfl (.int .u8 58) (fun _ => by kernel_rfl) ?_
    refine pl_nil ?_
    refine au_then ?_
    refine wp_seq ?_
    refine rg_lit ?_
    refine pl_val (want_no rfl) (some 18) rfl (.bool false) (fun _ => by kernel_rfl) ?_
    refine pl_nil ?_
    refine au_then ?_
    refine wp_cond_false (by kernel_rfl) ?_
    refine wp_skip ?_
    refine au_then ?_
    refine wp_seq ?_
    refine rg_held M [⟨g1, .cells (av 3 (ls [.bool (v0), .int .u64 h0, .int .u64 l0])) 24⟩, ⟨g2, .cells (av 3 (ls [.bool (v1), .int .u64 h1, .int .u64 l1])) 24⟩, ⟨g3, .cells (av 9 (ls [.bool false, .int .u64 0, .int .u64 0, .bool false, .int .u64 0, .int .u64 0, .int .u8 0, .int .u8 0, .string ⟨#[]⟩])) 26⟩] 11 rfl (by kernel_rfl) (by kernel_rfl) (fun _ _ d _ _ h => by cases d <;> exact h) ?_
    intro u4 M
    replace M : Mem ⟨w, []⟩ [⟨g1, .cells (av 3 (ls [.bool (v0), .int .u64 h0, .int .u64 l0])) 24⟩, ⟨g2, .cells (av 3 (ls [.bool (v1), .int .u64 h1, .int .u64 l1])) 24⟩, ⟨g3, .cells (av 9 (ls [.bool false, .int .u64 0, .int .u64 0, .bool false, .int .u64 0, .int .u64 0, .int .u8 0, .int .u8 0, .string ⟨#[]⟩])) 26⟩] u4 := M
    refine hl_val M 0 rfl (by decide) (by kernel_rfl) (by kernel_rfl) (want_no rfl) (some 19) rfl (.int .u8 128) (fun _ _ => by kernel_rfl) ?_
    refine hl_val M 4 rfl (by decide) (by kernel_rfl) (by kernel_rfl) (want_no rfl) (some 23) rfl (.int .u16 f) (fun _ _ => by kernel_rfl) ?_
    refine hl_val M 5 rfl (by decide) (by kernel_rfl) (by kernel_rfl) (want_no rfl) (some 24) rfl (.int .u64 (cv .u64 f)) (fun _ _ => by kernel_rfl) ?_
    refine hl_val M 9 rfl (by decide) (by kernel_rfl) (by kernel_rfl) (want_no rfl) (some 28) rfl (.string d) (fun _ _ => by kernel_rfl) ?_
    refine hl_name ?_
    intro H hA hB
    have s5 : ∀ (a : Act) (l : Array Bool) (x_20 : Value) (w0 : World), a = ⟨#[.agg (av 3 (ls [.bool (v0), .int .u64 h0, .int .u64 l0])), .agg (av 3 (ls [.bool (v1), .int .u64 h1, .int .u64 l1])), .int .u16 f, .bool false, .string d, .pointer (some ⟨g1, 0, none⟩), .pointer (some ⟨g2, 0, none⟩), undef, undef, undef, .pointer (some ⟨g3, 0, none⟩), .int .i64 0, .int .u8 128, .int .u8 58, undef, .bool false, .pointer (some ⟨g1, 0, none⟩), .bool true, .bool false, .int .u8 128, x_20, .string (bs [128]), .string ((bs [128]) ++ (⟨#[0, 0, 0]⟩ : ByteArray)), .int .u16 f, .int .u64 (cv .u64 f), .string (be2 (cv .u64 f)), .string (((bs [128]) ++ (⟨#[0, 0, 0]⟩ : ByteArray)) ++ (be2 (cv .u64 f))), .string ((((bs [128]) ++ (⟨#[0, 0, 0]⟩ : ByteArray)) ++ (be2 (cv .u64 f))) ++ (⟨#[0, 0]⟩ : ByteArray)), .string d, .string (((((bs [128]) ++ (⟨#[0, 0, 0]⟩ : ByteArray)) ++ (be2 (cv .u64 f))) ++ (⟨#[0, 0]⟩ : ByteArray)) ++ d), undef, undef, undef, undef, undef, undef, undef, undef], []⟩ → l = #[true, true, true, true, true, true, true, true, true, true, true, false] → Mem ⟨w, []⟩ [⟨g1, .cells (av 3 (ls [.bool (v0), .int .u64 h0, .int .u64 l0])) 24⟩, ⟨g2, .cells (av 3 (ls [.bool (v1), .int .u64 h1, .int .u64 l1])) 24⟩, ⟨g3, .cells (av 9 (ls [.bool false, .int .u64 0, .int .u64 0, .bool false, .int .u64 0, .int .u64 0, .int .u8 0, .int .u8 0, .string ⟨#[]⟩])) 26⟩] w0 → H 1 l a w0 := by
      intro a l  x_20 u0 ha hl M
      subst ha hl
      refine hB _ _ _ _ ?_
      refine hl_end (by kernel_rfl) (by kernel_rfl) rfl ?_
      refine pl_val (want_no rfl) (some 14) rfl (.string (((((bs [128]) ++ (⟨#[0, 0, 0]⟩ : ByteArray)) ++ (be2 (cv .u64 f))) ++ (⟨#[0, 0]⟩ : ByteArray)) ++ d)) (fun _ => by kernel_rfl) ?_
      refine pl_nil ?_
      refine au_then ?_
      refine au_then ?_
      refine wp_seq ?_
      refine rg_lit ?_
      refine pl_load M (want_no rfl) (some 30) rfl 24 _ rfl 0 g1 0 (by kernel_rfl) 3 24 (ls [.bool (v0), .int .u64 h0, .int .u64 l0]) rfl 3 (ls [.bool (v0), .int .u64 h0, .int .u64 l0]) (fun j _ => by rw [Nat.zero_add]) (by decide) _ Try.underlying24 rfl inz24 ?_
      refine pl_load M (want_no rfl) (some 31) rfl 24 _ rfl 1 g2 0 (by kernel_rfl) 3 24 (ls [.bool (v1), .int .u64 h1, .int .u64 l1]) rfl 3 (ls [.bool (v1), .int .u64 h1, .int .u64 l1]) (fun j _ => by rw [Nat.zero_add]) (by decide) _ Try.underlying24 rfl inz24 ?_
      refine pl_val (want_no rfl) (some 32) rfl (.int .u8 58) (fun _ => by kernel_rfl) ?_
      refine pl_val (want_no rfl) (some 33) rfl (.string (((((bs [128]) ++ (⟨#[0, 0, 0]⟩ : ByteArray)) ++ (be2 (cv .u64 f))) ++ (⟨#[0, 0]⟩ : ByteArray)) ++ d)) (fun _ => by kernel_rfl) ?_
      refine pl_val (want_no rfl) (some 34) rfl (.agg (av 9 (ls [.bool (v0), .int .u64 h0, .int .u64 l0, .bool (v1), .int .u64 h1, .int .u64 l1, .int .u8 58, .int .u8 64, .string (((((bs [128]) ++ (⟨#[0, 0, 0]⟩ : ByteArray)) ++ (be2 (cv .u64 f))) ++ (⟨#[0, 0]⟩ : ByteArray)) ++ d)]))) (fun _ => by kernel_rfl) ?_
      refine pl_call M (want_no rfl) (some 35) rfl 33 #[.agg (av 9 (ls [.bool (v0), .int .u64 h0, .int .u64 l0, .bool (v1), .int .u64 h1, .int .u64 l1, .int .u8 58, .int .u8 64, .string (((((bs [128]) ++ (⟨#[0, 0, 0]⟩ : ByteArray)) ++ (be2 (cv .u64 f))) ++ (⟨#[0, 0]⟩ : ByteArray)) ++ d)])), .int .i64 2] (.tuple #[.agg (av 9 (ls [.bool (zB (pkE v0 h0 l0 v1 h1 l1 (ehA (kO (eP v0) false)) (ehB f d)) v0), .int .u64 (zI (pkE v0 h0 l0 v1 h1 l1 (ehA (kO (eP v0) false)) (ehB f d)) h0), .int .u64 (zI (pkE v0 h0 l0 v1 h1 l1 (ehA (kO (eP v0) false)) (ehB f d)) l0), .bool (zB (pkE v0 h0 l0 v1 h1 l1 (ehA (kO (eP v0) false)) (ehB f d)) v1), .int .u64 (zI (pkE v0 h0 l0 v1 h1 l1 (ehA (kO (eP v0) false)) (ehB f d)) h1), .int .u64 (zI (pkE v0 h0 l0 v1 h1 l1 (ehA (kO (eP v0) false)) (ehB f d)) l1), .int .u8 (zI (pkE v0 h0 l0 v1 h1 l1 (ehA (kO (eP v0) false)) (ehB f d)) (eP v0)), .int .u8 (zI (pkE v0 h0 l0 v1 h1 l1 (ehA (kO (eP v0) false)) (ehB f d)) 64), .string (zS (pkE v0 h0 l0 v1 h1 l1 (ehA (kO (eP v0) false)) (ehB f d)) (pkO v0 h0 l0 v1 h1 l1 (eP v0) (ehA (kO (eP v0) false)) (ehB f d)))])), .int .i64 (pkE v0 h0 l0 v1 h1 l1 (ehA (kO (eP v0) false)) (ehB f d))]) (fun _ => by kernel_rfl) (fun w M => call_val (d_made v0 h0 l0 v1 h1 l1 58 (((((bs [128]) ++ (⟨#[0, 0, 0]⟩ : ByteArray)) ++ (be2 (cv .u64 f))) ++ (⟨#[0, 0]⟩ : ByteArray)) ++ d) (ehA 128) (ehB f d) 2 (ehA_size _).symm (eh_doc 128 f d) (by (try simp only [ByteArray.size_append, ByteArray.size_extract, be2_size, be4_size, be8_size, bs_size, sz_mk, List.size_toArray, List.length_cons, List.length_nil]); omega) (by omega) w M.laid) (by rw [show eP v0 = 58 by rw [c0]; rfl, show kO 58 false = 128 by decide, eh_doc 128 f d]; rfl)) ?_
      intro u7 M
      refine pl_val (want_no rfl) (some 36) rfl (.agg (av 9 (ls [.bool (zB (pkE v0 h0 l0 v1 h1 l1 (ehA (kO (eP v0) false)) (ehB f d)) v0), .int .u64 (zI (pkE v0 h0 l0 v1 h1 l1 (ehA (kO (eP v0) false)) (ehB f d)) h0), .int .u64 (zI (pkE v0 h0 l0 v1 h1 l1 (ehA (kO (eP v0) false)) (ehB f d)) l0), .bool (zB (pkE v0 h0 l0 v1 h1 l1 (ehA (kO (eP v0) false)) (ehB f d)) v1), .int .u64 (zI (pkE v0 h0 l0 v1 h1 l1 (ehA (kO (eP v0) false)) (ehB f d)) h1), .int .u64 (zI (pkE v0 h0 l0 v1 h1 l1 (ehA (kO (eP v0) false)) (ehB f d)) l1), .int .u8 (zI (pkE v0 h0 l0 v1 h1 l1 (ehA (kO (eP v0) false)) (ehB f d)) (eP v0)), .int .u8 (zI (pkE v0 h0 l0 v1 h1 l1 (ehA (kO (eP v0) false)) (ehB f d)) 64), .string (zS (pkE v0 h0 l0 v1 h1 l1 (ehA (kO (eP v0) false)) (ehB f d)) (pkO v0 h0 l0 v1 h1 l1 (eP v0) (ehA (kO (eP v0) false)) (ehB f d)))]))) (fun _ => by kernel_rfl) ?_
      refine pl_val (want_no rfl) (some 37) rfl (.int .i64 (pkE v0 h0 l0 v1 h1 l1 (ehA (kO (eP v0) false)) (ehB f d))) (fun _ => by kernel_rfl) ?_
      refine pl_put M (want_no rfl) rfl 26 _ _ rfl 2 g3 0 (by kernel_rfl) 9 26 (ls [.bool false, .int .u64 0, .int .u64 0, .bool false, .int .u64 0, .int .u64 0, .int .u8 0, .int .u8 0, .string ⟨#[]⟩]) rfl 9 (ls [.bool (zB (pkE v0 h0 l0 v1 h1 l1 (ehA (kO (eP v0) false)) (ehB f d)) v0), .int .u64 (zI (pkE v0 h0 l0 v1 h1 l1 (ehA (kO (eP v0) false)) (ehB f d)) h0), .int .u64 (zI (pkE v0 h0 l0 v1 h1 l1 (ehA (kO (eP v0) false)) (ehB f d)) l0), .bool (zB (pkE v0 h0 l0 v1 h1 l1 (ehA (kO (eP v0) false)) (ehB f d)) v1), .int .u64 (zI (pkE v0 h0 l0 v1 h1 l1 (ehA (kO (eP v0) false)) (ehB f d)) h1), .int .u64 (zI (pkE v0 h0 l0 v1 h1 l1 (ehA (kO (eP v0) false)) (ehB f d)) l1), .int .u8 (zI (pkE v0 h0 l0 v1 h1 l1 (ehA (kO (eP v0) false)) (ehB f d)) (eP v0)), .int .u8 (zI (pkE v0 h0 l0 v1 h1 l1 (ehA (kO (eP v0) false)) (ehB f d)) 64), .string (zS (pkE v0 h0 l0 v1 h1 l1 (ehA (kO (eP v0) false)) (ehB f d)) (pkO v0 h0 l0 v1 h1 l1 (eP v0) (ehA (kO (eP v0) false)) (ehB f d)))]) (ls [.bool (zB (pkE v0 h0 l0 v1 h1 l1 (ehA (kO (eP v0) false)) (ehB f d)) v0), .int .u64 (zI (pkE v0 h0 l0 v1 h1 l1 (ehA (kO (eP v0) false)) (ehB f d)) h0), .int .u64 (zI (pkE v0 h0 l0 v1 h1 l1 (ehA (kO (eP v0) false)) (ehB f d)) l0), .bool (zB (pkE v0 h0 l0 v1 h1 l1 (ehA (kO (eP v0) false)) (ehB f d)) v1), .int .u64 (zI (pkE v0 h0 l0 v1 h1 l1 (ehA (kO (eP v0) false)) (ehB f d)) h1), .int .u64 (zI (pkE v0 h0 l0 v1 h1 l1 (ehA (kO (eP v0) false)) (ehB f d)) l1), .int .u8 (zI (pkE v0 h0 l0 v1 h1 l1 (ehA (kO (eP v0) false)) (ehB f d)) (eP v0)), .int .u8 (zI (pkE v0 h0 l0 v1 h1 l1 (ehA (kO (eP v0) false)) (ehB f d)) 64), .string (zS (pkE v0 h0 l0 v1 h1 l1 (ehA (kO (eP v0) false)) (ehB f d)) (pkO v0 h0 l0 v1 h1 l1 (eP v0) (ehA (kO (eP v0) false)) (ehB f d)))]) (by kernel_rfl) inz26 (by decide) (one_ls _ rfl) (fun j hj => by rw [if_pos (by omega), Nat.sub_zero]) ?_
      intro u8 M
      replace M : Mem ⟨w, []⟩ [⟨g1, .cells (av 3 (ls [.bool (v0), .int .u64 h0, .int .u64 l0])) 24⟩, ⟨g2, .cells (av 3 (ls [.bool (v1), .int .u64 h1, .int .u64 l1])) 24⟩, ⟨g3, .cells (av 9 (ls [.bool (zB (pkE v0 h0 l0 v1 h1 l1 (ehA (kO (eP v0) false)) (ehB f d)) v0), .int .u64 (zI (pkE v0 h0 l0 v1 h1 l1 (ehA (kO (eP v0) false)) (ehB f d)) h0), .int .u64 (zI (pkE v0 h0 l0 v1 h1 l1 (ehA (kO (eP v0) false)) (ehB f d)) l0), .bool (zB (pkE v0 h0 l0 v1 h1 l1 (ehA (kO (eP v0) false)) (ehB f d)) v1), .int .u64 (zI (pkE v0 h0 l0 v1 h1 l1 (ehA (kO (eP v0) false)) (ehB f d)) h1), .int .u64 (zI (pkE v0 h0 l0 v1 h1 l1 (ehA (kO (eP v0) false)) (ehB f d)) l1), .int .u8 (zI (pkE v0 h0 l0 v1 h1 l1 (ehA (kO (eP v0) false)) (ehB f d)) (eP v0)), .int .u8 (zI (pkE v0 h0 l0 v1 h1 l1 (ehA (kO (eP v0) false)) (ehB f d)) 64), .string (zS (pkE v0 h0 l0 v1 h1 l1 (ehA (kO (eP v0) false)) (ehB f d)) (pkO v0 h0 l0 v1 h1 l1 (eP v0) (ehA (kO (eP v0) false)) (ehB f d)))])) 26⟩] u8 := M
      refine pl_val (want_no rfl) (some 11) rfl (.int .i64 (pkE v0 h0 l0 v1 h1 l1 (ehA (kO (eP v0) false)) (ehB f d))) (fun _ => by kernel_rfl) ?_
      refine pl_nil ?_
      refine au_then ?_
      refine wp_ret ?_
      exact bodyPost_ret (v := .tuple #[.agg (av 9 (ls [.bool (zB (pkE v0 h0 l0 v1 h1 l1 (ehA (kO (eP v0) false)) (ehB f d)) v0), .int .u64 (zI (pkE v0 h0 l0 v1 h1 l1 (ehA (kO (eP v0) false)) (ehB f d)) h0), .int .u64 (zI (pkE v0 h0 l0 v1 h1 l1 (ehA (kO (eP v0) false)) (ehB f d)) l0), .bool (zB (pkE v0 h0 l0 v1 h1 l1 (ehA (kO (eP v0) false)) (ehB f d)) v1), .int .u64 (zI (pkE v0 h0 l0 v1 h1 l1 (ehA (kO (eP v0) false)) (ehB f d)) h1), .int .u64 (zI (pkE v0 h0 l0 v1 h1 l1 (ehA (kO (eP v0) false)) (ehB f d)) l1), .int .u8 (zI (pkE v0 h0 l0 v1 h1 l1 (ehA (kO (eP v0) false)) (ehB f d)) (eP v0)), .int .u8 (zI (pkE v0 h0 l0 v1 h1 l1 (ehA (kO (eP v0) false)) (ehB f d)) 64), .string (zS (pkE v0 h0 l0 v1 h1 l1 (ehA (kO (eP v0) false)) (ehB f d)) (pkO v0 h0 l0 v1 h1 l1 (eP v0) (ehA (kO (eP v0) false)) (ehB f d)))])), .int .i64 (pkE v0 h0 l0 v1 h1 l1 (ehA (kO (eP v0) false)) (ehB f d))]) (results_cell_tmp Try.results19 _ _ g3 26 (av 9 (ls [.bool (zB (pkE v0 h0 l0 v1 h1 l1 (ehA (kO (eP v0) false)) (ehB f d)) v0), .int .u64 (zI (pkE v0 h0 l0 v1 h1 l1 (ehA (kO (eP v0) false)) (ehB f d)) h0), .int .u64 (zI (pkE v0 h0 l0 v1 h1 l1 (ehA (kO (eP v0) false)) (ehB f d)) l0), .bool (zB (pkE v0 h0 l0 v1 h1 l1 (ehA (kO (eP v0) false)) (ehB f d)) v1), .int .u64 (zI (pkE v0 h0 l0 v1 h1 l1 (ehA (kO (eP v0) false)) (ehB f d)) h1), .int .u64 (zI (pkE v0 h0 l0 v1 h1 l1 (ehA (kO (eP v0) false)) (ehB f d)) l1), .int .u8 (zI (pkE v0 h0 l0 v1 h1 l1 (ehA (kO (eP v0) false)) (ehB f d)) (eP v0)), .int .u8 (zI (pkE v0 h0 l0 v1 h1 l1 (ehA (kO (eP v0) false)) (ehB f d)) 64), .string (zS (pkE v0 h0 l0 v1 h1 l1 (ehA (kO (eP v0) false)) (ehB f d)) (pkO v0 h0 l0 v1 h1 l1 (eP v0) (ehA (kO (eP v0) false)) (ehB f d)))])) (0, 0) _ _ (by kernel_rfl) (by kernel_rfl) (M.get 2 rfl) Try.underlying26 rfl (by rw [av_size]; exact inz26)) (by kernel_rfl) ⟨rfl, below_grown M.old⟩
    have s3 : ∀ (a : Act) (l : Array Bool) (x_20 : Value) (w0 : World), a = ⟨#[.agg (av 3 (ls [.bool (v0), .int .u64 h0, .int .u64 l0])), .agg (av 3 (ls [.bool (v1), .int .u64 h1, .int .u64 l1])), .int .u16 f, .bool false, .string d, .pointer (some ⟨g1, 0, none⟩), .pointer (some ⟨g2, 0, none⟩), undef, undef, undef, .pointer (some ⟨g3, 0, none⟩), .int .i64 0, .int .u8 128, .int .u8 58, undef, .bool false, .pointer (some ⟨g1, 0, none⟩), .bool true, .bool false, .int .u8 128, x_20, .string (bs [128]), .string ((bs [128]) ++ (⟨#[0, 0, 0]⟩ : ByteArray)), .int .u16 f, .int .u64 (cv .u64 f), undef, undef, undef, .string d, undef, undef, undef, undef, undef, undef, undef, undef, undef], []⟩ → l = #[true, true, true, true, true, true, false, false, false, true, false, false] → Mem ⟨w, []⟩ [⟨g1, .cells (av 3 (ls [.bool (v0), .int .u64 h0, .int .u64 l0])) 24⟩, ⟨g2, .cells (av 3 (ls [.bool (v1), .int .u64 h1, .int .u64 l1])) 24⟩, ⟨g3, .cells (av 9 (ls [.bool false, .int .u64 0, .int .u64 0, .bool false, .int .u64 0, .int .u64 0, .int .u8 0, .int .u8 0, .string ⟨#[]⟩])) 26⟩] w0 → H 5 l a w0 := by
      intro a l  x_20 u0 ha hl M
      subst ha hl
      refine hB _ _ _ _ ?_
      refine hl_one 6 (by decide) (by kernel_rfl) rfl ?_
      refine pl_call M (want_no rfl) (some 25) rfl 32 #[.int .u64 (cv .u64 f), .int .i64 2] (.string (be2 (cv .u64 f))) (fun _ => by kernel_rfl) (fun w M => c_num2 (cv .u64 f) w M.laid) ?_
      intro u6 M
      refine pl_nil ?_
      refine au_then ?_
      refine ⟨M, ?_⟩
      refine hl_val M 7 rfl (by decide) (by kernel_rfl) (by kernel_rfl) (want_no rfl) (some 26) rfl (.string (((bs [128]) ++ (⟨#[0, 0, 0]⟩ : ByteArray)) ++ (be2 (cv .u64 f)))) (fun w _ => (run_cat 9 9 _ _ rfl ((bs [128]) ++ (⟨#[0, 0, 0]⟩ : ByteArray)) (be2 (cv .u64 f)) (by kernel_rfl) (by kernel_rfl) (by (try simp only [ByteArray.size_append, ByteArray.size_extract, be2_size, be4_size, be8_size, bs_size, sz_mk, List.size_toArray, List.length_cons, List.length_nil]); omega)) w) ?_
      refine hl_val M 8 rfl (by decide) (by kernel_rfl) (by kernel_rfl) (want_no rfl) (some 27) rfl (.string ((((bs [128]) ++ (⟨#[0, 0, 0]⟩ : ByteArray)) ++ (be2 (cv .u64 f))) ++ (⟨#[0, 0]⟩ : ByteArray))) (fun w _ => (run_cat 9 9 _ _ rfl (((bs [128]) ++ (⟨#[0, 0, 0]⟩ : ByteArray)) ++ (be2 (cv .u64 f))) ⟨#[0, 0]⟩ (by kernel_rfl) (by kernel_rfl) (by (try simp only [ByteArray.size_append, ByteArray.size_extract, be2_size, be4_size, be8_size, bs_size, sz_mk, List.size_toArray, List.length_cons, List.length_nil]); omega)) w) ?_
      refine hl_val M 10 rfl (by decide) (by kernel_rfl) (by kernel_rfl) (want_no rfl) (some 29) rfl (.string (((((bs [128]) ++ (⟨#[0, 0, 0]⟩ : ByteArray)) ++ (be2 (cv .u64 f))) ++ (⟨#[0, 0]⟩ : ByteArray)) ++ d)) (fun w _ => (run_cat 9 9 _ _ rfl ((((bs [128]) ++ (⟨#[0, 0, 0]⟩ : ByteArray)) ++ (be2 (cv .u64 f))) ++ (⟨#[0, 0]⟩ : ByteArray)) d (by kernel_rfl) (by kernel_rfl) (by (try simp only [ByteArray.size_append, ByteArray.size_extract, be2_size, be4_size, be8_size, bs_size, sz_mk, List.size_toArray, List.length_cons, List.length_nil]); omega)) w) ?_
      exact hA _ _ _ _ (s5 _ _ (x_20) _ (by kernel_rfl) (by kernel_rfl) M)
    have s4 : ∀ (a : Act) (l : Array Bool) (g4 : Nat) (w0 : World), a = ⟨#[.agg (av 3 (ls [.bool (v0), .int .u64 h0, .int .u64 l0])), .agg (av 3 (ls [.bool (v1), .int .u64 h1, .int .u64 l1])), .int .u16 f, .bool false, .string d, .pointer (some ⟨g1, 0, none⟩), .pointer (some ⟨g2, 0, none⟩), undef, undef, undef, .pointer (some ⟨g3, 0, none⟩), .int .i64 0, .int .u8 128, .int .u8 58, undef, .bool false, .pointer (some ⟨g1, 0, none⟩), .bool true, .bool false, .int .u8 128, .slice (some ⟨g4, 0, none⟩) 1 1, undef, undef, .int .u16 f, .int .u64 (cv .u64 f), .string (be2 (cv .u64 f)), undef, undef, .string d, undef, undef, undef, undef, undef, undef, undef, undef, undef], []⟩ → l = #[true, true, false, false, true, true, true, false, false, true, false, false] → Mem ⟨w, []⟩ [⟨g1, .cells (av 3 (ls [.bool (v0), .int .u64 h0, .int .u64 l0])) 24⟩, ⟨g2, .cells (av 3 (ls [.bool (v1), .int .u64 h1, .int .u64 l1])) 24⟩, ⟨g3, .cells (av 9 (ls [.bool false, .int .u64 0, .int .u64 0, .bool false, .int .u64 0, .int .u64 0, .int .u8 0, .int .u8 0, .string ⟨#[]⟩])) 26⟩, ⟨g4, .cells (av 1 (ls [.int .u8 128])) 5⟩] w0 → H 6 l a w0 := by
      intro a l g4  u0 ha hl M
      subst ha hl
      refine hB _ _ _ _ ?_
      refine hl_one 2 (by decide) (by kernel_rfl) rfl ?_
      refine pl_back M (want_no rfl) (some 21) rfl _ rfl 3 g4 1 1 (by kernel_rfl) _ rfl [128] 1 (sb_ls [128] _) rfl (by intro x hx; simp only [List.mem_cons, List.mem_nil_iff, or_false] at hx; subst hx; omega) ?_
      refine pl_nil ?_
      refine au_then ?_
      refine ⟨(M.drop (.cons_cons _ (.cons_cons _ (.cons_cons _ (.cons _ (.slnil)))))), ?_⟩
      refine hl_val (M.drop (.cons_cons _ (.cons_cons _ (.cons_cons _ (.cons _ (.slnil)))))) 3 rfl (by decide) (by kernel_rfl) (by kernel_rfl) (want_no rfl) (some 22) rfl (.string ((bs [128]) ++ (⟨#[0, 0, 0]⟩ : ByteArray))) (fun w _ => (run_cat 9 9 _ _ rfl (bs [128]) ⟨#[0, 0, 0]⟩ (by kernel_rfl) (by kernel_rfl) (by (try simp only [ByteArray.size_append, ByteArray.size_extract, be2_size, be4_size, be8_size, bs_size, sz_mk, List.size_toArray, List.length_cons, List.length_nil]); omega)) w) ?_
      refine hl_val (M.drop (.cons_cons _ (.cons_cons _ (.cons_cons _ (.cons _ (.slnil)))))) 7 rfl (by decide) (by kernel_rfl) (by kernel_rfl) (want_no rfl) (some 26) rfl (.string (((bs [128]) ++ (⟨#[0, 0, 0]⟩ : ByteArray)) ++ (be2 (cv .u64 f)))) (fun w _ => (run_cat 9 9 _ _ rfl ((bs [128]) ++ (⟨#[0, 0, 0]⟩ : ByteArray)) (be2 (cv .u64 f)) (by kernel_rfl) (by kernel_rfl) (by (try simp only [ByteArray.size_append, ByteArray.size_extract, be2_size, be4_size, be8_size, bs_size, sz_mk, List.size_toArray, List.length_cons, List.length_nil]); omega)) w) ?_
      refine hl_val (M.drop (.cons_cons _ (.cons_cons _ (.cons_cons _ (.cons _ (.slnil)))))) 8 rfl (by decide) (by kernel_rfl) (by kernel_rfl) (want_no rfl) (some 27) rfl (.string ((((bs [128]) ++ (⟨#[0, 0, 0]⟩ : ByteArray)) ++ (be2 (cv .u64 f))) ++ (⟨#[0, 0]⟩ : ByteArray))) (fun w _ => (run_cat 9 9 _ _ rfl (((bs [128]) ++ (⟨#[0, 0, 0]⟩ : ByteArray)) ++ (be2 (cv .u64 f))) ⟨#[0, 0]⟩ (by kernel_rfl) (by kernel_rfl) (by (try simp only [ByteArray.size_append, ByteArray.size_extract, be2_size, be4_size, be8_size, bs_size, sz_mk, List.size_toArray, List.length_cons, List.length_nil]); omega)) w) ?_
      refine hl_val (M.drop (.cons_cons _ (.cons_cons _ (.cons_cons _ (.cons _ (.slnil)))))) 10 rfl (by decide) (by kernel_rfl) (by kernel_rfl) (want_no rfl) (some 29) rfl (.string (((((bs [128]) ++ (⟨#[0, 0, 0]⟩ : ByteArray)) ++ (be2 (cv .u64 f))) ++ (⟨#[0, 0]⟩ : ByteArray)) ++ d)) (fun w _ => (run_cat 9 9 _ _ rfl ((((bs [128]) ++ (⟨#[0, 0, 0]⟩ : ByteArray)) ++ (be2 (cv .u64 f))) ++ (⟨#[0, 0]⟩ : ByteArray)) d (by kernel_rfl) (by kernel_rfl) (by (try simp only [ByteArray.size_append, ByteArray.size_extract, be2_size, be4_size, be8_size, bs_size, sz_mk, List.size_toArray, List.length_cons, List.length_nil]); omega)) w) ?_
      exact hA _ _ _ _ (s5 _ _ (.slice (some ⟨g4, 0, none⟩) 1 1) _ (by kernel_rfl) (by kernel_rfl) (M.drop (.cons_cons _ (.cons_cons _ (.cons_cons _ (.cons _ (.slnil)))))))
    have s1 : ∀ (a : Act) (l : Array Bool) (g4 : Nat) (w0 : World), a = ⟨#[.agg (av 3 (ls [.bool (v0), .int .u64 h0, .int .u64 l0])), .agg (av 3 (ls [.bool (v1), .int .u64 h1, .int .u64 l1])), .int .u16 f, .bool false, .string d, .pointer (some ⟨g1, 0, none⟩), .pointer (some ⟨g2, 0, none⟩), undef, undef, undef, .pointer (some ⟨g3, 0, none⟩), .int .i64 0, .int .u8 128, .int .u8 58, undef, .bool false, .pointer (some ⟨g1, 0, none⟩), .bool true, .bool false, .int .u8 128, .slice (some ⟨g4, 0, none⟩) 1 1, undef, undef, .int .u16 f, .int .u64 (cv .u64 f), undef, undef, undef, .string d, undef, undef, undef, undef, undef, undef, undef, undef, undef], []⟩ → l = #[true, true, false, false, true, true, false, false, false, true, false, false] → Mem ⟨w, []⟩ [⟨g1, .cells (av 3 (ls [.bool (v0), .int .u64 h0, .int .u64 l0])) 24⟩, ⟨g2, .cells (av 3 (ls [.bool (v1), .int .u64 h1, .int .u64 l1])) 24⟩, ⟨g3, .cells (av 9 (ls [.bool false, .int .u64 0, .int .u64 0, .bool false, .int .u64 0, .int .u64 0, .int .u8 0, .int .u8 0, .string ⟨#[]⟩])) 26⟩, ⟨g4, .cells (av 1 (ls [.int .u8 128])) 5⟩] w0 → H 7 l a w0 := by
      intro a l g4  u0 ha hl M
      subst ha hl
      refine hB _ _ _ _ ?_
      refine hl_two 2 6 (by decide) (by decide) (by kernel_rfl) rfl rfl ?_ ?_
      · skip
        refine pl_back M (want_no rfl) (some 21) rfl _ rfl 3 g4 1 1 (by kernel_rfl) _ rfl [128] 1 (sb_ls [128] _) rfl (by intro x hx; simp only [List.mem_cons, List.mem_nil_iff, or_false] at hx; subst hx; omega) ?_
        refine pl_nil ?_
        refine au_then ?_
        refine ⟨(M.drop (.cons_cons _ (.cons_cons _ (.cons_cons _ (.cons _ (.slnil)))))), ?_⟩
        refine hl_val (M.drop (.cons_cons _ (.cons_cons _ (.cons_cons _ (.cons _ (.slnil)))))) 3 rfl (by decide) (by kernel_rfl) (by kernel_rfl) (want_no rfl) (some 22) rfl (.string ((bs [128]) ++ (⟨#[0, 0, 0]⟩ : ByteArray))) (fun w _ => (run_cat 9 9 _ _ rfl (bs [128]) ⟨#[0, 0, 0]⟩ (by kernel_rfl) (by kernel_rfl) (by (try simp only [ByteArray.size_append, ByteArray.size_extract, be2_size, be4_size, be8_size, bs_size, sz_mk, List.size_toArray, List.length_cons, List.length_nil]); omega)) w) ?_
        exact hA _ _ _ _ (s3 _ _ (.slice (some ⟨g4, 0, none⟩) 1 1) _ (by kernel_rfl) (by kernel_rfl) (M.drop (.cons_cons _ (.cons_cons _ (.cons_cons _ (.cons _ (.slnil)))))))
      · skip
        refine pl_call M (want_no rfl) (some 25) rfl 32 #[.int .u64 (cv .u64 f), .int .i64 2] (.string (be2 (cv .u64 f))) (fun _ => by kernel_rfl) (fun w M => c_num2 (cv .u64 f) w M.laid) ?_
        intro u6 M
        refine pl_nil ?_
        refine au_then ?_
        refine ⟨(M.drop (.cons_cons _ (.cons_cons _ (.cons_cons _ (.cons _ (.slnil)))))), ?_⟩
        exact hA _ _ _ _ (s4 _ _ g4 _ (by kernel_rfl) (by kernel_rfl) M)
    have s2 : ∀ (a : Act) (l : Array Bool) (w0 : World), a = ⟨#[.agg (av 3 (ls [.bool (v0), .int .u64 h0, .int .u64 l0])), .agg (av 3 (ls [.bool (v1), .int .u64 h1, .int .u64 l1])), .int .u16 f, .bool false, .string d, .pointer (some ⟨g1, 0, none⟩), .pointer (some ⟨g2, 0, none⟩), undef, undef, undef, .pointer (some ⟨g3, 0, none⟩), .int .i64 0, .int .u8 128, .int .u8 58, undef, .bool false, .pointer (some ⟨g1, 0, none⟩), .bool true, .bool false, .int .u8 128, undef, undef, undef, .int .u16 f, .int .u64 (cv .u64 f), .string (be2 (cv .u64 f)), undef, undef, .string d, undef, undef, undef, undef, undef, undef, undef, undef, undef], []⟩ → l = #[true, false, false, false, true, true, true, false, false, true, false, false] → Mem ⟨w, []⟩ [⟨g1, .cells (av 3 (ls [.bool (v0), .int .u64 h0, .int .u64 l0])) 24⟩, ⟨g2, .cells (av 3 (ls [.bool (v1), .int .u64 h1, .int .u64 l1])) 24⟩, ⟨g3, .cells (av 9 (ls [.bool false, .int .u64 0, .int .u64 0, .bool false, .int .u64 0, .int .u64 0, .int .u8 0, .int .u8 0, .string ⟨#[]⟩])) 26⟩] w0 → H 7 l a w0 := by
      intro a l   u0 ha hl M
      subst ha hl
      refine hB _ _ _ _ ?_
      refine hl_one 1 (by decide) (by kernel_rfl) rfl ?_
      refine pl_mk M (want_no rfl) (some 20) rfl (fun g4 => .slice (some ⟨g4, 0, none⟩) 1 1) (.cells (av 1 (ls [.int .u8 128])) 5) (fun _ => by kernel_rfl) ?_
      intro g4 u6 M
      replace M : Mem ⟨w, []⟩ [⟨g1, .cells (av 3 (ls [.bool (v0), .int .u64 h0, .int .u64 l0])) 24⟩, ⟨g2, .cells (av 3 (ls [.bool (v1), .int .u64 h1, .int .u64 l1])) 24⟩, ⟨g3, .cells (av 9 (ls [.bool false, .int .u64 0, .int .u64 0, .bool false, .int .u64 0, .int .u64 0, .int .u8 0, .int .u8 0, .string ⟨#[]⟩])) 26⟩, ⟨g4, .cells (av 1 (ls [.int .u8 128])) 5⟩] u6 := M
      refine pl_nil ?_
      refine au_then ?_
      refine ⟨(M.drop (.cons_cons _ (.cons_cons _ (.cons_cons _ (.cons _ (.slnil)))))), ?_⟩
      exact hA _ _ _ _ (s4 _ _ g4 _ (by kernel_rfl) (by kernel_rfl) M)
    have s0 : ∀ (a : Act) (l : Array Bool) (w0 : World), a = ⟨#[.agg (av 3 (ls [.bool (v0), .int .u64 h0, .int .u64 l0])), .agg (av 3 (ls [.bool (v1), .int .u64 h1, .int .u64 l1])), .int .u16 f, .bool false, .string d, .pointer (some ⟨g1, 0, none⟩), .pointer (some ⟨g2, 0, none⟩), undef, undef, undef, .pointer (some ⟨g3, 0, none⟩), .int .i64 0, .int .u8 128, .int .u8 58, undef, .bool false, .pointer (some ⟨g1, 0, none⟩), .bool true, .bool false, .int .u8 128, undef, undef, undef, .int .u16 f, .int .u64 (cv .u64 f), undef, undef, undef, .string d, undef, undef, undef, undef, undef, undef, undef, undef, undef], []⟩ → l = #[true, false, false, false, true, true, false, false, false, true, false, false] → Mem ⟨w, []⟩ [⟨g1, .cells (av 3 (ls [.bool (v0), .int .u64 h0, .int .u64 l0])) 24⟩, ⟨g2, .cells (av 3 (ls [.bool (v1), .int .u64 h1, .int .u64 l1])) 24⟩, ⟨g3, .cells (av 9 (ls [.bool false, .int .u64 0, .int .u64 0, .bool false, .int .u64 0, .int .u64 0, .int .u8 0, .int .u8 0, .string ⟨#[]⟩])) 26⟩] w0 → H 8 l a w0 := by
      intro a l   u0 ha hl M
      subst ha hl
      refine hB _ _ _ _ ?_
      refine hl_two 1 6 (by decide) (by decide) (by kernel_rfl) rfl rfl ?_ ?_
      · skip
        refine pl_mk M (want_no rfl) (some 20) rfl (fun g4 => .slice (some ⟨g4, 0, none⟩) 1 1) (.cells (av 1 (ls [.int .u8 128])) 5) (fun _ => by kernel_rfl) ?_
        intro g4 u5 M
        replace M : Mem ⟨w, []⟩ [⟨g1, .cells (av 3 (ls [.bool (v0), .int .u64 h0, .int .u64 l0])) 24⟩, ⟨g2, .cells (av 3 (ls [.bool (v1), .int .u64 h1, .int .u64 l1])) 24⟩, ⟨g3, .cells (av 9 (ls [.bool false, .int .u64 0, .int .u64 0, .bool false, .int .u64 0, .int .u64 0, .int .u8 0, .int .u8 0, .string ⟨#[]⟩])) 26⟩, ⟨g4, .cells (av 1 (ls [.int .u8 128])) 5⟩] u5 := M
        refine pl_nil ?_
        refine au_then ?_
        refine ⟨(M.drop (.cons_cons _ (.cons_cons _ (.cons_cons _ (.cons _ (.slnil)))))), ?_⟩
        exact hA _ _ _ _ (s1 _ _ g4 _ (by kernel_rfl) (by kernel_rfl) M)
      · skip
        refine pl_call M (want_no rfl) (some 25) rfl 32 #[.int .u64 (cv .u64 f), .int .i64 2] (.string (be2 (cv .u64 f))) (fun _ => by kernel_rfl) (fun w M => c_num2 (cv .u64 f) w M.laid) ?_
        intro u5 M
        refine pl_nil ?_
        refine au_then ?_
        refine ⟨M, ?_⟩
        exact hA _ _ _ _ (s2 _ _  _ (by kernel_rfl) (by kernel_rfl) M)
    exact s0 _ _  _ (by kernel_rfl) (by kernel_rfl) M
  · skip
    refine pl_cell M (want_no rfl) (some 17) rfl 4 _ rfl g1 0 (by kernel_rfl) (.bool false) (fun _ => by kernel_rfl) (fun w M => M.cell 0 rfl (by decide) (congrArg Value.bool c0)) ?_
    refine pl_nil ?_
    refine au_then ?_
    refine wp_cond_false (by kernel_rfl) ?_
    refine wp_skip ?_
    refine au_then ?_
    refine wp_seq ?_
    refine rg_held M [⟨g1, .cells (av 3 (ls [.bool (v0), .int .u64 h0, .int .u64 l0])) 24⟩, ⟨g2, .cells (av 3 (ls [.bool (v1), .int .u64 h1, .int .u64 l1])) 24⟩, ⟨g3, .cells (av 9 (ls [.bool false, .int .u64 0, .int .u64 0, .bool false, .int .u64 0, .int .u64 0, .int .u8 0, .int .u8 0, .string ⟨#[]⟩])) 26⟩] 11 rfl (by kernel_rfl) (by kernel_rfl) (fun _ _ d _ _ h => by cases d <;> exact h) ?_
    intro u4 M
    replace M : Mem ⟨w, []⟩ [⟨g1, .cells (av 3 (ls [.bool (v0), .int .u64 h0, .int .u64 l0])) 24⟩, ⟨g2, .cells (av 3 (ls [.bool (v1), .int .u64 h1, .int .u64 l1])) 24⟩, ⟨g3, .cells (av 9 (ls [.bool false, .int .u64 0, .int .u64 0, .bool false, .int .u64 0, .int .u64 0, .int .u8 0, .int .u8 0, .string ⟨#[]⟩])) 26⟩] u4 := M
    refine hl_val M 0 rfl (by decide) (by kernel_rfl) (by kernel_rfl) (want_no rfl) (some 19) rfl (.int .u8 8) (fun _ _ => by kernel_rfl) ?_
    refine hl_val M 4 rfl (by decide) (by kernel_rfl) (by kernel_rfl) (want_no rfl) (some 23) rfl (.int .u16 f) (fun _ _ => by kernel_rfl) ?_
    refine hl_val M 5 rfl (by decide) (by kernel_rfl) (by kernel_rfl) (want_no rfl) (some 24) rfl (.int .u64 (cv .u64 f)) (fun _ _ => by kernel_rfl) ?_
    refine hl_val M 9 rfl (by decide) (by kernel_rfl) (by kernel_rfl) (want_no rfl) (some 28) rfl (.string d) (fun _ _ => by kernel_rfl) ?_
    refine hl_name ?_
    intro H hA hB
    have s5 : ∀ (a : Act) (l : Array Bool) (x_20 : Value) (w0 : World), a = ⟨#[.agg (av 3 (ls [.bool (v0), .int .u64 h0, .int .u64 l0])), .agg (av 3 (ls [.bool (v1), .int .u64 h1, .int .u64 l1])), .int .u16 f, .bool false, .string d, .pointer (some ⟨g1, 0, none⟩), .pointer (some ⟨g2, 0, none⟩), undef, undef, undef, .pointer (some ⟨g3, 0, none⟩), .int .i64 0, .int .u8 8, .int .u8 1, undef, .bool false, .pointer (some ⟨g1, 0, none⟩), .bool false, undef, .int .u8 8, x_20, .string (bs [8]), .string ((bs [8]) ++ (⟨#[0, 0, 0]⟩ : ByteArray)), .int .u16 f, .int .u64 (cv .u64 f), .string (be2 (cv .u64 f)), .string (((bs [8]) ++ (⟨#[0, 0, 0]⟩ : ByteArray)) ++ (be2 (cv .u64 f))), .string ((((bs [8]) ++ (⟨#[0, 0, 0]⟩ : ByteArray)) ++ (be2 (cv .u64 f))) ++ (⟨#[0, 0]⟩ : ByteArray)), .string d, .string (((((bs [8]) ++ (⟨#[0, 0, 0]⟩ : ByteArray)) ++ (be2 (cv .u64 f))) ++ (⟨#[0, 0]⟩ : ByteArray)) ++ d), undef, undef, undef, undef, undef, undef, undef, undef], []⟩ → l = #[true, true, true, true, true, true, true, true, true, true, true, false] → Mem ⟨w, []⟩ [⟨g1, .cells (av 3 (ls [.bool (v0), .int .u64 h0, .int .u64 l0])) 24⟩, ⟨g2, .cells (av 3 (ls [.bool (v1), .int .u64 h1, .int .u64 l1])) 24⟩, ⟨g3, .cells (av 9 (ls [.bool false, .int .u64 0, .int .u64 0, .bool false, .int .u64 0, .int .u64 0, .int .u8 0, .int .u8 0, .string ⟨#[]⟩])) 26⟩] w0 → H 1 l a w0 := by
      intro a l  x_20 u0 ha hl M
      subst ha hl
      refine hB _ _ _ _ ?_
      refine hl_end (by kernel_rfl) (by kernel_rfl) rfl ?_
      refine pl_val (want_no rfl) (some 14) rfl (.string (((((bs [8]) ++ (⟨#[0, 0, 0]⟩ : ByteArray)) ++ (be2 (cv .u64 f))) ++ (⟨#[0, 0]⟩ : ByteArray)) ++ d)) (fun _ => by kernel_rfl) ?_
      refine pl_nil ?_
      refine au_then ?_
      refine au_then ?_
      refine wp_seq ?_
      refine rg_lit ?_
      refine pl_load M (want_no rfl) (some 30) rfl 24 _ rfl 0 g1 0 (by kernel_rfl) 3 24 (ls [.bool (v0), .int .u64 h0, .int .u64 l0]) rfl 3 (ls [.bool (v0), .int .u64 h0, .int .u64 l0]) (fun j _ => by rw [Nat.zero_add]) (by decide) _ Try.underlying24 rfl inz24 ?_
      refine pl_load M (want_no rfl) (some 31) rfl 24 _ rfl 1 g2 0 (by kernel_rfl) 3 24 (ls [.bool (v1), .int .u64 h1, .int .u64 l1]) rfl 3 (ls [.bool (v1), .int .u64 h1, .int .u64 l1]) (fun j _ => by rw [Nat.zero_add]) (by decide) _ Try.underlying24 rfl inz24 ?_
      refine pl_val (want_no rfl) (some 32) rfl (.int .u8 1) (fun _ => by kernel_rfl) ?_
      refine pl_val (want_no rfl) (some 33) rfl (.string (((((bs [8]) ++ (⟨#[0, 0, 0]⟩ : ByteArray)) ++ (be2 (cv .u64 f))) ++ (⟨#[0, 0]⟩ : ByteArray)) ++ d)) (fun _ => by kernel_rfl) ?_
      refine pl_val (want_no rfl) (some 34) rfl (.agg (av 9 (ls [.bool (v0), .int .u64 h0, .int .u64 l0, .bool (v1), .int .u64 h1, .int .u64 l1, .int .u8 1, .int .u8 64, .string (((((bs [8]) ++ (⟨#[0, 0, 0]⟩ : ByteArray)) ++ (be2 (cv .u64 f))) ++ (⟨#[0, 0]⟩ : ByteArray)) ++ d)]))) (fun _ => by kernel_rfl) ?_
      refine pl_call M (want_no rfl) (some 35) rfl 33 #[.agg (av 9 (ls [.bool (v0), .int .u64 h0, .int .u64 l0, .bool (v1), .int .u64 h1, .int .u64 l1, .int .u8 1, .int .u8 64, .string (((((bs [8]) ++ (⟨#[0, 0, 0]⟩ : ByteArray)) ++ (be2 (cv .u64 f))) ++ (⟨#[0, 0]⟩ : ByteArray)) ++ d)])), .int .i64 2] (.tuple #[.agg (av 9 (ls [.bool (zB (pkE v0 h0 l0 v1 h1 l1 (ehA (kO (eP v0) false)) (ehB f d)) v0), .int .u64 (zI (pkE v0 h0 l0 v1 h1 l1 (ehA (kO (eP v0) false)) (ehB f d)) h0), .int .u64 (zI (pkE v0 h0 l0 v1 h1 l1 (ehA (kO (eP v0) false)) (ehB f d)) l0), .bool (zB (pkE v0 h0 l0 v1 h1 l1 (ehA (kO (eP v0) false)) (ehB f d)) v1), .int .u64 (zI (pkE v0 h0 l0 v1 h1 l1 (ehA (kO (eP v0) false)) (ehB f d)) h1), .int .u64 (zI (pkE v0 h0 l0 v1 h1 l1 (ehA (kO (eP v0) false)) (ehB f d)) l1), .int .u8 (zI (pkE v0 h0 l0 v1 h1 l1 (ehA (kO (eP v0) false)) (ehB f d)) (eP v0)), .int .u8 (zI (pkE v0 h0 l0 v1 h1 l1 (ehA (kO (eP v0) false)) (ehB f d)) 64), .string (zS (pkE v0 h0 l0 v1 h1 l1 (ehA (kO (eP v0) false)) (ehB f d)) (pkO v0 h0 l0 v1 h1 l1 (eP v0) (ehA (kO (eP v0) false)) (ehB f d)))])), .int .i64 (pkE v0 h0 l0 v1 h1 l1 (ehA (kO (eP v0) false)) (ehB f d))]) (fun _ => by kernel_rfl) (fun w M => call_val (d_made v0 h0 l0 v1 h1 l1 1 (((((bs [8]) ++ (⟨#[0, 0, 0]⟩ : ByteArray)) ++ (be2 (cv .u64 f))) ++ (⟨#[0, 0]⟩ : ByteArray)) ++ d) (ehA 8) (ehB f d) 2 (ehA_size _).symm (eh_doc 8 f d) (by (try simp only [ByteArray.size_append, ByteArray.size_extract, be2_size, be4_size, be8_size, bs_size, sz_mk, List.size_toArray, List.length_cons, List.length_nil]); omega) (by omega) w M.laid) (by rw [show eP v0 = 1 by rw [c0]; rfl, show kO 1 false = 8 by decide, eh_doc 8 f d]; rfl)) ?_
      intro u7 M
      refine pl_val (want_no rfl) (some 36) rfl (.agg (av 9 (ls [.bool (zB (pkE v0 h0 l0 v1 h1 l1 (ehA (kO (eP v0) false)) (ehB f d)) v0), .int .u64 (zI (pkE v0 h0 l0 v1 h1 l1 (ehA (kO (eP v0) false)) (ehB f d)) h0), .int .u64 (zI (pkE v0 h0 l0 v1 h1 l1 (ehA (kO (eP v0) false)) (ehB f d)) l0), .bool (zB (pkE v0 h0 l0 v1 h1 l1 (ehA (kO (eP v0) false)) (ehB f d)) v1), .int .u64 (zI (pkE v0 h0 l0 v1 h1 l1 (ehA (kO (eP v0) false)) (ehB f d)) h1), .int .u64 (zI (pkE v0 h0 l0 v1 h1 l1 (ehA (kO (eP v0) false)) (ehB f d)) l1), .int .u8 (zI (pkE v0 h0 l0 v1 h1 l1 (ehA (kO (eP v0) false)) (ehB f d)) (eP v0)), .int .u8 (zI (pkE v0 h0 l0 v1 h1 l1 (ehA (kO (eP v0) false)) (ehB f d)) 64), .string (zS (pkE v0 h0 l0 v1 h1 l1 (ehA (kO (eP v0) false)) (ehB f d)) (pkO v0 h0 l0 v1 h1 l1 (eP v0) (ehA (kO (eP v0) false)) (ehB f d)))]))) (fun _ => by kernel_rfl) ?_
      refine pl_val (want_no rfl) (some 37) rfl (.int .i64 (pkE v0 h0 l0 v1 h1 l1 (ehA (kO (eP v0) false)) (ehB f d))) (fun _ => by kernel_rfl) ?_
      refine pl_put M (want_no rfl) rfl 26 _ _ rfl 2 g3 0 (by kernel_rfl) 9 26 (ls [.bool false, .int .u64 0, .int .u64 0, .bool false, .int .u64 0, .int .u64 0, .int .u8 0, .int .u8 0, .string ⟨#[]⟩]) rfl 9 (ls [.bool (zB (pkE v0 h0 l0 v1 h1 l1 (ehA (kO (eP v0) false)) (ehB f d)) v0), .int .u64 (zI (pkE v0 h0 l0 v1 h1 l1 (ehA (kO (eP v0) false)) (ehB f d)) h0), .int .u64 (zI (pkE v0 h0 l0 v1 h1 l1 (ehA (kO (eP v0) false)) (ehB f d)) l0), .bool (zB (pkE v0 h0 l0 v1 h1 l1 (ehA (kO (eP v0) false)) (ehB f d)) v1), .int .u64 (zI (pkE v0 h0 l0 v1 h1 l1 (ehA (kO (eP v0) false)) (ehB f d)) h1), .int .u64 (zI (pkE v0 h0 l0 v1 h1 l1 (ehA (kO (eP v0) false)) (ehB f d)) l1), .int .u8 (zI (pkE v0 h0 l0 v1 h1 l1 (ehA (kO (eP v0) false)) (ehB f d)) (eP v0)), .int .u8 (zI (pkE v0 h0 l0 v1 h1 l1 (ehA (kO (eP v0) false)) (ehB f d)) 64), .string (zS (pkE v0 h0 l0 v1 h1 l1 (ehA (kO (eP v0) false)) (ehB f d)) (pkO v0 h0 l0 v1 h1 l1 (eP v0) (ehA (kO (eP v0) false)) (ehB f d)))]) (ls [.bool (zB (pkE v0 h0 l0 v1 h1 l1 (ehA (kO (eP v0) false)) (ehB f d)) v0), .int .u64 (zI (pkE v0 h0 l0 v1 h1 l1 (ehA (kO (eP v0) false)) (ehB f d)) h0), .int .u64 (zI (pkE v0 h0 l0 v1 h1 l1 (ehA (kO (eP v0) false)) (ehB f d)) l0), .bool (zB (pkE v0 h0 l0 v1 h1 l1 (ehA (kO (eP v0) false)) (ehB f d)) v1), .int .u64 (zI (pkE v0 h0 l0 v1 h1 l1 (ehA (kO (eP v0) false)) (ehB f d)) h1), .int .u64 (zI (pkE v0 h0 l0 v1 h1 l1 (ehA (kO (eP v0) false)) (ehB f d)) l1), .int .u8 (zI (pkE v0 h0 l0 v1 h1 l1 (ehA (kO (eP v0) false)) (ehB f d)) (eP v0)), .int .u8 (zI (pkE v0 h0 l0 v1 h1 l1 (ehA (kO (eP v0) false)) (ehB f d)) 64), .string (zS (pkE v0 h0 l0 v1 h1 l1 (ehA (kO (eP v0) false)) (ehB f d)) (pkO v0 h0 l0 v1 h1 l1 (eP v0) (ehA (kO (eP v0) false)) (ehB f d)))]) (by kernel_rfl) inz26 (by decide) (one_ls _ rfl) (fun j hj => by rw [if_pos (by omega), Nat.sub_zero]) ?_
      intro u8 M
      replace M : Mem ⟨w, []⟩ [⟨g1, .cells (av 3 (ls [.bool (v0), .int .u64 h0, .int .u64 l0])) 24⟩, ⟨g2, .cells (av 3 (ls [.bool (v1), .int .u64 h1, .int .u64 l1])) 24⟩, ⟨g3, .cells (av 9 (ls [.bool (zB (pkE v0 h0 l0 v1 h1 l1 (ehA (kO (eP v0) false)) (ehB f d)) v0), .int .u64 (zI (pkE v0 h0 l0 v1 h1 l1 (ehA (kO (eP v0) false)) (ehB f d)) h0), .int .u64 (zI (pkE v0 h0 l0 v1 h1 l1 (ehA (kO (eP v0) false)) (ehB f d)) l0), .bool (zB (pkE v0 h0 l0 v1 h1 l1 (ehA (kO (eP v0) false)) (ehB f d)) v1), .int .u64 (zI (pkE v0 h0 l0 v1 h1 l1 (ehA (kO (eP v0) false)) (ehB f d)) h1), .int .u64 (zI (pkE v0 h0 l0 v1 h1 l1 (ehA (kO (eP v0) false)) (ehB f d)) l1), .int .u8 (zI (pkE v0 h0 l0 v1 h1 l1 (ehA (kO (eP v0) false)) (ehB f d)) (eP v0)), .int .u8 (zI (pkE v0 h0 l0 v1 h1 l1 (ehA (kO (eP v0) false)) (ehB f d)) 64), .string (zS (pkE v0 h0 l0 v1 h1 l1 (ehA (kO (eP v0) false)) (ehB f d)) (pkO v0 h0 l0 v1 h1 l1 (eP v0) (ehA (kO (eP v0) false)) (ehB f d)))])) 26⟩] u8 := M
      refine pl_val (want_no rfl) (some 11) rfl (.int .i64 (pkE v0 h0 l0 v1 h1 l1 (ehA (kO (eP v0) false)) (ehB f d))) (fun _ => by kernel_rfl) ?_
      refine pl_nil ?_
      refine au_then ?_
      refine wp_ret ?_
      exact bodyPost_ret (v := .tuple #[.agg (av 9 (ls [.bool (zB (pkE v0 h0 l0 v1 h1 l1 (ehA (kO (eP v0) false)) (ehB f d)) v0), .int .u64 (zI (pkE v0 h0 l0 v1 h1 l1 (ehA (kO (eP v0) false)) (ehB f d)) h0), .int .u64 (zI (pkE v0 h0 l0 v1 h1 l1 (ehA (kO (eP v0) false)) (ehB f d)) l0), .bool (zB (pkE v0 h0 l0 v1 h1 l1 (ehA (kO (eP v0) false)) (ehB f d)) v1), .int .u64 (zI (pkE v0 h0 l0 v1 h1 l1 (ehA (kO (eP v0) false)) (ehB f d)) h1), .int .u64 (zI (pkE v0 h0 l0 v1 h1 l1 (ehA (kO (eP v0) false)) (ehB f d)) l1), .int .u8 (zI (pkE v0 h0 l0 v1 h1 l1 (ehA (kO (eP v0) false)) (ehB f d)) (eP v0)), .int .u8 (zI (pkE v0 h0 l0 v1 h1 l1 (ehA (kO (eP v0) false)) (ehB f d)) 64), .string (zS (pkE v0 h0 l0 v1 h1 l1 (ehA (kO (eP v0) false)) (ehB f d)) (pkO v0 h0 l0 v1 h1 l1 (eP v0) (ehA (kO (eP v0) false)) (ehB f d)))])), .int .i64 (pkE v0 h0 l0 v1 h1 l1 (ehA (kO (eP v0) false)) (ehB f d))]) (results_cell_tmp Try.results19 _ _ g3 26 (av 9 (ls [.bool (zB (pkE v0 h0 l0 v1 h1 l1 (ehA (kO (eP v0) false)) (ehB f d)) v0), .int .u64 (zI (pkE v0 h0 l0 v1 h1 l1 (ehA (kO (eP v0) false)) (ehB f d)) h0), .int .u64 (zI (pkE v0 h0 l0 v1 h1 l1 (ehA (kO (eP v0) false)) (ehB f d)) l0), .bool (zB (pkE v0 h0 l0 v1 h1 l1 (ehA (kO (eP v0) false)) (ehB f d)) v1), .int .u64 (zI (pkE v0 h0 l0 v1 h1 l1 (ehA (kO (eP v0) false)) (ehB f d)) h1), .int .u64 (zI (pkE v0 h0 l0 v1 h1 l1 (ehA (kO (eP v0) false)) (ehB f d)) l1), .int .u8 (zI (pkE v0 h0 l0 v1 h1 l1 (ehA (kO (eP v0) false)) (ehB f d)) (eP v0)), .int .u8 (zI (pkE v0 h0 l0 v1 h1 l1 (ehA (kO (eP v0) false)) (ehB f d)) 64), .string (zS (pkE v0 h0 l0 v1 h1 l1 (ehA (kO (eP v0) false)) (ehB f d)) (pkO v0 h0 l0 v1 h1 l1 (eP v0) (ehA (kO (eP v0) false)) (ehB f d)))])) (0, 0) _ _ (by kernel_rfl) (by kernel_rfl) (M.get 2 rfl) Try.underlying26 rfl (by rw [av_size]; exact inz26)) (by kernel_rfl) ⟨rfl, below_grown M.old⟩
    have s3 : ∀ (a : Act) (l : Array Bool) (x_20 : Value) (w0 : World), a = ⟨#[.agg (av 3 (ls [.bool (v0), .int .u64 h0, .int .u64 l0])), .agg (av 3 (ls [.bool (v1), .int .u64 h1, .int .u64 l1])), .int .u16 f, .bool false, .string d, .pointer (some ⟨g1, 0, none⟩), .pointer (some ⟨g2, 0, none⟩), undef, undef, undef, .pointer (some ⟨g3, 0, none⟩), .int .i64 0, .int .u8 8, .int .u8 1, undef, .bool false, .pointer (some ⟨g1, 0, none⟩), .bool false, undef, .int .u8 8, x_20, .string (bs [8]), .string ((bs [8]) ++ (⟨#[0, 0, 0]⟩ : ByteArray)), .int .u16 f, .int .u64 (cv .u64 f), undef, undef, undef, .string d, undef, undef, undef, undef, undef, undef, undef, undef, undef], []⟩ → l = #[true, true, true, true, true, true, false, false, false, true, false, false] → Mem ⟨w, []⟩ [⟨g1, .cells (av 3 (ls [.bool (v0), .int .u64 h0, .int .u64 l0])) 24⟩, ⟨g2, .cells (av 3 (ls [.bool (v1), .int .u64 h1, .int .u64 l1])) 24⟩, ⟨g3, .cells (av 9 (ls [.bool false, .int .u64 0, .int .u64 0, .bool false, .int .u64 0, .int .u64 0, .int .u8 0, .int .u8 0, .string ⟨#[]⟩])) 26⟩] w0 → H 5 l a w0 := by
      intro a l  x_20 u0 ha hl M
      subst ha hl
      refine hB _ _ _ _ ?_
      refine hl_one 6 (by decide) (by kernel_rfl) rfl ?_
      refine pl_call M (want_no rfl) (some 25) rfl 32 #[.int .u64 (cv .u64 f), .int .i64 2] (.string (be2 (cv .u64 f))) (fun _ => by kernel_rfl) (fun w M => c_num2 (cv .u64 f) w M.laid) ?_
      intro u6 M
      refine pl_nil ?_
      refine au_then ?_
      refine ⟨M, ?_⟩
      refine hl_val M 7 rfl (by decide) (by kernel_rfl) (by kernel_rfl) (want_no rfl) (some 26) rfl (.string (((bs [8]) ++ (⟨#[0, 0, 0]⟩ : ByteArray)) ++ (be2 (cv .u64 f)))) (fun w _ => (run_cat 9 9 _ _ rfl ((bs [8]) ++ (⟨#[0, 0, 0]⟩ : ByteArray)) (be2 (cv .u64 f)) (by kernel_rfl) (by kernel_rfl) (by (try simp only [ByteArray.size_append, ByteArray.size_extract, be2_size, be4_size, be8_size, bs_size, sz_mk, List.size_toArray, List.length_cons, List.length_nil]); omega)) w) ?_
      refine hl_val M 8 rfl (by decide) (by kernel_rfl) (by kernel_rfl) (want_no rfl) (some 27) rfl (.string ((((bs [8]) ++ (⟨#[0, 0, 0]⟩ : ByteArray)) ++ (be2 (cv .u64 f))) ++ (⟨#[0, 0]⟩ : ByteArray))) (fun w _ => (run_cat 9 9 _ _ rfl (((bs [8]) ++ (⟨#[0, 0, 0]⟩ : ByteArray)) ++ (be2 (cv .u64 f))) ⟨#[0, 0]⟩ (by kernel_rfl) (by kernel_rfl) (by (try simp only [ByteArray.size_append, ByteArray.size_extract, be2_size, be4_size, be8_size, bs_size, sz_mk, List.size_toArray, List.length_cons, List.length_nil]); omega)) w) ?_
      refine hl_val M 10 rfl (by decide) (by kernel_rfl) (by kernel_rfl) (want_no rfl) (some 29) rfl (.string (((((bs [8]) ++ (⟨#[0, 0, 0]⟩ : ByteArray)) ++ (be2 (cv .u64 f))) ++ (⟨#[0, 0]⟩ : ByteArray)) ++ d)) (fun w _ => (run_cat 9 9 _ _ rfl ((((bs [8]) ++ (⟨#[0, 0, 0]⟩ : ByteArray)) ++ (be2 (cv .u64 f))) ++ (⟨#[0, 0]⟩ : ByteArray)) d (by kernel_rfl) (by kernel_rfl) (by (try simp only [ByteArray.size_append, ByteArray.size_extract, be2_size, be4_size, be8_size, bs_size, sz_mk, List.size_toArray, List.length_cons, List.length_nil]); omega)) w) ?_
      exact hA _ _ _ _ (s5 _ _ (x_20) _ (by kernel_rfl) (by kernel_rfl) M)
    have s4 : ∀ (a : Act) (l : Array Bool) (g4 : Nat) (w0 : World), a = ⟨#[.agg (av 3 (ls [.bool (v0), .int .u64 h0, .int .u64 l0])), .agg (av 3 (ls [.bool (v1), .int .u64 h1, .int .u64 l1])), .int .u16 f, .bool false, .string d, .pointer (some ⟨g1, 0, none⟩), .pointer (some ⟨g2, 0, none⟩), undef, undef, undef, .pointer (some ⟨g3, 0, none⟩), .int .i64 0, .int .u8 8, .int .u8 1, undef, .bool false, .pointer (some ⟨g1, 0, none⟩), .bool false, undef, .int .u8 8, .slice (some ⟨g4, 0, none⟩) 1 1, undef, undef, .int .u16 f, .int .u64 (cv .u64 f), .string (be2 (cv .u64 f)), undef, undef, .string d, undef, undef, undef, undef, undef, undef, undef, undef, undef], []⟩ → l = #[true, true, false, false, true, true, true, false, false, true, false, false] → Mem ⟨w, []⟩ [⟨g1, .cells (av 3 (ls [.bool (v0), .int .u64 h0, .int .u64 l0])) 24⟩, ⟨g2, .cells (av 3 (ls [.bool (v1), .int .u64 h1, .int .u64 l1])) 24⟩, ⟨g3, .cells (av 9 (ls [.bool false, .int .u64 0, .int .u64 0, .bool false, .int .u64 0, .int .u64 0, .int .u8 0, .int .u8 0, .string ⟨#[]⟩])) 26⟩, ⟨g4, .cells (av 1 (ls [.int .u8 8])) 5⟩] w0 → H 6 l a w0 := by
      intro a l g4  u0 ha hl M
      subst ha hl
      refine hB _ _ _ _ ?_
      refine hl_one 2 (by decide) (by kernel_rfl) rfl ?_
      refine pl_back M (want_no rfl) (some 21) rfl _ rfl 3 g4 1 1 (by kernel_rfl) _ rfl [8] 1 (sb_ls [8] _) rfl (by intro x hx; simp only [List.mem_cons, List.mem_nil_iff, or_false] at hx; subst hx; omega) ?_
      refine pl_nil ?_
      refine au_then ?_
      refine ⟨(M.drop (.cons_cons _ (.cons_cons _ (.cons_cons _ (.cons _ (.slnil)))))), ?_⟩
      refine hl_val (M.drop (.cons_cons _ (.cons_cons _ (.cons_cons _ (.cons _ (.slnil)))))) 3 rfl (by decide) (by kernel_rfl) (by kernel_rfl) (want_no rfl) (some 22) rfl (.string ((bs [8]) ++ (⟨#[0, 0, 0]⟩ : ByteArray))) (fun w _ => (run_cat 9 9 _ _ rfl (bs [8]) ⟨#[0, 0, 0]⟩ (by kernel_rfl) (by kernel_rfl) (by (try simp only [ByteArray.size_append, ByteArray.size_extract, be2_size, be4_size, be8_size, bs_size, sz_mk, List.size_toArray, List.length_cons, List.length_nil]); omega)) w) ?_
      refine hl_val (M.drop (.cons_cons _ (.cons_cons _ (.cons_cons _ (.cons _ (.slnil)))))) 7 rfl (by decide) (by kernel_rfl) (by kernel_rfl) (want_no rfl) (some 26) rfl (.string (((bs [8]) ++ (⟨#[0, 0, 0]⟩ : ByteArray)) ++ (be2 (cv .u64 f)))) (fun w _ => (run_cat 9 9 _ _ rfl ((bs [8]) ++ (⟨#[0, 0, 0]⟩ : ByteArray)) (be2 (cv .u64 f)) (by kernel_rfl) (by kernel_rfl) (by (try simp only [ByteArray.size_append, ByteArray.size_extract, be2_size, be4_size, be8_size, bs_size, sz_mk, List.size_toArray, List.length_cons, List.length_nil]); omega)) w) ?_
      refine hl_val (M.drop (.cons_cons _ (.cons_cons _ (.cons_cons _ (.cons _ (.slnil)))))) 8 rfl (by decide) (by kernel_rfl) (by kernel_rfl) (want_no rfl) (some 27) rfl (.string ((((bs [8]) ++ (⟨#[0, 0, 0]⟩ : ByteArray)) ++ (be2 (cv .u64 f))) ++ (⟨#[0, 0]⟩ : ByteArray))) (fun w _ => (run_cat 9 9 _ _ rfl (((bs [8]) ++ (⟨#[0, 0, 0]⟩ : ByteArray)) ++ (be2 (cv .u64 f))) ⟨#[0, 0]⟩ (by kernel_rfl) (by kernel_rfl) (by (try simp only [ByteArray.size_append, ByteArray.size_extract, be2_size, be4_size, be8_size, bs_size, sz_mk, List.size_toArray, List.length_cons, List.length_nil]); omega)) w) ?_
      refine hl_val (M.drop (.cons_cons _ (.cons_cons _ (.cons_cons _ (.cons _ (.slnil)))))) 10 rfl (by decide) (by kernel_rfl) (by kernel_rfl) (want_no rfl) (some 29) rfl (.string (((((bs [8]) ++ (⟨#[0, 0, 0]⟩ : ByteArray)) ++ (be2 (cv .u64 f))) ++ (⟨#[0, 0]⟩ : ByteArray)) ++ d)) (fun w _ => (run_cat 9 9 _ _ rfl ((((bs [8]) ++ (⟨#[0, 0, 0]⟩ : ByteArray)) ++ (be2 (cv .u64 f))) ++ (⟨#[0, 0]⟩ : ByteArray)) d (by kernel_rfl) (by kernel_rfl) (by (try simp only [ByteArray.size_append, ByteArray.size_extract, be2_size, be4_size, be8_size, bs_size, sz_mk, List.size_toArray, List.length_cons, List.length_nil]); omega)) w) ?_
      exact hA _ _ _ _ (s5 _ _ (.slice (some ⟨g4, 0, none⟩) 1 1) _ (by kernel_rfl) (by kernel_rfl) (M.drop (.cons_cons _ (.cons_cons _ (.cons_cons _ (.cons _ (.slnil)))))))
    have s1 : ∀ (a : Act) (l : Array Bool) (g4 : Nat) (w0 : World), a = ⟨#[.agg (av 3 (ls [.bool (v0), .int .u64 h0, .int .u64 l0])), .agg (av 3 (ls [.bool (v1), .int .u64 h1, .int .u64 l1])), .int .u16 f, .bool false, .string d, .pointer (some ⟨g1, 0, none⟩), .pointer (some ⟨g2, 0, none⟩), undef, undef, undef, .pointer (some ⟨g3, 0, none⟩), .int .i64 0, .int .u8 8, .int .u8 1, undef, .bool false, .pointer (some ⟨g1, 0, none⟩), .bool false, undef, .int .u8 8, .slice (some ⟨g4, 0, none⟩) 1 1, undef, undef, .int .u16 f, .int .u64 (cv .u64 f), undef, undef, undef, .string d, undef, undef, undef, undef, undef, undef, undef, undef, undef], []⟩ → l = #[true, true, false, false, true, true, false, false, false, true, false, false] → Mem ⟨w, []⟩ [⟨g1, .cells (av 3 (ls [.bool (v0), .int .u64 h0, .int .u64 l0])) 24⟩, ⟨g2, .cells (av 3 (ls [.bool (v1), .int .u64 h1, .int .u64 l1])) 24⟩, ⟨g3, .cells (av 9 (ls [.bool false, .int .u64 0, .int .u64 0, .bool false, .int .u64 0, .int .u64 0, .int .u8 0, .int .u8 0, .string ⟨#[]⟩])) 26⟩, ⟨g4, .cells (av 1 (ls [.int .u8 8])) 5⟩] w0 → H 7 l a w0 := by
      intro a l g4  u0 ha hl M
      subst ha hl
      refine hB _ _ _ _ ?_
      refine hl_two 2 6 (by decide) (by decide) (by kernel_rfl) rfl rfl ?_ ?_
      · skip
        refine pl_back M (want_no rfl) (some 21) rfl _ rfl 3 g4 1 1 (by kernel_rfl) _ rfl [8] 1 (sb_ls [8] _) rfl (by intro x hx; simp only [List.mem_cons, List.mem_nil_iff, or_false] at hx; subst hx; omega) ?_
        refine pl_nil ?_
        refine au_then ?_
        refine ⟨(M.drop (.cons_cons _ (.cons_cons _ (.cons_cons _ (.cons _ (.slnil)))))), ?_⟩
        refine hl_val (M.drop (.cons_cons _ (.cons_cons _ (.cons_cons _ (.cons _ (.slnil)))))) 3 rfl (by decide) (by kernel_rfl) (by kernel_rfl) (want_no rfl) (some 22) rfl (.string ((bs [8]) ++ (⟨#[0, 0, 0]⟩ : ByteArray))) (fun w _ => (run_cat 9 9 _ _ rfl (bs [8]) ⟨#[0, 0, 0]⟩ (by kernel_rfl) (by kernel_rfl) (by (try simp only [ByteArray.size_append, ByteArray.size_extract, be2_size, be4_size, be8_size, bs_size, sz_mk, List.size_toArray, List.length_cons, List.length_nil]); omega)) w) ?_
        exact hA _ _ _ _ (s3 _ _ (.slice (some ⟨g4, 0, none⟩) 1 1) _ (by kernel_rfl) (by kernel_rfl) (M.drop (.cons_cons _ (.cons_cons _ (.cons_cons _ (.cons _ (.slnil)))))))
      · skip
        refine pl_call M (want_no rfl) (some 25) rfl 32 #[.int .u64 (cv .u64 f), .int .i64 2] (.string (be2 (cv .u64 f))) (fun _ => by kernel_rfl) (fun w M => c_num2 (cv .u64 f) w M.laid) ?_
        intro u6 M
        refine pl_nil ?_
        refine au_then ?_
        refine ⟨(M.drop (.cons_cons _ (.cons_cons _ (.cons_cons _ (.cons _ (.slnil)))))), ?_⟩
        exact hA _ _ _ _ (s4 _ _ g4 _ (by kernel_rfl) (by kernel_rfl) M)
    have s2 : ∀ (a : Act) (l : Array Bool) (w0 : World), a = ⟨#[.agg (av 3 (ls [.bool (v0), .int .u64 h0, .int .u64 l0])), .agg (av 3 (ls [.bool (v1), .int .u64 h1, .int .u64 l1])), .int .u16 f, .bool false, .string d, .pointer (some ⟨g1, 0, none⟩), .pointer (some ⟨g2, 0, none⟩), undef, undef, undef, .pointer (some ⟨g3, 0, none⟩), .int .i64 0, .int .u8 8, .int .u8 1, undef, .bool false, .pointer (some ⟨g1, 0, none⟩), .bool false, undef, .int .u8 8, undef, undef, undef, .int .u16 f, .int .u64 (cv .u64 f), .string (be2 (cv .u64 f)), undef, undef, .string d, undef, undef, undef, undef, undef, undef, undef, undef, undef], []⟩ → l = #[true, false, false, false, true, true, true, false, false, true, false, false] → Mem ⟨w, []⟩ [⟨g1, .cells (av 3 (ls [.bool (v0), .int .u64 h0, .int .u64 l0])) 24⟩, ⟨g2, .cells (av 3 (ls [.bool (v1), .int .u64 h1, .int .u64 l1])) 24⟩, ⟨g3, .cells (av 9 (ls [.bool false, .int .u64 0, .int .u64 0, .bool false, .int .u64 0, .int .u64 0, .int .u8 0, .int .u8 0, .string ⟨#[]⟩])) 26⟩] w0 → H 7 l a w0 := by
      intro a l   u0 ha hl M
      subst ha hl
      refine hB _ _ _ _ ?_
      refine hl_one 1 (by decide) (by kernel_rfl) rfl ?_
      refine pl_mk M (want_no rfl) (some 20) rfl (fun g4 => .slice (some ⟨g4, 0, none⟩) 1 1) (.cells (av 1 (ls [.int .u8 8])) 5) (fun _ => by kernel_rfl) ?_
      intro g4 u6 M
      replace M : Mem ⟨w, []⟩ [⟨g1, .cells (av 3 (ls [.bool (v0), .int .u64 h0, .int .u64 l0])) 24⟩, ⟨g2, .cells (av 3 (ls [.bool (v1), .int .u64 h1, .int .u64 l1])) 24⟩, ⟨g3, .cells (av 9 (ls [.bool false, .int .u64 0, .int .u64 0, .bool false, .int .u64 0, .int .u64 0, .int .u8 0, .int .u8 0, .string ⟨#[]⟩])) 26⟩, ⟨g4, .cells (av 1 (ls [.int .u8 8])) 5⟩] u6 := M
      refine pl_nil ?_
      refine au_then ?_
      refine ⟨(M.drop (.cons_cons _ (.cons_cons _ (.cons_cons _ (.cons _ (.slnil)))))), ?_⟩
      exact hA _ _ _ _ (s4 _ _ g4 _ (by kernel_rfl) (by kernel_rfl) M)
    have s0 : ∀ (a : Act) (l : Array Bool) (w0 : World), a = ⟨#[.agg (av 3 (ls [.bool (v0), .int .u64 h0, .int .u64 l0])), .agg (av 3 (ls [.bool (v1), .int .u64 h1, .int .u64 l1])), .int .u16 f, .bool false, .string d, .pointer (some ⟨g1, 0, none⟩), .pointer (some ⟨g2, 0, none⟩), undef, undef, undef, .pointer (some ⟨g3, 0, none⟩), .int .i64 0, .int .u8 8, .int .u8 1, undef, .bool false, .pointer (some ⟨g1, 0, none⟩), .bool false, undef, .int .u8 8, undef, undef, undef, .int .u16 f, .int .u64 (cv .u64 f), undef, undef, undef, .string d, undef, undef, undef, undef, undef, undef, undef, undef, undef], []⟩ → l = #[true, false, false, false, true, true, false, false, false, true, false, false] → Mem ⟨w, []⟩ [⟨g1, .cells (av 3 (ls [.bool (v0), .int .u64 h0, .int .u64 l0])) 24⟩, ⟨g2, .cells (av 3 (ls [.bool (v1), .int .u64 h1, .int .u64 l1])) 24⟩, ⟨g3, .cells (av 9 (ls [.bool false, .int .u64 0, .int .u64 0, .bool false, .int .u64 0, .int .u64 0, .int .u8 0, .int .u8 0, .string ⟨#[]⟩])) 26⟩] w0 → H 8 l a w0 := by
      intro a l   u0 ha hl M
      subst ha hl
      refine hB _ _ _ _ ?_
      refine hl_two 1 6 (by decide) (by decide) (by kernel_rfl) rfl rfl ?_ ?_
      · skip
        refine pl_mk M (want_no rfl) (some 20) rfl (fun g4 => .slice (some ⟨g4, 0, none⟩) 1 1) (.cells (av 1 (ls [.int .u8 8])) 5) (fun _ => by kernel_rfl) ?_
        intro g4 u5 M
        replace M : Mem ⟨w, []⟩ [⟨g1, .cells (av 3 (ls [.bool (v0), .int .u64 h0, .int .u64 l0])) 24⟩, ⟨g2, .cells (av 3 (ls [.bool (v1), .int .u64 h1, .int .u64 l1])) 24⟩, ⟨g3, .cells (av 9 (ls [.bool false, .int .u64 0, .int .u64 0, .bool false, .int .u64 0, .int .u64 0, .int .u8 0, .int .u8 0, .string ⟨#[]⟩])) 26⟩, ⟨g4, .cells (av 1 (ls [.int .u8 8])) 5⟩] u5 := M
        refine pl_nil ?_
        refine au_then ?_
        refine ⟨(M.drop (.cons_cons _ (.cons_cons _ (.cons_cons _ (.cons _ (.slnil)))))), ?_⟩
        exact hA _ _ _ _ (s1 _ _ g4 _ (by kernel_rfl) (by kernel_rfl) M)
      · skip
        refine pl_call M (want_no rfl) (some 25) rfl 32 #[.int .u64 (cv .u64 f), .int .i64 2] (.string (be2 (cv .u64 f))) (fun _ => by kernel_rfl) (fun w M => c_num2 (cv .u64 f) w M.laid) ?_
        intro u5 M
        refine pl_nil ?_
        refine au_then ?_
        refine ⟨M, ?_⟩
        exact hA _ _ _ _ (s2 _ _  _ (by kernel_rfl) (by kernel_rfl) M)
    exact s0 _ _  _ (by kernel_rfl) (by kernel_rfl) M


end Go.Proofs.Ytahknenmjnhmjaa
