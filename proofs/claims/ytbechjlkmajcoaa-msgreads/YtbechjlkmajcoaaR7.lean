/- Decode: the walk, to its end. -/
import Derived.Test.YtbechjlkmajcoaaR6
namespace Go.Proofs.Ytbechjlkmajcoaa
open Go.RowKit

theorem st_rd (gr g : Nat) (kd h : Int) (r : Rs) (hne : gr ≠ g) (m : Mg) : ∀ k, k < 13 → ∀ T w, T = [⟨gr, .cells (av 4 (ls [.int .u8 kd, .int .u16 h, .pointer (some ⟨g, 0, none⟩), .int .i64 (rdK h r k).e])) 73⟩, ⟨g, .cells (av 3 (ls [.bool true, .string (rdK h r k).s, .int .i64 (rdK h r k).f])) 112⟩] → (∀ b ∈ T, w.heap[b.g]? = some b.Z) → (T.map Blk.g).Nodup → Calls Try.prog 32 #[.pointer (some ⟨gr, 0, none⟩), .int .u16 (bitV k), .agg (av 6 (vlL (inV m k)))] w fun e w' => e = .returned (.agg (av 6 (vlL (rdO h r k)))) ∧ ∃ T', T' = [⟨gr, .cells (av 4 (ls [.int .u8 kd, .int .u16 h, .pointer (some ⟨g, 0, none⟩), .int .i64 (rdK h r (k + 1)).e])) 73⟩, ⟨g, .cells (av 3 (ls [.bool true, .string (rdK h r (k + 1)).s, .int .i64 (rdK h r (k + 1)).f])) 112⟩] ∧ OkT w w' T T' := by
  intro k _ T w hT hat _
  subst hT
  exact (r_read gr g kd h (rdK h r k) (bitV k) (inV m k) w trivial (hat _ (List.mem_cons_self ..)) (hat _ (List.mem_cons_of_mem _ (List.mem_singleton.2 rfl))) hne).mono fun e w' ⟨he, hg, h1, h2⟩ => ⟨he, _, rfl, okT_two hg h1 h2 hne⟩
set_option maxRecDepth 100000 in
set_option maxHeartbeats 4000000 in
set_option linter.unusedSimpArgs false in
theorem c_readerOf (s : ByteArray) (w : World) (hL : Laid w)  :
    Calls Try.prog 31 #[.string s] w fun e w' => ∃ g k Z Y, e = .returned (.pointer (some ⟨g, 0, none⟩)) ∧ (Z = .cells (av 4 (ls [.int .u8 (kdP s), .int .u16 (shP (kdP s)), .pointer (some ⟨k, 0, none⟩), .int .i64 (r0P s).e])) 73 ∧ Y = .cells (av 3 (ls [.bool true, .string (r0P s).s, .int .i64 (r0P s).f])) 112) ∧ w.heap.size ≤ g ∧ w.heap.size ≤ k ∧ g ≠ k ∧ w'.heap[g]? = some Z ∧ w'.heap[k]? = some Y ∧ Below w.heap.size w w' := by
  go_enter Try.func31, Try.ntmps31
  have M := Mem.start hL
  refine wp_seq ?_
  refine rg_lit ?_
  refine pl_val (want_no rfl) (some 2) rfl (.pointer none) (fun _ => by kernel_rfl) ?_
  refine pl_nil ?_
  refine au_then ?_
  refine wp_seq ?_
  refine rg_lit ?_
  refine pl_val (want_no rfl) (some 4) rfl (.string s) (fun _ => by kernel_rfl) ?_
  refine pl_calln M (want_no rfl) (some 5) rfl 49 #[.string s] (fun g1 => .pointer (some ⟨g1, 0, none⟩)) (.cells (av 3 (ls [.bool true, .string s, .int .i64 0])) 112) (fun _ => by kernel_rfl) (fun w M => c_New s w M.laid) ?_
  intro g1 u1 M
  replace M : Mem ⟨w, []⟩ [⟨g1, .cells (av 3 (ls [.bool true, .string s, .int .i64 0])) 112⟩] u1 := M
  refine pl_val (want_no rfl) (some 6) rfl (.agg (av 4 (ls [.int .u8 0, .int .u16 0, .pointer (some ⟨g1, 0, none⟩), .int .i64 0]))) (fun _ => by kernel_rfl) ?_
  refine pl_new M (want_no rfl) (some 7) rfl (.cells (av 4 (ls [.int .u8 0, .int .u16 0, .pointer (some ⟨g1, 0, none⟩), .int .i64 0])) 73) (fun _ => by kernel_rfl) ?_
  intro g2 u2 M
  replace M : Mem ⟨w, []⟩ [⟨g1, .cells (av 3 (ls [.bool true, .string s, .int .i64 0])) 112⟩, ⟨g2, .cells (av 4 (ls [.int .u8 0, .int .u16 0, .pointer (some ⟨g1, 0, none⟩), .int .i64 0])) 73⟩] u2 := M
  refine pl_val (want_no rfl) (some 3) rfl (.pointer (some ⟨g2, 0, none⟩)) (fun _ => by kernel_rfl) ?_
  refine pl_nil ?_
  refine au_then ?_
  refine wp_seq ?_
  refine rg_lit ?_
  refine pl_val (want_no rfl) (some 8) rfl (.pointer (some ⟨g2, 0, none⟩)) (fun _ => by kernel_rfl) ?_
  refine pl_val (want_no rfl) (some 9) rfl (.pointer (some ⟨g2, 0, none⟩)) (fun _ => by kernel_rfl) ?_
  refine pl_val (want_no rfl) (some 10) rfl (.pointer (some ⟨g2, 0, none⟩)) (fun _ => by kernel_rfl) ?_
  refine pl_val (want_no rfl) (some 11) rfl (.pointer (some ⟨g2, 2, none⟩)) (fun _ => by kernel_rfl) ?_
  refine pl_cell M (want_no rfl) (some 12) rfl 71 _ rfl g2 2 (by kernel_rfl) (.pointer (some ⟨g1, 0, none⟩)) (fun _ => by kernel_rfl) (fun w M => M.cell 1 rfl (by decide) rfl) ?_
  refine pl_callp M (want_no rfl) (some 13) rfl 50 #[.pointer (some ⟨g1, 0, none⟩)] (.int .u8 (kdP s)) 0 g1 (.cells (av 3 (ls [.bool true, .string s, .int .i64 0])) 112) (.cells (av 3 (ls [.bool true, .string (tkS s 0 1), .int .i64 (tkF s 0 1)])) 112) rfl (fun _ => by kernel_rfl) (fun w M => r_U8 g1 s 0 w M.laid (M.get 0 rfl)) ?_
  intro u3 M
  replace M : Mem ⟨w, []⟩ [⟨g1, .cells (av 3 (ls [.bool true, .string (tkS s 0 1), .int .i64 (tkF s 0 1)])) 112⟩, ⟨g2, .cells (av 4 (ls [.int .u8 0, .int .u16 0, .pointer (some ⟨g1, 0, none⟩), .int .i64 0])) 73⟩] u3 := M
  refine pl_val (want_no rfl) (some 14) rfl (.pointer (some ⟨g2, 0, none⟩)) (fun _ => by kernel_rfl) ?_
  refine pl_val (want_no rfl) (some 15) rfl (.pointer (some ⟨g2, 0, none⟩)) (fun _ => by kernel_rfl) ?_
  refine pl_put1 M (want_no rfl) rfl 5 _ _ rfl 1 g2 0 (by kernel_rfl) 4 73 (ls [.int .u8 0, .int .u16 0, .pointer (some ⟨g1, 0, none⟩), .int .i64 0]) rfl (.int .u8 (kdP s)) (ls [.int .u8 (kdP s), .int .u16 0, .pointer (some ⟨g1, 0, none⟩), .int .i64 0]) (by kernel_rfl) inz5 (by decide) rfl rfl (put_ls _ 0 _ _ rfl) ?_
  intro u4 M
  replace M : Mem ⟨w, []⟩ [⟨g1, .cells (av 3 (ls [.bool true, .string (tkS s 0 1), .int .i64 (tkF s 0 1)])) 112⟩, ⟨g2, .cells (av 4 (ls [.int .u8 (kdP s), .int .u16 0, .pointer (some ⟨g1, 0, none⟩), .int .i64 0])) 73⟩] u4 := M
  refine pl_nil ?_
  refine au_then ?_
  refine wp_seq ?_
  refine rg_lit ?_
  refine pl_val (want_no rfl) (some 17) rfl (.pointer (some ⟨g2, 0, none⟩)) (fun _ => by kernel_rfl) ?_
  refine pl_val (want_no rfl) (some 18) rfl (.pointer (some ⟨g2, 0, none⟩)) (fun _ => by kernel_rfl) ?_
  refine pl_val (want_no rfl) (some 19) rfl (.pointer (some ⟨g2, 0, none⟩)) (fun _ => by kernel_rfl) ?_
  refine pl_val (want_no rfl) (some 20) rfl (.pointer (some ⟨g2, 0, none⟩)) (fun _ => by kernel_rfl) ?_
  refine pl_cell M (want_no rfl) (some 21) rfl 5 _ rfl g2 0 (by kernel_rfl) (.int .u8 (kdP s)) (fun _ => by kernel_rfl) (fun w M => M.cell 1 rfl (by decide) rfl) ?_
  refine pl_call M (want_no rfl) (some 22) rfl 26 #[.int .u8 (kdP s)] (.tuple #[.string (nmP (kdP s)), .int .u16 (shP (kdP s))]) (fun _ => by kernel_rfl) (fun w M => c_shapeOf (kdP s) w M.laid) ?_
  intro u5 M
  refine pl_val (want_no rfl) (some 16) rfl (.tuple #[.string (nmP (kdP s)), .int .u16 (shP (kdP s))]) (fun _ => by kernel_rfl) ?_
  refine pl_val (want_no rfl) (some 23) rfl (.string (nmP (kdP s))) (fun _ => by kernel_rfl) ?_
  refine pl_val (want_no rfl) (some 24) rfl (.int .u16 (shP (kdP s))) (fun _ => by kernel_rfl) ?_
  refine pl_val (want_no rfl) (some 25) rfl (.pointer (some ⟨g2, 0, none⟩)) (fun _ => by kernel_rfl) ?_
  refine pl_val (want_no rfl) (some 26) rfl (.pointer (some ⟨g2, 1, none⟩)) (fun _ => by kernel_rfl) ?_
  refine pl_put1 M (want_no rfl) rfl 54 _ _ rfl 1 g2 1 (by kernel_rfl) 4 73 (ls [.int .u8 (kdP s), .int .u16 0, .pointer (some ⟨g1, 0, none⟩), .int .i64 0]) rfl (.int .u16 (shP (kdP s))) (ls [.int .u8 (kdP s), .int .u16 (shP (kdP s)), .pointer (some ⟨g1, 0, none⟩), .int .i64 0]) (by kernel_rfl) inz54 (by decide) rfl rfl (put_ls _ 1 _ _ rfl) ?_
  intro u6 M
  replace M : Mem ⟨w, []⟩ [⟨g1, .cells (av 3 (ls [.bool true, .string (tkS s 0 1), .int .i64 (tkF s 0 1)])) 112⟩, ⟨g2, .cells (av 4 (ls [.int .u8 (kdP s), .int .u16 (shP (kdP s)), .pointer (some ⟨g1, 0, none⟩), .int .i64 0])) 73⟩] u6 := M
  refine pl_nil ?_
  refine au_then ?_
  refine wp_seq ?_
  refine rg_lit ?_
  refine pl_val (want_no rfl) (some 27) rfl (.pointer (some ⟨g2, 0, none⟩)) (fun _ => by kernel_rfl) ?_
  refine pl_val (want_no rfl) (some 28) rfl (.pointer (some ⟨g2, 0, none⟩)) (fun _ => by kernel_rfl) ?_
  refine pl_val (want_no rfl) (some 29) rfl (.pointer (some ⟨g2, 0, none⟩)) (fun _ => by kernel_rfl) ?_
  refine pl_val (want_no rfl) (some 30) rfl (.pointer (some ⟨g2, 1, none⟩)) (fun _ => by kernel_rfl) ?_
  refine pl_cell M (want_no rfl) (some 31) rfl 54 _ rfl g2 1 (by kernel_rfl) (.int .u16 (shP (kdP s))) (fun _ => by kernel_rfl) (fun w M => M.cell 1 rfl (by decide) rfl) ?_
  by_cases c0 : (shP (kdP s)) = 0
  · skip
    refine pl_val (want_no rfl) (some 32) rfl (.bool true) (fun w => Eq.trans (b := .ok (.value (.bool (decide ((shP (kdP s)) = 0)))) w) (by kernel_rfl) (by rw [decide_eq_true (c0)])) ?_
    refine pl_call2 M (want_no rfl) (some 33) rfl 51 #[.pointer (some ⟨g2, 0, none⟩), .bool true, .int .i64 150] (.tuple #[]) 1 0 g2 g1 (.cells (av 4 (ls [.int .u8 (kdP s), .int .u16 (shP (kdP s)), .pointer (some ⟨g1, 0, none⟩), .int .i64 0])) 73) (.cells (av 3 (ls [.bool true, .string (tkS s 0 1), .int .i64 (tkF s 0 1)])) 112) (.cells (av 4 (ls [.int .u8 (kdP s), .int .u16 (shP (kdP s)), .pointer (some ⟨g1, 0, none⟩), .int .i64 (rfR ⟨(tkS s 0 1), (tkF s 0 1), 0⟩ 150).e])) 73) (.cells (av 3 (ls [.bool true, .string (tkS s 0 1), .int .i64 (tkF s 0 1)])) 112) rfl rfl (fun _ => by kernel_rfl) (fun w M => r_refT g2 g1 (kdP s) (shP (kdP s)) ⟨(tkS s 0 1), (tkF s 0 1), 0⟩ 150 w M.laid (M.get 1 rfl) (M.get 0 rfl) (nodup_at M.nodup (i := 1) (j := 0) rfl rfl (by decide))) ?_
    intro u7 M
    replace M : Mem ⟨w, []⟩ [⟨g1, .cells (av 3 (ls [.bool true, .string (tkS s 0 1), .int .i64 (tkF s 0 1)])) 112⟩, ⟨g2, .cells (av 4 (ls [.int .u8 (kdP s), .int .u16 (shP (kdP s)), .pointer (some ⟨g1, 0, none⟩), .int .i64 (rfR ⟨(tkS s 0 1), (tkF s 0 1), 0⟩ 150).e])) 73⟩] u7 := M
    refine pl_nil ?_
    refine au_then ?_
    refine wp_seq ?_
    refine rg_lit ?_
    refine pl_val (want_no rfl) (some 34) rfl (.pointer (some ⟨g2, 0, none⟩)) (fun _ => by kernel_rfl) ?_
    refine pl_val (want_no rfl) (some 2) rfl (.pointer (some ⟨g2, 0, none⟩)) (fun _ => by kernel_rfl) ?_
    refine pl_nil ?_
    refine au_then ?_
    refine wp_ret ?_
    have e0 : r0P s = rfR ⟨tkS s 0 1, tkF s 0 1, 0⟩ 150 := if_pos c0
    exact bodyPost_ret (v := .pointer (some ⟨g2, 0, none⟩)) (results_tmp1 Try.results31 _ _ _ (by kernel_rfl)) (by kernel_rfl) ⟨g2, g1, _, _, rfl, ⟨by rw [e0], by rw [e0]; rfl⟩, M.geAt 1 rfl, M.geAt 0 rfl, nodup_at M.nodup (i := 1) (j := 0) rfl rfl (by decide), M.get 1 rfl, M.get 0 rfl, below_grown M.old⟩
  · skip
    refine pl_val (want_no rfl) (some 32) rfl (.bool false) (fun w => Eq.trans (b := .ok (.value (.bool (decide ((shP (kdP s)) = 0)))) w) (by kernel_rfl) (by rw [decide_eq_false (c0)])) ?_
    refine pl_call M (want_no rfl) (some 33) rfl 51 #[.pointer (some ⟨g2, 0, none⟩), .bool false, .int .i64 150] (.tuple #[]) (fun _ => by kernel_rfl) (fun w M => r_refF g2 g1 (kdP s) (shP (kdP s)) ⟨(tkS s 0 1), (tkF s 0 1), 0⟩ 150 w M.laid (M.get 1 rfl) (M.get 0 rfl) (nodup_at M.nodup (i := 1) (j := 0) rfl rfl (by decide))) ?_
    intro u7 M
    refine pl_nil ?_
    refine au_then ?_
    refine wp_seq ?_
    refine rg_lit ?_
    refine pl_val (want_no rfl) (some 34) rfl (.pointer (some ⟨g2, 0, none⟩)) (fun _ => by kernel_rfl) ?_
    refine pl_val (want_no rfl) (some 2) rfl (.pointer (some ⟨g2, 0, none⟩)) (fun _ => by kernel_rfl) ?_
    refine pl_nil ?_
    refine au_then ?_
    refine wp_ret ?_
    have e0 : r0P s = ⟨tkS s 0 1, tkF s 0 1, 0⟩ := if_neg c0
    exact bodyPost_ret (v := .pointer (some ⟨g2, 0, none⟩)) (results_tmp1 Try.results31 _ _ _ (by kernel_rfl)) (by kernel_rfl) ⟨g2, g1, _, _, rfl, ⟨by rw [e0], by rw [e0]⟩, M.geAt 1 rfl, M.geAt 0 rfl, nodup_at M.nodup (i := 1) (j := 0) rfl rfl (by decide), M.get 1 rfl, M.get 0 rfl, below_grown M.old⟩

set_option maxRecDepth 100000 in
set_option maxHeartbeats 4000000 in
set_option linter.unusedSimpArgs false in
theorem c_Decode (s : ByteArray) (w : World) (hL : Laid w)  :
    Calls Try.prog 18 #[.string s] w fun r w' => r = .returned (.tuple #[.agg (av 17 (ls [.int .u8 (deM s).ty, .string (deM s).fr, .string (deM s).tq, .int .u32 (deM s).ix, .int .u32 (deM s).pe, .int .u64 (deM s).ct, .int .u64 (deM s).ba, .int .u64 (deM s).ve, .string (deM s).tx, .bool ((deM s).ev), .int .u64 (deM s).eh, .int .u64 (deM s).el, .int .u16 (deM s).ep, .int .u16 (deM s).co, .string (deM s).tt, .string (deM s).da, .string (deM s).sg])), .int .i64 (deE s)]) ∧ Below w.heap.size w w' := by
  go_enter Try.func18, Try.ntmps18
  have M := Mem.start hL
  refine wp_seq ?_
  refine rg_lit ?_
  refine pl_new M (want_no rfl) (some 2) rfl (.cells (av 17 (ls [.int .u8 0, .string ⟨#[]⟩, .string ⟨#[]⟩, .int .u32 0, .int .u32 0, .int .u64 0, .int .u64 0, .int .u64 0, .string ⟨#[]⟩, .bool false, .int .u64 0, .int .u64 0, .int .u16 0, .int .u16 0, .string ⟨#[]⟩, .string ⟨#[]⟩, .string ⟨#[]⟩])) 30) (fun _ => by kernel_rfl) ?_
  intro g1 u1 M
  replace M : Mem ⟨w, []⟩ [⟨g1, .cells (av 17 (ls [.int .u8 0, .string ⟨#[]⟩, .string ⟨#[]⟩, .int .u32 0, .int .u32 0, .int .u64 0, .int .u64 0, .int .u64 0, .string ⟨#[]⟩, .bool false, .int .u64 0, .int .u64 0, .int .u16 0, .int .u16 0, .string ⟨#[]⟩, .string ⟨#[]⟩, .string ⟨#[]⟩])) 30⟩] u1 := M
  refine pl_val (want_no rfl) (some 3) rfl (.int .i64 0) (fun _ => by kernel_rfl) ?_
  refine pl_nil ?_
  refine au_then ?_
  refine wp_seq ?_
  refine rg_lit ?_
  refine pl_val (want_no rfl) (some 7) rfl (.string s) (fun _ => by kernel_rfl) ?_
  refine pl_callm2 M (want_no rfl) (some 8) rfl 31 #[.string s] (fun g => .pointer (some ⟨g, 0, none⟩)) (fun g k Z Y => Z = .cells (av 4 (ls [.int .u8 (kdP s), .int .u16 (shP (kdP s)), .pointer (some ⟨k, 0, none⟩), .int .i64 (r0P s).e])) 73 ∧ Y = .cells (av 3 (ls [.bool true, .string (r0P s).s, .int .i64 (r0P s).f])) 112) (fun _ => by kernel_rfl) (fun w M => c_readerOf s w M.laid) ?_
  intro g7 k7 Z7 Y7 u2 hW7 M
  obtain ⟨rfl, rfl⟩ := hW7
  replace M : Mem ⟨w, []⟩ [⟨g1, .cells (av 17 (ls [.int .u8 0, .string ⟨#[]⟩, .string ⟨#[]⟩, .int .u32 0, .int .u32 0, .int .u64 0, .int .u64 0, .int .u64 0, .string ⟨#[]⟩, .bool false, .int .u64 0, .int .u64 0, .int .u16 0, .int .u16 0, .string ⟨#[]⟩, .string ⟨#[]⟩, .string ⟨#[]⟩])) 30⟩, ⟨g7, .cells (av 4 (ls [.int .u8 (kdP s), .int .u16 (shP (kdP s)), .pointer (some ⟨k7, 0, none⟩), .int .i64 (r0P s).e])) 73⟩, ⟨k7, .cells (av 3 (ls [.bool true, .string (r0P s).s, .int .i64 (r0P s).f])) 112⟩] u2 := M
  refine pl_val (want_no rfl) (some 4) rfl (.pointer (some ⟨g7, 0, none⟩)) (fun _ => by kernel_rfl) ?_
  refine pl_nil ?_
  refine au_then ?_
  refine wp_seq ?_
  refine rg_lit ?_
  refine pl_val (want_no rfl) (some 9) rfl (.pointer (some ⟨g7, 0, none⟩)) (fun _ => by kernel_rfl) ?_
  refine pl_val (want_no rfl) (some 10) rfl (.pointer (some ⟨g7, 0, none⟩)) (fun _ => by kernel_rfl) ?_
  refine pl_val (want_no rfl) (some 11) rfl (.pointer (some ⟨g7, 0, none⟩)) (fun _ => by kernel_rfl) ?_
  refine pl_cell M (want_no rfl) (some 12) rfl 5 _ rfl g7 0 (by kernel_rfl) (.int .u8 (kdP s)) (fun _ => by kernel_rfl) (fun w M => M.cell 1 rfl (by decide) rfl) ?_
  refine pl_val (want_no rfl) (some 13) rfl (.agg (av 17 (ls [.int .u8 (kdP s), .string ⟨#[]⟩, .string ⟨#[]⟩, .int .u32 0, .int .u32 0, .int .u64 0, .int .u64 0, .int .u64 0, .string ⟨#[]⟩, .bool false, .int .u64 0, .int .u64 0, .int .u16 0, .int .u16 0, .string ⟨#[]⟩, .string ⟨#[]⟩, .string ⟨#[]⟩]))) (fun _ => by kernel_rfl) ?_
  refine pl_val (want_no rfl) (some 14) rfl (.pointer (some ⟨g7, 0, none⟩)) (fun _ => by kernel_rfl) ?_
  refine pl_val (want_no rfl) (some 15) rfl (.func (.func 32) #[.pointer (some ⟨g7, 0, none⟩)] #[]) (fun _ => by kernel_rfl) ?_
  have hne7 := nodup_at M.nodup (i := 1) (j := 2) rfl rfl (by decide)
  refine pl_callT (L := [⟨g1, .cells (av 17 (ls [.int .u8 0, .string ⟨#[]⟩, .string ⟨#[]⟩, .int .u32 0, .int .u32 0, .int .u64 0, .int .u64 0, .int .u64 0, .string ⟨#[]⟩, .bool false, .int .u64 0, .int .u64 0, .int .u16 0, .int .u16 0, .string ⟨#[]⟩, .string ⟨#[]⟩, .string ⟨#[]⟩])) 30⟩]) (T := [⟨g7, .cells (av 4 (ls [.int .u8 (kdP s), .int .u16 (shP (kdP s)), .pointer (some ⟨k7, 0, none⟩), .int .i64 (r0P s).e])) 73⟩, ⟨k7, .cells (av 3 (ls [.bool true, .string (r0P s).s, .int .i64 (r0P s).f])) 112⟩]) M (want_no rfl) (some 16) rfl 21 #[.agg (av 17 (ls [.int .u8 (kdP s), .string ⟨#[]⟩, .string ⟨#[]⟩, .int .u32 0, .int .u32 0, .int .u64 0, .int .u64 0, .int .u64 0, .string ⟨#[]⟩, .bool false, .int .u64 0, .int .u64 0, .int .u16 0, .int .u16 0, .string ⟨#[]⟩, .string ⟨#[]⟩, .string ⟨#[]⟩])), .func (.func 32) #[.pointer (some ⟨g7, 0, none⟩)] #[]] (.agg (av 17 (mgL (outM (m0 (kdP s)) (rdO (shP (kdP s)) (r0P s)))))) (fun T' => T' = [⟨g7, .cells (av 4 (ls [.int .u8 (kdP s), .int .u16 (shP (kdP s)), .pointer (some ⟨k7, 0, none⟩), .int .i64 (rdK (shP (kdP s)) (r0P s) 13).e])) 73⟩, ⟨k7, .cells (av 3 (ls [.bool true, .string (rdK (shP (kdP s)) (r0P s) 13).s, .int .i64 (rdK (shP (kdP s)) (r0P s) 13).f])) 112⟩]) (fun _ => by kernel_rfl) (fun w h1 h2 => c_through 32 _ (m0 (kdP s)) (rdO (shP (kdP s)) (r0P s)) _ (fun k T' => T' = [⟨g7, .cells (av 4 (ls [.int .u8 (kdP s), .int .u16 (shP (kdP s)), .pointer (some ⟨k7, 0, none⟩), .int .i64 (rdK (shP (kdP s)) (r0P s) k).e])) 73⟩, ⟨k7, .cells (av 3 (ls [.bool true, .string (rdK (shP (kdP s)) (r0P s) k).s, .int .i64 (rdK (shP (kdP s)) (r0P s) k).f])) 112⟩]) fn32 rfl (st_rd g7 k7 (kdP s) (shP (kdP s)) (r0P s) hne7 (m0 (kdP s))) w trivial h1 h2) ?_
  intro T9 u3 hT9 M
  subst hT9
  replace M : Mem ⟨w, []⟩ [⟨g1, .cells (av 17 (ls [.int .u8 0, .string ⟨#[]⟩, .string ⟨#[]⟩, .int .u32 0, .int .u32 0, .int .u64 0, .int .u64 0, .int .u64 0, .string ⟨#[]⟩, .bool false, .int .u64 0, .int .u64 0, .int .u16 0, .int .u16 0, .string ⟨#[]⟩, .string ⟨#[]⟩, .string ⟨#[]⟩])) 30⟩, ⟨g7, .cells (av 4 (ls [.int .u8 (kdP s), .int .u16 (shP (kdP s)), .pointer (some ⟨k7, 0, none⟩), .int .i64 (rdK (shP (kdP s)) (r0P s) 13).e])) 73⟩, ⟨k7, .cells (av 3 (ls [.bool true, .string (rdK (shP (kdP s)) (r0P s) 13).s, .int .i64 (rdK (shP (kdP s)) (r0P s) 13).f])) 112⟩] u3 := M
  refine pl_new M (want_no rfl) (some 5) rfl (.cells (av 17 (ls [.int .u8 0, .string ⟨#[]⟩, .string ⟨#[]⟩, .int .u32 0, .int .u32 0, .int .u64 0, .int .u64 0, .int .u64 0, .string ⟨#[]⟩, .bool false, .int .u64 0, .int .u64 0, .int .u16 0, .int .u16 0, .string ⟨#[]⟩, .string ⟨#[]⟩, .string ⟨#[]⟩])) 30) (fun _ => by kernel_rfl) ?_
  intro g2 u4 M
  replace M : Mem ⟨w, []⟩ [⟨g1, .cells (av 17 (ls [.int .u8 0, .string ⟨#[]⟩, .string ⟨#[]⟩, .int .u32 0, .int .u32 0, .int .u64 0, .int .u64 0, .int .u64 0, .string ⟨#[]⟩, .bool false, .int .u64 0, .int .u64 0, .int .u16 0, .int .u16 0, .string ⟨#[]⟩, .string ⟨#[]⟩, .string ⟨#[]⟩])) 30⟩, ⟨g7, .cells (av 4 (ls [.int .u8 (kdP s), .int .u16 (shP (kdP s)), .pointer (some ⟨k7, 0, none⟩), .int .i64 (rdK (shP (kdP s)) (r0P s) 13).e])) 73⟩, ⟨k7, .cells (av 3 (ls [.bool true, .string (rdK (shP (kdP s)) (r0P s) 13).s, .int .i64 (rdK (shP (kdP s)) (r0P s) 13).f])) 112⟩, ⟨g2, .cells (av 17 (ls [.int .u8 0, .string ⟨#[]⟩, .string ⟨#[]⟩, .int .u32 0, .int .u32 0, .int .u64 0, .int .u64 0, .int .u64 0, .string ⟨#[]⟩, .bool false, .int .u64 0, .int .u64 0, .int .u16 0, .int .u16 0, .string ⟨#[]⟩, .string ⟨#[]⟩, .string ⟨#[]⟩])) 30⟩] u4 := M
  refine pl_put M (want_no rfl) rfl 30 _ _ rfl 3 g2 0 (by kernel_rfl) 17 30 (ls [.int .u8 0, .string ⟨#[]⟩, .string ⟨#[]⟩, .int .u32 0, .int .u32 0, .int .u64 0, .int .u64 0, .int .u64 0, .string ⟨#[]⟩, .bool false, .int .u64 0, .int .u64 0, .int .u16 0, .int .u16 0, .string ⟨#[]⟩, .string ⟨#[]⟩, .string ⟨#[]⟩]) rfl 17 (ls [.int .u8 (outM (m0 (kdP s)) (rdO (shP (kdP s)) (r0P s))).ty, .string (outM (m0 (kdP s)) (rdO (shP (kdP s)) (r0P s))).fr, .string (outM (m0 (kdP s)) (rdO (shP (kdP s)) (r0P s))).tq, .int .u32 (outM (m0 (kdP s)) (rdO (shP (kdP s)) (r0P s))).ix, .int .u32 (outM (m0 (kdP s)) (rdO (shP (kdP s)) (r0P s))).pe, .int .u64 (outM (m0 (kdP s)) (rdO (shP (kdP s)) (r0P s))).ct, .int .u64 (outM (m0 (kdP s)) (rdO (shP (kdP s)) (r0P s))).ba, .int .u64 (outM (m0 (kdP s)) (rdO (shP (kdP s)) (r0P s))).ve, .string (outM (m0 (kdP s)) (rdO (shP (kdP s)) (r0P s))).tx, .bool ((outM (m0 (kdP s)) (rdO (shP (kdP s)) (r0P s))).ev), .int .u64 (outM (m0 (kdP s)) (rdO (shP (kdP s)) (r0P s))).eh, .int .u64 (outM (m0 (kdP s)) (rdO (shP (kdP s)) (r0P s))).el, .int .u16 (outM (m0 (kdP s)) (rdO (shP (kdP s)) (r0P s))).ep, .int .u16 (outM (m0 (kdP s)) (rdO (shP (kdP s)) (r0P s))).co, .string (outM (m0 (kdP s)) (rdO (shP (kdP s)) (r0P s))).tt, .string (outM (m0 (kdP s)) (rdO (shP (kdP s)) (r0P s))).da, .string (outM (m0 (kdP s)) (rdO (shP (kdP s)) (r0P s))).sg]) (ls [.int .u8 (outM (m0 (kdP s)) (rdO (shP (kdP s)) (r0P s))).ty, .string (outM (m0 (kdP s)) (rdO (shP (kdP s)) (r0P s))).fr, .string (outM (m0 (kdP s)) (rdO (shP (kdP s)) (r0P s))).tq, .int .u32 (outM (m0 (kdP s)) (rdO (shP (kdP s)) (r0P s))).ix, .int .u32 (outM (m0 (kdP s)) (rdO (shP (kdP s)) (r0P s))).pe, .int .u64 (outM (m0 (kdP s)) (rdO (shP (kdP s)) (r0P s))).ct, .int .u64 (outM (m0 (kdP s)) (rdO (shP (kdP s)) (r0P s))).ba, .int .u64 (outM (m0 (kdP s)) (rdO (shP (kdP s)) (r0P s))).ve, .string (outM (m0 (kdP s)) (rdO (shP (kdP s)) (r0P s))).tx, .bool ((outM (m0 (kdP s)) (rdO (shP (kdP s)) (r0P s))).ev), .int .u64 (outM (m0 (kdP s)) (rdO (shP (kdP s)) (r0P s))).eh, .int .u64 (outM (m0 (kdP s)) (rdO (shP (kdP s)) (r0P s))).el, .int .u16 (outM (m0 (kdP s)) (rdO (shP (kdP s)) (r0P s))).ep, .int .u16 (outM (m0 (kdP s)) (rdO (shP (kdP s)) (r0P s))).co, .string (outM (m0 (kdP s)) (rdO (shP (kdP s)) (r0P s))).tt, .string (outM (m0 (kdP s)) (rdO (shP (kdP s)) (r0P s))).da, .string (outM (m0 (kdP s)) (rdO (shP (kdP s)) (r0P s))).sg]) (by kernel_rfl) inz30 (by decide) (one_ls _ rfl) (fun j hj => by rw [if_pos (by omega), Nat.sub_zero]) ?_
  intro u5 M
  replace M : Mem ⟨w, []⟩ [⟨g1, .cells (av 17 (ls [.int .u8 0, .string ⟨#[]⟩, .string ⟨#[]⟩, .int .u32 0, .int .u32 0, .int .u64 0, .int .u64 0, .int .u64 0, .string ⟨#[]⟩, .bool false, .int .u64 0, .int .u64 0, .int .u16 0, .int .u16 0, .string ⟨#[]⟩, .string ⟨#[]⟩, .string ⟨#[]⟩])) 30⟩, ⟨g7, .cells (av 4 (ls [.int .u8 (kdP s), .int .u16 (shP (kdP s)), .pointer (some ⟨k7, 0, none⟩), .int .i64 (rdK (shP (kdP s)) (r0P s) 13).e])) 73⟩, ⟨k7, .cells (av 3 (ls [.bool true, .string (rdK (shP (kdP s)) (r0P s) 13).s, .int .i64 (rdK (shP (kdP s)) (r0P s) 13).f])) 112⟩, ⟨g2, .cells (av 17 (ls [.int .u8 (outM (m0 (kdP s)) (rdO (shP (kdP s)) (r0P s))).ty, .string (outM (m0 (kdP s)) (rdO (shP (kdP s)) (r0P s))).fr, .string (outM (m0 (kdP s)) (rdO (shP (kdP s)) (r0P s))).tq, .int .u32 (outM (m0 (kdP s)) (rdO (shP (kdP s)) (r0P s))).ix, .int .u32 (outM (m0 (kdP s)) (rdO (shP (kdP s)) (r0P s))).pe, .int .u64 (outM (m0 (kdP s)) (rdO (shP (kdP s)) (r0P s))).ct, .int .u64 (outM (m0 (kdP s)) (rdO (shP (kdP s)) (r0P s))).ba, .int .u64 (outM (m0 (kdP s)) (rdO (shP (kdP s)) (r0P s))).ve, .string (outM (m0 (kdP s)) (rdO (shP (kdP s)) (r0P s))).tx, .bool ((outM (m0 (kdP s)) (rdO (shP (kdP s)) (r0P s))).ev), .int .u64 (outM (m0 (kdP s)) (rdO (shP (kdP s)) (r0P s))).eh, .int .u64 (outM (m0 (kdP s)) (rdO (shP (kdP s)) (r0P s))).el, .int .u16 (outM (m0 (kdP s)) (rdO (shP (kdP s)) (r0P s))).ep, .int .u16 (outM (m0 (kdP s)) (rdO (shP (kdP s)) (r0P s))).co, .string (outM (m0 (kdP s)) (rdO (shP (kdP s)) (r0P s))).tt, .string (outM (m0 (kdP s)) (rdO (shP (kdP s)) (r0P s))).da, .string (outM (m0 (kdP s)) (rdO (shP (kdP s)) (r0P s))).sg])) 30⟩] u5 := M
  refine pl_nil ?_
  refine au_then ?_
  refine wp_seq ?_
  refine wp_seq ?_
  refine rg_lit ?_
  refine pl_val (want_no rfl) (some 17) rfl (.pointer (some ⟨g7, 0, none⟩)) (fun _ => by kernel_rfl) ?_
  refine pl_call M (want_no rfl) (some 18) rfl 33 #[.pointer (some ⟨g7, 0, none⟩)] (.int .i64 (deE s)) (fun _ => by kernel_rfl) (fun w M => r_end g7 k7 (kdP s) (shP (kdP s)) (rdK (shP (kdP s)) (r0P s) 13) w M.laid (M.get 1 rfl) (M.get 2 rfl) (nodup_at M.nodup (i := 1) (j := 2) rfl rfl (by decide))) ?_
  intro u6 M
  refine pl_val (want_no rfl) (some 6) rfl (.int .i64 (deE s)) (fun _ => by kernel_rfl) ?_
  refine pl_nil ?_
  refine au_then ?_
  refine wp_seq ?_
  refine rg_lit ?_
  refine pl_val (want_no rfl) (some 19) rfl (.int .i64 (deE s)) (fun _ => by kernel_rfl) ?_
  by_cases c0 : (deE s) = 0
  · skip
    refine pl_val (want_no rfl) (some 20) rfl (.bool false) (fun w => Eq.trans (b := .ok (.value (.bool (!(decide ((deE s) = 0))))) w) (by kernel_rfl) (by rw [decide_eq_true (c0)]; rfl)) ?_
    refine pl_nil ?_
    refine au_then ?_
    refine wp_cond_false (by kernel_rfl) ?_
    refine wp_skip ?_
    refine au_then ?_
    refine wp_seq ?_
    refine rg_lit ?_
    refine pl_load M (want_no rfl) (some 23) rfl 30 _ rfl 3 g2 0 (by kernel_rfl) 17 30 (ls [.int .u8 (outM (m0 (kdP s)) (rdO (shP (kdP s)) (r0P s))).ty, .string (outM (m0 (kdP s)) (rdO (shP (kdP s)) (r0P s))).fr, .string (outM (m0 (kdP s)) (rdO (shP (kdP s)) (r0P s))).tq, .int .u32 (outM (m0 (kdP s)) (rdO (shP (kdP s)) (r0P s))).ix, .int .u32 (outM (m0 (kdP s)) (rdO (shP (kdP s)) (r0P s))).pe, .int .u64 (outM (m0 (kdP s)) (rdO (shP (kdP s)) (r0P s))).ct, .int .u64 (outM (m0 (kdP s)) (rdO (shP (kdP s)) (r0P s))).ba, .int .u64 (outM (m0 (kdP s)) (rdO (shP (kdP s)) (r0P s))).ve, .string (outM (m0 (kdP s)) (rdO (shP (kdP s)) (r0P s))).tx, .bool ((outM (m0 (kdP s)) (rdO (shP (kdP s)) (r0P s))).ev), .int .u64 (outM (m0 (kdP s)) (rdO (shP (kdP s)) (r0P s))).eh, .int .u64 (outM (m0 (kdP s)) (rdO (shP (kdP s)) (r0P s))).el, .int .u16 (outM (m0 (kdP s)) (rdO (shP (kdP s)) (r0P s))).ep, .int .u16 (outM (m0 (kdP s)) (rdO (shP (kdP s)) (r0P s))).co, .string (outM (m0 (kdP s)) (rdO (shP (kdP s)) (r0P s))).tt, .string (outM (m0 (kdP s)) (rdO (shP (kdP s)) (r0P s))).da, .string (outM (m0 (kdP s)) (rdO (shP (kdP s)) (r0P s))).sg]) rfl 17 (ls [.int .u8 (outM (m0 (kdP s)) (rdO (shP (kdP s)) (r0P s))).ty, .string (outM (m0 (kdP s)) (rdO (shP (kdP s)) (r0P s))).fr, .string (outM (m0 (kdP s)) (rdO (shP (kdP s)) (r0P s))).tq, .int .u32 (outM (m0 (kdP s)) (rdO (shP (kdP s)) (r0P s))).ix, .int .u32 (outM (m0 (kdP s)) (rdO (shP (kdP s)) (r0P s))).pe, .int .u64 (outM (m0 (kdP s)) (rdO (shP (kdP s)) (r0P s))).ct, .int .u64 (outM (m0 (kdP s)) (rdO (shP (kdP s)) (r0P s))).ba, .int .u64 (outM (m0 (kdP s)) (rdO (shP (kdP s)) (r0P s))).ve, .string (outM (m0 (kdP s)) (rdO (shP (kdP s)) (r0P s))).tx, .bool ((outM (m0 (kdP s)) (rdO (shP (kdP s)) (r0P s))).ev), .int .u64 (outM (m0 (kdP s)) (rdO (shP (kdP s)) (r0P s))).eh, .int .u64 (outM (m0 (kdP s)) (rdO (shP (kdP s)) (r0P s))).el, .int .u16 (outM (m0 (kdP s)) (rdO (shP (kdP s)) (r0P s))).ep, .int .u16 (outM (m0 (kdP s)) (rdO (shP (kdP s)) (r0P s))).co, .string (outM (m0 (kdP s)) (rdO (shP (kdP s)) (r0P s))).tt, .string (outM (m0 (kdP s)) (rdO (shP (kdP s)) (r0P s))).da, .string (outM (m0 (kdP s)) (rdO (shP (kdP s)) (r0P s))).sg]) (fun j _ => by rw [Nat.zero_add]) (by decide) _ Try.underlying30 rfl inz30 ?_
    refine pl_put M (want_no rfl) rfl 30 _ _ rfl 0 g1 0 (by kernel_rfl) 17 30 (ls [.int .u8 0, .string ⟨#[]⟩, .string ⟨#[]⟩, .int .u32 0, .int .u32 0, .int .u64 0, .int .u64 0, .int .u64 0, .string ⟨#[]⟩, .bool false, .int .u64 0, .int .u64 0, .int .u16 0, .int .u16 0, .string ⟨#[]⟩, .string ⟨#[]⟩, .string ⟨#[]⟩]) rfl 17 (ls [.int .u8 (outM (m0 (kdP s)) (rdO (shP (kdP s)) (r0P s))).ty, .string (outM (m0 (kdP s)) (rdO (shP (kdP s)) (r0P s))).fr, .string (outM (m0 (kdP s)) (rdO (shP (kdP s)) (r0P s))).tq, .int .u32 (outM (m0 (kdP s)) (rdO (shP (kdP s)) (r0P s))).ix, .int .u32 (outM (m0 (kdP s)) (rdO (shP (kdP s)) (r0P s))).pe, .int .u64 (outM (m0 (kdP s)) (rdO (shP (kdP s)) (r0P s))).ct, .int .u64 (outM (m0 (kdP s)) (rdO (shP (kdP s)) (r0P s))).ba, .int .u64 (outM (m0 (kdP s)) (rdO (shP (kdP s)) (r0P s))).ve, .string (outM (m0 (kdP s)) (rdO (shP (kdP s)) (r0P s))).tx, .bool ((outM (m0 (kdP s)) (rdO (shP (kdP s)) (r0P s))).ev), .int .u64 (outM (m0 (kdP s)) (rdO (shP (kdP s)) (r0P s))).eh, .int .u64 (outM (m0 (kdP s)) (rdO (shP (kdP s)) (r0P s))).el, .int .u16 (outM (m0 (kdP s)) (rdO (shP (kdP s)) (r0P s))).ep, .int .u16 (outM (m0 (kdP s)) (rdO (shP (kdP s)) (r0P s))).co, .string (outM (m0 (kdP s)) (rdO (shP (kdP s)) (r0P s))).tt, .string (outM (m0 (kdP s)) (rdO (shP (kdP s)) (r0P s))).da, .string (outM (m0 (kdP s)) (rdO (shP (kdP s)) (r0P s))).sg]) (ls [.int .u8 (outM (m0 (kdP s)) (rdO (shP (kdP s)) (r0P s))).ty, .string (outM (m0 (kdP s)) (rdO (shP (kdP s)) (r0P s))).fr, .string (outM (m0 (kdP s)) (rdO (shP (kdP s)) (r0P s))).tq, .int .u32 (outM (m0 (kdP s)) (rdO (shP (kdP s)) (r0P s))).ix, .int .u32 (outM (m0 (kdP s)) (rdO (shP (kdP s)) (r0P s))).pe, .int .u64 (outM (m0 (kdP s)) (rdO (shP (kdP s)) (r0P s))).ct, .int .u64 (outM (m0 (kdP s)) (rdO (shP (kdP s)) (r0P s))).ba, .int .u64 (outM (m0 (kdP s)) (rdO (shP (kdP s)) (r0P s))).ve, .string (outM (m0 (kdP s)) (rdO (shP (kdP s)) (r0P s))).tx, .bool ((outM (m0 (kdP s)) (rdO (shP (kdP s)) (r0P s))).ev), .int .u64 (outM (m0 (kdP s)) (rdO (shP (kdP s)) (r0P s))).eh, .int .u64 (outM (m0 (kdP s)) (rdO (shP (kdP s)) (r0P s))).el, .int .u16 (outM (m0 (kdP s)) (rdO (shP (kdP s)) (r0P s))).ep, .int .u16 (outM (m0 (kdP s)) (rdO (shP (kdP s)) (r0P s))).co, .string (outM (m0 (kdP s)) (rdO (shP (kdP s)) (r0P s))).tt, .string (outM (m0 (kdP s)) (rdO (shP (kdP s)) (r0P s))).da, .string (outM (m0 (kdP s)) (rdO (shP (kdP s)) (r0P s))).sg]) (by kernel_rfl) inz30 (by decide) (one_ls _ rfl) (fun j hj => by rw [if_pos (by omega), Nat.sub_zero]) ?_
    intro u7 M
    replace M : Mem ⟨w, []⟩ [⟨g1, .cells (av 17 (ls [.int .u8 (outM (m0 (kdP s)) (rdO (shP (kdP s)) (r0P s))).ty, .string (outM (m0 (kdP s)) (rdO (shP (kdP s)) (r0P s))).fr, .string (outM (m0 (kdP s)) (rdO (shP (kdP s)) (r0P s))).tq, .int .u32 (outM (m0 (kdP s)) (rdO (shP (kdP s)) (r0P s))).ix, .int .u32 (outM (m0 (kdP s)) (rdO (shP (kdP s)) (r0P s))).pe, .int .u64 (outM (m0 (kdP s)) (rdO (shP (kdP s)) (r0P s))).ct, .int .u64 (outM (m0 (kdP s)) (rdO (shP (kdP s)) (r0P s))).ba, .int .u64 (outM (m0 (kdP s)) (rdO (shP (kdP s)) (r0P s))).ve, .string (outM (m0 (kdP s)) (rdO (shP (kdP s)) (r0P s))).tx, .bool ((outM (m0 (kdP s)) (rdO (shP (kdP s)) (r0P s))).ev), .int .u64 (outM (m0 (kdP s)) (rdO (shP (kdP s)) (r0P s))).eh, .int .u64 (outM (m0 (kdP s)) (rdO (shP (kdP s)) (r0P s))).el, .int .u16 (outM (m0 (kdP s)) (rdO (shP (kdP s)) (r0P s))).ep, .int .u16 (outM (m0 (kdP s)) (rdO (shP (kdP s)) (r0P s))).co, .string (outM (m0 (kdP s)) (rdO (shP (kdP s)) (r0P s))).tt, .string (outM (m0 (kdP s)) (rdO (shP (kdP s)) (r0P s))).da, .string (outM (m0 (kdP s)) (rdO (shP (kdP s)) (r0P s))).sg])) 30⟩, ⟨g7, .cells (av 4 (ls [.int .u8 (kdP s), .int .u16 (shP (kdP s)), .pointer (some ⟨k7, 0, none⟩), .int .i64 (rdK (shP (kdP s)) (r0P s) 13).e])) 73⟩, ⟨k7, .cells (av 3 (ls [.bool true, .string (rdK (shP (kdP s)) (r0P s) 13).s, .int .i64 (rdK (shP (kdP s)) (r0P s) 13).f])) 112⟩, ⟨g2, .cells (av 17 (ls [.int .u8 (outM (m0 (kdP s)) (rdO (shP (kdP s)) (r0P s))).ty, .string (outM (m0 (kdP s)) (rdO (shP (kdP s)) (r0P s))).fr, .string (outM (m0 (kdP s)) (rdO (shP (kdP s)) (r0P s))).tq, .int .u32 (outM (m0 (kdP s)) (rdO (shP (kdP s)) (r0P s))).ix, .int .u32 (outM (m0 (kdP s)) (rdO (shP (kdP s)) (r0P s))).pe, .int .u64 (outM (m0 (kdP s)) (rdO (shP (kdP s)) (r0P s))).ct, .int .u64 (outM (m0 (kdP s)) (rdO (shP (kdP s)) (r0P s))).ba, .int .u64 (outM (m0 (kdP s)) (rdO (shP (kdP s)) (r0P s))).ve, .string (outM (m0 (kdP s)) (rdO (shP (kdP s)) (r0P s))).tx, .bool ((outM (m0 (kdP s)) (rdO (shP (kdP s)) (r0P s))).ev), .int .u64 (outM (m0 (kdP s)) (rdO (shP (kdP s)) (r0P s))).eh, .int .u64 (outM (m0 (kdP s)) (rdO (shP (kdP s)) (r0P s))).el, .int .u16 (outM (m0 (kdP s)) (rdO (shP (kdP s)) (r0P s))).ep, .int .u16 (outM (m0 (kdP s)) (rdO (shP (kdP s)) (r0P s))).co, .string (outM (m0 (kdP s)) (rdO (shP (kdP s)) (r0P s))).tt, .string (outM (m0 (kdP s)) (rdO (shP (kdP s)) (r0P s))).da, .string (outM (m0 (kdP s)) (rdO (shP (kdP s)) (r0P s))).sg])) 30⟩] u7 := M
    refine pl_val (want_no rfl) (some 3) rfl (.int .i64 0) (fun _ => by kernel_rfl) ?_
    refine pl_nil ?_
    refine au_then ?_
    refine wp_ret ?_
    have e0 : (deM s).ty = (outM (m0 (kdP s)) (rdO (shP (kdP s)) (r0P s))).ty := by rw [deM, if_pos c0]
    have e1 : (deM s).fr = (outM (m0 (kdP s)) (rdO (shP (kdP s)) (r0P s))).fr := by rw [deM, if_pos c0]
    have e2 : (deM s).tq = (outM (m0 (kdP s)) (rdO (shP (kdP s)) (r0P s))).tq := by rw [deM, if_pos c0]
    have e3 : (deM s).ix = (outM (m0 (kdP s)) (rdO (shP (kdP s)) (r0P s))).ix := by rw [deM, if_pos c0]
    have e4 : (deM s).pe = (outM (m0 (kdP s)) (rdO (shP (kdP s)) (r0P s))).pe := by rw [deM, if_pos c0]
    have e5 : (deM s).ct = (outM (m0 (kdP s)) (rdO (shP (kdP s)) (r0P s))).ct := by rw [deM, if_pos c0]
    have e6 : (deM s).ba = (outM (m0 (kdP s)) (rdO (shP (kdP s)) (r0P s))).ba := by rw [deM, if_pos c0]
    have e7 : (deM s).ve = (outM (m0 (kdP s)) (rdO (shP (kdP s)) (r0P s))).ve := by rw [deM, if_pos c0]
    have e8 : (deM s).tx = (outM (m0 (kdP s)) (rdO (shP (kdP s)) (r0P s))).tx := by rw [deM, if_pos c0]
    have e9 : (deM s).ev = (outM (m0 (kdP s)) (rdO (shP (kdP s)) (r0P s))).ev := by rw [deM, if_pos c0]
    have e10 : (deM s).eh = (outM (m0 (kdP s)) (rdO (shP (kdP s)) (r0P s))).eh := by rw [deM, if_pos c0]
    have e11 : (deM s).el = (outM (m0 (kdP s)) (rdO (shP (kdP s)) (r0P s))).el := by rw [deM, if_pos c0]
    have e12 : (deM s).ep = (outM (m0 (kdP s)) (rdO (shP (kdP s)) (r0P s))).ep := by rw [deM, if_pos c0]
    have e13 : (deM s).co = (outM (m0 (kdP s)) (rdO (shP (kdP s)) (r0P s))).co := by rw [deM, if_pos c0]
    have e14 : (deM s).tt = (outM (m0 (kdP s)) (rdO (shP (kdP s)) (r0P s))).tt := by rw [deM, if_pos c0]
    have e15 : (deM s).da = (outM (m0 (kdP s)) (rdO (shP (kdP s)) (r0P s))).da := by rw [deM, if_pos c0]
    have e16 : (deM s).sg = (outM (m0 (kdP s)) (rdO (shP (kdP s)) (r0P s))).sg := by rw [deM, if_pos c0]
    have e17 : (deE s) = 0 := c0
    exact bodyPost_ret (v := .tuple #[.agg (av 17 (ls [.int .u8 (outM (m0 (kdP s)) (rdO (shP (kdP s)) (r0P s))).ty, .string (outM (m0 (kdP s)) (rdO (shP (kdP s)) (r0P s))).fr, .string (outM (m0 (kdP s)) (rdO (shP (kdP s)) (r0P s))).tq, .int .u32 (outM (m0 (kdP s)) (rdO (shP (kdP s)) (r0P s))).ix, .int .u32 (outM (m0 (kdP s)) (rdO (shP (kdP s)) (r0P s))).pe, .int .u64 (outM (m0 (kdP s)) (rdO (shP (kdP s)) (r0P s))).ct, .int .u64 (outM (m0 (kdP s)) (rdO (shP (kdP s)) (r0P s))).ba, .int .u64 (outM (m0 (kdP s)) (rdO (shP (kdP s)) (r0P s))).ve, .string (outM (m0 (kdP s)) (rdO (shP (kdP s)) (r0P s))).tx, .bool ((outM (m0 (kdP s)) (rdO (shP (kdP s)) (r0P s))).ev), .int .u64 (outM (m0 (kdP s)) (rdO (shP (kdP s)) (r0P s))).eh, .int .u64 (outM (m0 (kdP s)) (rdO (shP (kdP s)) (r0P s))).el, .int .u16 (outM (m0 (kdP s)) (rdO (shP (kdP s)) (r0P s))).ep, .int .u16 (outM (m0 (kdP s)) (rdO (shP (kdP s)) (r0P s))).co, .string (outM (m0 (kdP s)) (rdO (shP (kdP s)) (r0P s))).tt, .string (outM (m0 (kdP s)) (rdO (shP (kdP s)) (r0P s))).da, .string (outM (m0 (kdP s)) (rdO (shP (kdP s)) (r0P s))).sg])), .int .i64 0]) (results_cell_tmp Try.results18 _ _ g1 30 (av 17 (ls [.int .u8 (outM (m0 (kdP s)) (rdO (shP (kdP s)) (r0P s))).ty, .string (outM (m0 (kdP s)) (rdO (shP (kdP s)) (r0P s))).fr, .string (outM (m0 (kdP s)) (rdO (shP (kdP s)) (r0P s))).tq, .int .u32 (outM (m0 (kdP s)) (rdO (shP (kdP s)) (r0P s))).ix, .int .u32 (outM (m0 (kdP s)) (rdO (shP (kdP s)) (r0P s))).pe, .int .u64 (outM (m0 (kdP s)) (rdO (shP (kdP s)) (r0P s))).ct, .int .u64 (outM (m0 (kdP s)) (rdO (shP (kdP s)) (r0P s))).ba, .int .u64 (outM (m0 (kdP s)) (rdO (shP (kdP s)) (r0P s))).ve, .string (outM (m0 (kdP s)) (rdO (shP (kdP s)) (r0P s))).tx, .bool ((outM (m0 (kdP s)) (rdO (shP (kdP s)) (r0P s))).ev), .int .u64 (outM (m0 (kdP s)) (rdO (shP (kdP s)) (r0P s))).eh, .int .u64 (outM (m0 (kdP s)) (rdO (shP (kdP s)) (r0P s))).el, .int .u16 (outM (m0 (kdP s)) (rdO (shP (kdP s)) (r0P s))).ep, .int .u16 (outM (m0 (kdP s)) (rdO (shP (kdP s)) (r0P s))).co, .string (outM (m0 (kdP s)) (rdO (shP (kdP s)) (r0P s))).tt, .string (outM (m0 (kdP s)) (rdO (shP (kdP s)) (r0P s))).da, .string (outM (m0 (kdP s)) (rdO (shP (kdP s)) (r0P s))).sg])) (0, 0) _ _ (by kernel_rfl) (by kernel_rfl) (M.get 0 rfl) Try.underlying30 rfl (by rw [av_size]; exact inz30)) (by kernel_rfl) ⟨by rw [e0, e1, e2, e3, e4, e5, e6, e7, e8, e9, e10, e11, e12, e13, e14, e15, e16, e17], below_grown M.old⟩
  · skip
    refine pl_val (want_no rfl) (some 20) rfl (.bool true) (fun w => Eq.trans (b := .ok (.value (.bool (!(decide ((deE s) = 0))))) w) (by kernel_rfl) (by rw [decide_eq_false (c0)]; rfl)) ?_
    refine pl_nil ?_
    refine au_then ?_
    refine wp_cond_true (by kernel_rfl) ?_
    refine wp_seq ?_
    refine rg_lit ?_
    refine pl_val (want_no rfl) (some 21) rfl (.agg (av 17 (ls [.int .u8 0, .string ⟨#[]⟩, .string ⟨#[]⟩, .int .u32 0, .int .u32 0, .int .u64 0, .int .u64 0, .int .u64 0, .string ⟨#[]⟩, .bool false, .int .u64 0, .int .u64 0, .int .u16 0, .int .u16 0, .string ⟨#[]⟩, .string ⟨#[]⟩, .string ⟨#[]⟩]))) (fun _ => by kernel_rfl) ?_
    refine pl_val (want_no rfl) (some 22) rfl (.int .i64 (deE s)) (fun _ => by kernel_rfl) ?_
    refine pl_put M (want_no rfl) rfl 30 _ _ rfl 0 g1 0 (by kernel_rfl) 17 30 (ls [.int .u8 0, .string ⟨#[]⟩, .string ⟨#[]⟩, .int .u32 0, .int .u32 0, .int .u64 0, .int .u64 0, .int .u64 0, .string ⟨#[]⟩, .bool false, .int .u64 0, .int .u64 0, .int .u16 0, .int .u16 0, .string ⟨#[]⟩, .string ⟨#[]⟩, .string ⟨#[]⟩]) rfl 17 (ls [.int .u8 0, .string ⟨#[]⟩, .string ⟨#[]⟩, .int .u32 0, .int .u32 0, .int .u64 0, .int .u64 0, .int .u64 0, .string ⟨#[]⟩, .bool false, .int .u64 0, .int .u64 0, .int .u16 0, .int .u16 0, .string ⟨#[]⟩, .string ⟨#[]⟩, .string ⟨#[]⟩]) (ls [.int .u8 0, .string ⟨#[]⟩, .string ⟨#[]⟩, .int .u32 0, .int .u32 0, .int .u64 0, .int .u64 0, .int .u64 0, .string ⟨#[]⟩, .bool false, .int .u64 0, .int .u64 0, .int .u16 0, .int .u16 0, .string ⟨#[]⟩, .string ⟨#[]⟩, .string ⟨#[]⟩]) (by kernel_rfl) inz30 (by decide) (one_ls _ rfl) (fun j hj => by rw [if_pos (by omega), Nat.sub_zero]) ?_
    intro u7 M
    replace M : Mem ⟨w, []⟩ [⟨g1, .cells (av 17 (ls [.int .u8 0, .string ⟨#[]⟩, .string ⟨#[]⟩, .int .u32 0, .int .u32 0, .int .u64 0, .int .u64 0, .int .u64 0, .string ⟨#[]⟩, .bool false, .int .u64 0, .int .u64 0, .int .u16 0, .int .u16 0, .string ⟨#[]⟩, .string ⟨#[]⟩, .string ⟨#[]⟩])) 30⟩, ⟨g7, .cells (av 4 (ls [.int .u8 (kdP s), .int .u16 (shP (kdP s)), .pointer (some ⟨k7, 0, none⟩), .int .i64 (rdK (shP (kdP s)) (r0P s) 13).e])) 73⟩, ⟨k7, .cells (av 3 (ls [.bool true, .string (rdK (shP (kdP s)) (r0P s) 13).s, .int .i64 (rdK (shP (kdP s)) (r0P s) 13).f])) 112⟩, ⟨g2, .cells (av 17 (ls [.int .u8 (outM (m0 (kdP s)) (rdO (shP (kdP s)) (r0P s))).ty, .string (outM (m0 (kdP s)) (rdO (shP (kdP s)) (r0P s))).fr, .string (outM (m0 (kdP s)) (rdO (shP (kdP s)) (r0P s))).tq, .int .u32 (outM (m0 (kdP s)) (rdO (shP (kdP s)) (r0P s))).ix, .int .u32 (outM (m0 (kdP s)) (rdO (shP (kdP s)) (r0P s))).pe, .int .u64 (outM (m0 (kdP s)) (rdO (shP (kdP s)) (r0P s))).ct, .int .u64 (outM (m0 (kdP s)) (rdO (shP (kdP s)) (r0P s))).ba, .int .u64 (outM (m0 (kdP s)) (rdO (shP (kdP s)) (r0P s))).ve, .string (outM (m0 (kdP s)) (rdO (shP (kdP s)) (r0P s))).tx, .bool ((outM (m0 (kdP s)) (rdO (shP (kdP s)) (r0P s))).ev), .int .u64 (outM (m0 (kdP s)) (rdO (shP (kdP s)) (r0P s))).eh, .int .u64 (outM (m0 (kdP s)) (rdO (shP (kdP s)) (r0P s))).el, .int .u16 (outM (m0 (kdP s)) (rdO (shP (kdP s)) (r0P s))).ep, .int .u16 (outM (m0 (kdP s)) (rdO (shP (kdP s)) (r0P s))).co, .string (outM (m0 (kdP s)) (rdO (shP (kdP s)) (r0P s))).tt, .string (outM (m0 (kdP s)) (rdO (shP (kdP s)) (r0P s))).da, .string (outM (m0 (kdP s)) (rdO (shP (kdP s)) (r0P s))).sg])) 30⟩] u7 := M
    refine pl_val (want_no rfl) (some 3) rfl (.int .i64 (deE s)) (fun _ => by kernel_rfl) ?_
    refine pl_nil ?_
    refine au_then ?_
    refine wp_ret ?_
    refine au_then_ret ?_
    have e0 : (deM s).ty = 0 := by rw [deM, if_neg c0]; rfl
    have e1 : (deM s).fr = ⟨#[]⟩ := by rw [deM, if_neg c0]; rfl
    have e2 : (deM s).tq = ⟨#[]⟩ := by rw [deM, if_neg c0]; rfl
    have e3 : (deM s).ix = 0 := by rw [deM, if_neg c0]; rfl
    have e4 : (deM s).pe = 0 := by rw [deM, if_neg c0]; rfl
    have e5 : (deM s).ct = 0 := by rw [deM, if_neg c0]; rfl
    have e6 : (deM s).ba = 0 := by rw [deM, if_neg c0]; rfl
    have e7 : (deM s).ve = 0 := by rw [deM, if_neg c0]; rfl
    have e8 : (deM s).tx = ⟨#[]⟩ := by rw [deM, if_neg c0]; rfl
    have e9 : (deM s).ev = false := by rw [deM, if_neg c0]; rfl
    have e10 : (deM s).eh = 0 := by rw [deM, if_neg c0]; rfl
    have e11 : (deM s).el = 0 := by rw [deM, if_neg c0]; rfl
    have e12 : (deM s).ep = 0 := by rw [deM, if_neg c0]; rfl
    have e13 : (deM s).co = 0 := by rw [deM, if_neg c0]; rfl
    have e14 : (deM s).tt = ⟨#[]⟩ := by rw [deM, if_neg c0]; rfl
    have e15 : (deM s).da = ⟨#[]⟩ := by rw [deM, if_neg c0]; rfl
    have e16 : (deM s).sg = ⟨#[]⟩ := by rw [deM, if_neg c0]; rfl
    exact bodyPost_ret (v := .tuple #[.agg (av 17 (ls [.int .u8 0, .string ⟨#[]⟩, .string ⟨#[]⟩, .int .u32 0, .int .u32 0, .int .u64 0, .int .u64 0, .int .u64 0, .string ⟨#[]⟩, .bool false, .int .u64 0, .int .u64 0, .int .u16 0, .int .u16 0, .string ⟨#[]⟩, .string ⟨#[]⟩, .string ⟨#[]⟩])), .int .i64 (deE s)]) (results_cell_tmp Try.results18 _ _ g1 30 (av 17 (ls [.int .u8 0, .string ⟨#[]⟩, .string ⟨#[]⟩, .int .u32 0, .int .u32 0, .int .u64 0, .int .u64 0, .int .u64 0, .string ⟨#[]⟩, .bool false, .int .u64 0, .int .u64 0, .int .u16 0, .int .u16 0, .string ⟨#[]⟩, .string ⟨#[]⟩, .string ⟨#[]⟩])) (0, 0) _ _ (by kernel_rfl) (by kernel_rfl) (M.get 0 rfl) Try.underlying30 rfl (by rw [av_size]; exact inz30)) (by kernel_rfl) ⟨by rw [e0, e1, e2, e3, e4, e5, e6, e7, e8, e9, e10, e11, e12, e13, e14, e15, e16], below_grown M.old⟩


end Go.Proofs.Ytbechjlkmajcoaa
