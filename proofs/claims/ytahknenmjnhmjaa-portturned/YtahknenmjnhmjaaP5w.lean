/- One of each: the known run that every statement asks; PortReads, PortMakes. -/
import Derived.Test.YtahknenmjnhmjaaP4
namespace Go.Proofs.Ytahknenmjnhmjaa
open Go.RowKit

set_option maxRecDepth 100000 in
set_option maxHeartbeats 4000000 in
set_option linter.unusedSimpArgs false in
theorem c_works  (w : World) (hL : Laid w)  :
    Calls Try.prog 7 #[] w fun r w' => r = .returned (.bool true) ∧ Below w.heap.size w w' := by
  go_enter Try.func7, Try.ntmps7
  have M := Mem.start hL
  refine wp_seq ?_
  refine rg_lit ?_
  refine pl_val (want_no rfl) (some 0) rfl (.bool false) (fun _ => by kernel_rfl) ?_
  refine pl_nil ?_
  refine au_then ?_
  refine wp_seq ?_
  refine rg_lit ?_
  refine pl_val (want_no rfl) (some 15) rfl (.agg (av 3 (ls [.bool false, .int .u64 0, .int .u64 167772161]))) (fun _ => by kernel_rfl) ?_
  refine pl_val (want_no rfl) (some 16) rfl (.agg (av 3 (ls [.bool false, .int .u64 0, .int .u64 167772162]))) (fun _ => by kernel_rfl) ?_
  refine pl_new M (want_no rfl) (some 1) rfl (.cells (av 3 (ls [.bool false, .int .u64 0, .int .u64 0])) 24) (fun _ => by kernel_rfl) ?_
  intro g1 u1 M
  replace M : Mem ⟨w, []⟩ [⟨g1, .cells (av 3 (ls [.bool false, .int .u64 0, .int .u64 0])) 24⟩] u1 := M
  refine pl_new M (want_no rfl) (some 2) rfl (.cells (av 3 (ls [.bool false, .int .u64 0, .int .u64 0])) 24) (fun _ => by kernel_rfl) ?_
  intro g2 u2 M
  replace M : Mem ⟨w, []⟩ [⟨g1, .cells (av 3 (ls [.bool false, .int .u64 0, .int .u64 0])) 24⟩, ⟨g2, .cells (av 3 (ls [.bool false, .int .u64 0, .int .u64 0])) 24⟩] u2 := M
  refine pl_put M (want_no rfl) rfl 24 _ _ rfl 0 g1 0 (by kernel_rfl) 3 24 (ls [.bool false, .int .u64 0, .int .u64 0]) rfl 3 (ls [.bool false, .int .u64 0, .int .u64 167772161]) (ls [.bool false, .int .u64 0, .int .u64 167772161]) (by kernel_rfl) inz24 (by decide) (one_ls _ rfl) (fun j hj => by rw [if_pos (by omega), Nat.sub_zero]) ?_
  intro u3 M
  replace M : Mem ⟨w, []⟩ [⟨g1, .cells (av 3 (ls [.bool false, .int .u64 0, .int .u64 167772161])) 24⟩, ⟨g2, .cells (av 3 (ls [.bool false, .int .u64 0, .int .u64 0])) 24⟩] u3 := M
  refine pl_put M (want_no rfl) rfl 24 _ _ rfl 1 g2 0 (by kernel_rfl) 3 24 (ls [.bool false, .int .u64 0, .int .u64 0]) rfl 3 (ls [.bool false, .int .u64 0, .int .u64 167772162]) (ls [.bool false, .int .u64 0, .int .u64 167772162]) (by kernel_rfl) inz24 (by decide) (one_ls _ rfl) (fun j hj => by rw [if_pos (by omega), Nat.sub_zero]) ?_
  intro u4 M
  replace M : Mem ⟨w, []⟩ [⟨g1, .cells (av 3 (ls [.bool false, .int .u64 0, .int .u64 167772161])) 24⟩, ⟨g2, .cells (av 3 (ls [.bool false, .int .u64 0, .int .u64 167772162])) 24⟩] u4 := M
  refine pl_nil ?_
  refine au_then ?_
  refine wp_seq ?_
  refine rg_lit ?_
  refine pl_load M (want_no rfl) (some 18) rfl 24 _ rfl 0 g1 0 (by kernel_rfl) 3 24 (ls [.bool false, .int .u64 0, .int .u64 167772161]) rfl 3 (ls [.bool false, .int .u64 0, .int .u64 167772161]) (fun j _ => by rw [Nat.zero_add]) (by decide) _ Try.underlying24 rfl inz24 ?_
  refine pl_val (want_no rfl) (some 19) rfl (.agg (av 4 (ls [.bool false, .int .u64 0, .int .u64 167772161, .int .u16 5]))) (fun _ => by kernel_rfl) ?_
  refine pl_load M (want_no rfl) (some 20) rfl 24 _ rfl 1 g2 0 (by kernel_rfl) 3 24 (ls [.bool false, .int .u64 0, .int .u64 167772162]) rfl 3 (ls [.bool false, .int .u64 0, .int .u64 167772162]) (fun j _ => by rw [Nat.zero_add]) (by decide) _ Try.underlying24 rfl inz24 ?_
  refine pl_val (want_no rfl) (some 21) rfl (.agg (av 4 (ls [.bool false, .int .u64 0, .int .u64 167772162, .int .u16 53]))) (fun _ => by kernel_rfl) ?_
  refine pl_call M (want_no rfl) (some 22) rfl 14 #[.agg (av 4 (ls [.bool false, .int .u64 0, .int .u64 167772161, .int .u16 5])), .agg (av 4 (ls [.bool false, .int .u64 0, .int .u64 167772162, .int .u16 53])), .string ⟨#[97, 98]⟩] (.tuple #[.agg (av 9 (ls [.bool false, .int .u64 0, .int .u64 167772161, .bool false, .int .u64 0, .int .u64 167772162, .int .u8 17, .int .u8 64, .string ⟨#[0, 5, 0, 53, 0, 10, 138, 59, 97, 98]⟩])), .int .i64 0]) (fun _ => by kernel_rfl) (fun w M => call_val (c_Udp false 0 167772161 5 false 0 167772162 53 ⟨#[97, 98]⟩ (by decide) w M.laid) (by kernel_rfl)) ?_
  intro u5 M
  refine pl_val (want_no rfl) (some 17) rfl (.tuple #[.agg (av 9 (ls [.bool false, .int .u64 0, .int .u64 167772161, .bool false, .int .u64 0, .int .u64 167772162, .int .u8 17, .int .u8 64, .string ⟨#[0, 5, 0, 53, 0, 10, 138, 59, 97, 98]⟩])), .int .i64 0]) (fun _ => by kernel_rfl) ?_
  refine pl_val (want_no rfl) (some 23) rfl (.agg (av 9 (ls [.bool false, .int .u64 0, .int .u64 167772161, .bool false, .int .u64 0, .int .u64 167772162, .int .u8 17, .int .u8 64, .string ⟨#[0, 5, 0, 53, 0, 10, 138, 59, 97, 98]⟩]))) (fun _ => by kernel_rfl) ?_
  refine pl_val (want_no rfl) (some 24) rfl (.int .i64 0) (fun _ => by kernel_rfl) ?_
  refine pl_new M (want_no rfl) (some 3) rfl (.cells (av 9 (ls [.bool false, .int .u64 0, .int .u64 0, .bool false, .int .u64 0, .int .u64 0, .int .u8 0, .int .u8 0, .string ⟨#[]⟩])) 26) (fun _ => by kernel_rfl) ?_
  intro g3 u6 M
  replace M : Mem ⟨w, []⟩ [⟨g1, .cells (av 3 (ls [.bool false, .int .u64 0, .int .u64 167772161])) 24⟩, ⟨g2, .cells (av 3 (ls [.bool false, .int .u64 0, .int .u64 167772162])) 24⟩, ⟨g3, .cells (av 9 (ls [.bool false, .int .u64 0, .int .u64 0, .bool false, .int .u64 0, .int .u64 0, .int .u8 0, .int .u8 0, .string ⟨#[]⟩])) 26⟩] u6 := M
  refine pl_put M (want_no rfl) rfl 26 _ _ rfl 2 g3 0 (by kernel_rfl) 9 26 (ls [.bool false, .int .u64 0, .int .u64 0, .bool false, .int .u64 0, .int .u64 0, .int .u8 0, .int .u8 0, .string ⟨#[]⟩]) rfl 9 (ls [.bool false, .int .u64 0, .int .u64 167772161, .bool false, .int .u64 0, .int .u64 167772162, .int .u8 17, .int .u8 64, .string ⟨#[0, 5, 0, 53, 0, 10, 138, 59, 97, 98]⟩]) (ls [.bool false, .int .u64 0, .int .u64 167772161, .bool false, .int .u64 0, .int .u64 167772162, .int .u8 17, .int .u8 64, .string ⟨#[0, 5, 0, 53, 0, 10, 138, 59, 97, 98]⟩]) (by kernel_rfl) inz26 (by decide) (one_ls _ rfl) (fun j hj => by rw [if_pos (by omega), Nat.sub_zero]) ?_
  intro u7 M
  replace M : Mem ⟨w, []⟩ [⟨g1, .cells (av 3 (ls [.bool false, .int .u64 0, .int .u64 167772161])) 24⟩, ⟨g2, .cells (av 3 (ls [.bool false, .int .u64 0, .int .u64 167772162])) 24⟩, ⟨g3, .cells (av 9 (ls [.bool false, .int .u64 0, .int .u64 167772161, .bool false, .int .u64 0, .int .u64 167772162, .int .u8 17, .int .u8 64, .string ⟨#[0, 5, 0, 53, 0, 10, 138, 59, 97, 98]⟩])) 26⟩] u7 := M
  refine pl_val (want_no rfl) (some 4) rfl (.int .i64 0) (fun _ => by kernel_rfl) ?_
  refine pl_nil ?_
  refine au_then ?_
  refine wp_seq ?_
  refine rg_lit ?_
  refine pl_load M (want_no rfl) (some 26) rfl 26 _ rfl 2 g3 0 (by kernel_rfl) 9 26 (ls [.bool false, .int .u64 0, .int .u64 167772161, .bool false, .int .u64 0, .int .u64 167772162, .int .u8 17, .int .u8 64, .string ⟨#[0, 5, 0, 53, 0, 10, 138, 59, 97, 98]⟩]) rfl 9 (ls [.bool false, .int .u64 0, .int .u64 167772161, .bool false, .int .u64 0, .int .u64 167772162, .int .u8 17, .int .u8 64, .string ⟨#[0, 5, 0, 53, 0, 10, 138, 59, 97, 98]⟩]) (fun j _ => by rw [Nat.zero_add]) (by decide) _ Try.underlying26 rfl inz26 ?_
  refine pl_call M (want_no rfl) (some 27) rfl 8 #[.agg (av 9 (ls [.bool false, .int .u64 0, .int .u64 167772161, .bool false, .int .u64 0, .int .u64 167772162, .int .u8 17, .int .u8 64, .string ⟨#[0, 5, 0, 53, 0, 10, 138, 59, 97, 98]⟩]))] (.tuple #[.agg (av 13 (ls [.int .u8 17, .bool false, .int .u64 0, .int .u64 167772161, .bool false, .int .u64 0, .int .u64 167772162, .int .u16 5, .int .u16 53, .int .u8 0, .int .u8 0, .int .u8 0, .int .i64 2])), .int .i64 0]) (fun _ => by kernel_rfl) (fun w M => call_val (c_Decode false 0 167772161 false 0 167772162 17 64 ⟨#[0, 5, 0, 53, 0, 10, 138, 59, 97, 98]⟩ (by decide) (by decide) w M.laid) (by kernel_rfl)) ?_
  intro u8 M
  refine pl_val (want_no rfl) (some 25) rfl (.tuple #[.agg (av 13 (ls [.int .u8 17, .bool false, .int .u64 0, .int .u64 167772161, .bool false, .int .u64 0, .int .u64 167772162, .int .u16 5, .int .u16 53, .int .u8 0, .int .u8 0, .int .u8 0, .int .i64 2])), .int .i64 0]) (fun _ => by kernel_rfl) ?_
  refine pl_val (want_no rfl) (some 28) rfl (.agg (av 13 (ls [.int .u8 17, .bool false, .int .u64 0, .int .u64 167772161, .bool false, .int .u64 0, .int .u64 167772162, .int .u16 5, .int .u16 53, .int .u8 0, .int .u8 0, .int .u8 0, .int .i64 2]))) (fun _ => by kernel_rfl) ?_
  refine pl_val (want_no rfl) (some 29) rfl (.int .i64 0) (fun _ => by kernel_rfl) ?_
  refine pl_new M (want_no rfl) (some 5) rfl (.cells (av 13 (ls [.int .u8 0, .bool false, .int .u64 0, .int .u64 0, .bool false, .int .u64 0, .int .u64 0, .int .u16 0, .int .u16 0, .int .u8 0, .int .u8 0, .int .u8 0, .int .i64 0])) 32) (fun _ => by kernel_rfl) ?_
  intro g4 u9 M
  replace M : Mem ⟨w, []⟩ [⟨g1, .cells (av 3 (ls [.bool false, .int .u64 0, .int .u64 167772161])) 24⟩, ⟨g2, .cells (av 3 (ls [.bool false, .int .u64 0, .int .u64 167772162])) 24⟩, ⟨g3, .cells (av 9 (ls [.bool false, .int .u64 0, .int .u64 167772161, .bool false, .int .u64 0, .int .u64 167772162, .int .u8 17, .int .u8 64, .string ⟨#[0, 5, 0, 53, 0, 10, 138, 59, 97, 98]⟩])) 26⟩, ⟨g4, .cells (av 13 (ls [.int .u8 0, .bool false, .int .u64 0, .int .u64 0, .bool false, .int .u64 0, .int .u64 0, .int .u16 0, .int .u16 0, .int .u8 0, .int .u8 0, .int .u8 0, .int .i64 0])) 32⟩] u9 := M
  refine pl_put M (want_no rfl) rfl 32 _ _ rfl 3 g4 0 (by kernel_rfl) 13 32 (ls [.int .u8 0, .bool false, .int .u64 0, .int .u64 0, .bool false, .int .u64 0, .int .u64 0, .int .u16 0, .int .u16 0, .int .u8 0, .int .u8 0, .int .u8 0, .int .i64 0]) rfl 13 (ls [.int .u8 17, .bool false, .int .u64 0, .int .u64 167772161, .bool false, .int .u64 0, .int .u64 167772162, .int .u16 5, .int .u16 53, .int .u8 0, .int .u8 0, .int .u8 0, .int .i64 2]) (ls [.int .u8 17, .bool false, .int .u64 0, .int .u64 167772161, .bool false, .int .u64 0, .int .u64 167772162, .int .u16 5, .int .u16 53, .int .u8 0, .int .u8 0, .int .u8 0, .int .i64 2]) (by kernel_rfl) inz32 (by decide) (one_ls _ rfl) (fun j hj => by rw [if_pos (by omega), Nat.sub_zero]) ?_
  intro u10 M
  replace M : Mem ⟨w, []⟩ [⟨g1, .cells (av 3 (ls [.bool false, .int .u64 0, .int .u64 167772161])) 24⟩, ⟨g2, .cells (av 3 (ls [.bool false, .int .u64 0, .int .u64 167772162])) 24⟩, ⟨g3, .cells (av 9 (ls [.bool false, .int .u64 0, .int .u64 167772161, .bool false, .int .u64 0, .int .u64 167772162, .int .u8 17, .int .u8 64, .string ⟨#[0, 5, 0, 53, 0, 10, 138, 59, 97, 98]⟩])) 26⟩, ⟨g4, .cells (av 13 (ls [.int .u8 17, .bool false, .int .u64 0, .int .u64 167772161, .bool false, .int .u64 0, .int .u64 167772162, .int .u16 5, .int .u16 53, .int .u8 0, .int .u8 0, .int .u8 0, .int .i64 2])) 32⟩] u10 := M
  refine pl_val (want_no rfl) (some 6) rfl (.int .i64 0) (fun _ => by kernel_rfl) ?_
  refine pl_nil ?_
  refine au_then ?_
  refine wp_seq ?_
  refine rg_lit ?_
  refine pl_load M (want_no rfl) (some 31) rfl 24 _ rfl 0 g1 0 (by kernel_rfl) 3 24 (ls [.bool false, .int .u64 0, .int .u64 167772161]) rfl 3 (ls [.bool false, .int .u64 0, .int .u64 167772161]) (fun j _ => by rw [Nat.zero_add]) (by decide) _ Try.underlying24 rfl inz24 ?_
  refine pl_val (want_no rfl) (some 32) rfl (.agg (av 4 (ls [.bool false, .int .u64 0, .int .u64 167772161, .int .u16 5]))) (fun _ => by kernel_rfl) ?_
  refine pl_load M (want_no rfl) (some 33) rfl 24 _ rfl 1 g2 0 (by kernel_rfl) 3 24 (ls [.bool false, .int .u64 0, .int .u64 167772162]) rfl 3 (ls [.bool false, .int .u64 0, .int .u64 167772162]) (fun j _ => by rw [Nat.zero_add]) (by decide) _ Try.underlying24 rfl inz24 ?_
  refine pl_val (want_no rfl) (some 34) rfl (.agg (av 4 (ls [.bool false, .int .u64 0, .int .u64 167772162, .int .u16 80]))) (fun _ => by kernel_rfl) ?_
  refine pl_call M (want_no rfl) (some 35) rfl 16 #[.agg (av 4 (ls [.bool false, .int .u64 0, .int .u64 167772161, .int .u16 5])), .agg (av 4 (ls [.bool false, .int .u64 0, .int .u64 167772162, .int .u16 80])), .int .u8 2, .string ⟨#[]⟩] (.tuple #[.agg (av 9 (ls [.bool false, .int .u64 0, .int .u64 167772161, .bool false, .int .u64 0, .int .u64 167772162, .int .u8 6, .int .u8 64, .string ⟨#[0, 5, 0, 80, 0, 0, 0, 0, 0, 0, 0, 0, 80, 2, 255, 255, 155, 139, 0, 0]⟩])), .int .i64 0]) (fun _ => by kernel_rfl) (fun w M => call_val (c_Tcp false 0 167772161 5 false 0 167772162 80 2 ⟨#[]⟩ (by decide) (by decide) w M.laid) (by kernel_rfl)) ?_
  intro u11 M
  refine pl_val (want_no rfl) (some 30) rfl (.tuple #[.agg (av 9 (ls [.bool false, .int .u64 0, .int .u64 167772161, .bool false, .int .u64 0, .int .u64 167772162, .int .u8 6, .int .u8 64, .string ⟨#[0, 5, 0, 80, 0, 0, 0, 0, 0, 0, 0, 0, 80, 2, 255, 255, 155, 139, 0, 0]⟩])), .int .i64 0]) (fun _ => by kernel_rfl) ?_
  refine pl_val (want_no rfl) (some 36) rfl (.agg (av 9 (ls [.bool false, .int .u64 0, .int .u64 167772161, .bool false, .int .u64 0, .int .u64 167772162, .int .u8 6, .int .u8 64, .string ⟨#[0, 5, 0, 80, 0, 0, 0, 0, 0, 0, 0, 0, 80, 2, 255, 255, 155, 139, 0, 0]⟩]))) (fun _ => by kernel_rfl) ?_
  refine pl_val (want_no rfl) (some 37) rfl (.int .i64 0) (fun _ => by kernel_rfl) ?_
  refine pl_new M (want_no rfl) (some 7) rfl (.cells (av 9 (ls [.bool false, .int .u64 0, .int .u64 0, .bool false, .int .u64 0, .int .u64 0, .int .u8 0, .int .u8 0, .string ⟨#[]⟩])) 26) (fun _ => by kernel_rfl) ?_
  intro g5 u12 M
  replace M : Mem ⟨w, []⟩ [⟨g1, .cells (av 3 (ls [.bool false, .int .u64 0, .int .u64 167772161])) 24⟩, ⟨g2, .cells (av 3 (ls [.bool false, .int .u64 0, .int .u64 167772162])) 24⟩, ⟨g3, .cells (av 9 (ls [.bool false, .int .u64 0, .int .u64 167772161, .bool false, .int .u64 0, .int .u64 167772162, .int .u8 17, .int .u8 64, .string ⟨#[0, 5, 0, 53, 0, 10, 138, 59, 97, 98]⟩])) 26⟩, ⟨g4, .cells (av 13 (ls [.int .u8 17, .bool false, .int .u64 0, .int .u64 167772161, .bool false, .int .u64 0, .int .u64 167772162, .int .u16 5, .int .u16 53, .int .u8 0, .int .u8 0, .int .u8 0, .int .i64 2])) 32⟩, ⟨g5, .cells (av 9 (ls [.bool false, .int .u64 0, .int .u64 0, .bool false, .int .u64 0, .int .u64 0, .int .u8 0, .int .u8 0, .string ⟨#[]⟩])) 26⟩] u12 := M
  refine pl_put M (want_no rfl) rfl 26 _ _ rfl 4 g5 0 (by kernel_rfl) 9 26 (ls [.bool false, .int .u64 0, .int .u64 0, .bool false, .int .u64 0, .int .u64 0, .int .u8 0, .int .u8 0, .string ⟨#[]⟩]) rfl 9 (ls [.bool false, .int .u64 0, .int .u64 167772161, .bool false, .int .u64 0, .int .u64 167772162, .int .u8 6, .int .u8 64, .string ⟨#[0, 5, 0, 80, 0, 0, 0, 0, 0, 0, 0, 0, 80, 2, 255, 255, 155, 139, 0, 0]⟩]) (ls [.bool false, .int .u64 0, .int .u64 167772161, .bool false, .int .u64 0, .int .u64 167772162, .int .u8 6, .int .u8 64, .string ⟨#[0, 5, 0, 80, 0, 0, 0, 0, 0, 0, 0, 0, 80, 2, 255, 255, 155, 139, 0, 0]⟩]) (by kernel_rfl) inz26 (by decide) (one_ls _ rfl) (fun j hj => by rw [if_pos (by omega), Nat.sub_zero]) ?_
  intro u13 M
  replace M : Mem ⟨w, []⟩ [⟨g1, .cells (av 3 (ls [.bool false, .int .u64 0, .int .u64 167772161])) 24⟩, ⟨g2, .cells (av 3 (ls [.bool false, .int .u64 0, .int .u64 167772162])) 24⟩, ⟨g3, .cells (av 9 (ls [.bool false, .int .u64 0, .int .u64 167772161, .bool false, .int .u64 0, .int .u64 167772162, .int .u8 17, .int .u8 64, .string ⟨#[0, 5, 0, 53, 0, 10, 138, 59, 97, 98]⟩])) 26⟩, ⟨g4, .cells (av 13 (ls [.int .u8 17, .bool false, .int .u64 0, .int .u64 167772161, .bool false, .int .u64 0, .int .u64 167772162, .int .u16 5, .int .u16 53, .int .u8 0, .int .u8 0, .int .u8 0, .int .i64 2])) 32⟩, ⟨g5, .cells (av 9 (ls [.bool false, .int .u64 0, .int .u64 167772161, .bool false, .int .u64 0, .int .u64 167772162, .int .u8 6, .int .u8 64, .string ⟨#[0, 5, 0, 80, 0, 0, 0, 0, 0, 0, 0, 0, 80, 2, 255, 255, 155, 139, 0, 0]⟩])) 26⟩] u13 := M
  refine pl_val (want_no rfl) (some 8) rfl (.int .i64 0) (fun _ => by kernel_rfl) ?_
  refine pl_nil ?_
  refine au_then ?_
  refine wp_seq ?_
  refine rg_lit ?_
  refine pl_load M (want_no rfl) (some 39) rfl 26 _ rfl 4 g5 0 (by kernel_rfl) 9 26 (ls [.bool false, .int .u64 0, .int .u64 167772161, .bool false, .int .u64 0, .int .u64 167772162, .int .u8 6, .int .u8 64, .string ⟨#[0, 5, 0, 80, 0, 0, 0, 0, 0, 0, 0, 0, 80, 2, 255, 255, 155, 139, 0, 0]⟩]) rfl 9 (ls [.bool false, .int .u64 0, .int .u64 167772161, .bool false, .int .u64 0, .int .u64 167772162, .int .u8 6, .int .u8 64, .string ⟨#[0, 5, 0, 80, 0, 0, 0, 0, 0, 0, 0, 0, 80, 2, 255, 255, 155, 139, 0, 0]⟩]) (fun j _ => by rw [Nat.zero_add]) (by decide) _ Try.underlying26 rfl inz26 ?_
  refine pl_call M (want_no rfl) (some 40) rfl 8 #[.agg (av 9 (ls [.bool false, .int .u64 0, .int .u64 167772161, .bool false, .int .u64 0, .int .u64 167772162, .int .u8 6, .int .u8 64, .string ⟨#[0, 5, 0, 80, 0, 0, 0, 0, 0, 0, 0, 0, 80, 2, 255, 255, 155, 139, 0, 0]⟩]))] (.tuple #[.agg (av 13 (ls [.int .u8 6, .bool false, .int .u64 0, .int .u64 167772161, .bool false, .int .u64 0, .int .u64 167772162, .int .u16 5, .int .u16 80, .int .u8 2, .int .u8 0, .int .u8 0, .int .i64 0])), .int .i64 0]) (fun _ => by kernel_rfl) (fun w M => call_val (c_Decode false 0 167772161 false 0 167772162 6 64 ⟨#[0, 5, 0, 80, 0, 0, 0, 0, 0, 0, 0, 0, 80, 2, 255, 255, 155, 139, 0, 0]⟩ (by decide) (by decide) w M.laid) (by kernel_rfl)) ?_
  intro u14 M
  refine pl_val (want_no rfl) (some 38) rfl (.tuple #[.agg (av 13 (ls [.int .u8 6, .bool false, .int .u64 0, .int .u64 167772161, .bool false, .int .u64 0, .int .u64 167772162, .int .u16 5, .int .u16 80, .int .u8 2, .int .u8 0, .int .u8 0, .int .i64 0])), .int .i64 0]) (fun _ => by kernel_rfl) ?_
  refine pl_val (want_no rfl) (some 41) rfl (.agg (av 13 (ls [.int .u8 6, .bool false, .int .u64 0, .int .u64 167772161, .bool false, .int .u64 0, .int .u64 167772162, .int .u16 5, .int .u16 80, .int .u8 2, .int .u8 0, .int .u8 0, .int .i64 0]))) (fun _ => by kernel_rfl) ?_
  refine pl_val (want_no rfl) (some 42) rfl (.int .i64 0) (fun _ => by kernel_rfl) ?_
  refine pl_new M (want_no rfl) (some 9) rfl (.cells (av 13 (ls [.int .u8 0, .bool false, .int .u64 0, .int .u64 0, .bool false, .int .u64 0, .int .u64 0, .int .u16 0, .int .u16 0, .int .u8 0, .int .u8 0, .int .u8 0, .int .i64 0])) 32) (fun _ => by kernel_rfl) ?_
  intro g6 u15 M
  replace M : Mem ⟨w, []⟩ [⟨g1, .cells (av 3 (ls [.bool false, .int .u64 0, .int .u64 167772161])) 24⟩, ⟨g2, .cells (av 3 (ls [.bool false, .int .u64 0, .int .u64 167772162])) 24⟩, ⟨g3, .cells (av 9 (ls [.bool false, .int .u64 0, .int .u64 167772161, .bool false, .int .u64 0, .int .u64 167772162, .int .u8 17, .int .u8 64, .string ⟨#[0, 5, 0, 53, 0, 10, 138, 59, 97, 98]⟩])) 26⟩, ⟨g4, .cells (av 13 (ls [.int .u8 17, .bool false, .int .u64 0, .int .u64 167772161, .bool false, .int .u64 0, .int .u64 167772162, .int .u16 5, .int .u16 53, .int .u8 0, .int .u8 0, .int .u8 0, .int .i64 2])) 32⟩, ⟨g5, .cells (av 9 (ls [.bool false, .int .u64 0, .int .u64 167772161, .bool false, .int .u64 0, .int .u64 167772162, .int .u8 6, .int .u8 64, .string ⟨#[0, 5, 0, 80, 0, 0, 0, 0, 0, 0, 0, 0, 80, 2, 255, 255, 155, 139, 0, 0]⟩])) 26⟩, ⟨g6, .cells (av 13 (ls [.int .u8 0, .bool false, .int .u64 0, .int .u64 0, .bool false, .int .u64 0, .int .u64 0, .int .u16 0, .int .u16 0, .int .u8 0, .int .u8 0, .int .u8 0, .int .i64 0])) 32⟩] u15 := M
  refine pl_put M (want_no rfl) rfl 32 _ _ rfl 5 g6 0 (by kernel_rfl) 13 32 (ls [.int .u8 0, .bool false, .int .u64 0, .int .u64 0, .bool false, .int .u64 0, .int .u64 0, .int .u16 0, .int .u16 0, .int .u8 0, .int .u8 0, .int .u8 0, .int .i64 0]) rfl 13 (ls [.int .u8 6, .bool false, .int .u64 0, .int .u64 167772161, .bool false, .int .u64 0, .int .u64 167772162, .int .u16 5, .int .u16 80, .int .u8 2, .int .u8 0, .int .u8 0, .int .i64 0]) (ls [.int .u8 6, .bool false, .int .u64 0, .int .u64 167772161, .bool false, .int .u64 0, .int .u64 167772162, .int .u16 5, .int .u16 80, .int .u8 2, .int .u8 0, .int .u8 0, .int .i64 0]) (by kernel_rfl) inz32 (by decide) (one_ls _ rfl) (fun j hj => by rw [if_pos (by omega), Nat.sub_zero]) ?_
  intro u16 M
  replace M : Mem ⟨w, []⟩ [⟨g1, .cells (av 3 (ls [.bool false, .int .u64 0, .int .u64 167772161])) 24⟩, ⟨g2, .cells (av 3 (ls [.bool false, .int .u64 0, .int .u64 167772162])) 24⟩, ⟨g3, .cells (av 9 (ls [.bool false, .int .u64 0, .int .u64 167772161, .bool false, .int .u64 0, .int .u64 167772162, .int .u8 17, .int .u8 64, .string ⟨#[0, 5, 0, 53, 0, 10, 138, 59, 97, 98]⟩])) 26⟩, ⟨g4, .cells (av 13 (ls [.int .u8 17, .bool false, .int .u64 0, .int .u64 167772161, .bool false, .int .u64 0, .int .u64 167772162, .int .u16 5, .int .u16 53, .int .u8 0, .int .u8 0, .int .u8 0, .int .i64 2])) 32⟩, ⟨g5, .cells (av 9 (ls [.bool false, .int .u64 0, .int .u64 167772161, .bool false, .int .u64 0, .int .u64 167772162, .int .u8 6, .int .u8 64, .string ⟨#[0, 5, 0, 80, 0, 0, 0, 0, 0, 0, 0, 0, 80, 2, 255, 255, 155, 139, 0, 0]⟩])) 26⟩, ⟨g6, .cells (av 13 (ls [.int .u8 6, .bool false, .int .u64 0, .int .u64 167772161, .bool false, .int .u64 0, .int .u64 167772162, .int .u16 5, .int .u16 80, .int .u8 2, .int .u8 0, .int .u8 0, .int .i64 0])) 32⟩] u16 := M
  refine pl_val (want_no rfl) (some 10) rfl (.int .i64 0) (fun _ => by kernel_rfl) ?_
  refine pl_nil ?_
  refine au_then ?_
  refine wp_seq ?_
  refine rg_lit ?_
  refine pl_load M (want_no rfl) (some 44) rfl 24 _ rfl 0 g1 0 (by kernel_rfl) 3 24 (ls [.bool false, .int .u64 0, .int .u64 167772161]) rfl 3 (ls [.bool false, .int .u64 0, .int .u64 167772161]) (fun j _ => by rw [Nat.zero_add]) (by decide) _ Try.underlying24 rfl inz24 ?_
  refine pl_load M (want_no rfl) (some 45) rfl 24 _ rfl 1 g2 0 (by kernel_rfl) 3 24 (ls [.bool false, .int .u64 0, .int .u64 167772162]) rfl 3 (ls [.bool false, .int .u64 0, .int .u64 167772162]) (fun j _ => by rw [Nat.zero_add]) (by decide) _ Try.underlying24 rfl inz24 ?_
  refine pl_call M (want_no rfl) (some 46) rfl 18 #[.agg (av 3 (ls [.bool false, .int .u64 0, .int .u64 167772161])), .agg (av 3 (ls [.bool false, .int .u64 0, .int .u64 167772162])), .int .u16 7, .bool true, .string ⟨#[120]⟩] (.tuple #[.agg (av 9 (ls [.bool false, .int .u64 0, .int .u64 167772161, .bool false, .int .u64 0, .int .u64 167772162, .int .u8 1, .int .u8 64, .string ⟨#[0, 0, 135, 248, 0, 7, 0, 0, 120]⟩])), .int .i64 0]) (fun _ => by kernel_rfl) (fun w M => call_val (c_Echo false 0 167772161 false 0 167772162 7 true ⟨#[120]⟩ (by decide) w M.laid) (by kernel_rfl)) ?_
  intro u17 M
  refine pl_val (want_no rfl) (some 43) rfl (.tuple #[.agg (av 9 (ls [.bool false, .int .u64 0, .int .u64 167772161, .bool false, .int .u64 0, .int .u64 167772162, .int .u8 1, .int .u8 64, .string ⟨#[0, 0, 135, 248, 0, 7, 0, 0, 120]⟩])), .int .i64 0]) (fun _ => by kernel_rfl) ?_
  refine pl_val (want_no rfl) (some 47) rfl (.agg (av 9 (ls [.bool false, .int .u64 0, .int .u64 167772161, .bool false, .int .u64 0, .int .u64 167772162, .int .u8 1, .int .u8 64, .string ⟨#[0, 0, 135, 248, 0, 7, 0, 0, 120]⟩]))) (fun _ => by kernel_rfl) ?_
  refine pl_val (want_no rfl) (some 48) rfl (.int .i64 0) (fun _ => by kernel_rfl) ?_
  refine pl_new M (want_no rfl) (some 11) rfl (.cells (av 9 (ls [.bool false, .int .u64 0, .int .u64 0, .bool false, .int .u64 0, .int .u64 0, .int .u8 0, .int .u8 0, .string ⟨#[]⟩])) 26) (fun _ => by kernel_rfl) ?_
  intro g7 u18 M
  replace M : Mem ⟨w, []⟩ [⟨g1, .cells (av 3 (ls [.bool false, .int .u64 0, .int .u64 167772161])) 24⟩, ⟨g2, .cells (av 3 (ls [.bool false, .int .u64 0, .int .u64 167772162])) 24⟩, ⟨g3, .cells (av 9 (ls [.bool false, .int .u64 0, .int .u64 167772161, .bool false, .int .u64 0, .int .u64 167772162, .int .u8 17, .int .u8 64, .string ⟨#[0, 5, 0, 53, 0, 10, 138, 59, 97, 98]⟩])) 26⟩, ⟨g4, .cells (av 13 (ls [.int .u8 17, .bool false, .int .u64 0, .int .u64 167772161, .bool false, .int .u64 0, .int .u64 167772162, .int .u16 5, .int .u16 53, .int .u8 0, .int .u8 0, .int .u8 0, .int .i64 2])) 32⟩, ⟨g5, .cells (av 9 (ls [.bool false, .int .u64 0, .int .u64 167772161, .bool false, .int .u64 0, .int .u64 167772162, .int .u8 6, .int .u8 64, .string ⟨#[0, 5, 0, 80, 0, 0, 0, 0, 0, 0, 0, 0, 80, 2, 255, 255, 155, 139, 0, 0]⟩])) 26⟩, ⟨g6, .cells (av 13 (ls [.int .u8 6, .bool false, .int .u64 0, .int .u64 167772161, .bool false, .int .u64 0, .int .u64 167772162, .int .u16 5, .int .u16 80, .int .u8 2, .int .u8 0, .int .u8 0, .int .i64 0])) 32⟩, ⟨g7, .cells (av 9 (ls [.bool false, .int .u64 0, .int .u64 0, .bool false, .int .u64 0, .int .u64 0, .int .u8 0, .int .u8 0, .string ⟨#[]⟩])) 26⟩] u18 := M
  refine pl_put M (want_no rfl) rfl 26 _ _ rfl 6 g7 0 (by kernel_rfl) 9 26 (ls [.bool false, .int .u64 0, .int .u64 0, .bool false, .int .u64 0, .int .u64 0, .int .u8 0, .int .u8 0, .string ⟨#[]⟩]) rfl 9 (ls [.bool false, .int .u64 0, .int .u64 167772161, .bool false, .int .u64 0, .int .u64 167772162, .int .u8 1, .int .u8 64, .string ⟨#[0, 0, 135, 248, 0, 7, 0, 0, 120]⟩]) (ls [.bool false, .int .u64 0, .int .u64 167772161, .bool false, .int .u64 0, .int .u64 167772162, .int .u8 1, .int .u8 64, .string ⟨#[0, 0, 135, 248, 0, 7, 0, 0, 120]⟩]) (by kernel_rfl) inz26 (by decide) (one_ls _ rfl) (fun j hj => by rw [if_pos (by omega), Nat.sub_zero]) ?_
  intro u19 M
  replace M : Mem ⟨w, []⟩ [⟨g1, .cells (av 3 (ls [.bool false, .int .u64 0, .int .u64 167772161])) 24⟩, ⟨g2, .cells (av 3 (ls [.bool false, .int .u64 0, .int .u64 167772162])) 24⟩, ⟨g3, .cells (av 9 (ls [.bool false, .int .u64 0, .int .u64 167772161, .bool false, .int .u64 0, .int .u64 167772162, .int .u8 17, .int .u8 64, .string ⟨#[0, 5, 0, 53, 0, 10, 138, 59, 97, 98]⟩])) 26⟩, ⟨g4, .cells (av 13 (ls [.int .u8 17, .bool false, .int .u64 0, .int .u64 167772161, .bool false, .int .u64 0, .int .u64 167772162, .int .u16 5, .int .u16 53, .int .u8 0, .int .u8 0, .int .u8 0, .int .i64 2])) 32⟩, ⟨g5, .cells (av 9 (ls [.bool false, .int .u64 0, .int .u64 167772161, .bool false, .int .u64 0, .int .u64 167772162, .int .u8 6, .int .u8 64, .string ⟨#[0, 5, 0, 80, 0, 0, 0, 0, 0, 0, 0, 0, 80, 2, 255, 255, 155, 139, 0, 0]⟩])) 26⟩, ⟨g6, .cells (av 13 (ls [.int .u8 6, .bool false, .int .u64 0, .int .u64 167772161, .bool false, .int .u64 0, .int .u64 167772162, .int .u16 5, .int .u16 80, .int .u8 2, .int .u8 0, .int .u8 0, .int .i64 0])) 32⟩, ⟨g7, .cells (av 9 (ls [.bool false, .int .u64 0, .int .u64 167772161, .bool false, .int .u64 0, .int .u64 167772162, .int .u8 1, .int .u8 64, .string ⟨#[0, 0, 135, 248, 0, 7, 0, 0, 120]⟩])) 26⟩] u19 := M
  refine pl_val (want_no rfl) (some 12) rfl (.int .i64 0) (fun _ => by kernel_rfl) ?_
  refine pl_nil ?_
  refine au_then ?_
  refine wp_seq ?_
  refine rg_lit ?_
  refine pl_load M (want_no rfl) (some 50) rfl 26 _ rfl 6 g7 0 (by kernel_rfl) 9 26 (ls [.bool false, .int .u64 0, .int .u64 167772161, .bool false, .int .u64 0, .int .u64 167772162, .int .u8 1, .int .u8 64, .string ⟨#[0, 0, 135, 248, 0, 7, 0, 0, 120]⟩]) rfl 9 (ls [.bool false, .int .u64 0, .int .u64 167772161, .bool false, .int .u64 0, .int .u64 167772162, .int .u8 1, .int .u8 64, .string ⟨#[0, 0, 135, 248, 0, 7, 0, 0, 120]⟩]) (fun j _ => by rw [Nat.zero_add]) (by decide) _ Try.underlying26 rfl inz26 ?_
  refine pl_call M (want_no rfl) (some 51) rfl 8 #[.agg (av 9 (ls [.bool false, .int .u64 0, .int .u64 167772161, .bool false, .int .u64 0, .int .u64 167772162, .int .u8 1, .int .u8 64, .string ⟨#[0, 0, 135, 248, 0, 7, 0, 0, 120]⟩]))] (.tuple #[.agg (av 13 (ls [.int .u8 1, .bool false, .int .u64 0, .int .u64 167772161, .bool false, .int .u64 0, .int .u64 167772162, .int .u16 7, .int .u16 7, .int .u8 0, .int .u8 0, .int .u8 0, .int .i64 1])), .int .i64 0]) (fun _ => by kernel_rfl) (fun w M => call_val (c_Decode false 0 167772161 false 0 167772162 1 64 ⟨#[0, 0, 135, 248, 0, 7, 0, 0, 120]⟩ (by decide) (by decide) w M.laid) (by kernel_rfl)) ?_
  intro u20 M
  refine pl_val (want_no rfl) (some 49) rfl (.tuple #[.agg (av 13 (ls [.int .u8 1, .bool false, .int .u64 0, .int .u64 167772161, .bool false, .int .u64 0, .int .u64 167772162, .int .u16 7, .int .u16 7, .int .u8 0, .int .u8 0, .int .u8 0, .int .i64 1])), .int .i64 0]) (fun _ => by kernel_rfl) ?_
  refine pl_val (want_no rfl) (some 52) rfl (.agg (av 13 (ls [.int .u8 1, .bool false, .int .u64 0, .int .u64 167772161, .bool false, .int .u64 0, .int .u64 167772162, .int .u16 7, .int .u16 7, .int .u8 0, .int .u8 0, .int .u8 0, .int .i64 1]))) (fun _ => by kernel_rfl) ?_
  refine pl_val (want_no rfl) (some 53) rfl (.int .i64 0) (fun _ => by kernel_rfl) ?_
  refine pl_new M (want_no rfl) (some 13) rfl (.cells (av 13 (ls [.int .u8 0, .bool false, .int .u64 0, .int .u64 0, .bool false, .int .u64 0, .int .u64 0, .int .u16 0, .int .u16 0, .int .u8 0, .int .u8 0, .int .u8 0, .int .i64 0])) 32) (fun _ => by kernel_rfl) ?_
  intro g8 u21 M
  replace M : Mem ⟨w, []⟩ [⟨g1, .cells (av 3 (ls [.bool false, .int .u64 0, .int .u64 167772161])) 24⟩, ⟨g2, .cells (av 3 (ls [.bool false, .int .u64 0, .int .u64 167772162])) 24⟩, ⟨g3, .cells (av 9 (ls [.bool false, .int .u64 0, .int .u64 167772161, .bool false, .int .u64 0, .int .u64 167772162, .int .u8 17, .int .u8 64, .string ⟨#[0, 5, 0, 53, 0, 10, 138, 59, 97, 98]⟩])) 26⟩, ⟨g4, .cells (av 13 (ls [.int .u8 17, .bool false, .int .u64 0, .int .u64 167772161, .bool false, .int .u64 0, .int .u64 167772162, .int .u16 5, .int .u16 53, .int .u8 0, .int .u8 0, .int .u8 0, .int .i64 2])) 32⟩, ⟨g5, .cells (av 9 (ls [.bool false, .int .u64 0, .int .u64 167772161, .bool false, .int .u64 0, .int .u64 167772162, .int .u8 6, .int .u8 64, .string ⟨#[0, 5, 0, 80, 0, 0, 0, 0, 0, 0, 0, 0, 80, 2, 255, 255, 155, 139, 0, 0]⟩])) 26⟩, ⟨g6, .cells (av 13 (ls [.int .u8 6, .bool false, .int .u64 0, .int .u64 167772161, .bool false, .int .u64 0, .int .u64 167772162, .int .u16 5, .int .u16 80, .int .u8 2, .int .u8 0, .int .u8 0, .int .i64 0])) 32⟩, ⟨g7, .cells (av 9 (ls [.bool false, .int .u64 0, .int .u64 167772161, .bool false, .int .u64 0, .int .u64 167772162, .int .u8 1, .int .u8 64, .string ⟨#[0, 0, 135, 248, 0, 7, 0, 0, 120]⟩])) 26⟩, ⟨g8, .cells (av 13 (ls [.int .u8 0, .bool false, .int .u64 0, .int .u64 0, .bool false, .int .u64 0, .int .u64 0, .int .u16 0, .int .u16 0, .int .u8 0, .int .u8 0, .int .u8 0, .int .i64 0])) 32⟩] u21 := M
  refine pl_put M (want_no rfl) rfl 32 _ _ rfl 7 g8 0 (by kernel_rfl) 13 32 (ls [.int .u8 0, .bool false, .int .u64 0, .int .u64 0, .bool false, .int .u64 0, .int .u64 0, .int .u16 0, .int .u16 0, .int .u8 0, .int .u8 0, .int .u8 0, .int .i64 0]) rfl 13 (ls [.int .u8 1, .bool false, .int .u64 0, .int .u64 167772161, .bool false, .int .u64 0, .int .u64 167772162, .int .u16 7, .int .u16 7, .int .u8 0, .int .u8 0, .int .u8 0, .int .i64 1]) (ls [.int .u8 1, .bool false, .int .u64 0, .int .u64 167772161, .bool false, .int .u64 0, .int .u64 167772162, .int .u16 7, .int .u16 7, .int .u8 0, .int .u8 0, .int .u8 0, .int .i64 1]) (by kernel_rfl) inz32 (by decide) (one_ls _ rfl) (fun j hj => by rw [if_pos (by omega), Nat.sub_zero]) ?_
  intro u22 M
  replace M : Mem ⟨w, []⟩ [⟨g1, .cells (av 3 (ls [.bool false, .int .u64 0, .int .u64 167772161])) 24⟩, ⟨g2, .cells (av 3 (ls [.bool false, .int .u64 0, .int .u64 167772162])) 24⟩, ⟨g3, .cells (av 9 (ls [.bool false, .int .u64 0, .int .u64 167772161, .bool false, .int .u64 0, .int .u64 167772162, .int .u8 17, .int .u8 64, .string ⟨#[0, 5, 0, 53, 0, 10, 138, 59, 97, 98]⟩])) 26⟩, ⟨g4, .cells (av 13 (ls [.int .u8 17, .bool false, .int .u64 0, .int .u64 167772161, .bool false, .int .u64 0, .int .u64 167772162, .int .u16 5, .int .u16 53, .int .u8 0, .int .u8 0, .int .u8 0, .int .i64 2])) 32⟩, ⟨g5, .cells (av 9 (ls [.bool false, .int .u64 0, .int .u64 167772161, .bool false, .int .u64 0, .int .u64 167772162, .int .u8 6, .int .u8 64, .string ⟨#[0, 5, 0, 80, 0, 0, 0, 0, 0, 0, 0, 0, 80, 2, 255, 255, 155, 139, 0, 0]⟩])) 26⟩, ⟨g6, .cells (av 13 (ls [.int .u8 6, .bool false, .int .u64 0, .int .u64 167772161, .bool false, .int .u64 0, .int .u64 167772162, .int .u16 5, .int .u16 80, .int .u8 2, .int .u8 0, .int .u8 0, .int .i64 0])) 32⟩, ⟨g7, .cells (av 9 (ls [.bool false, .int .u64 0, .int .u64 167772161, .bool false, .int .u64 0, .int .u64 167772162, .int .u8 1, .int .u8 64, .string ⟨#[0, 0, 135, 248, 0, 7, 0, 0, 120]⟩])) 26⟩, ⟨g8, .cells (av 13 (ls [.int .u8 1, .bool false, .int .u64 0, .int .u64 167772161, .bool false, .int .u64 0, .int .u64 167772162, .int .u16 7, .int .u16 7, .int .u8 0, .int .u8 0, .int .u8 0, .int .i64 1])) 32⟩] u22 := M
  refine pl_val (want_no rfl) (some 14) rfl (.int .i64 0) (fun _ => by kernel_rfl) ?_
  refine pl_nil ?_
  refine au_then ?_
  refine wp_seq ?_
  refine rg_lit ?_
  refine pl_val (want_no rfl) (some 54) rfl (.int .i64 0) (fun _ => by kernel_rfl) ?_
  refine pl_val (want_no rfl) (some 55) rfl (.bool true) (fun _ => by kernel_rfl) ?_
  refine pl_val (want_no rfl) (some 56) rfl (.bool true) (fun _ => by kernel_rfl) ?_
  refine pl_val (want_on 2 true rfl 56 rfl (by kernel_rfl)) (some 57) rfl (.int .i64 0) (fun _ => by kernel_rfl) ?_
  refine pl_val (want_on 2 true rfl 56 rfl (by kernel_rfl)) (some 58) rfl (.bool true) (fun _ => by kernel_rfl) ?_
  refine pl_val (want_no rfl) (some 59) rfl (.bool true) (fun _ => by kernel_rfl) ?_
  refine pl_val (want_no rfl) (some 60) rfl (.bool true) (fun _ => by kernel_rfl) ?_
  refine pl_val (want_on 6 true rfl 60 rfl (by kernel_rfl)) (some 61) rfl (.int .i64 0) (fun _ => by kernel_rfl) ?_
  refine pl_val (want_on 6 true rfl 60 rfl (by kernel_rfl)) (some 62) rfl (.bool true) (fun _ => by kernel_rfl) ?_
  refine pl_val (want_no rfl) (some 63) rfl (.bool true) (fun _ => by kernel_rfl) ?_
  refine pl_val (want_no rfl) (some 64) rfl (.bool true) (fun _ => by kernel_rfl) ?_
  refine pl_val (want_on 10 true rfl 64 rfl (by kernel_rfl)) (some 65) rfl (.int .i64 0) (fun _ => by kernel_rfl) ?_
  refine pl_val (want_on 10 true rfl 64 rfl (by kernel_rfl)) (some 66) rfl (.bool true) (fun _ => by kernel_rfl) ?_
  refine pl_val (want_no rfl) (some 67) rfl (.bool true) (fun _ => by kernel_rfl) ?_
  refine pl_val (want_no rfl) (some 68) rfl (.bool true) (fun _ => by kernel_rfl) ?_
  refine pl_val (want_on 14 true rfl 68 rfl (by kernel_rfl)) (some 69) rfl (.int .i64 0) (fun _ => by kernel_rfl) ?_
  refine pl_val (want_on 14 true rfl 68 rfl (by kernel_rfl)) (some 70) rfl (.bool true) (fun _ => by kernel_rfl) ?_
  refine pl_val (want_no rfl) (some 71) rfl (.bool true) (fun _ => by kernel_rfl) ?_
  refine pl_val (want_no rfl) (some 72) rfl (.bool true) (fun _ => by kernel_rfl) ?_
  refine pl_val (want_on 18 true rfl 72 rfl (by kernel_rfl)) (some 73) rfl (.int .i64 0) (fun _ => by kernel_rfl) ?_
  refine pl_val (want_on 18 true rfl 72 rfl (by kernel_rfl)) (some 74) rfl (.bool true) (fun _ => by kernel_rfl) ?_
  refine pl_val (want_no rfl) (some 75) rfl (.bool true) (fun _ => by kernel_rfl) ?_
  refine pl_val (want_no rfl) (some 76) rfl (.bool true) (fun _ => by kernel_rfl) ?_
  refine pl_val (want_on 22 true rfl 76 rfl (by kernel_rfl)) (some 77) rfl (.pointer (some ⟨g4, 0, none⟩)) (fun _ => by kernel_rfl) ?_
  refine pl_val (want_on 22 true rfl 76 rfl (by kernel_rfl)) (some 78) rfl (.pointer (some ⟨g4, 8, none⟩)) (fun _ => by kernel_rfl) ?_
  refine pl_cell M (want_on 22 true rfl 76 rfl (by kernel_rfl)) (some 79) rfl 27 _ rfl g4 8 (by kernel_rfl) (.int .u16 53) (fun _ => by kernel_rfl) (fun w M => M.cell 3 rfl (by decide) rfl) ?_
  refine pl_val (want_on 22 true rfl 76 rfl (by kernel_rfl)) (some 80) rfl (.bool true) (fun _ => by kernel_rfl) ?_
  refine pl_val (want_no rfl) (some 81) rfl (.bool true) (fun _ => by kernel_rfl) ?_
  refine pl_val (want_no rfl) (some 82) rfl (.bool true) (fun _ => by kernel_rfl) ?_
  refine pl_val (want_on 28 true rfl 82 rfl (by kernel_rfl)) (some 83) rfl (.pointer (some ⟨g4, 12, none⟩)) (fun _ => by kernel_rfl) ?_
  refine pl_cell M (want_on 28 true rfl 82 rfl (by kernel_rfl)) (some 84) rfl 3 _ rfl g4 12 (by kernel_rfl) (.int .i64 2) (fun _ => by kernel_rfl) (fun w M => M.cell 3 rfl (by decide) rfl) ?_
  refine pl_val (want_on 28 true rfl 82 rfl (by kernel_rfl)) (some 85) rfl (.bool true) (fun _ => by kernel_rfl) ?_
  refine pl_val (want_no rfl) (some 86) rfl (.bool true) (fun _ => by kernel_rfl) ?_
  refine pl_val (want_no rfl) (some 87) rfl (.bool true) (fun _ => by kernel_rfl) ?_
  refine pl_val (want_on 33 true rfl 87 rfl (by kernel_rfl)) (some 88) rfl (.pointer (some ⟨g6, 9, none⟩)) (fun _ => by kernel_rfl) ?_
  refine pl_cell M (want_on 33 true rfl 87 rfl (by kernel_rfl)) (some 89) rfl 5 _ rfl g6 9 (by kernel_rfl) (.int .u8 2) (fun _ => by kernel_rfl) (fun w M => M.cell 5 rfl (by decide) rfl) ?_
  refine pl_val (want_on 33 true rfl 87 rfl (by kernel_rfl)) (some 90) rfl (.bool true) (fun _ => by kernel_rfl) ?_
  refine pl_val (want_no rfl) (some 91) rfl (.bool true) (fun _ => by kernel_rfl) ?_
  refine pl_val (want_no rfl) (some 92) rfl (.bool true) (fun _ => by kernel_rfl) ?_
  refine pl_val (want_on 38 true rfl 92 rfl (by kernel_rfl)) (some 93) rfl (.pointer (some ⟨g8, 0, none⟩)) (fun _ => by kernel_rfl) ?_
  refine pl_val (want_on 38 true rfl 92 rfl (by kernel_rfl)) (some 94) rfl (.pointer (some ⟨g8, 7, none⟩)) (fun _ => by kernel_rfl) ?_
  refine pl_cell M (want_on 38 true rfl 92 rfl (by kernel_rfl)) (some 95) rfl 27 _ rfl g8 7 (by kernel_rfl) (.int .u16 7) (fun _ => by kernel_rfl) (fun w M => M.cell 7 rfl (by decide) rfl) ?_
  refine pl_val (want_on 38 true rfl 92 rfl (by kernel_rfl)) (some 96) rfl (.bool true) (fun _ => by kernel_rfl) ?_
  refine pl_val (want_no rfl) (some 97) rfl (.bool true) (fun _ => by kernel_rfl) ?_
  refine pl_val (want_no rfl) (some 98) rfl (.bool true) (fun _ => by kernel_rfl) ?_
  refine pl_val (want_on 44 true rfl 98 rfl (by kernel_rfl)) (some 99) rfl (.pointer (some ⟨g8, 12, none⟩)) (fun _ => by kernel_rfl) ?_
  refine pl_cell M (want_on 44 true rfl 98 rfl (by kernel_rfl)) (some 100) rfl 3 _ rfl g8 12 (by kernel_rfl) (.int .i64 1) (fun _ => by kernel_rfl) (fun w M => M.cell 7 rfl (by decide) rfl) ?_
  refine pl_val (want_on 44 true rfl 98 rfl (by kernel_rfl)) (some 101) rfl (.bool true) (fun _ => by kernel_rfl) ?_
  refine pl_val (want_no rfl) (some 102) rfl (.bool true) (fun _ => by kernel_rfl) ?_
  refine pl_val (want_no rfl) (some 103) rfl (.bool true) (fun _ => by kernel_rfl) ?_
  refine pl_load M (want_on 49 true rfl 103 rfl (by kernel_rfl)) (some 104) rfl 26 _ rfl 2 g3 0 (by kernel_rfl) 9 26 (ls [.bool false, .int .u64 0, .int .u64 167772161, .bool false, .int .u64 0, .int .u64 167772162, .int .u8 17, .int .u8 64, .string ⟨#[0, 5, 0, 53, 0, 10, 138, 59, 97, 98]⟩]) rfl 9 (ls [.bool false, .int .u64 0, .int .u64 167772161, .bool false, .int .u64 0, .int .u64 167772162, .int .u8 17, .int .u8 64, .string ⟨#[0, 5, 0, 53, 0, 10, 138, 59, 97, 98]⟩]) (fun j _ => by rw [Nat.zero_add]) (by decide) _ Try.underlying26 rfl inz26 ?_
  refine pl_call M (want_on 49 true rfl 103 rfl (by kernel_rfl)) (some 105) rfl 10 #[.agg (av 9 (ls [.bool false, .int .u64 0, .int .u64 167772161, .bool false, .int .u64 0, .int .u64 167772162, .int .u8 17, .int .u8 64, .string ⟨#[0, 5, 0, 53, 0, 10, 138, 59, 97, 98]⟩]))] (.int .u16 0) (fun _ => by kernel_rfl) (fun w M => call_val (c_PSum false 0 167772161 false 0 167772162 17 64 ⟨#[0, 5, 0, 53, 0, 10, 138, 59, 97, 98]⟩ (by decide) (by decide) w M.laid) (by kernel_rfl)) ?_
  intro u23 M
  refine pl_val (want_on 49 true rfl 103 rfl (by kernel_rfl)) (some 106) rfl (.bool true) (fun _ => by kernel_rfl) ?_
  refine pl_val (want_no rfl) (some 107) rfl (.bool true) (fun _ => by kernel_rfl) ?_
  refine pl_val (want_no rfl) (some 0) rfl (.bool true) (fun _ => by kernel_rfl) ?_
  refine pl_nil ?_
  refine au_then ?_
  refine wp_ret ?_
  exact bodyPost_ret (v := .bool true) (results_tmp1 Try.results7 _ _ _ (by kernel_rfl)) (by kernel_rfl) ⟨rfl, below_grown M.old⟩


end Go.Proofs.Ytahknenmjnhmjaa
