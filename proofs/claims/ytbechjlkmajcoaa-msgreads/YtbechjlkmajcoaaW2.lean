/- A known run; MsgReads, MsgWrites: the walks. -/
import Derived.Test.YtbechjlkmajcoaaW1
namespace Go.Proofs.Ytbechjlkmajcoaa
open Go.RowKit

set_option maxRecDepth 10000 in
set_option maxRecDepth 100000 in
set_option maxHeartbeats 4000000 in
set_option linter.unusedSimpArgs false in
theorem d_Names  (w : World) (hL : Laid w)  :
    Calls Try.prog 13 #[] w fun e w' => ∃ g, e = .returned (.slice (some ⟨g, 0, none⟩) 21 21) ∧ w.heap.size ≤ g ∧ w'.heap[g]? = some (.cells (av 21 (fS nmA)) 9) ∧ Below w.heap.size w w' := by
  go_enter Try.func13, Try.ntmps13
  have M := Mem.start hL
  refine wp_seq ?_
  refine rg_lit ?_
  refine pl_val (want_no rfl) (some 0) rfl (.slice none 0 0) (fun _ => by kernel_rfl) ?_
  refine pl_nil ?_
  refine au_then ?_
  refine wp_seq ?_
  refine rg_lit ?_
  refine pl_mk M (want_no rfl) (some 1) rfl (fun g1 => .slice (some ⟨g1, 0, none⟩) 21 21) (.cells (av 21 (ls [.string ⟨#[114, 101, 103, 105, 115, 116, 101, 114]⟩, .string ⟨#[114, 101, 103, 105, 115, 116, 101, 114, 101, 100]⟩, .string ⟨#[112, 111, 108, 108]⟩, .string ⟨#[102, 117, 108, 108]⟩, .string ⟨#[100, 101, 108, 116, 97]⟩, .string ⟨#[114, 101, 102, 117, 115, 101, 100]⟩, .string ⟨#[112, 114, 111, 98, 101]⟩, .string ⟨#[115, 101, 101, 110]⟩, .string ⟨#[112, 105, 110, 103]⟩, .string ⟨#[112, 111, 110, 103]⟩, .string ⟨#[104, 101, 108, 108, 111]⟩, .string ⟨#[99, 104, 97, 108, 108, 101, 110, 103, 101]⟩, .string ⟨#[112, 114, 111, 111, 102]⟩, .string ⟨#[115, 101, 110, 100]⟩, .string ⟨#[99, 97, 109, 101]⟩, .string ⟨#[103, 111, 110, 101]⟩, .string ⟨#[105, 110, 105, 116]⟩, .string ⟨#[114, 101, 115, 112]⟩, .string ⟨#[108, 111, 97, 100]⟩, .string ⟨#[97, 115, 107]⟩, .string ⟨#[116, 111, 108, 100]⟩])) 9) (fun _ => by kernel_rfl) ?_
  intro g1 u1 M
  replace M : Mem ⟨w, []⟩ [⟨g1, .cells (av 21 (ls [.string ⟨#[114, 101, 103, 105, 115, 116, 101, 114]⟩, .string ⟨#[114, 101, 103, 105, 115, 116, 101, 114, 101, 100]⟩, .string ⟨#[112, 111, 108, 108]⟩, .string ⟨#[102, 117, 108, 108]⟩, .string ⟨#[100, 101, 108, 116, 97]⟩, .string ⟨#[114, 101, 102, 117, 115, 101, 100]⟩, .string ⟨#[112, 114, 111, 98, 101]⟩, .string ⟨#[115, 101, 101, 110]⟩, .string ⟨#[112, 105, 110, 103]⟩, .string ⟨#[112, 111, 110, 103]⟩, .string ⟨#[104, 101, 108, 108, 111]⟩, .string ⟨#[99, 104, 97, 108, 108, 101, 110, 103, 101]⟩, .string ⟨#[112, 114, 111, 111, 102]⟩, .string ⟨#[115, 101, 110, 100]⟩, .string ⟨#[99, 97, 109, 101]⟩, .string ⟨#[103, 111, 110, 101]⟩, .string ⟨#[105, 110, 105, 116]⟩, .string ⟨#[114, 101, 115, 112]⟩, .string ⟨#[108, 111, 97, 100]⟩, .string ⟨#[97, 115, 107]⟩, .string ⟨#[116, 111, 108, 100]⟩])) 9⟩] u1 := M
  refine pl_val (want_no rfl) (some 0) rfl (.slice (some ⟨g1, 0, none⟩) 21 21) (fun _ => by kernel_rfl) ?_
  refine pl_nil ?_
  refine au_then ?_
  refine wp_ret ?_
  have h9 : u1.heap[g1]? = some (.cells (av 21 (fS nmA)) 9) := M.get 0 rfl
  exact bodyPost_ret (v := .slice (some ⟨g1, 0, none⟩) 21 21) (results_tmp1 Try.results13 _ _ _ (by kernel_rfl)) (by kernel_rfl) ⟨g1, rfl, M.geAt 0 rfl, h9, below_grown M.old⟩

set_option maxRecDepth 10000 in
set_option maxRecDepth 100000 in
set_option maxHeartbeats 4000000 in
set_option linter.unusedSimpArgs false in
theorem c_works  (w : World) (hL : Laid w)  :
    Calls Try.prog 9 #[] w fun r w' => r = .returned (.bool true) ∧ Below w.heap.size w w' := by
  go_enter Try.func9, Try.ntmps9
  have M := Mem.start hL
  refine wp_seq ?_
  refine rg_lit ?_
  refine pl_val (want_no rfl) (some 0) rfl (.bool false) (fun _ => by kernel_rfl) ?_
  refine pl_nil ?_
  refine au_then ?_
  refine wp_seq ?_
  refine rg_lit ?_
  refine pl_val (want_no rfl) (some 9) rfl (.agg (av 17 (ls [.int .u8 17, .string ⟨#[]⟩, .string ⟨#[]⟩, .int .u32 7, .int .u32 0, .int .u64 0, .int .u64 0, .int .u64 0, .string ⟨#[]⟩, .bool false, .int .u64 0, .int .u64 0, .int .u16 0, .int .u16 0, .string ⟨#[]⟩, .string ⟨#[97, 98]⟩, .string ⟨#[]⟩]))) (fun _ => by kernel_rfl) ?_
  refine pl_new M (want_no rfl) (some 1) rfl (.cells (av 17 (ls [.int .u8 0, .string ⟨#[]⟩, .string ⟨#[]⟩, .int .u32 0, .int .u32 0, .int .u64 0, .int .u64 0, .int .u64 0, .string ⟨#[]⟩, .bool false, .int .u64 0, .int .u64 0, .int .u16 0, .int .u16 0, .string ⟨#[]⟩, .string ⟨#[]⟩, .string ⟨#[]⟩])) 30) (fun _ => by kernel_rfl) ?_
  intro g1 u1 M
  replace M : Mem ⟨w, []⟩ [⟨g1, .cells (av 17 (ls [.int .u8 0, .string ⟨#[]⟩, .string ⟨#[]⟩, .int .u32 0, .int .u32 0, .int .u64 0, .int .u64 0, .int .u64 0, .string ⟨#[]⟩, .bool false, .int .u64 0, .int .u64 0, .int .u16 0, .int .u16 0, .string ⟨#[]⟩, .string ⟨#[]⟩, .string ⟨#[]⟩])) 30⟩] u1 := M
  refine pl_put M (want_no rfl) rfl 30 _ _ rfl 0 g1 0 (by kernel_rfl) 17 30 (ls [.int .u8 0, .string ⟨#[]⟩, .string ⟨#[]⟩, .int .u32 0, .int .u32 0, .int .u64 0, .int .u64 0, .int .u64 0, .string ⟨#[]⟩, .bool false, .int .u64 0, .int .u64 0, .int .u16 0, .int .u16 0, .string ⟨#[]⟩, .string ⟨#[]⟩, .string ⟨#[]⟩]) rfl 17 (ls [.int .u8 17, .string ⟨#[]⟩, .string ⟨#[]⟩, .int .u32 7, .int .u32 0, .int .u64 0, .int .u64 0, .int .u64 0, .string ⟨#[]⟩, .bool false, .int .u64 0, .int .u64 0, .int .u16 0, .int .u16 0, .string ⟨#[]⟩, .string ⟨#[97, 98]⟩, .string ⟨#[]⟩]) (ls [.int .u8 17, .string ⟨#[]⟩, .string ⟨#[]⟩, .int .u32 7, .int .u32 0, .int .u64 0, .int .u64 0, .int .u64 0, .string ⟨#[]⟩, .bool false, .int .u64 0, .int .u64 0, .int .u16 0, .int .u16 0, .string ⟨#[]⟩, .string ⟨#[97, 98]⟩, .string ⟨#[]⟩]) (by kernel_rfl) inz30 (by decide) (one_ls _ rfl) (fun j hj => by rw [if_pos (by omega), Nat.sub_zero]) ?_
  intro u2 M
  replace M : Mem ⟨w, []⟩ [⟨g1, .cells (av 17 (ls [.int .u8 17, .string ⟨#[]⟩, .string ⟨#[]⟩, .int .u32 7, .int .u32 0, .int .u64 0, .int .u64 0, .int .u64 0, .string ⟨#[]⟩, .bool false, .int .u64 0, .int .u64 0, .int .u16 0, .int .u16 0, .string ⟨#[]⟩, .string ⟨#[97, 98]⟩, .string ⟨#[]⟩])) 30⟩] u2 := M
  refine pl_nil ?_
  refine au_then ?_
  refine wp_seq ?_
  refine rg_lit ?_
  refine pl_load M (want_no rfl) (some 11) rfl 30 _ rfl 0 g1 0 (by kernel_rfl) 17 30 (ls [.int .u8 17, .string ⟨#[]⟩, .string ⟨#[]⟩, .int .u32 7, .int .u32 0, .int .u64 0, .int .u64 0, .int .u64 0, .string ⟨#[]⟩, .bool false, .int .u64 0, .int .u64 0, .int .u16 0, .int .u16 0, .string ⟨#[]⟩, .string ⟨#[97, 98]⟩, .string ⟨#[]⟩]) rfl 17 (ls [.int .u8 17, .string ⟨#[]⟩, .string ⟨#[]⟩, .int .u32 7, .int .u32 0, .int .u64 0, .int .u64 0, .int .u64 0, .string ⟨#[]⟩, .bool false, .int .u64 0, .int .u64 0, .int .u16 0, .int .u16 0, .string ⟨#[]⟩, .string ⟨#[97, 98]⟩, .string ⟨#[]⟩]) (fun j _ => by rw [Nat.zero_add]) (by decide) _ Try.underlying30 rfl inz30 ?_
  refine pl_call M (want_no rfl) (some 12) rfl 10 #[.agg (av 17 (ls [.int .u8 17, .string ⟨#[]⟩, .string ⟨#[]⟩, .int .u32 7, .int .u32 0, .int .u64 0, .int .u64 0, .int .u64 0, .string ⟨#[]⟩, .bool false, .int .u64 0, .int .u64 0, .int .u16 0, .int .u16 0, .string ⟨#[]⟩, .string ⟨#[97, 98]⟩, .string ⟨#[]⟩]))] (.tuple #[.string ⟨#[17, 0, 0, 0, 7, 0, 2, 97, 98]⟩, .int .i64 0]) (fun _ => by kernel_rfl) (fun w M => call_val (c_Encode ⟨17, ⟨#[]⟩, ⟨#[]⟩, 7, 0, 0, 0, 0, ⟨#[]⟩, false, 0, 0, 0, 0, ⟨#[]⟩, ⟨#[97, 98]⟩, ⟨#[]⟩⟩ (by decide) ⟨by decide, by decide, by decide, by decide, by decide, by decide⟩ w M.laid) (by kernel_rfl)) ?_
  intro u3 M
  refine pl_val (want_no rfl) (some 10) rfl (.tuple #[.string ⟨#[17, 0, 0, 0, 7, 0, 2, 97, 98]⟩, .int .i64 0]) (fun _ => by kernel_rfl) ?_
  refine pl_val (want_no rfl) (some 13) rfl (.string ⟨#[17, 0, 0, 0, 7, 0, 2, 97, 98]⟩) (fun _ => by kernel_rfl) ?_
  refine pl_val (want_no rfl) (some 14) rfl (.int .i64 0) (fun _ => by kernel_rfl) ?_
  refine pl_val (want_no rfl) (some 2) rfl (.string ⟨#[17, 0, 0, 0, 7, 0, 2, 97, 98]⟩) (fun _ => by kernel_rfl) ?_
  refine pl_val (want_no rfl) (some 3) rfl (.int .i64 0) (fun _ => by kernel_rfl) ?_
  refine pl_nil ?_
  refine au_then ?_
  refine wp_seq ?_
  refine rg_lit ?_
  refine pl_val (want_no rfl) (some 16) rfl (.string ⟨#[17, 0, 0, 0, 7, 0, 2, 97, 98]⟩) (fun _ => by kernel_rfl) ?_
  refine pl_call M (want_no rfl) (some 17) rfl 18 #[.string ⟨#[17, 0, 0, 0, 7, 0, 2, 97, 98]⟩] (.tuple #[.agg (av 17 (ls [.int .u8 17, .string ⟨#[]⟩, .string ⟨#[]⟩, .int .u32 7, .int .u32 0, .int .u64 0, .int .u64 0, .int .u64 0, .string ⟨#[]⟩, .bool false, .int .u64 0, .int .u64 0, .int .u16 0, .int .u16 0, .string ⟨#[]⟩, .string ⟨#[97, 98]⟩, .string ⟨#[]⟩])), .int .i64 0]) (fun _ => by kernel_rfl) (fun w M => call_val (c_Decode ⟨#[17, 0, 0, 0, 7, 0, 2, 97, 98]⟩ w M.laid) (by kernel_rfl)) ?_
  intro u4 M
  refine pl_val (want_no rfl) (some 15) rfl (.tuple #[.agg (av 17 (ls [.int .u8 17, .string ⟨#[]⟩, .string ⟨#[]⟩, .int .u32 7, .int .u32 0, .int .u64 0, .int .u64 0, .int .u64 0, .string ⟨#[]⟩, .bool false, .int .u64 0, .int .u64 0, .int .u16 0, .int .u16 0, .string ⟨#[]⟩, .string ⟨#[97, 98]⟩, .string ⟨#[]⟩])), .int .i64 0]) (fun _ => by kernel_rfl) ?_
  refine pl_val (want_no rfl) (some 18) rfl (.agg (av 17 (ls [.int .u8 17, .string ⟨#[]⟩, .string ⟨#[]⟩, .int .u32 7, .int .u32 0, .int .u64 0, .int .u64 0, .int .u64 0, .string ⟨#[]⟩, .bool false, .int .u64 0, .int .u64 0, .int .u16 0, .int .u16 0, .string ⟨#[]⟩, .string ⟨#[97, 98]⟩, .string ⟨#[]⟩]))) (fun _ => by kernel_rfl) ?_
  refine pl_val (want_no rfl) (some 19) rfl (.int .i64 0) (fun _ => by kernel_rfl) ?_
  refine pl_new M (want_no rfl) (some 4) rfl (.cells (av 17 (ls [.int .u8 0, .string ⟨#[]⟩, .string ⟨#[]⟩, .int .u32 0, .int .u32 0, .int .u64 0, .int .u64 0, .int .u64 0, .string ⟨#[]⟩, .bool false, .int .u64 0, .int .u64 0, .int .u16 0, .int .u16 0, .string ⟨#[]⟩, .string ⟨#[]⟩, .string ⟨#[]⟩])) 30) (fun _ => by kernel_rfl) ?_
  intro g2 u5 M
  replace M : Mem ⟨w, []⟩ [⟨g1, .cells (av 17 (ls [.int .u8 17, .string ⟨#[]⟩, .string ⟨#[]⟩, .int .u32 7, .int .u32 0, .int .u64 0, .int .u64 0, .int .u64 0, .string ⟨#[]⟩, .bool false, .int .u64 0, .int .u64 0, .int .u16 0, .int .u16 0, .string ⟨#[]⟩, .string ⟨#[97, 98]⟩, .string ⟨#[]⟩])) 30⟩, ⟨g2, .cells (av 17 (ls [.int .u8 0, .string ⟨#[]⟩, .string ⟨#[]⟩, .int .u32 0, .int .u32 0, .int .u64 0, .int .u64 0, .int .u64 0, .string ⟨#[]⟩, .bool false, .int .u64 0, .int .u64 0, .int .u16 0, .int .u16 0, .string ⟨#[]⟩, .string ⟨#[]⟩, .string ⟨#[]⟩])) 30⟩] u5 := M
  refine pl_put M (want_no rfl) rfl 30 _ _ rfl 1 g2 0 (by kernel_rfl) 17 30 (ls [.int .u8 0, .string ⟨#[]⟩, .string ⟨#[]⟩, .int .u32 0, .int .u32 0, .int .u64 0, .int .u64 0, .int .u64 0, .string ⟨#[]⟩, .bool false, .int .u64 0, .int .u64 0, .int .u16 0, .int .u16 0, .string ⟨#[]⟩, .string ⟨#[]⟩, .string ⟨#[]⟩]) rfl 17 (ls [.int .u8 17, .string ⟨#[]⟩, .string ⟨#[]⟩, .int .u32 7, .int .u32 0, .int .u64 0, .int .u64 0, .int .u64 0, .string ⟨#[]⟩, .bool false, .int .u64 0, .int .u64 0, .int .u16 0, .int .u16 0, .string ⟨#[]⟩, .string ⟨#[97, 98]⟩, .string ⟨#[]⟩]) (ls [.int .u8 17, .string ⟨#[]⟩, .string ⟨#[]⟩, .int .u32 7, .int .u32 0, .int .u64 0, .int .u64 0, .int .u64 0, .string ⟨#[]⟩, .bool false, .int .u64 0, .int .u64 0, .int .u16 0, .int .u16 0, .string ⟨#[]⟩, .string ⟨#[97, 98]⟩, .string ⟨#[]⟩]) (by kernel_rfl) inz30 (by decide) (one_ls _ rfl) (fun j hj => by rw [if_pos (by omega), Nat.sub_zero]) ?_
  intro u6 M
  replace M : Mem ⟨w, []⟩ [⟨g1, .cells (av 17 (ls [.int .u8 17, .string ⟨#[]⟩, .string ⟨#[]⟩, .int .u32 7, .int .u32 0, .int .u64 0, .int .u64 0, .int .u64 0, .string ⟨#[]⟩, .bool false, .int .u64 0, .int .u64 0, .int .u16 0, .int .u16 0, .string ⟨#[]⟩, .string ⟨#[97, 98]⟩, .string ⟨#[]⟩])) 30⟩, ⟨g2, .cells (av 17 (ls [.int .u8 17, .string ⟨#[]⟩, .string ⟨#[]⟩, .int .u32 7, .int .u32 0, .int .u64 0, .int .u64 0, .int .u64 0, .string ⟨#[]⟩, .bool false, .int .u64 0, .int .u64 0, .int .u16 0, .int .u16 0, .string ⟨#[]⟩, .string ⟨#[97, 98]⟩, .string ⟨#[]⟩])) 30⟩] u6 := M
  refine pl_val (want_no rfl) (some 5) rfl (.int .i64 0) (fun _ => by kernel_rfl) ?_
  refine pl_nil ?_
  refine au_then ?_
  refine wp_seq ?_
  refine rg_lit ?_
  refine pl_load M (want_no rfl) (some 20) rfl 30 _ rfl 0 g1 0 (by kernel_rfl) 17 30 (ls [.int .u8 17, .string ⟨#[]⟩, .string ⟨#[]⟩, .int .u32 7, .int .u32 0, .int .u64 0, .int .u64 0, .int .u64 0, .string ⟨#[]⟩, .bool false, .int .u64 0, .int .u64 0, .int .u16 0, .int .u16 0, .string ⟨#[]⟩, .string ⟨#[97, 98]⟩, .string ⟨#[]⟩]) rfl 17 (ls [.int .u8 17, .string ⟨#[]⟩, .string ⟨#[]⟩, .int .u32 7, .int .u32 0, .int .u64 0, .int .u64 0, .int .u64 0, .string ⟨#[]⟩, .bool false, .int .u64 0, .int .u64 0, .int .u16 0, .int .u16 0, .string ⟨#[]⟩, .string ⟨#[97, 98]⟩, .string ⟨#[]⟩]) (fun j _ => by rw [Nat.zero_add]) (by decide) _ Try.underlying30 rfl inz30 ?_
  refine pl_new M (want_no rfl) (some 6) rfl (.cells (av 17 (ls [.int .u8 0, .string ⟨#[]⟩, .string ⟨#[]⟩, .int .u32 0, .int .u32 0, .int .u64 0, .int .u64 0, .int .u64 0, .string ⟨#[]⟩, .bool false, .int .u64 0, .int .u64 0, .int .u16 0, .int .u16 0, .string ⟨#[]⟩, .string ⟨#[]⟩, .string ⟨#[]⟩])) 30) (fun _ => by kernel_rfl) ?_
  intro g3 u7 M
  replace M : Mem ⟨w, []⟩ [⟨g1, .cells (av 17 (ls [.int .u8 17, .string ⟨#[]⟩, .string ⟨#[]⟩, .int .u32 7, .int .u32 0, .int .u64 0, .int .u64 0, .int .u64 0, .string ⟨#[]⟩, .bool false, .int .u64 0, .int .u64 0, .int .u16 0, .int .u16 0, .string ⟨#[]⟩, .string ⟨#[97, 98]⟩, .string ⟨#[]⟩])) 30⟩, ⟨g2, .cells (av 17 (ls [.int .u8 17, .string ⟨#[]⟩, .string ⟨#[]⟩, .int .u32 7, .int .u32 0, .int .u64 0, .int .u64 0, .int .u64 0, .string ⟨#[]⟩, .bool false, .int .u64 0, .int .u64 0, .int .u16 0, .int .u16 0, .string ⟨#[]⟩, .string ⟨#[97, 98]⟩, .string ⟨#[]⟩])) 30⟩, ⟨g3, .cells (av 17 (ls [.int .u8 0, .string ⟨#[]⟩, .string ⟨#[]⟩, .int .u32 0, .int .u32 0, .int .u64 0, .int .u64 0, .int .u64 0, .string ⟨#[]⟩, .bool false, .int .u64 0, .int .u64 0, .int .u16 0, .int .u16 0, .string ⟨#[]⟩, .string ⟨#[]⟩, .string ⟨#[]⟩])) 30⟩] u7 := M
  refine pl_put M (want_no rfl) rfl 30 _ _ rfl 2 g3 0 (by kernel_rfl) 17 30 (ls [.int .u8 0, .string ⟨#[]⟩, .string ⟨#[]⟩, .int .u32 0, .int .u32 0, .int .u64 0, .int .u64 0, .int .u64 0, .string ⟨#[]⟩, .bool false, .int .u64 0, .int .u64 0, .int .u16 0, .int .u16 0, .string ⟨#[]⟩, .string ⟨#[]⟩, .string ⟨#[]⟩]) rfl 17 (ls [.int .u8 17, .string ⟨#[]⟩, .string ⟨#[]⟩, .int .u32 7, .int .u32 0, .int .u64 0, .int .u64 0, .int .u64 0, .string ⟨#[]⟩, .bool false, .int .u64 0, .int .u64 0, .int .u16 0, .int .u16 0, .string ⟨#[]⟩, .string ⟨#[97, 98]⟩, .string ⟨#[]⟩]) (ls [.int .u8 17, .string ⟨#[]⟩, .string ⟨#[]⟩, .int .u32 7, .int .u32 0, .int .u64 0, .int .u64 0, .int .u64 0, .string ⟨#[]⟩, .bool false, .int .u64 0, .int .u64 0, .int .u16 0, .int .u16 0, .string ⟨#[]⟩, .string ⟨#[97, 98]⟩, .string ⟨#[]⟩]) (by kernel_rfl) inz30 (by decide) (one_ls _ rfl) (fun j hj => by rw [if_pos (by omega), Nat.sub_zero]) ?_
  intro u8 M
  replace M : Mem ⟨w, []⟩ [⟨g1, .cells (av 17 (ls [.int .u8 17, .string ⟨#[]⟩, .string ⟨#[]⟩, .int .u32 7, .int .u32 0, .int .u64 0, .int .u64 0, .int .u64 0, .string ⟨#[]⟩, .bool false, .int .u64 0, .int .u64 0, .int .u16 0, .int .u16 0, .string ⟨#[]⟩, .string ⟨#[97, 98]⟩, .string ⟨#[]⟩])) 30⟩, ⟨g2, .cells (av 17 (ls [.int .u8 17, .string ⟨#[]⟩, .string ⟨#[]⟩, .int .u32 7, .int .u32 0, .int .u64 0, .int .u64 0, .int .u64 0, .string ⟨#[]⟩, .bool false, .int .u64 0, .int .u64 0, .int .u16 0, .int .u16 0, .string ⟨#[]⟩, .string ⟨#[97, 98]⟩, .string ⟨#[]⟩])) 30⟩, ⟨g3, .cells (av 17 (ls [.int .u8 17, .string ⟨#[]⟩, .string ⟨#[]⟩, .int .u32 7, .int .u32 0, .int .u64 0, .int .u64 0, .int .u64 0, .string ⟨#[]⟩, .bool false, .int .u64 0, .int .u64 0, .int .u16 0, .int .u16 0, .string ⟨#[]⟩, .string ⟨#[97, 98]⟩, .string ⟨#[]⟩])) 30⟩] u8 := M
  refine pl_nil ?_
  refine au_then ?_
  refine wp_seq ?_
  refine rg_lit ?_
  refine pl_mk M (want_no rfl) (some 21) rfl (fun g4 => .slice (some ⟨g4, 0, none⟩) 32 32) (.cells (av 32 (ls [.int .u8 0, .int .u8 0, .int .u8 0, .int .u8 0, .int .u8 0, .int .u8 0, .int .u8 0, .int .u8 0, .int .u8 0, .int .u8 0, .int .u8 0, .int .u8 0, .int .u8 0, .int .u8 0, .int .u8 0, .int .u8 0, .int .u8 0, .int .u8 0, .int .u8 0, .int .u8 0, .int .u8 0, .int .u8 0, .int .u8 0, .int .u8 0, .int .u8 0, .int .u8 0, .int .u8 0, .int .u8 0, .int .u8 0, .int .u8 0, .int .u8 0, .int .u8 0])) 5) (fun _ => by kernel_rfl) ?_
  intro g4 u9 M
  replace M : Mem ⟨w, []⟩ [⟨g1, .cells (av 17 (ls [.int .u8 17, .string ⟨#[]⟩, .string ⟨#[]⟩, .int .u32 7, .int .u32 0, .int .u64 0, .int .u64 0, .int .u64 0, .string ⟨#[]⟩, .bool false, .int .u64 0, .int .u64 0, .int .u16 0, .int .u16 0, .string ⟨#[]⟩, .string ⟨#[97, 98]⟩, .string ⟨#[]⟩])) 30⟩, ⟨g2, .cells (av 17 (ls [.int .u8 17, .string ⟨#[]⟩, .string ⟨#[]⟩, .int .u32 7, .int .u32 0, .int .u64 0, .int .u64 0, .int .u64 0, .string ⟨#[]⟩, .bool false, .int .u64 0, .int .u64 0, .int .u16 0, .int .u16 0, .string ⟨#[]⟩, .string ⟨#[97, 98]⟩, .string ⟨#[]⟩])) 30⟩, ⟨g3, .cells (av 17 (ls [.int .u8 17, .string ⟨#[]⟩, .string ⟨#[]⟩, .int .u32 7, .int .u32 0, .int .u64 0, .int .u64 0, .int .u64 0, .string ⟨#[]⟩, .bool false, .int .u64 0, .int .u64 0, .int .u16 0, .int .u16 0, .string ⟨#[]⟩, .string ⟨#[97, 98]⟩, .string ⟨#[]⟩])) 30⟩, ⟨g4, .cells (av 32 (ls [.int .u8 0, .int .u8 0, .int .u8 0, .int .u8 0, .int .u8 0, .int .u8 0, .int .u8 0, .int .u8 0, .int .u8 0, .int .u8 0, .int .u8 0, .int .u8 0, .int .u8 0, .int .u8 0, .int .u8 0, .int .u8 0, .int .u8 0, .int .u8 0, .int .u8 0, .int .u8 0, .int .u8 0, .int .u8 0, .int .u8 0, .int .u8 0, .int .u8 0, .int .u8 0, .int .u8 0, .int .u8 0, .int .u8 0, .int .u8 0, .int .u8 0, .int .u8 0])) 5⟩] u9 := M
  refine pl_back M (want_no rfl) (some 22) rfl _ rfl 3 g4 32 32 (by kernel_rfl) _ rfl [0, 0, 0, 0, 0, 0, 0, 0, 0, 0, 0, 0, 0, 0, 0, 0, 0, 0, 0, 0, 0, 0, 0, 0, 0, 0, 0, 0, 0, 0, 0, 0] 32 (sb_ls [0, 0, 0, 0, 0, 0, 0, 0, 0, 0, 0, 0, 0, 0, 0, 0, 0, 0, 0, 0, 0, 0, 0, 0, 0, 0, 0, 0, 0, 0, 0, 0] _) rfl (by intro x hx; simp only [List.mem_cons, List.mem_nil_iff, or_false] at hx; rcases hx with rfl | rfl | rfl | rfl | rfl | rfl | rfl | rfl | rfl | rfl | rfl | rfl | rfl | rfl | rfl | rfl | rfl | rfl | rfl | rfl | rfl | rfl | rfl | rfl | rfl | rfl | rfl | rfl | rfl | rfl | rfl | rfl <;> omega) ?_
  refine pl_val (want_no rfl) (some 23) rfl (.pointer (some ⟨g3, 1, none⟩)) (fun _ => by kernel_rfl) ?_
  refine pl_put1 M (want_no rfl) rfl 9 _ _ rfl 2 g3 1 (by kernel_rfl) 17 30 (ls [.int .u8 17, .string ⟨#[]⟩, .string ⟨#[]⟩, .int .u32 7, .int .u32 0, .int .u64 0, .int .u64 0, .int .u64 0, .string ⟨#[]⟩, .bool false, .int .u64 0, .int .u64 0, .int .u16 0, .int .u16 0, .string ⟨#[]⟩, .string ⟨#[97, 98]⟩, .string ⟨#[]⟩]) rfl (.string (bs [0, 0, 0, 0, 0, 0, 0, 0, 0, 0, 0, 0, 0, 0, 0, 0, 0, 0, 0, 0, 0, 0, 0, 0, 0, 0, 0, 0, 0, 0, 0, 0])) (ls [.int .u8 17, .string (bs [0, 0, 0, 0, 0, 0, 0, 0, 0, 0, 0, 0, 0, 0, 0, 0, 0, 0, 0, 0, 0, 0, 0, 0, 0, 0, 0, 0, 0, 0, 0, 0]), .string ⟨#[]⟩, .int .u32 7, .int .u32 0, .int .u64 0, .int .u64 0, .int .u64 0, .string ⟨#[]⟩, .bool false, .int .u64 0, .int .u64 0, .int .u16 0, .int .u16 0, .string ⟨#[]⟩, .string ⟨#[97, 98]⟩, .string ⟨#[]⟩]) (by kernel_rfl) inz9 (by decide) rfl rfl (put_ls _ 1 _ _ rfl) ?_
  intro u10 M
  replace M : Mem ⟨w, []⟩ [⟨g1, .cells (av 17 (ls [.int .u8 17, .string ⟨#[]⟩, .string ⟨#[]⟩, .int .u32 7, .int .u32 0, .int .u64 0, .int .u64 0, .int .u64 0, .string ⟨#[]⟩, .bool false, .int .u64 0, .int .u64 0, .int .u16 0, .int .u16 0, .string ⟨#[]⟩, .string ⟨#[97, 98]⟩, .string ⟨#[]⟩])) 30⟩, ⟨g2, .cells (av 17 (ls [.int .u8 17, .string ⟨#[]⟩, .string ⟨#[]⟩, .int .u32 7, .int .u32 0, .int .u64 0, .int .u64 0, .int .u64 0, .string ⟨#[]⟩, .bool false, .int .u64 0, .int .u64 0, .int .u16 0, .int .u16 0, .string ⟨#[]⟩, .string ⟨#[97, 98]⟩, .string ⟨#[]⟩])) 30⟩, ⟨g3, .cells (av 17 (ls [.int .u8 17, .string (bs [0, 0, 0, 0, 0, 0, 0, 0, 0, 0, 0, 0, 0, 0, 0, 0, 0, 0, 0, 0, 0, 0, 0, 0, 0, 0, 0, 0, 0, 0, 0, 0]), .string ⟨#[]⟩, .int .u32 7, .int .u32 0, .int .u64 0, .int .u64 0, .int .u64 0, .string ⟨#[]⟩, .bool false, .int .u64 0, .int .u64 0, .int .u16 0, .int .u16 0, .string ⟨#[]⟩, .string ⟨#[97, 98]⟩, .string ⟨#[]⟩])) 30⟩, ⟨g4, .cells (av 32 (ls [.int .u8 0, .int .u8 0, .int .u8 0, .int .u8 0, .int .u8 0, .int .u8 0, .int .u8 0, .int .u8 0, .int .u8 0, .int .u8 0, .int .u8 0, .int .u8 0, .int .u8 0, .int .u8 0, .int .u8 0, .int .u8 0, .int .u8 0, .int .u8 0, .int .u8 0, .int .u8 0, .int .u8 0, .int .u8 0, .int .u8 0, .int .u8 0, .int .u8 0, .int .u8 0, .int .u8 0, .int .u8 0, .int .u8 0, .int .u8 0, .int .u8 0, .int .u8 0])) 5⟩] u10 := M
  refine pl_nil ?_
  refine au_then ?_
  refine wp_seq ?_
  refine rg_lit ?_
  refine pl_call M (want_no rfl) (some 25) rfl 12 #[.string ⟨#[105, 110, 105, 116]⟩] (.tuple #[.int .u8 17, .int .i64 0]) (fun _ => by kernel_rfl) (fun w M => call_val (c_Of0 ⟨#[105, 110, 105, 116]⟩ w M.laid) (by kernel_rfl)) ?_
  intro u11 M
  refine pl_val (want_no rfl) (some 24) rfl (.tuple #[.int .u8 17, .int .i64 0]) (fun _ => by kernel_rfl) ?_
  refine pl_val (want_no rfl) (some 26) rfl (.int .u8 17) (fun _ => by kernel_rfl) ?_
  refine pl_val (want_no rfl) (some 27) rfl (.int .i64 0) (fun _ => by kernel_rfl) ?_
  refine pl_val (want_no rfl) (some 7) rfl (.int .u8 17) (fun _ => by kernel_rfl) ?_
  refine pl_val (want_no rfl) (some 8) rfl (.int .i64 0) (fun _ => by kernel_rfl) ?_
  refine pl_nil ?_
  refine au_then ?_
  refine wp_seq ?_
  refine rg_lit ?_
  refine pl_val (want_no rfl) (some 28) rfl (.int .i64 0) (fun _ => by kernel_rfl) ?_
  refine pl_val (want_no rfl) (some 29) rfl (.bool true) (fun _ => by kernel_rfl) ?_
  refine pl_val (want_no rfl) (some 30) rfl (.bool true) (fun _ => by kernel_rfl) ?_
  refine pl_val (want_on 2 true rfl 30 rfl (by kernel_rfl)) (some 31) rfl (.string ⟨#[17, 0, 0, 0, 7, 0, 2, 97, 98]⟩) (fun _ => by kernel_rfl) ?_
  refine pl_val (want_on 2 true rfl 30 rfl (by kernel_rfl)) (some 32) rfl (.bool true) (fun _ => by kernel_rfl) ?_
  refine pl_val (want_no rfl) (some 33) rfl (.bool true) (fun _ => by kernel_rfl) ?_
  refine pl_val (want_no rfl) (some 34) rfl (.bool true) (fun _ => by kernel_rfl) ?_
  refine pl_val (want_on 6 true rfl 34 rfl (by kernel_rfl)) (some 35) rfl (.int .i64 0) (fun _ => by kernel_rfl) ?_
  refine pl_val (want_on 6 true rfl 34 rfl (by kernel_rfl)) (some 36) rfl (.bool true) (fun _ => by kernel_rfl) ?_
  refine pl_val (want_no rfl) (some 37) rfl (.bool true) (fun _ => by kernel_rfl) ?_
  refine pl_val (want_no rfl) (some 38) rfl (.bool true) (fun _ => by kernel_rfl) ?_
  refine pl_load M (want_on 10 true rfl 38 rfl (by kernel_rfl)) (some 39) rfl 30 _ rfl 1 g2 0 (by kernel_rfl) 17 30 (ls [.int .u8 17, .string ⟨#[]⟩, .string ⟨#[]⟩, .int .u32 7, .int .u32 0, .int .u64 0, .int .u64 0, .int .u64 0, .string ⟨#[]⟩, .bool false, .int .u64 0, .int .u64 0, .int .u16 0, .int .u16 0, .string ⟨#[]⟩, .string ⟨#[97, 98]⟩, .string ⟨#[]⟩]) rfl 17 (ls [.int .u8 17, .string ⟨#[]⟩, .string ⟨#[]⟩, .int .u32 7, .int .u32 0, .int .u64 0, .int .u64 0, .int .u64 0, .string ⟨#[]⟩, .bool false, .int .u64 0, .int .u64 0, .int .u16 0, .int .u16 0, .string ⟨#[]⟩, .string ⟨#[97, 98]⟩, .string ⟨#[]⟩]) (fun j _ => by rw [Nat.zero_add]) (by decide) _ Try.underlying30 rfl inz30 ?_
  refine pl_load M (want_on 10 true rfl 38 rfl (by kernel_rfl)) (some 40) rfl 30 _ rfl 0 g1 0 (by kernel_rfl) 17 30 (ls [.int .u8 17, .string ⟨#[]⟩, .string ⟨#[]⟩, .int .u32 7, .int .u32 0, .int .u64 0, .int .u64 0, .int .u64 0, .string ⟨#[]⟩, .bool false, .int .u64 0, .int .u64 0, .int .u16 0, .int .u16 0, .string ⟨#[]⟩, .string ⟨#[97, 98]⟩, .string ⟨#[]⟩]) rfl 17 (ls [.int .u8 17, .string ⟨#[]⟩, .string ⟨#[]⟩, .int .u32 7, .int .u32 0, .int .u64 0, .int .u64 0, .int .u64 0, .string ⟨#[]⟩, .bool false, .int .u64 0, .int .u64 0, .int .u16 0, .int .u16 0, .string ⟨#[]⟩, .string ⟨#[97, 98]⟩, .string ⟨#[]⟩]) (fun j _ => by rw [Nat.zero_add]) (by decide) _ Try.underlying30 rfl inz30 ?_
  refine pl_val (want_on 10 true rfl 38 rfl (by kernel_rfl)) (some 41) rfl (.bool true) (fun w => (eql30 (17 : Int) (17 : Int) (⟨#[]⟩ : ByteArray) (⟨#[]⟩ : ByteArray) (⟨#[]⟩ : ByteArray) (⟨#[]⟩ : ByteArray) (7 : Int) (7 : Int) (0 : Int) (0 : Int) (0 : Int) (0 : Int) (0 : Int) (0 : Int) (0 : Int) (0 : Int) (⟨#[]⟩ : ByteArray) (⟨#[]⟩ : ByteArray) false false (0 : Int) (0 : Int) (0 : Int) (0 : Int) (0 : Int) (0 : Int) (0 : Int) (0 : Int) (⟨#[]⟩ : ByteArray) (⟨#[]⟩ : ByteArray) (⟨#[97, 98]⟩ : ByteArray) (⟨#[97, 98]⟩ : ByteArray) (⟨#[]⟩ : ByteArray) (⟨#[]⟩ : ByteArray) _ _ rfl (by kernel_rfl) (by kernel_rfl) w).trans (by rw [decide_eq_true (⟨rfl, rfl, rfl, rfl, rfl, rfl, rfl, rfl, rfl, rfl, rfl, rfl, rfl, rfl, rfl, rfl, rfl⟩ : (17 : Int) = (17 : Int) ∧ (⟨#[]⟩ : ByteArray) = (⟨#[]⟩ : ByteArray) ∧ (⟨#[]⟩ : ByteArray) = (⟨#[]⟩ : ByteArray) ∧ (7 : Int) = (7 : Int) ∧ (0 : Int) = (0 : Int) ∧ (0 : Int) = (0 : Int) ∧ (0 : Int) = (0 : Int) ∧ (0 : Int) = (0 : Int) ∧ (⟨#[]⟩ : ByteArray) = (⟨#[]⟩ : ByteArray) ∧ false = false ∧ (0 : Int) = (0 : Int) ∧ (0 : Int) = (0 : Int) ∧ (0 : Int) = (0 : Int) ∧ (0 : Int) = (0 : Int) ∧ (⟨#[]⟩ : ByteArray) = (⟨#[]⟩ : ByteArray) ∧ (⟨#[97, 98]⟩ : ByteArray) = (⟨#[97, 98]⟩ : ByteArray) ∧ (⟨#[]⟩ : ByteArray) = (⟨#[]⟩ : ByteArray))])) ?_
  refine pl_val (want_no rfl) (some 42) rfl (.bool true) (fun _ => by kernel_rfl) ?_
  refine pl_val (want_no rfl) (some 43) rfl (.bool true) (fun _ => by kernel_rfl) ?_
  refine pl_load M (want_on 15 true rfl 43 rfl (by kernel_rfl)) (some 44) rfl 30 _ rfl 2 g3 0 (by kernel_rfl) 17 30 (ls [.int .u8 17, .string (bs [0, 0, 0, 0, 0, 0, 0, 0, 0, 0, 0, 0, 0, 0, 0, 0, 0, 0, 0, 0, 0, 0, 0, 0, 0, 0, 0, 0, 0, 0, 0, 0]), .string ⟨#[]⟩, .int .u32 7, .int .u32 0, .int .u64 0, .int .u64 0, .int .u64 0, .string ⟨#[]⟩, .bool false, .int .u64 0, .int .u64 0, .int .u16 0, .int .u16 0, .string ⟨#[]⟩, .string ⟨#[97, 98]⟩, .string ⟨#[]⟩]) rfl 17 (ls [.int .u8 17, .string (bs [0, 0, 0, 0, 0, 0, 0, 0, 0, 0, 0, 0, 0, 0, 0, 0, 0, 0, 0, 0, 0, 0, 0, 0, 0, 0, 0, 0, 0, 0, 0, 0]), .string ⟨#[]⟩, .int .u32 7, .int .u32 0, .int .u64 0, .int .u64 0, .int .u64 0, .string ⟨#[]⟩, .bool false, .int .u64 0, .int .u64 0, .int .u16 0, .int .u16 0, .string ⟨#[]⟩, .string ⟨#[97, 98]⟩, .string ⟨#[]⟩]) (fun j _ => by rw [Nat.zero_add]) (by decide) _ Try.underlying30 rfl inz30 ?_
  refine pl_call M (want_on 15 true rfl 43 rfl (by kernel_rfl)) (some 45) rfl 14 #[.agg (av 17 (ls [.int .u8 17, .string (bs [0, 0, 0, 0, 0, 0, 0, 0, 0, 0, 0, 0, 0, 0, 0, 0, 0, 0, 0, 0, 0, 0, 0, 0, 0, 0, 0, 0, 0, 0, 0, 0]), .string ⟨#[]⟩, .int .u32 7, .int .u32 0, .int .u64 0, .int .u64 0, .int .u64 0, .string ⟨#[]⟩, .bool false, .int .u64 0, .int .u64 0, .int .u16 0, .int .u16 0, .string ⟨#[]⟩, .string ⟨#[97, 98]⟩, .string ⟨#[]⟩]))] (.int .i64 151) (fun _ => by kernel_rfl) (fun w M => call_val (c_MMay (⟨17, (bs [0, 0, 0, 0, 0, 0, 0, 0, 0, 0, 0, 0, 0, 0, 0, 0, 0, 0, 0, 0, 0, 0, 0, 0, 0, 0, 0, 0, 0, 0, 0, 0]), ⟨#[]⟩, 7, 0, 0, 0, 0, ⟨#[]⟩, false, 0, 0, 0, 0, ⟨#[]⟩, ⟨#[97, 98]⟩, ⟨#[]⟩⟩ : Mg) w M.laid) (by kernel_rfl)) ?_
  intro u12 M
  refine pl_val (want_on 15 true rfl 43 rfl (by kernel_rfl)) (some 46) rfl (.bool true) (fun _ => by kernel_rfl) ?_
  refine pl_val (want_no rfl) (some 47) rfl (.bool true) (fun _ => by kernel_rfl) ?_
  refine pl_val (want_no rfl) (some 48) rfl (.bool true) (fun _ => by kernel_rfl) ?_
  refine pl_val (want_on 20 true rfl 48 rfl (by kernel_rfl)) (some 49) rfl (.int .u8 17) (fun _ => by kernel_rfl) ?_
  refine pl_val (want_on 20 true rfl 48 rfl (by kernel_rfl)) (some 50) rfl (.bool true) (fun _ => by kernel_rfl) ?_
  refine pl_val (want_no rfl) (some 51) rfl (.bool true) (fun _ => by kernel_rfl) ?_
  refine pl_val (want_no rfl) (some 52) rfl (.bool true) (fun _ => by kernel_rfl) ?_
  refine pl_val (want_on 24 true rfl 52 rfl (by kernel_rfl)) (some 53) rfl (.int .i64 0) (fun _ => by kernel_rfl) ?_
  refine pl_val (want_on 24 true rfl 52 rfl (by kernel_rfl)) (some 54) rfl (.bool true) (fun _ => by kernel_rfl) ?_
  refine pl_val (want_no rfl) (some 55) rfl (.bool true) (fun _ => by kernel_rfl) ?_
  refine pl_val (want_no rfl) (some 56) rfl (.bool true) (fun _ => by kernel_rfl) ?_
  refine pl_call M (want_on 28 true rfl 56 rfl (by kernel_rfl)) (some 57) rfl 17 #[.int .u8 19] (.string ⟨#[108, 111, 97, 100]⟩) (fun _ => by kernel_rfl) (fun w M => call_val (c_Name 19 w M.laid) (by kernel_rfl)) ?_
  intro u13 M
  refine pl_val (want_on 28 true rfl 56 rfl (by kernel_rfl)) (some 58) rfl (.bool true) (fun _ => by kernel_rfl) ?_
  refine pl_val (want_no rfl) (some 59) rfl (.bool true) (fun _ => by kernel_rfl) ?_
  refine pl_val (want_no rfl) (some 60) rfl (.bool true) (fun _ => by kernel_rfl) ?_
  refine pl_load M (want_on 32 true rfl 60 rfl (by kernel_rfl)) (some 61) rfl 30 _ rfl 0 g1 0 (by kernel_rfl) 17 30 (ls [.int .u8 17, .string ⟨#[]⟩, .string ⟨#[]⟩, .int .u32 7, .int .u32 0, .int .u64 0, .int .u64 0, .int .u64 0, .string ⟨#[]⟩, .bool false, .int .u64 0, .int .u64 0, .int .u16 0, .int .u16 0, .string ⟨#[]⟩, .string ⟨#[97, 98]⟩, .string ⟨#[]⟩]) rfl 17 (ls [.int .u8 17, .string ⟨#[]⟩, .string ⟨#[]⟩, .int .u32 7, .int .u32 0, .int .u64 0, .int .u64 0, .int .u64 0, .string ⟨#[]⟩, .bool false, .int .u64 0, .int .u64 0, .int .u16 0, .int .u16 0, .string ⟨#[]⟩, .string ⟨#[97, 98]⟩, .string ⟨#[]⟩]) (fun j _ => by rw [Nat.zero_add]) (by decide) _ Try.underlying30 rfl inz30 ?_
  refine pl_call M (want_on 32 true rfl 60 rfl (by kernel_rfl)) (some 62) rfl 16 #[.agg (av 17 (ls [.int .u8 17, .string ⟨#[]⟩, .string ⟨#[]⟩, .int .u32 7, .int .u32 0, .int .u64 0, .int .u64 0, .int .u64 0, .string ⟨#[]⟩, .bool false, .int .u64 0, .int .u64 0, .int .u16 0, .int .u16 0, .string ⟨#[]⟩, .string ⟨#[97, 98]⟩, .string ⟨#[]⟩]))] (.int .i64 9) (fun _ => by kernel_rfl) (fun w M => call_val (c_Size ⟨17, ⟨#[]⟩, ⟨#[]⟩, 7, 0, 0, 0, 0, ⟨#[]⟩, false, 0, 0, 0, 0, ⟨#[]⟩, ⟨#[97, 98]⟩, ⟨#[]⟩⟩ (by decide) ⟨by decide, by decide, by decide, by decide, by decide, by decide⟩ w M.laid) (by kernel_rfl)) ?_
  intro u14 M
  refine pl_val (want_on 32 true rfl 60 rfl (by kernel_rfl)) (some 63) rfl (.bool true) (fun _ => by kernel_rfl) ?_
  refine pl_val (want_no rfl) (some 64) rfl (.bool true) (fun _ => by kernel_rfl) ?_
  refine pl_val (want_no rfl) (some 0) rfl (.bool true) (fun _ => by kernel_rfl) ?_
  refine pl_nil ?_
  refine au_then ?_
  refine wp_ret ?_
  exact bodyPost_ret (v := .bool true) (results_tmp1 Try.results9 _ _ _ (by kernel_rfl)) (by kernel_rfl) ⟨rfl, below_grown M.old⟩

set_option maxRecDepth 100000 in
set_option maxHeartbeats 4000000 in
set_option linter.unusedSimpArgs false in
theorem c_reads (s : ByteArray) (w : World) (hL : Laid w)  :
    Calls Try.prog 4 #[.string s] w fun r w' => r = .returned (.bool true) ∧ Below w.heap.size w w' := by
  go_enter Try.func4, Try.ntmps4
  have M := Mem.start hL
  refine wp_seq ?_
  refine rg_lit ?_
  refine pl_val (want_no rfl) (some 2) rfl (.bool false) (fun _ => by kernel_rfl) ?_
  refine pl_nil ?_
  refine au_then ?_
  refine wp_seq ?_
  refine wp_seq ?_
  refine rg_lit ?_
  refine pl_val (want_no rfl) (some 7) rfl (.string s) (fun _ => by kernel_rfl) ?_
  refine pl_val (want_no rfl) (some 8) rfl (.int .i64 (s.size : Int)) (fun _ => by kernel_rfl) ?_
  by_cases c0 : 131072 < (s.size : Int)
  · skip
    refine pl_val (want_no rfl) (some 9) rfl (.bool true) (fun w => Eq.trans (b := .ok (.value (.bool (decide (131072 < (s.size : Int))))) w) (by kernel_rfl) (by rw [decide_eq_true (c0)])) ?_
    refine pl_nil ?_
    refine au_then ?_
    refine wp_cond_true (by kernel_rfl) ?_
    refine wp_seq ?_
    refine rg_lit ?_
    refine pl_call M (want_no rfl) (some 10) rfl 9 #[] (.bool true) (fun _ => by kernel_rfl) (fun w M => c_works w M.laid) ?_
    intro u1 M
    refine pl_val (want_no rfl) (some 2) rfl (.bool true) (fun _ => by kernel_rfl) ?_
    refine pl_nil ?_
    refine au_then ?_
    refine wp_ret ?_
    refine au_then_ret ?_
    exact bodyPost_ret (v := .bool true) (results_tmp1 Try.results4 _ _ _ (by kernel_rfl)) (by kernel_rfl) ⟨rfl, below_grown M.old⟩
  · skip
    refine pl_val (want_no rfl) (some 9) rfl (.bool false) (fun w => Eq.trans (b := .ok (.value (.bool (decide (131072 < (s.size : Int))))) w) (by kernel_rfl) (by rw [decide_eq_false (c0)])) ?_
    refine pl_nil ?_
    refine au_then ?_
    refine wp_cond_false (by kernel_rfl) ?_
    refine wp_skip ?_
    refine au_then ?_
    refine wp_seq ?_
    refine rg_lit ?_
    refine pl_val (want_no rfl) (some 12) rfl (.string s) (fun _ => by kernel_rfl) ?_
    refine pl_call M (want_no rfl) (some 13) rfl 18 #[.string s] (.tuple #[.agg (av 17 (ls [.int .u8 (deM s).ty, .string (deM s).fr, .string (deM s).tq, .int .u32 (deM s).ix, .int .u32 (deM s).pe, .int .u64 (deM s).ct, .int .u64 (deM s).ba, .int .u64 (deM s).ve, .string (deM s).tx, .bool ((deM s).ev), .int .u64 (deM s).eh, .int .u64 (deM s).el, .int .u16 (deM s).ep, .int .u16 (deM s).co, .string (deM s).tt, .string (deM s).da, .string (deM s).sg])), .int .i64 (deE s)]) (fun _ => by kernel_rfl) (fun w M => c_Decode s w M.laid) ?_
    intro u1 M
    refine pl_val (want_no rfl) (some 11) rfl (.tuple #[.agg (av 17 (ls [.int .u8 (deM s).ty, .string (deM s).fr, .string (deM s).tq, .int .u32 (deM s).ix, .int .u32 (deM s).pe, .int .u64 (deM s).ct, .int .u64 (deM s).ba, .int .u64 (deM s).ve, .string (deM s).tx, .bool ((deM s).ev), .int .u64 (deM s).eh, .int .u64 (deM s).el, .int .u16 (deM s).ep, .int .u16 (deM s).co, .string (deM s).tt, .string (deM s).da, .string (deM s).sg])), .int .i64 (deE s)]) (fun _ => by kernel_rfl) ?_
    refine pl_val (want_no rfl) (some 14) rfl (.agg (av 17 (ls [.int .u8 (deM s).ty, .string (deM s).fr, .string (deM s).tq, .int .u32 (deM s).ix, .int .u32 (deM s).pe, .int .u64 (deM s).ct, .int .u64 (deM s).ba, .int .u64 (deM s).ve, .string (deM s).tx, .bool ((deM s).ev), .int .u64 (deM s).eh, .int .u64 (deM s).el, .int .u16 (deM s).ep, .int .u16 (deM s).co, .string (deM s).tt, .string (deM s).da, .string (deM s).sg]))) (fun _ => by kernel_rfl) ?_
    refine pl_val (want_no rfl) (some 15) rfl (.int .i64 (deE s)) (fun _ => by kernel_rfl) ?_
    refine pl_new M (want_no rfl) (some 3) rfl (.cells (av 17 (ls [.int .u8 0, .string ⟨#[]⟩, .string ⟨#[]⟩, .int .u32 0, .int .u32 0, .int .u64 0, .int .u64 0, .int .u64 0, .string ⟨#[]⟩, .bool false, .int .u64 0, .int .u64 0, .int .u16 0, .int .u16 0, .string ⟨#[]⟩, .string ⟨#[]⟩, .string ⟨#[]⟩])) 30) (fun _ => by kernel_rfl) ?_
    intro g1 u2 M
    replace M : Mem ⟨w, []⟩ [⟨g1, .cells (av 17 (ls [.int .u8 0, .string ⟨#[]⟩, .string ⟨#[]⟩, .int .u32 0, .int .u32 0, .int .u64 0, .int .u64 0, .int .u64 0, .string ⟨#[]⟩, .bool false, .int .u64 0, .int .u64 0, .int .u16 0, .int .u16 0, .string ⟨#[]⟩, .string ⟨#[]⟩, .string ⟨#[]⟩])) 30⟩] u2 := M
    refine pl_put M (want_no rfl) rfl 30 _ _ rfl 0 g1 0 (by kernel_rfl) 17 30 (ls [.int .u8 0, .string ⟨#[]⟩, .string ⟨#[]⟩, .int .u32 0, .int .u32 0, .int .u64 0, .int .u64 0, .int .u64 0, .string ⟨#[]⟩, .bool false, .int .u64 0, .int .u64 0, .int .u16 0, .int .u16 0, .string ⟨#[]⟩, .string ⟨#[]⟩, .string ⟨#[]⟩]) rfl 17 (ls [.int .u8 (deM s).ty, .string (deM s).fr, .string (deM s).tq, .int .u32 (deM s).ix, .int .u32 (deM s).pe, .int .u64 (deM s).ct, .int .u64 (deM s).ba, .int .u64 (deM s).ve, .string (deM s).tx, .bool ((deM s).ev), .int .u64 (deM s).eh, .int .u64 (deM s).el, .int .u16 (deM s).ep, .int .u16 (deM s).co, .string (deM s).tt, .string (deM s).da, .string (deM s).sg]) (ls [.int .u8 (deM s).ty, .string (deM s).fr, .string (deM s).tq, .int .u32 (deM s).ix, .int .u32 (deM s).pe, .int .u64 (deM s).ct, .int .u64 (deM s).ba, .int .u64 (deM s).ve, .string (deM s).tx, .bool ((deM s).ev), .int .u64 (deM s).eh, .int .u64 (deM s).el, .int .u16 (deM s).ep, .int .u16 (deM s).co, .string (deM s).tt, .string (deM s).da, .string (deM s).sg]) (by kernel_rfl) inz30 (by decide) (one_ls _ rfl) (fun j hj => by rw [if_pos (by omega), Nat.sub_zero]) ?_
    intro u3 M
    replace M : Mem ⟨w, []⟩ [⟨g1, .cells (av 17 (ls [.int .u8 (deM s).ty, .string (deM s).fr, .string (deM s).tq, .int .u32 (deM s).ix, .int .u32 (deM s).pe, .int .u64 (deM s).ct, .int .u64 (deM s).ba, .int .u64 (deM s).ve, .string (deM s).tx, .bool ((deM s).ev), .int .u64 (deM s).eh, .int .u64 (deM s).el, .int .u16 (deM s).ep, .int .u16 (deM s).co, .string (deM s).tt, .string (deM s).da, .string (deM s).sg])) 30⟩] u3 := M
    refine pl_val (want_no rfl) (some 4) rfl (.int .i64 (deE s)) (fun _ => by kernel_rfl) ?_
    refine pl_nil ?_
    refine au_then ?_
    refine wp_seq ?_
    refine rg_lit ?_
    refine pl_val (want_no rfl) (some 17) rfl (.string s) (fun _ => by kernel_rfl) ?_
    refine pl_call M (want_no rfl) (some 18) rfl 19 #[.string s] (.tuple #[.agg (av 17 (ls [.int .u8 (deM s).ty, .string (deM s).fr, .string (deM s).tq, .int .u32 (deM s).ix, .int .u32 (deM s).pe, .int .u64 (deM s).ct, .int .u64 (deM s).ba, .int .u64 (deM s).ve, .string (deM s).tx, .bool ((deM s).ev), .int .u64 (deM s).eh, .int .u64 (deM s).el, .int .u16 (deM s).ep, .int .u16 (deM s).co, .string (deM s).tt, .string (deM s).da, .string (deM s).sg])), .int .i64 (deE s)]) (fun _ => by kernel_rfl) (fun w M => call_val (d_Decode s w M.laid) (by rw [← (dec_eq s).1, ← (dec_eq s).2])) ?_
    intro u4 M
    refine pl_val (want_no rfl) (some 16) rfl (.tuple #[.agg (av 17 (ls [.int .u8 (deM s).ty, .string (deM s).fr, .string (deM s).tq, .int .u32 (deM s).ix, .int .u32 (deM s).pe, .int .u64 (deM s).ct, .int .u64 (deM s).ba, .int .u64 (deM s).ve, .string (deM s).tx, .bool ((deM s).ev), .int .u64 (deM s).eh, .int .u64 (deM s).el, .int .u16 (deM s).ep, .int .u16 (deM s).co, .string (deM s).tt, .string (deM s).da, .string (deM s).sg])), .int .i64 (deE s)]) (fun _ => by kernel_rfl) ?_
    refine pl_val (want_no rfl) (some 19) rfl (.agg (av 17 (ls [.int .u8 (deM s).ty, .string (deM s).fr, .string (deM s).tq, .int .u32 (deM s).ix, .int .u32 (deM s).pe, .int .u64 (deM s).ct, .int .u64 (deM s).ba, .int .u64 (deM s).ve, .string (deM s).tx, .bool ((deM s).ev), .int .u64 (deM s).eh, .int .u64 (deM s).el, .int .u16 (deM s).ep, .int .u16 (deM s).co, .string (deM s).tt, .string (deM s).da, .string (deM s).sg]))) (fun _ => by kernel_rfl) ?_
    refine pl_val (want_no rfl) (some 20) rfl (.int .i64 (deE s)) (fun _ => by kernel_rfl) ?_
    refine pl_new M (want_no rfl) (some 5) rfl (.cells (av 17 (ls [.int .u8 0, .string ⟨#[]⟩, .string ⟨#[]⟩, .int .u32 0, .int .u32 0, .int .u64 0, .int .u64 0, .int .u64 0, .string ⟨#[]⟩, .bool false, .int .u64 0, .int .u64 0, .int .u16 0, .int .u16 0, .string ⟨#[]⟩, .string ⟨#[]⟩, .string ⟨#[]⟩])) 30) (fun _ => by kernel_rfl) ?_
    intro g2 u5 M
    replace M : Mem ⟨w, []⟩ [⟨g1, .cells (av 17 (ls [.int .u8 (deM s).ty, .string (deM s).fr, .string (deM s).tq, .int .u32 (deM s).ix, .int .u32 (deM s).pe, .int .u64 (deM s).ct, .int .u64 (deM s).ba, .int .u64 (deM s).ve, .string (deM s).tx, .bool ((deM s).ev), .int .u64 (deM s).eh, .int .u64 (deM s).el, .int .u16 (deM s).ep, .int .u16 (deM s).co, .string (deM s).tt, .string (deM s).da, .string (deM s).sg])) 30⟩, ⟨g2, .cells (av 17 (ls [.int .u8 0, .string ⟨#[]⟩, .string ⟨#[]⟩, .int .u32 0, .int .u32 0, .int .u64 0, .int .u64 0, .int .u64 0, .string ⟨#[]⟩, .bool false, .int .u64 0, .int .u64 0, .int .u16 0, .int .u16 0, .string ⟨#[]⟩, .string ⟨#[]⟩, .string ⟨#[]⟩])) 30⟩] u5 := M
    refine pl_put M (want_no rfl) rfl 30 _ _ rfl 1 g2 0 (by kernel_rfl) 17 30 (ls [.int .u8 0, .string ⟨#[]⟩, .string ⟨#[]⟩, .int .u32 0, .int .u32 0, .int .u64 0, .int .u64 0, .int .u64 0, .string ⟨#[]⟩, .bool false, .int .u64 0, .int .u64 0, .int .u16 0, .int .u16 0, .string ⟨#[]⟩, .string ⟨#[]⟩, .string ⟨#[]⟩]) rfl 17 (ls [.int .u8 (deM s).ty, .string (deM s).fr, .string (deM s).tq, .int .u32 (deM s).ix, .int .u32 (deM s).pe, .int .u64 (deM s).ct, .int .u64 (deM s).ba, .int .u64 (deM s).ve, .string (deM s).tx, .bool ((deM s).ev), .int .u64 (deM s).eh, .int .u64 (deM s).el, .int .u16 (deM s).ep, .int .u16 (deM s).co, .string (deM s).tt, .string (deM s).da, .string (deM s).sg]) (ls [.int .u8 (deM s).ty, .string (deM s).fr, .string (deM s).tq, .int .u32 (deM s).ix, .int .u32 (deM s).pe, .int .u64 (deM s).ct, .int .u64 (deM s).ba, .int .u64 (deM s).ve, .string (deM s).tx, .bool ((deM s).ev), .int .u64 (deM s).eh, .int .u64 (deM s).el, .int .u16 (deM s).ep, .int .u16 (deM s).co, .string (deM s).tt, .string (deM s).da, .string (deM s).sg]) (by kernel_rfl) inz30 (by decide) (one_ls _ rfl) (fun j hj => by rw [if_pos (by omega), Nat.sub_zero]) ?_
    intro u6 M
    replace M : Mem ⟨w, []⟩ [⟨g1, .cells (av 17 (ls [.int .u8 (deM s).ty, .string (deM s).fr, .string (deM s).tq, .int .u32 (deM s).ix, .int .u32 (deM s).pe, .int .u64 (deM s).ct, .int .u64 (deM s).ba, .int .u64 (deM s).ve, .string (deM s).tx, .bool ((deM s).ev), .int .u64 (deM s).eh, .int .u64 (deM s).el, .int .u16 (deM s).ep, .int .u16 (deM s).co, .string (deM s).tt, .string (deM s).da, .string (deM s).sg])) 30⟩, ⟨g2, .cells (av 17 (ls [.int .u8 (deM s).ty, .string (deM s).fr, .string (deM s).tq, .int .u32 (deM s).ix, .int .u32 (deM s).pe, .int .u64 (deM s).ct, .int .u64 (deM s).ba, .int .u64 (deM s).ve, .string (deM s).tx, .bool ((deM s).ev), .int .u64 (deM s).eh, .int .u64 (deM s).el, .int .u16 (deM s).ep, .int .u16 (deM s).co, .string (deM s).tt, .string (deM s).da, .string (deM s).sg])) 30⟩] u6 := M
    refine pl_val (want_no rfl) (some 6) rfl (.int .i64 (deE s)) (fun _ => by kernel_rfl) ?_
    refine pl_nil ?_
    refine au_then ?_
    refine wp_seq ?_
    refine rg_lit ?_
    refine pl_load M (want_no rfl) (some 21) rfl 30 _ rfl 0 g1 0 (by kernel_rfl) 17 30 (ls [.int .u8 (deM s).ty, .string (deM s).fr, .string (deM s).tq, .int .u32 (deM s).ix, .int .u32 (deM s).pe, .int .u64 (deM s).ct, .int .u64 (deM s).ba, .int .u64 (deM s).ve, .string (deM s).tx, .bool ((deM s).ev), .int .u64 (deM s).eh, .int .u64 (deM s).el, .int .u16 (deM s).ep, .int .u16 (deM s).co, .string (deM s).tt, .string (deM s).da, .string (deM s).sg]) rfl 17 (ls [.int .u8 (deM s).ty, .string (deM s).fr, .string (deM s).tq, .int .u32 (deM s).ix, .int .u32 (deM s).pe, .int .u64 (deM s).ct, .int .u64 (deM s).ba, .int .u64 (deM s).ve, .string (deM s).tx, .bool ((deM s).ev), .int .u64 (deM s).eh, .int .u64 (deM s).el, .int .u16 (deM s).ep, .int .u16 (deM s).co, .string (deM s).tt, .string (deM s).da, .string (deM s).sg]) (fun j _ => by rw [Nat.zero_add]) (by decide) _ Try.underlying30 rfl inz30 ?_
    refine pl_load M (want_no rfl) (some 22) rfl 30 _ rfl 1 g2 0 (by kernel_rfl) 17 30 (ls [.int .u8 (deM s).ty, .string (deM s).fr, .string (deM s).tq, .int .u32 (deM s).ix, .int .u32 (deM s).pe, .int .u64 (deM s).ct, .int .u64 (deM s).ba, .int .u64 (deM s).ve, .string (deM s).tx, .bool ((deM s).ev), .int .u64 (deM s).eh, .int .u64 (deM s).el, .int .u16 (deM s).ep, .int .u16 (deM s).co, .string (deM s).tt, .string (deM s).da, .string (deM s).sg]) rfl 17 (ls [.int .u8 (deM s).ty, .string (deM s).fr, .string (deM s).tq, .int .u32 (deM s).ix, .int .u32 (deM s).pe, .int .u64 (deM s).ct, .int .u64 (deM s).ba, .int .u64 (deM s).ve, .string (deM s).tx, .bool ((deM s).ev), .int .u64 (deM s).eh, .int .u64 (deM s).el, .int .u16 (deM s).ep, .int .u16 (deM s).co, .string (deM s).tt, .string (deM s).da, .string (deM s).sg]) (fun j _ => by rw [Nat.zero_add]) (by decide) _ Try.underlying30 rfl inz30 ?_
    refine pl_val (want_no rfl) (some 23) rfl (.bool true) (fun w => (eql30 ((deM s).ty) ((deM s).ty) ((deM s).fr) ((deM s).fr) ((deM s).tq) ((deM s).tq) ((deM s).ix) ((deM s).ix) ((deM s).pe) ((deM s).pe) ((deM s).ct) ((deM s).ct) ((deM s).ba) ((deM s).ba) ((deM s).ve) ((deM s).ve) ((deM s).tx) ((deM s).tx) ((deM s).ev) ((deM s).ev) ((deM s).eh) ((deM s).eh) ((deM s).el) ((deM s).el) ((deM s).ep) ((deM s).ep) ((deM s).co) ((deM s).co) ((deM s).tt) ((deM s).tt) ((deM s).da) ((deM s).da) ((deM s).sg) ((deM s).sg) _ _ rfl (by kernel_rfl) (by kernel_rfl) w).trans (by rw [decide_eq_true (⟨rfl, rfl, rfl, rfl, rfl, rfl, rfl, rfl, rfl, rfl, rfl, rfl, rfl, rfl, rfl, rfl, rfl⟩ : (deM s).ty = (deM s).ty ∧ (deM s).fr = (deM s).fr ∧ (deM s).tq = (deM s).tq ∧ (deM s).ix = (deM s).ix ∧ (deM s).pe = (deM s).pe ∧ (deM s).ct = (deM s).ct ∧ (deM s).ba = (deM s).ba ∧ (deM s).ve = (deM s).ve ∧ (deM s).tx = (deM s).tx ∧ (deM s).ev = (deM s).ev ∧ (deM s).eh = (deM s).eh ∧ (deM s).el = (deM s).el ∧ (deM s).ep = (deM s).ep ∧ (deM s).co = (deM s).co ∧ (deM s).tt = (deM s).tt ∧ (deM s).da = (deM s).da ∧ (deM s).sg = (deM s).sg)])) ?_
    refine pl_val (want_no rfl) (some 24) rfl (.bool true) (fun _ => by kernel_rfl) ?_
    refine pl_val (want_on 3 true rfl 24 rfl (by kernel_rfl)) (some 25) rfl (.int .i64 (deE s)) (fun _ => by kernel_rfl) ?_
    refine pl_val (want_on 3 true rfl 24 rfl (by kernel_rfl)) (some 26) rfl (.int .i64 (deE s)) (fun _ => by kernel_rfl) ?_
    refine pl_val (want_on 3 true rfl 24 rfl (by kernel_rfl)) (some 27) rfl (.bool true) (fun w => Eq.trans (b := .ok (.value (.bool (decide ((deE s) = (deE s))))) w) (by kernel_rfl) (by rw [decide_eq_true (by omega)])) ?_
    refine pl_val (want_no rfl) (some 28) rfl (.bool true) (fun _ => by kernel_rfl) ?_
    refine pl_val (want_no rfl) (some 29) rfl (.bool true) (fun _ => by kernel_rfl) ?_
    refine pl_call M (want_on 8 true rfl 29 rfl (by kernel_rfl)) (some 30) rfl 9 #[] (.bool true) (fun _ => by kernel_rfl) (fun w M => c_works w M.laid) ?_
    intro u7 M
    refine pl_val (want_no rfl) (some 31) rfl (.bool true) (fun _ => by kernel_rfl) ?_
    refine pl_val (want_no rfl) (some 2) rfl (.bool true) (fun _ => by kernel_rfl) ?_
    refine pl_nil ?_
    refine au_then ?_
    refine wp_ret ?_
    exact bodyPost_ret (v := .bool true) (results_tmp1 Try.results4 _ _ _ (by kernel_rfl)) (by kernel_rfl) ⟨rfl, below_grown M.old⟩

theorem fN_nn (n : ByteArray) : ∀ j, j ≤ 21 → 0 ≤ fN n j ∧ fN n j < 256
  | 0, _ => ⟨Int.le_refl _, by show (0 : Int) < 256; decide⟩
  | j + 1, h => by
    unfold fN
    split
    · rw [cv_u8]
      omega
    · exact fN_nn n j (by omega)
theorem ofE_t {n : ByteArray} (h : 0 < fN n 21) : ofE n = 0 := by
  unfold ofE
  rw [fN_ofT, if_neg (by omega)]
theorem ofE_f {n : ByteArray} (h : ¬ 0 < fN n 21) : ofE n = 150 := by
  have := fN_nn n 21 (by decide)
  unfold ofE
  rw [fN_ofT, if_pos (by omega)]
set_option maxRecDepth 100000 in
set_option maxHeartbeats 4000000 in
set_option linter.unusedSimpArgs false in
theorem c_writes (m : Mg) (n_ : ByteArray) (hb : bgM m) (hr : okM m) (w : World) (hL : Laid w)  :
    Calls Try.prog 3 #[.agg (av 17 (ls [.int .u8 m.ty, .string m.fr, .string m.tq, .int .u32 m.ix, .int .u32 m.pe, .int .u64 m.ct, .int .u64 m.ba, .int .u64 m.ve, .string m.tx, .bool (m.ev), .int .u64 m.eh, .int .u64 m.el, .int .u16 m.ep, .int .u16 m.co, .string m.tt, .string m.da, .string m.sg])), .string n_] w fun r w' => r = .returned (.bool true) ∧ Below w.heap.size w w' := by
  go_enter Try.func3, Try.ntmps3
  have M := Mem.start hL
  refine wp_seq ?_
  refine rg_lit ?_
  refine pl_new M (want_no rfl) (some 2) rfl (.cells (av 17 (ls [.int .u8 m.ty, .string m.fr, .string m.tq, .int .u32 m.ix, .int .u32 m.pe, .int .u64 m.ct, .int .u64 m.ba, .int .u64 m.ve, .string m.tx, .bool (m.ev), .int .u64 m.eh, .int .u64 m.el, .int .u16 m.ep, .int .u16 m.co, .string m.tt, .string m.da, .string m.sg])) 30) (fun _ => by kernel_rfl) ?_
  intro g1 u1 M
  replace M : Mem ⟨w, []⟩ [⟨g1, .cells (av 17 (ls [.int .u8 m.ty, .string m.fr, .string m.tq, .int .u32 m.ix, .int .u32 m.pe, .int .u64 m.ct, .int .u64 m.ba, .int .u64 m.ve, .string m.tx, .bool (m.ev), .int .u64 m.eh, .int .u64 m.el, .int .u16 m.ep, .int .u16 m.co, .string m.tt, .string m.da, .string m.sg])) 30⟩] u1 := M
  refine pl_val (want_no rfl) (some 4) rfl (.bool false) (fun _ => by kernel_rfl) ?_
  refine pl_nil ?_
  refine au_then ?_
  refine wp_seq ?_
  refine wp_seq ?_
  refine rg_lit ?_
  refine pl_load M (want_no rfl) (some 15) rfl 30 _ rfl 0 g1 0 (by kernel_rfl) 17 30 (ls [.int .u8 m.ty, .string m.fr, .string m.tq, .int .u32 m.ix, .int .u32 m.pe, .int .u64 m.ct, .int .u64 m.ba, .int .u64 m.ve, .string m.tx, .bool (m.ev), .int .u64 m.eh, .int .u64 m.el, .int .u16 m.ep, .int .u16 m.co, .string m.tt, .string m.da, .string m.sg]) rfl 17 (ls [.int .u8 m.ty, .string m.fr, .string m.tq, .int .u32 m.ix, .int .u32 m.pe, .int .u64 m.ct, .int .u64 m.ba, .int .u64 m.ve, .string m.tx, .bool (m.ev), .int .u64 m.eh, .int .u64 m.el, .int .u16 m.ep, .int .u16 m.co, .string m.tt, .string m.da, .string m.sg]) (fun j _ => by rw [Nat.zero_add]) (by decide) _ Try.underlying30 rfl inz30 ?_
  rcases Bool.eq_false_or_eq_true (hvB m) with c0 | c0
  · skip
    refine pl_call M (want_no rfl) (some 16) rfl 8 #[.agg (av 17 (ls [.int .u8 m.ty, .string m.fr, .string m.tq, .int .u32 m.ix, .int .u32 m.pe, .int .u64 m.ct, .int .u64 m.ba, .int .u64 m.ve, .string m.tx, .bool (m.ev), .int .u64 m.eh, .int .u64 m.el, .int .u16 m.ep, .int .u16 m.co, .string m.tt, .string m.da, .string m.sg]))] (.bool true) (fun _ => by kernel_rfl) (fun w M => call_val (c_heavy m hb w M.laid) (congrArg Value.bool c0)) ?_
    intro u2 M
    refine pl_val (want_no rfl) (some 17) rfl (.bool true) (fun _ => by kernel_rfl) ?_
    refine pl_skip (want_off 2 false rfl 17 rfl (by kernel_rfl)) (some 18) rfl ?_
    refine pl_skip (want_off 2 false rfl 17 rfl (by kernel_rfl)) (some 19) rfl ?_
    refine pl_skip (want_off 2 false rfl 17 rfl (by kernel_rfl)) (some 20) rfl ?_
    refine pl_val (want_no rfl) (some 21) rfl (.bool true) (fun _ => by kernel_rfl) ?_
    refine pl_nil ?_
    refine au_then ?_
    refine wp_cond_true (by kernel_rfl) ?_
    refine wp_seq ?_
    refine rg_lit ?_
    refine pl_call M (want_no rfl) (some 22) rfl 9 #[] (.bool true) (fun _ => by kernel_rfl) (fun w M => c_works w M.laid) ?_
    intro u3 M
    refine pl_val (want_no rfl) (some 4) rfl (.bool true) (fun _ => by kernel_rfl) ?_
    refine pl_nil ?_
    refine au_then ?_
    refine wp_ret ?_
    refine au_then_ret ?_
    exact bodyPost_ret (v := .bool true) (results_tmp1 Try.results3 _ _ _ (by kernel_rfl)) (by kernel_rfl) ⟨rfl, below_grown M.old⟩
  · skip
    refine pl_call M (want_no rfl) (some 16) rfl 8 #[.agg (av 17 (ls [.int .u8 m.ty, .string m.fr, .string m.tq, .int .u32 m.ix, .int .u32 m.pe, .int .u64 m.ct, .int .u64 m.ba, .int .u64 m.ve, .string m.tx, .bool (m.ev), .int .u64 m.eh, .int .u64 m.el, .int .u16 m.ep, .int .u16 m.co, .string m.tt, .string m.da, .string m.sg]))] (.bool false) (fun _ => by kernel_rfl) (fun w M => call_val (c_heavy m hb w M.laid) (congrArg Value.bool c0)) ?_
    intro u2 M
    refine pl_val (want_no rfl) (some 17) rfl (.bool false) (fun _ => by kernel_rfl) ?_
    refine pl_val (want_on 2 false rfl 17 rfl (by kernel_rfl)) (some 18) rfl (.string n_) (fun _ => by kernel_rfl) ?_
    refine pl_val (want_on 2 false rfl 17 rfl (by kernel_rfl)) (some 19) rfl (.int .i64 (n_.size : Int)) (fun _ => by kernel_rfl) ?_
    by_cases c1 : 4096 < (n_.size : Int)
    · skip
      refine pl_val (want_on 2 false rfl 17 rfl (by kernel_rfl)) (some 20) rfl (.bool true) (fun w => Eq.trans (b := .ok (.value (.bool (decide (4096 < (n_.size : Int))))) w) (by kernel_rfl) (by rw [decide_eq_true (c1)])) ?_
      refine pl_val (want_no rfl) (some 21) rfl (.bool true) (fun _ => by kernel_rfl) ?_
      refine pl_nil ?_
      refine au_then ?_
      refine wp_cond_true (by kernel_rfl) ?_
      refine wp_seq ?_
      refine rg_lit ?_
      refine pl_call M (want_no rfl) (some 22) rfl 9 #[] (.bool true) (fun _ => by kernel_rfl) (fun w M => c_works w M.laid) ?_
      intro u3 M
      refine pl_val (want_no rfl) (some 4) rfl (.bool true) (fun _ => by kernel_rfl) ?_
      refine pl_nil ?_
      refine au_then ?_
      refine wp_ret ?_
      refine au_then_ret ?_
      exact bodyPost_ret (v := .bool true) (results_tmp1 Try.results3 _ _ _ (by kernel_rfl)) (by kernel_rfl) ⟨rfl, below_grown M.old⟩
    · skip
      refine pl_val (want_on 2 false rfl 17 rfl (by kernel_rfl)) (some 20) rfl (.bool false) (fun w => Eq.trans (b := .ok (.value (.bool (decide (4096 < (n_.size : Int))))) w) (by kernel_rfl) (by rw [decide_eq_false (c1)])) ?_
      refine pl_val (want_no rfl) (some 21) rfl (.bool false) (fun _ => by kernel_rfl) ?_
      refine pl_nil ?_
      refine au_then ?_
      refine wp_cond_false (by kernel_rfl) ?_
      refine wp_skip ?_
      refine au_then ?_
      refine wp_seq ?_
      refine rg_lit ?_
      refine pl_load M (want_no rfl) (some 24) rfl 30 _ rfl 0 g1 0 (by kernel_rfl) 17 30 (ls [.int .u8 m.ty, .string m.fr, .string m.tq, .int .u32 m.ix, .int .u32 m.pe, .int .u64 m.ct, .int .u64 m.ba, .int .u64 m.ve, .string m.tx, .bool (m.ev), .int .u64 m.eh, .int .u64 m.el, .int .u16 m.ep, .int .u16 m.co, .string m.tt, .string m.da, .string m.sg]) rfl 17 (ls [.int .u8 m.ty, .string m.fr, .string m.tq, .int .u32 m.ix, .int .u32 m.pe, .int .u64 m.ct, .int .u64 m.ba, .int .u64 m.ve, .string m.tx, .bool (m.ev), .int .u64 m.eh, .int .u64 m.el, .int .u16 m.ep, .int .u16 m.co, .string m.tt, .string m.da, .string m.sg]) (fun j _ => by rw [Nat.zero_add]) (by decide) _ Try.underlying30 rfl inz30 ?_
      refine pl_call M (want_no rfl) (some 25) rfl 10 #[.agg (av 17 (ls [.int .u8 m.ty, .string m.fr, .string m.tq, .int .u32 m.ix, .int .u32 m.pe, .int .u64 m.ct, .int .u64 m.ba, .int .u64 m.ve, .string m.tx, .bool (m.ev), .int .u64 m.eh, .int .u64 m.el, .int .u16 m.ep, .int .u16 m.co, .string m.tt, .string m.da, .string m.sg]))] (.tuple #[.string (eO m), .int .i64 (mE m)]) (fun _ => by kernel_rfl) (fun w M => c_Encode m hr.ty (hv_sm c0) w M.laid) ?_
      intro u3 M
      refine pl_val (want_no rfl) (some 23) rfl (.tuple #[.string (eO m), .int .i64 (mE m)]) (fun _ => by kernel_rfl) ?_
      refine pl_val (want_no rfl) (some 26) rfl (.string (eO m)) (fun _ => by kernel_rfl) ?_
      refine pl_val (want_no rfl) (some 27) rfl (.int .i64 (mE m)) (fun _ => by kernel_rfl) ?_
      refine pl_val (want_no rfl) (some 5) rfl (.string (eO m)) (fun _ => by kernel_rfl) ?_
      refine pl_val (want_no rfl) (some 6) rfl (.int .i64 (mE m)) (fun _ => by kernel_rfl) ?_
      refine pl_nil ?_
      refine au_then ?_
      refine wp_seq ?_
      refine rg_lit ?_
      refine pl_load M (want_no rfl) (some 29) rfl 30 _ rfl 0 g1 0 (by kernel_rfl) 17 30 (ls [.int .u8 m.ty, .string m.fr, .string m.tq, .int .u32 m.ix, .int .u32 m.pe, .int .u64 m.ct, .int .u64 m.ba, .int .u64 m.ve, .string m.tx, .bool (m.ev), .int .u64 m.eh, .int .u64 m.el, .int .u16 m.ep, .int .u16 m.co, .string m.tt, .string m.da, .string m.sg]) rfl 17 (ls [.int .u8 m.ty, .string m.fr, .string m.tq, .int .u32 m.ix, .int .u32 m.pe, .int .u64 m.ct, .int .u64 m.ba, .int .u64 m.ve, .string m.tx, .bool (m.ev), .int .u64 m.eh, .int .u64 m.el, .int .u16 m.ep, .int .u16 m.co, .string m.tt, .string m.da, .string m.sg]) (fun j _ => by rw [Nat.zero_add]) (by decide) _ Try.underlying30 rfl inz30 ?_
      refine pl_call M (want_no rfl) (some 30) rfl 11 #[.agg (av 17 (ls [.int .u8 m.ty, .string m.fr, .string m.tq, .int .u32 m.ix, .int .u32 m.pe, .int .u64 m.ct, .int .u64 m.ba, .int .u64 m.ve, .string m.tx, .bool (m.ev), .int .u64 m.eh, .int .u64 m.el, .int .u16 m.ep, .int .u16 m.co, .string m.tt, .string m.da, .string m.sg]))] (.tuple #[.string (eO m), .int .i64 (mE m)]) (fun _ => by kernel_rfl) (fun w M => call_val (d_Encode m hr.ty (hv_sm c0) w M.laid) (by rw [← eO_deO m hr, ← mE_dE m hr])) ?_
      intro u4 M
      refine pl_val (want_no rfl) (some 28) rfl (.tuple #[.string (eO m), .int .i64 (mE m)]) (fun _ => by kernel_rfl) ?_
      refine pl_val (want_no rfl) (some 31) rfl (.string (eO m)) (fun _ => by kernel_rfl) ?_
      refine pl_val (want_no rfl) (some 32) rfl (.int .i64 (mE m)) (fun _ => by kernel_rfl) ?_
      refine pl_val (want_no rfl) (some 7) rfl (.string (eO m)) (fun _ => by kernel_rfl) ?_
      refine pl_val (want_no rfl) (some 8) rfl (.int .i64 (mE m)) (fun _ => by kernel_rfl) ?_
      refine pl_nil ?_
      refine au_then ?_
      refine wp_seq ?_
      refine rg_lit ?_
      refine pl_val (want_no rfl) (some 34) rfl (.string n_) (fun _ => by kernel_rfl) ?_
      by_cases c2 : 0 < (fN n_ 21)
      · skip
        refine pl_call M (want_no rfl) (some 35) rfl 12 #[.string n_] (.tuple #[.int .u8 (fN n_ 21), .int .i64 0]) (fun _ => by kernel_rfl) (fun w M => call_val (c_Of0 n_ w M.laid) (by rw [ofE_t c2, fN_ofT])) ?_
        intro u5 M
        refine pl_val (want_no rfl) (some 33) rfl (.tuple #[.int .u8 (fN n_ 21), .int .i64 0]) (fun _ => by kernel_rfl) ?_
        refine pl_val (want_no rfl) (some 36) rfl (.int .u8 (fN n_ 21)) (fun _ => by kernel_rfl) ?_
        refine pl_val (want_no rfl) (some 37) rfl (.int .i64 0) (fun _ => by kernel_rfl) ?_
        refine pl_val (want_no rfl) (some 9) rfl (.int .u8 (fN n_ 21)) (fun _ => by kernel_rfl) ?_
        refine pl_val (want_no rfl) (some 10) rfl (.int .i64 0) (fun _ => by kernel_rfl) ?_
        refine pl_nil ?_
        refine au_then ?_
        refine wp_seq ?_
        refine rg_lit ?_
        refine pl_calln M (want_no rfl) (some 38) rfl 13 #[] (fun g2 => .slice (some ⟨g2, 0, none⟩) 21 21) (.cells (av 21 (fS nmA)) 9) (fun _ => by kernel_rfl) (fun w M => d_Names w M.laid) ?_
        intro g2 u6 M
        replace M : Mem ⟨w, []⟩ [⟨g1, .cells (av 17 (ls [.int .u8 m.ty, .string m.fr, .string m.tq, .int .u32 m.ix, .int .u32 m.pe, .int .u64 m.ct, .int .u64 m.ba, .int .u64 m.ve, .string m.tx, .bool (m.ev), .int .u64 m.eh, .int .u64 m.el, .int .u16 m.ep, .int .u16 m.co, .string m.tt, .string m.da, .string m.sg])) 30⟩, ⟨g2, .cells (av 21 (fS nmA)) 9⟩] u6 := M
        refine pl_val (want_no rfl) (some 11) rfl (.slice (some ⟨g2, 0, none⟩) 21 21) (fun _ => by kernel_rfl) ?_
        refine pl_nil ?_
        refine au_then ?_
        refine wp_seq ?_
        refine rg_lit ?_
        refine pl_val (want_no rfl) (some 12) rfl (.int .u8 0) (fun _ => by kernel_rfl) ?_
        refine pl_val (want_no rfl) (some 13) rfl (.string ⟨#[]⟩) (fun _ => by kernel_rfl) ?_
        refine pl_nil ?_
        refine au_then ?_
        refine wp_seq ?_
        refine wp_seq ?_
        refine rg_lit ?_
        refine pl_val (want_no rfl) (some 14) rfl (.int .i64 0) (fun _ => by kernel_rfl) ?_
        refine pl_nil ?_
        refine au_then ?_
        refine wp_block ?_
        refine au_loop (fun j a w' => ∃ v1 : Nat → Value, a = ⟨#[.agg (av 17 (ls [.int .u8 m.ty, .string m.fr, .string m.tq, .int .u32 m.ix, .int .u32 m.pe, .int .u64 m.ct, .int .u64 m.ba, .int .u64 m.ve, .string m.tx, .bool (m.ev), .int .u64 m.eh, .int .u64 m.el, .int .u16 m.ep, .int .u16 m.co, .string m.tt, .string m.da, .string m.sg])), .string n_, .pointer (some ⟨g1, 0, none⟩), undef, .bool false, .string (eO m), .int .i64 (mE m), .string (eO m), .int .i64 (mE m), .int .u8 (fN n_ 21), .int .i64 0, .slice (some ⟨g2, 0, none⟩) 21 21, .int .u8 (fN n_ j), .string (tN m.ty j), .int .i64 (j : Int), .agg (av 17 (ls [.int .u8 m.ty, .string m.fr, .string m.tq, .int .u32 m.ix, .int .u32 m.pe, .int .u64 m.ct, .int .u64 m.ba, .int .u64 m.ve, .string m.tx, .bool (m.ev), .int .u64 m.eh, .int .u64 m.el, .int .u16 m.ep, .int .u16 m.co, .string m.tt, .string m.da, .string m.sg])), .bool false, .bool false, .string n_, .int .i64 (n_.size : Int), .bool false, .bool false, undef, .tuple #[.string (eO m), .int .i64 (mE m)], .agg (av 17 (ls [.int .u8 m.ty, .string m.fr, .string m.tq, .int .u32 m.ix, .int .u32 m.pe, .int .u64 m.ct, .int .u64 m.ba, .int .u64 m.ve, .string m.tx, .bool (m.ev), .int .u64 m.eh, .int .u64 m.el, .int .u16 m.ep, .int .u16 m.co, .string m.tt, .string m.da, .string m.sg])), .tuple #[.string (eO m), .int .i64 (mE m)], .string (eO m), .int .i64 (mE m), .tuple #[.string (eO m), .int .i64 (mE m)], .agg (av 17 (ls [.int .u8 m.ty, .string m.fr, .string m.tq, .int .u32 m.ix, .int .u32 m.pe, .int .u64 m.ct, .int .u64 m.ba, .int .u64 m.ve, .string m.tx, .bool (m.ev), .int .u64 m.eh, .int .u64 m.el, .int .u16 m.ep, .int .u16 m.co, .string m.tt, .string m.da, .string m.sg])), .tuple #[.string (eO m), .int .i64 (mE m)], .string (eO m), .int .i64 (mE m), .tuple #[.int .u8 (fN n_ 21), .int .i64 0], .string n_, .tuple #[.int .u8 (fN n_ 21), .int .i64 0], .int .u8 (fN n_ 21), .int .i64 0, .slice (some ⟨g2, 0, none⟩) 21 21, v1 39, v1 40, v1 41, v1 42, v1 43, v1 44, v1 45, v1 46, v1 47, v1 48, v1 49, v1 50, v1 51, v1 52, v1 53, v1 54, v1 55, v1 56, v1 57, v1 58, v1 59, v1 60, v1 61, v1 62, v1 63, undef, undef, undef, undef, undef, undef, undef, undef, undef, undef, undef, undef, undef, undef, undef, undef, undef, undef, undef, undef, undef, undef, undef, undef, undef, undef, undef, undef, undef, undef, undef, undef, undef, undef, undef, undef, undef, undef, undef, undef, undef, undef, undef, undef, undef, undef, undef, undef, undef, undef, undef, undef], []⟩ ∧ Mem ⟨w, []⟩ [⟨g1, .cells (av 17 (ls [.int .u8 m.ty, .string m.fr, .string m.tq, .int .u32 m.ix, .int .u32 m.pe, .int .u64 m.ct, .int .u64 m.ba, .int .u64 m.ve, .string m.tx, .bool (m.ev), .int .u64 m.eh, .int .u64 m.el, .int .u16 m.ep, .int .u16 m.co, .string m.tt, .string m.da, .string m.sg])) 30⟩, ⟨g2, .cells (av 21 (fS nmA)) 9⟩] w') 21 ⟨fun k_ => ([undef, undef, undef, undef, undef, undef, undef, undef, undef, undef, undef, undef, undef, undef, undef, undef, undef, undef, undef, undef, undef, undef, undef, undef, undef] : List Value).getD (k_ - 39) undef, by kernel_rfl, M⟩ ?_ ?_
        · intro j a u0 hj hI
          obtain ⟨v1, rfl, M⟩ := hI
          refine wp_seq ?_
          refine wp_seq ?_
          refine rg_lit ?_
          refine pl_val (want_no rfl) (some 39) rfl (.int .i64 (j : Int)) (fun _ => by kernel_rfl) ?_
          refine pl_val (want_no rfl) (some 40) rfl (.slice (some ⟨g2, 0, none⟩) 21 21) (fun _ => by kernel_rfl) ?_
          refine pl_val (want_no rfl) (some 41) rfl (.int .i64 21) (fun _ => by kernel_rfl) ?_
          refine pl_val (want_no rfl) (some 42) rfl (.bool true) (fun w => Eq.trans (b := .ok (.value (.bool (decide ((j : Int) < 21)))) w) (by kernel_rfl) (by rw [decide_eq_true (by omega)])) ?_
          refine pl_nil ?_
          refine au_then ?_
          refine wp_cond_true (by kernel_rfl) ?_
          refine wp_skip ?_
          refine au_then ?_
          refine wp_seq ?_
          refine wp_block ?_
          refine wp_seq ?_
          refine wp_seq ?_
          refine rg_lit ?_
          refine pl_val (want_no rfl) (some 45) rfl (.slice (some ⟨g2, 0, none⟩) 21 21) (fun _ => by kernel_rfl) ?_
          refine pl_val (want_no rfl) (some 46) rfl (.int .i64 (j : Int)) (fun _ => by kernel_rfl) ?_
          refine pl_val (want_no rfl) (some 47) rfl (.pointer (some ⟨g2, j, none⟩)) (run_ix0 38 9 Try.underlying38 inz9 _ _ rfl g2 21 21 (by kernel_rfl) .i64 j (by kernel_rfl) (by omega)) ?_
          refine pl_cell M (want_no rfl) (some 48) rfl 9 _ rfl g2 j (by kernel_rfl) (.string (tg nmA j)) (fun _ => by kernel_rfl) (fun w M => M.cell 1 rfl (by omega) rfl) ?_
          refine pl_val (want_no rfl) (some 49) rfl (.string n_) (fun _ => by kernel_rfl) ?_
          by_cases c3 : (tg nmA j) = n_
          · skip
            refine pl_val (want_no rfl) (some 50) rfl (.bool true) (fun w => Eq.trans (b := .ok (.value (.bool ((tg nmA j).toList == n_.toList))) w) (by kernel_rfl) (by rw [seq_pos c3])) ?_
            refine pl_nil ?_
            refine au_then ?_
            refine wp_cond_true (by kernel_rfl) ?_
            refine rg_lit ?_
            refine pl_val (want_no rfl) (some 51) rfl (.int .i64 (j : Int)) (fun _ => by kernel_rfl) ?_
            refine pl_val (want_no rfl) (some 52) rfl (.int .i64 ((j + 1 : Nat) : Int)) (fun w => Eq.trans (b := .ok (.value (.int .i64 (IntKind.wrap .i64 ((j : Int) + 1)))) w) (by kernel_rfl) (by rw [wrap64 (by omega) (by omega)]; congr 3)) ?_
            refine pl_val (want_no rfl) (some 53) rfl (.int .u8 (cv .u8 ((j + 1 : Nat) : Int))) (fun _ => by kernel_rfl) ?_
            refine pl_val (want_no rfl) (some 12) rfl (.int .u8 (cv .u8 ((j + 1 : Nat) : Int))) (fun _ => by kernel_rfl) ?_
            refine pl_nil ?_
            refine au_then ?_
            refine wp_seq ?_
            refine rg_lit ?_
            refine pl_val (want_no rfl) (some 54) rfl (.pointer (some ⟨g1, 0, none⟩)) (fun _ => by kernel_rfl) ?_
            refine pl_cell M (want_no rfl) (some 55) rfl 5 _ rfl g1 0 (by kernel_rfl) (.int .u8 m.ty) (fun _ => by kernel_rfl) (fun w M => M.cell 0 rfl (by decide) rfl) ?_
            refine pl_val (want_no rfl) (some 56) rfl (.int .i64 m.ty) (fun w => Eq.trans (b := .ok (.value (.int .i64 (cv .i64 m.ty))) w) (by kernel_rfl) (by rw [cv_i64 (by have := hr.ty.1; omega) (by have := hr.ty.2; omega)])) ?_
            refine pl_val (want_no rfl) (some 57) rfl (.int .i64 (j : Int)) (fun _ => by kernel_rfl) ?_
            refine pl_val (want_no rfl) (some 58) rfl (.int .i64 ((j + 1 : Nat) : Int)) (fun w => Eq.trans (b := .ok (.value (.int .i64 (IntKind.wrap .i64 ((j : Int) + 1)))) w) (by kernel_rfl) (by rw [wrap64 (by omega) (by omega)]; congr 3)) ?_
            by_cases c4 : m.ty = ((j + 1 : Nat) : Int)
            · skip
              refine pl_val (want_no rfl) (some 59) rfl (.bool true) (fun w => Eq.trans (b := .ok (.value (.bool (decide (m.ty = ((j + 1 : Nat) : Int))))) w) (by kernel_rfl) (by rw [decide_eq_true (c4)])) ?_
              refine pl_nil ?_
              refine au_then ?_
              refine wp_cond_true (by kernel_rfl) ?_
              refine rg_lit ?_
              refine pl_val (want_no rfl) (some 60) rfl (.slice (some ⟨g2, 0, none⟩) 21 21) (fun _ => by kernel_rfl) ?_
              refine pl_val (want_no rfl) (some 61) rfl (.int .i64 (j : Int)) (fun _ => by kernel_rfl) ?_
              refine pl_val (want_no rfl) (some 62) rfl (.pointer (some ⟨g2, j, none⟩)) (run_ix0 38 9 Try.underlying38 inz9 _ _ rfl g2 21 21 (by kernel_rfl) .i64 j (by kernel_rfl) (by omega)) ?_
              refine pl_cell M (want_no rfl) (some 63) rfl 9 _ rfl g2 j (by kernel_rfl) (.string (tg nmA j)) (fun _ => by kernel_rfl) (fun w M => M.cell 1 rfl (by omega) rfl) ?_
              refine pl_val (want_no rfl) (some 13) rfl (.string (tg nmA j)) (fun _ => by kernel_rfl) ?_
              refine pl_nil ?_
              refine au_block ?_
              refine au_then ?_
              refine rg_lit ?_
              refine pl_val (want_no rfl) (some 43) rfl (.int .i64 (j : Int)) (fun _ => by kernel_rfl) ?_
              refine pl_val (want_no rfl) (some 44) rfl (.int .i64 ((j + 1 : Nat) : Int)) (fun w => Eq.trans (b := .ok (.value (.int .i64 (IntKind.wrap .i64 ((j : Int) + 1)))) w) (by kernel_rfl) (by rw [wrap64 (by omega) (by omega)]; congr 3)) ?_
              refine pl_val (want_no rfl) (some 14) rfl (.int .i64 ((j + 1 : Nat) : Int)) (fun _ => by kernel_rfl) ?_
              refine pl_nil ?_
              refine au_then ?_
              have eF : fN n_ (j + 1) = cv .u8 ((j + 1 : Nat) : Int) := if_pos c3
              have eT : tN m.ty (j + 1) = tg nmA j := if_pos c4
              exact ⟨fun k_ => ([.int .i64 (j : Int), .slice (some ⟨g2, 0, none⟩) 21 21, .int .i64 21, .bool true, .int .i64 (j : Int), .int .i64 ((j + 1 : Nat) : Int), .slice (some ⟨g2, 0, none⟩) 21 21, .int .i64 (j : Int), .pointer (some ⟨g2, j, none⟩), .string (tg nmA j), .string n_, .bool true, .int .i64 (j : Int), .int .i64 ((j + 1 : Nat) : Int), .int .u8 (cv .u8 ((j + 1 : Nat) : Int)), .pointer (some ⟨g1, 0, none⟩), .int .u8 m.ty, .int .i64 m.ty, .int .i64 (j : Int), .int .i64 ((j + 1 : Nat) : Int), .bool true, .slice (some ⟨g2, 0, none⟩) 21 21, .int .i64 (j : Int), .pointer (some ⟨g2, j, none⟩), .string (tg nmA j)] : List Value).getD (k_ - 39) undef, by rw [eF, eT]; kernel_rfl, M⟩
            · skip
              refine pl_val (want_no rfl) (some 59) rfl (.bool false) (fun w => Eq.trans (b := .ok (.value (.bool (decide (m.ty = ((j + 1 : Nat) : Int))))) w) (by kernel_rfl) (by rw [decide_eq_false (c4)])) ?_
              refine pl_nil ?_
              refine au_then ?_
              refine wp_cond_false (by kernel_rfl) ?_
              refine wp_skip ?_
              refine au_block ?_
              refine au_then ?_
              refine rg_lit ?_
              refine pl_val (want_no rfl) (some 43) rfl (.int .i64 (j : Int)) (fun _ => by kernel_rfl) ?_
              refine pl_val (want_no rfl) (some 44) rfl (.int .i64 ((j + 1 : Nat) : Int)) (fun w => Eq.trans (b := .ok (.value (.int .i64 (IntKind.wrap .i64 ((j : Int) + 1)))) w) (by kernel_rfl) (by rw [wrap64 (by omega) (by omega)]; congr 3)) ?_
              refine pl_val (want_no rfl) (some 14) rfl (.int .i64 ((j + 1 : Nat) : Int)) (fun _ => by kernel_rfl) ?_
              refine pl_nil ?_
              refine au_then ?_
              have eF : fN n_ (j + 1) = cv .u8 ((j + 1 : Nat) : Int) := if_pos c3
              have eT : tN m.ty (j + 1) = tN m.ty j := if_neg c4
              exact ⟨fun k_ => ([.int .i64 (j : Int), .slice (some ⟨g2, 0, none⟩) 21 21, .int .i64 21, .bool true, .int .i64 (j : Int), .int .i64 ((j + 1 : Nat) : Int), .slice (some ⟨g2, 0, none⟩) 21 21, .int .i64 (j : Int), .pointer (some ⟨g2, j, none⟩), .string (tg nmA j), .string n_, .bool true, .int .i64 (j : Int), .int .i64 ((j + 1 : Nat) : Int), .int .u8 (cv .u8 ((j + 1 : Nat) : Int)), .pointer (some ⟨g1, 0, none⟩), .int .u8 m.ty, .int .i64 m.ty, .int .i64 (j : Int), .int .i64 ((j + 1 : Nat) : Int), .bool false, v1 60, v1 61, v1 62, v1 63] : List Value).getD (k_ - 39) undef, by rw [eF, eT]; kernel_rfl, M⟩
          · skip
            refine pl_val (want_no rfl) (some 50) rfl (.bool false) (fun w => Eq.trans (b := .ok (.value (.bool ((tg nmA j).toList == n_.toList))) w) (by kernel_rfl) (by rw [seq_neg c3])) ?_
            refine pl_nil ?_
            refine au_then ?_
            refine wp_cond_false (by kernel_rfl) ?_
            refine wp_skip ?_
            refine au_then ?_
            refine wp_seq ?_
            refine rg_lit ?_
            refine pl_val (want_no rfl) (some 54) rfl (.pointer (some ⟨g1, 0, none⟩)) (fun _ => by kernel_rfl) ?_
            refine pl_cell M (want_no rfl) (some 55) rfl 5 _ rfl g1 0 (by kernel_rfl) (.int .u8 m.ty) (fun _ => by kernel_rfl) (fun w M => M.cell 0 rfl (by decide) rfl) ?_
            refine pl_val (want_no rfl) (some 56) rfl (.int .i64 m.ty) (fun w => Eq.trans (b := .ok (.value (.int .i64 (cv .i64 m.ty))) w) (by kernel_rfl) (by rw [cv_i64 (by have := hr.ty.1; omega) (by have := hr.ty.2; omega)])) ?_
            refine pl_val (want_no rfl) (some 57) rfl (.int .i64 (j : Int)) (fun _ => by kernel_rfl) ?_
            refine pl_val (want_no rfl) (some 58) rfl (.int .i64 ((j + 1 : Nat) : Int)) (fun w => Eq.trans (b := .ok (.value (.int .i64 (IntKind.wrap .i64 ((j : Int) + 1)))) w) (by kernel_rfl) (by rw [wrap64 (by omega) (by omega)]; congr 3)) ?_
            by_cases c4 : m.ty = ((j + 1 : Nat) : Int)
            · skip
              refine pl_val (want_no rfl) (some 59) rfl (.bool true) (fun w => Eq.trans (b := .ok (.value (.bool (decide (m.ty = ((j + 1 : Nat) : Int))))) w) (by kernel_rfl) (by rw [decide_eq_true (c4)])) ?_
              refine pl_nil ?_
              refine au_then ?_
              refine wp_cond_true (by kernel_rfl) ?_
              refine rg_lit ?_
              refine pl_val (want_no rfl) (some 60) rfl (.slice (some ⟨g2, 0, none⟩) 21 21) (fun _ => by kernel_rfl) ?_
              refine pl_val (want_no rfl) (some 61) rfl (.int .i64 (j : Int)) (fun _ => by kernel_rfl) ?_
              refine pl_val (want_no rfl) (some 62) rfl (.pointer (some ⟨g2, j, none⟩)) (run_ix0 38 9 Try.underlying38 inz9 _ _ rfl g2 21 21 (by kernel_rfl) .i64 j (by kernel_rfl) (by omega)) ?_
              refine pl_cell M (want_no rfl) (some 63) rfl 9 _ rfl g2 j (by kernel_rfl) (.string (tg nmA j)) (fun _ => by kernel_rfl) (fun w M => M.cell 1 rfl (by omega) rfl) ?_
              refine pl_val (want_no rfl) (some 13) rfl (.string (tg nmA j)) (fun _ => by kernel_rfl) ?_
              refine pl_nil ?_
              refine au_block ?_
              refine au_then ?_
              refine rg_lit ?_
              refine pl_val (want_no rfl) (some 43) rfl (.int .i64 (j : Int)) (fun _ => by kernel_rfl) ?_
              refine pl_val (want_no rfl) (some 44) rfl (.int .i64 ((j + 1 : Nat) : Int)) (fun w => Eq.trans (b := .ok (.value (.int .i64 (IntKind.wrap .i64 ((j : Int) + 1)))) w) (by kernel_rfl) (by rw [wrap64 (by omega) (by omega)]; congr 3)) ?_
              refine pl_val (want_no rfl) (some 14) rfl (.int .i64 ((j + 1 : Nat) : Int)) (fun _ => by kernel_rfl) ?_
              refine pl_nil ?_
              refine au_then ?_
              have eF : fN n_ (j + 1) = fN n_ j := if_neg c3
              have eT : tN m.ty (j + 1) = tg nmA j := if_pos c4
              exact ⟨fun k_ => ([.int .i64 (j : Int), .slice (some ⟨g2, 0, none⟩) 21 21, .int .i64 21, .bool true, .int .i64 (j : Int), .int .i64 ((j + 1 : Nat) : Int), .slice (some ⟨g2, 0, none⟩) 21 21, .int .i64 (j : Int), .pointer (some ⟨g2, j, none⟩), .string (tg nmA j), .string n_, .bool false, v1 51, v1 52, v1 53, .pointer (some ⟨g1, 0, none⟩), .int .u8 m.ty, .int .i64 m.ty, .int .i64 (j : Int), .int .i64 ((j + 1 : Nat) : Int), .bool true, .slice (some ⟨g2, 0, none⟩) 21 21, .int .i64 (j : Int), .pointer (some ⟨g2, j, none⟩), .string (tg nmA j)] : List Value).getD (k_ - 39) undef, by rw [eF, eT]; kernel_rfl, M⟩
            · skip
              refine pl_val (want_no rfl) (some 59) rfl (.bool false) (fun w => Eq.trans (b := .ok (.value (.bool (decide (m.ty = ((j + 1 : Nat) : Int))))) w) (by kernel_rfl) (by rw [decide_eq_false (c4)])) ?_
              refine pl_nil ?_
              refine au_then ?_
              refine wp_cond_false (by kernel_rfl) ?_
              refine wp_skip ?_
              refine au_block ?_
              refine au_then ?_
              refine rg_lit ?_
              refine pl_val (want_no rfl) (some 43) rfl (.int .i64 (j : Int)) (fun _ => by kernel_rfl) ?_
              refine pl_val (want_no rfl) (some 44) rfl (.int .i64 ((j + 1 : Nat) : Int)) (fun w => Eq.trans (b := .ok (.value (.int .i64 (IntKind.wrap .i64 ((j : Int) + 1)))) w) (by kernel_rfl) (by rw [wrap64 (by omega) (by omega)]; congr 3)) ?_
              refine pl_val (want_no rfl) (some 14) rfl (.int .i64 ((j + 1 : Nat) : Int)) (fun _ => by kernel_rfl) ?_
              refine pl_nil ?_
              refine au_then ?_
              have eF : fN n_ (j + 1) = fN n_ j := if_neg c3
              have eT : tN m.ty (j + 1) = tN m.ty j := if_neg c4
              exact ⟨fun k_ => ([.int .i64 (j : Int), .slice (some ⟨g2, 0, none⟩) 21 21, .int .i64 21, .bool true, .int .i64 (j : Int), .int .i64 ((j + 1 : Nat) : Int), .slice (some ⟨g2, 0, none⟩) 21 21, .int .i64 (j : Int), .pointer (some ⟨g2, j, none⟩), .string (tg nmA j), .string n_, .bool false, v1 51, v1 52, v1 53, .pointer (some ⟨g1, 0, none⟩), .int .u8 m.ty, .int .i64 m.ty, .int .i64 (j : Int), .int .i64 ((j + 1 : Nat) : Int), .bool false, v1 60, v1 61, v1 62, v1 63] : List Value).getD (k_ - 39) undef, by rw [eF, eT]; kernel_rfl, M⟩
        · intro a u0 hI
          obtain ⟨v1, rfl, M⟩ := hI
          refine wp_seq ?_
          refine wp_seq ?_
          refine rg_lit ?_
          refine pl_val (want_no rfl) (some 39) rfl (.int .i64 21) (fun _ => by kernel_rfl) ?_
          refine pl_val (want_no rfl) (some 40) rfl (.slice (some ⟨g2, 0, none⟩) 21 21) (fun _ => by kernel_rfl) ?_
          refine pl_val (want_no rfl) (some 41) rfl (.int .i64 21) (fun _ => by kernel_rfl) ?_
          refine pl_val (want_no rfl) (some 42) rfl (.bool false) (fun _ => by kernel_rfl) ?_
          refine pl_nil ?_
          refine au_then ?_
          refine wp_cond_false (by kernel_rfl) ?_
          refine wp_exit ?_
          refine au_then_exit ?_
          refine au_then_exit ?_
          refine au_block_exit ?_
          refine au_then ?_
          refine wp_seq ?_
          refine rg_tail M 52 (by kernel_rfl) (by kernel_rfl) ?_
          simp only [List.take_succ_cons, List.take_zero]
          refine k_val (want_no rfl) (some 64) rfl (.string (eO m)) (fun _ => by kernel_rfl) ?_
          refine k_val (want_no rfl) (some 65) rfl (.string (eO m)) (fun _ => by kernel_rfl) ?_
          refine k_val (want_no rfl) (some 66) rfl (.bool true) (fun w => Eq.trans (b := .ok (.value (.bool ((eO m).toList == (eO m).toList))) w) (by kernel_rfl) (by rw [beq_self_eq_true])) ?_
          refine k_val (want_no rfl) (some 67) rfl (.bool true) (fun _ => by kernel_rfl) ?_
          refine k_val (want_on 3 true rfl 67 rfl (by kernel_rfl)) (some 68) rfl (.int .i64 (mE m)) (fun _ => by kernel_rfl) ?_
          refine k_val (want_on 3 true rfl 67 rfl (by kernel_rfl)) (some 69) rfl (.int .i64 (mE m)) (fun _ => by kernel_rfl) ?_
          refine k_val (want_on 3 true rfl 67 rfl (by kernel_rfl)) (some 70) rfl (.bool true) (fun w => Eq.trans (b := .ok (.value (.bool (decide ((mE m) = (mE m))))) w) (by kernel_rfl) (by rw [decide_eq_true (by omega)])) ?_
          refine k_val (want_no rfl) (some 71) rfl (.bool true) (fun _ => by kernel_rfl) ?_
          refine k_val (want_no rfl) (some 72) rfl (.bool true) (fun _ => by kernel_rfl) ?_
          refine k_load M (want_on 8 true rfl 72 rfl (by kernel_rfl)) (some 73) rfl 30 _ rfl 0 g1 0 (by kernel_rfl) 17 30 (ls [.int .u8 m.ty, .string m.fr, .string m.tq, .int .u32 m.ix, .int .u32 m.pe, .int .u64 m.ct, .int .u64 m.ba, .int .u64 m.ve, .string m.tx, .bool (m.ev), .int .u64 m.eh, .int .u64 m.el, .int .u16 m.ep, .int .u16 m.co, .string m.tt, .string m.da, .string m.sg]) rfl 17 (ls [.int .u8 m.ty, .string m.fr, .string m.tq, .int .u32 m.ix, .int .u32 m.pe, .int .u64 m.ct, .int .u64 m.ba, .int .u64 m.ve, .string m.tx, .bool (m.ev), .int .u64 m.eh, .int .u64 m.el, .int .u16 m.ep, .int .u16 m.co, .string m.tt, .string m.da, .string m.sg]) (fun j _ => by rw [Nat.zero_add]) (by decide) _ Try.underlying30 rfl inz30 ?_
          refine k_call M (want_on 8 true rfl 72 rfl (by kernel_rfl)) (some 74) rfl 14 #[.agg (av 17 (ls [.int .u8 m.ty, .string m.fr, .string m.tq, .int .u32 m.ix, .int .u32 m.pe, .int .u64 m.ct, .int .u64 m.ba, .int .u64 m.ve, .string m.tx, .bool (m.ev), .int .u64 m.eh, .int .u64 m.el, .int .u16 m.ep, .int .u16 m.co, .string m.tt, .string m.da, .string m.sg]))] (.int .i64 (mE m)) (fun _ => by kernel_rfl) (fun w M => c_MMay m w M.laid) ?_
          refine k_load M (want_on 8 true rfl 72 rfl (by kernel_rfl)) (some 75) rfl 30 _ rfl 0 g1 0 (by kernel_rfl) 17 30 (ls [.int .u8 m.ty, .string m.fr, .string m.tq, .int .u32 m.ix, .int .u32 m.pe, .int .u64 m.ct, .int .u64 m.ba, .int .u64 m.ve, .string m.tx, .bool (m.ev), .int .u64 m.eh, .int .u64 m.el, .int .u16 m.ep, .int .u16 m.co, .string m.tt, .string m.da, .string m.sg]) rfl 17 (ls [.int .u8 m.ty, .string m.fr, .string m.tq, .int .u32 m.ix, .int .u32 m.pe, .int .u64 m.ct, .int .u64 m.ba, .int .u64 m.ve, .string m.tx, .bool (m.ev), .int .u64 m.eh, .int .u64 m.el, .int .u16 m.ep, .int .u16 m.co, .string m.tt, .string m.da, .string m.sg]) (fun j _ => by rw [Nat.zero_add]) (by decide) _ Try.underlying30 rfl inz30 ?_
          refine k_call M (want_on 8 true rfl 72 rfl (by kernel_rfl)) (some 76) rfl 15 #[.agg (av 17 (ls [.int .u8 m.ty, .string m.fr, .string m.tq, .int .u32 m.ix, .int .u32 m.pe, .int .u64 m.ct, .int .u64 m.ba, .int .u64 m.ve, .string m.tx, .bool (m.ev), .int .u64 m.eh, .int .u64 m.el, .int .u16 m.ep, .int .u16 m.co, .string m.tt, .string m.da, .string m.sg]))] (.int .i64 (mE m)) (fun _ => by kernel_rfl) (fun w M => call_val (d_May m w M.laid) (by rw [← mE_dE m hr])) ?_
          refine k_val (want_on 8 true rfl 72 rfl (by kernel_rfl)) (some 77) rfl (.bool true) (fun w => Eq.trans (b := .ok (.value (.bool (decide ((mE m) = (mE m))))) w) (by kernel_rfl) (by rw [decide_eq_true (by omega)])) ?_
          refine k_val (want_no rfl) (some 78) rfl (.bool true) (fun _ => by kernel_rfl) ?_
          refine k_val (want_no rfl) (some 79) rfl (.bool true) (fun _ => by kernel_rfl) ?_
          refine k_load M (want_on 15 true rfl 79 rfl (by kernel_rfl)) (some 80) rfl 30 _ rfl 0 g1 0 (by kernel_rfl) 17 30 (ls [.int .u8 m.ty, .string m.fr, .string m.tq, .int .u32 m.ix, .int .u32 m.pe, .int .u64 m.ct, .int .u64 m.ba, .int .u64 m.ve, .string m.tx, .bool (m.ev), .int .u64 m.eh, .int .u64 m.el, .int .u16 m.ep, .int .u16 m.co, .string m.tt, .string m.da, .string m.sg]) rfl 17 (ls [.int .u8 m.ty, .string m.fr, .string m.tq, .int .u32 m.ix, .int .u32 m.pe, .int .u64 m.ct, .int .u64 m.ba, .int .u64 m.ve, .string m.tx, .bool (m.ev), .int .u64 m.eh, .int .u64 m.el, .int .u16 m.ep, .int .u16 m.co, .string m.tt, .string m.da, .string m.sg]) (fun j _ => by rw [Nat.zero_add]) (by decide) _ Try.underlying30 rfl inz30 ?_
          refine k_call M (want_on 15 true rfl 79 rfl (by kernel_rfl)) (some 81) rfl 16 #[.agg (av 17 (ls [.int .u8 m.ty, .string m.fr, .string m.tq, .int .u32 m.ix, .int .u32 m.pe, .int .u64 m.ct, .int .u64 m.ba, .int .u64 m.ve, .string m.tx, .bool (m.ev), .int .u64 m.eh, .int .u64 m.el, .int .u16 m.ep, .int .u16 m.co, .string m.tt, .string m.da, .string m.sg]))] (.int .i64 ((eO m).size : Int)) (fun _ => by kernel_rfl) (fun w M => c_Size m hr.ty (hv_sm c0) w M.laid) ?_
          refine k_val (want_on 15 true rfl 79 rfl (by kernel_rfl)) (some 82) rfl (.string (eO m)) (fun _ => by kernel_rfl) ?_
          refine k_val (want_on 15 true rfl 79 rfl (by kernel_rfl)) (some 83) rfl (.int .i64 ((eO m).size : Int)) (fun _ => by kernel_rfl) ?_
          refine k_val (want_on 15 true rfl 79 rfl (by kernel_rfl)) (some 84) rfl (.bool true) (fun w => Eq.trans (b := .ok (.value (.bool (decide (((eO m).size : Int) = ((eO m).size : Int))))) w) (by kernel_rfl) (by rw [decide_eq_true (by omega)])) ?_
          refine k_val (want_no rfl) (some 85) rfl (.bool true) (fun _ => by kernel_rfl) ?_
          refine k_val (want_no rfl) (some 86) rfl (.bool true) (fun _ => by kernel_rfl) ?_
          refine k_val (want_on 22 true rfl 86 rfl (by kernel_rfl)) (some 87) rfl (.pointer (some ⟨g1, 0, none⟩)) (fun _ => by kernel_rfl) ?_
          refine k_cell M (want_on 22 true rfl 86 rfl (by kernel_rfl)) (some 88) rfl 5 _ rfl g1 0 (by kernel_rfl) (.int .u8 m.ty) (fun _ => by kernel_rfl) (fun w M => M.cell 0 rfl (by decide) rfl) ?_
          refine k_call M (want_on 22 true rfl 86 rfl (by kernel_rfl)) (some 89) rfl 17 #[.int .u8 m.ty] (.string (tN m.ty 21)) (fun _ => by kernel_rfl) (fun w M => call_val (c_Name m.ty w M.laid) (by rw [tN_nmP])) ?_
          refine k_val (want_on 22 true rfl 86 rfl (by kernel_rfl)) (some 90) rfl (.string (tN m.ty 21)) (fun _ => by kernel_rfl) ?_
          refine k_val (want_on 22 true rfl 86 rfl (by kernel_rfl)) (some 91) rfl (.bool true) (fun w => Eq.trans (b := .ok (.value (.bool ((tN m.ty 21).toList == (tN m.ty 21).toList))) w) (by kernel_rfl) (by rw [beq_self_eq_true])) ?_
          refine k_val (want_no rfl) (some 92) rfl (.bool true) (fun _ => by kernel_rfl) ?_
          refine k_val (want_no rfl) (some 93) rfl (.bool true) (fun _ => by kernel_rfl) ?_
          refine k_val (want_on 29 true rfl 93 rfl (by kernel_rfl)) (some 94) rfl (.int .u8 (fN n_ 21)) (fun _ => by kernel_rfl) ?_
          refine k_val (want_on 29 true rfl 93 rfl (by kernel_rfl)) (some 95) rfl (.int .u8 (fN n_ 21)) (fun _ => by kernel_rfl) ?_
          refine k_val (want_on 29 true rfl 93 rfl (by kernel_rfl)) (some 96) rfl (.bool true) (fun w => Eq.trans (b := .ok (.value (.bool (decide ((fN n_ 21) = (fN n_ 21))))) w) (by kernel_rfl) (by rw [decide_eq_true (by omega)])) ?_
          refine k_val (want_no rfl) (some 97) rfl (.bool true) (fun _ => by kernel_rfl) ?_
          refine k_val (want_no rfl) (some 98) rfl (.bool true) (fun _ => by kernel_rfl) ?_
          refine k_val (want_on 34 true rfl 98 rfl (by kernel_rfl)) (some 99) rfl (.int .i64 0) (fun _ => by kernel_rfl) ?_
          refine k_val (want_on 34 true rfl 98 rfl (by kernel_rfl)) (some 100) rfl (.bool true) (fun _ => by kernel_rfl) ?_
          refine k_val (want_on 34 true rfl 98 rfl (by kernel_rfl)) (some 101) rfl (.int .u8 (fN n_ 21)) (fun _ => by kernel_rfl) ?_
          refine k_val (want_on 34 true rfl 98 rfl (by kernel_rfl)) (some 102) rfl (.bool true) (fun w => Eq.trans (b := .ok (.value (.bool (decide (0 < (fN n_ 21))))) w) (by kernel_rfl) (by rw [decide_eq_true (c2)])) ?_
          refine k_val (want_on 34 true rfl 98 rfl (by kernel_rfl)) (some 103) rfl (.bool true) (fun _ => by kernel_rfl) ?_
          refine k_val (want_no rfl) (some 104) rfl (.bool true) (fun _ => by kernel_rfl) ?_
          refine k_val (want_no rfl) (some 105) rfl (.bool true) (fun _ => by kernel_rfl) ?_
          refine k_val (want_on 41 true rfl 105 rfl (by kernel_rfl)) (some 106) rfl (.int .i64 0) (fun _ => by kernel_rfl) ?_
          refine k_val (want_on 41 true rfl 105 rfl (by kernel_rfl)) (some 107) rfl (.bool true) (fun _ => by kernel_rfl) ?_
          refine k_val (want_on 41 true rfl 105 rfl (by kernel_rfl)) (some 108) rfl (.bool true) (fun _ => by kernel_rfl) ?_
          refine k_skip (want_off 44 false rfl 108 rfl (by kernel_rfl)) (some 109) rfl ?_
          refine k_skip (want_off 44 false rfl 108 rfl (by kernel_rfl)) (some 110) rfl ?_
          refine k_val (want_on 41 true rfl 105 rfl (by kernel_rfl)) (some 111) rfl (.bool true) (fun _ => by kernel_rfl) ?_
          refine k_val (want_no rfl) (some 112) rfl (.bool true) (fun _ => by kernel_rfl) ?_
          refine k_val (want_no rfl) (some 113) rfl (.bool true) (fun _ => by kernel_rfl) ?_
          refine k_call M (want_on 49 true rfl 113 rfl (by kernel_rfl)) (some 114) rfl 9 #[] (.bool true) (fun _ => by kernel_rfl) (fun w M => c_works w M.laid) ?_
          refine k_val (want_no rfl) (some 115) rfl (.bool true) (fun _ => by kernel_rfl) ?_
          refine kl_nil ?_
          intro u7 M
          replace M : Mem ⟨w, []⟩ [⟨g1, .cells (av 17 (ls [.int .u8 m.ty, .string m.fr, .string m.tq, .int .u32 m.ix, .int .u32 m.pe, .int .u64 m.ct, .int .u64 m.ba, .int .u64 m.ve, .string m.tx, .bool (m.ev), .int .u64 m.eh, .int .u64 m.el, .int .u16 m.ep, .int .u16 m.co, .string m.tt, .string m.da, .string m.sg])) 30⟩, ⟨g2, .cells (av 21 (fS nmA)) 9⟩] u7 := M
          refine pl_val (want_no rfl) (some 4) rfl (.bool true) (fun _ => by kernel_rfl) ?_
          refine pl_nil ?_
          refine au_then ?_
          refine wp_ret ?_
          exact bodyPost_ret (v := .bool true) (results_tmp1 Try.results3 _ _ _ (by kernel_rfl)) (by kernel_rfl) ⟨rfl, below_grown M.old⟩
      · skip
        refine pl_call M (want_no rfl) (some 35) rfl 12 #[.string n_] (.tuple #[.int .u8 (fN n_ 21), .int .i64 150]) (fun _ => by kernel_rfl) (fun w M => call_val (c_Of0 n_ w M.laid) (by rw [ofE_f c2, fN_ofT])) ?_
        intro u5 M
        refine pl_val (want_no rfl) (some 33) rfl (.tuple #[.int .u8 (fN n_ 21), .int .i64 150]) (fun _ => by kernel_rfl) ?_
        refine pl_val (want_no rfl) (some 36) rfl (.int .u8 (fN n_ 21)) (fun _ => by kernel_rfl) ?_
        refine pl_val (want_no rfl) (some 37) rfl (.int .i64 150) (fun _ => by kernel_rfl) ?_
        refine pl_val (want_no rfl) (some 9) rfl (.int .u8 (fN n_ 21)) (fun _ => by kernel_rfl) ?_
        refine pl_val (want_no rfl) (some 10) rfl (.int .i64 150) (fun _ => by kernel_rfl) ?_
        refine pl_nil ?_
        refine au_then ?_
        refine wp_seq ?_
        refine rg_lit ?_
        refine pl_calln M (want_no rfl) (some 38) rfl 13 #[] (fun g2 => .slice (some ⟨g2, 0, none⟩) 21 21) (.cells (av 21 (fS nmA)) 9) (fun _ => by kernel_rfl) (fun w M => d_Names w M.laid) ?_
        intro g2 u6 M
        replace M : Mem ⟨w, []⟩ [⟨g1, .cells (av 17 (ls [.int .u8 m.ty, .string m.fr, .string m.tq, .int .u32 m.ix, .int .u32 m.pe, .int .u64 m.ct, .int .u64 m.ba, .int .u64 m.ve, .string m.tx, .bool (m.ev), .int .u64 m.eh, .int .u64 m.el, .int .u16 m.ep, .int .u16 m.co, .string m.tt, .string m.da, .string m.sg])) 30⟩, ⟨g2, .cells (av 21 (fS nmA)) 9⟩] u6 := M
        refine pl_val (want_no rfl) (some 11) rfl (.slice (some ⟨g2, 0, none⟩) 21 21) (fun _ => by kernel_rfl) ?_
        refine pl_nil ?_
        refine au_then ?_
        refine wp_seq ?_
        refine rg_lit ?_
        refine pl_val (want_no rfl) (some 12) rfl (.int .u8 0) (fun _ => by kernel_rfl) ?_
        refine pl_val (want_no rfl) (some 13) rfl (.string ⟨#[]⟩) (fun _ => by kernel_rfl) ?_
        refine pl_nil ?_
        refine au_then ?_
        refine wp_seq ?_
        refine wp_seq ?_
        refine rg_lit ?_
        refine pl_val (want_no rfl) (some 14) rfl (.int .i64 0) (fun _ => by kernel_rfl) ?_
        refine pl_nil ?_
        refine au_then ?_
        refine wp_block ?_
        refine au_loop (fun j a w' => ∃ v1 : Nat → Value, a = ⟨#[.agg (av 17 (ls [.int .u8 m.ty, .string m.fr, .string m.tq, .int .u32 m.ix, .int .u32 m.pe, .int .u64 m.ct, .int .u64 m.ba, .int .u64 m.ve, .string m.tx, .bool (m.ev), .int .u64 m.eh, .int .u64 m.el, .int .u16 m.ep, .int .u16 m.co, .string m.tt, .string m.da, .string m.sg])), .string n_, .pointer (some ⟨g1, 0, none⟩), undef, .bool false, .string (eO m), .int .i64 (mE m), .string (eO m), .int .i64 (mE m), .int .u8 (fN n_ 21), .int .i64 150, .slice (some ⟨g2, 0, none⟩) 21 21, .int .u8 (fN n_ j), .string (tN m.ty j), .int .i64 (j : Int), .agg (av 17 (ls [.int .u8 m.ty, .string m.fr, .string m.tq, .int .u32 m.ix, .int .u32 m.pe, .int .u64 m.ct, .int .u64 m.ba, .int .u64 m.ve, .string m.tx, .bool (m.ev), .int .u64 m.eh, .int .u64 m.el, .int .u16 m.ep, .int .u16 m.co, .string m.tt, .string m.da, .string m.sg])), .bool false, .bool false, .string n_, .int .i64 (n_.size : Int), .bool false, .bool false, undef, .tuple #[.string (eO m), .int .i64 (mE m)], .agg (av 17 (ls [.int .u8 m.ty, .string m.fr, .string m.tq, .int .u32 m.ix, .int .u32 m.pe, .int .u64 m.ct, .int .u64 m.ba, .int .u64 m.ve, .string m.tx, .bool (m.ev), .int .u64 m.eh, .int .u64 m.el, .int .u16 m.ep, .int .u16 m.co, .string m.tt, .string m.da, .string m.sg])), .tuple #[.string (eO m), .int .i64 (mE m)], .string (eO m), .int .i64 (mE m), .tuple #[.string (eO m), .int .i64 (mE m)], .agg (av 17 (ls [.int .u8 m.ty, .string m.fr, .string m.tq, .int .u32 m.ix, .int .u32 m.pe, .int .u64 m.ct, .int .u64 m.ba, .int .u64 m.ve, .string m.tx, .bool (m.ev), .int .u64 m.eh, .int .u64 m.el, .int .u16 m.ep, .int .u16 m.co, .string m.tt, .string m.da, .string m.sg])), .tuple #[.string (eO m), .int .i64 (mE m)], .string (eO m), .int .i64 (mE m), .tuple #[.int .u8 (fN n_ 21), .int .i64 150], .string n_, .tuple #[.int .u8 (fN n_ 21), .int .i64 150], .int .u8 (fN n_ 21), .int .i64 150, .slice (some ⟨g2, 0, none⟩) 21 21, v1 39, v1 40, v1 41, v1 42, v1 43, v1 44, v1 45, v1 46, v1 47, v1 48, v1 49, v1 50, v1 51, v1 52, v1 53, v1 54, v1 55, v1 56, v1 57, v1 58, v1 59, v1 60, v1 61, v1 62, v1 63, undef, undef, undef, undef, undef, undef, undef, undef, undef, undef, undef, undef, undef, undef, undef, undef, undef, undef, undef, undef, undef, undef, undef, undef, undef, undef, undef, undef, undef, undef, undef, undef, undef, undef, undef, undef, undef, undef, undef, undef, undef, undef, undef, undef, undef, undef, undef, undef, undef, undef, undef, undef], []⟩ ∧ Mem ⟨w, []⟩ [⟨g1, .cells (av 17 (ls [.int .u8 m.ty, .string m.fr, .string m.tq, .int .u32 m.ix, .int .u32 m.pe, .int .u64 m.ct, .int .u64 m.ba, .int .u64 m.ve, .string m.tx, .bool (m.ev), .int .u64 m.eh, .int .u64 m.el, .int .u16 m.ep, .int .u16 m.co, .string m.tt, .string m.da, .string m.sg])) 30⟩, ⟨g2, .cells (av 21 (fS nmA)) 9⟩] w') 21 ⟨fun k_ => ([undef, undef, undef, undef, undef, undef, undef, undef, undef, undef, undef, undef, undef, undef, undef, undef, undef, undef, undef, undef, undef, undef, undef, undef, undef] : List Value).getD (k_ - 39) undef, by kernel_rfl, M⟩ ?_ ?_
        · intro j a u0 hj hI
          obtain ⟨v1, rfl, M⟩ := hI
          refine wp_seq ?_
          refine wp_seq ?_
          refine rg_lit ?_
          refine pl_val (want_no rfl) (some 39) rfl (.int .i64 (j : Int)) (fun _ => by kernel_rfl) ?_
          refine pl_val (want_no rfl) (some 40) rfl (.slice (some ⟨g2, 0, none⟩) 21 21) (fun _ => by kernel_rfl) ?_
          refine pl_val (want_no rfl) (some 41) rfl (.int .i64 21) (fun _ => by kernel_rfl) ?_
          refine pl_val (want_no rfl) (some 42) rfl (.bool true) (fun w => Eq.trans (b := .ok (.value (.bool (decide ((j : Int) < 21)))) w) (by kernel_rfl) (by rw [decide_eq_true (by omega)])) ?_
          refine pl_nil ?_
          refine au_then ?_
          refine wp_cond_true (by kernel_rfl) ?_
          refine wp_skip ?_
          refine au_then ?_
          refine wp_seq ?_
          refine wp_block ?_
          refine wp_seq ?_
          refine wp_seq ?_
          refine rg_lit ?_
          refine pl_val (want_no rfl) (some 45) rfl (.slice (some ⟨g2, 0, none⟩) 21 21) (fun _ => by kernel_rfl) ?_
          refine pl_val (want_no rfl) (some 46) rfl (.int .i64 (j : Int)) (fun _ => by kernel_rfl) ?_
          refine pl_val (want_no rfl) (some 47) rfl (.pointer (some ⟨g2, j, none⟩)) (run_ix0 38 9 Try.underlying38 inz9 _ _ rfl g2 21 21 (by kernel_rfl) .i64 j (by kernel_rfl) (by omega)) ?_
          refine pl_cell M (want_no rfl) (some 48) rfl 9 _ rfl g2 j (by kernel_rfl) (.string (tg nmA j)) (fun _ => by kernel_rfl) (fun w M => M.cell 1 rfl (by omega) rfl) ?_
          refine pl_val (want_no rfl) (some 49) rfl (.string n_) (fun _ => by kernel_rfl) ?_
          by_cases c3 : (tg nmA j) = n_
          · skip
            refine pl_val (want_no rfl) (some 50) rfl (.bool true) (fun w => Eq.trans (b := .ok (.value (.bool ((tg nmA j).toList == n_.toList))) w) (by kernel_rfl) (by rw [seq_pos c3])) ?_
            refine pl_nil ?_
            refine au_then ?_
            refine wp_cond_true (by kernel_rfl) ?_
            refine rg_lit ?_
            refine pl_val (want_no rfl) (some 51) rfl (.int .i64 (j : Int)) (fun _ => by kernel_rfl) ?_
            refine pl_val (want_no rfl) (some 52) rfl (.int .i64 ((j + 1 : Nat) : Int)) (fun w => Eq.trans (b := .ok (.value (.int .i64 (IntKind.wrap .i64 ((j : Int) + 1)))) w) (by kernel_rfl) (by rw [wrap64 (by omega) (by omega)]; congr 3)) ?_
            refine pl_val (want_no rfl) (some 53) rfl (.int .u8 (cv .u8 ((j + 1 : Nat) : Int))) (fun _ => by kernel_rfl) ?_
            refine pl_val (want_no rfl) (some 12) rfl (.int .u8 (cv .u8 ((j + 1 : Nat) : Int))) (fun _ => by kernel_rfl) ?_
            refine pl_nil ?_
            refine au_then ?_
            refine wp_seq ?_
            refine rg_lit ?_
            refine pl_val (want_no rfl) (some 54) rfl (.pointer (some ⟨g1, 0, none⟩)) (fun _ => by kernel_rfl) ?_
            refine pl_cell M (want_no rfl) (some 55) rfl 5 _ rfl g1 0 (by kernel_rfl) (.int .u8 m.ty) (fun _ => by kernel_rfl) (fun w M => M.cell 0 rfl (by decide) rfl) ?_
            refine pl_val (want_no rfl) (some 56) rfl (.int .i64 m.ty) (fun w => Eq.trans (b := .ok (.value (.int .i64 (cv .i64 m.ty))) w) (by kernel_rfl) (by rw [cv_i64 (by have := hr.ty.1; omega) (by have := hr.ty.2; omega)])) ?_
            refine pl_val (want_no rfl) (some 57) rfl (.int .i64 (j : Int)) (fun _ => by kernel_rfl) ?_
            refine pl_val (want_no rfl) (some 58) rfl (.int .i64 ((j + 1 : Nat) : Int)) (fun w => Eq.trans (b := .ok (.value (.int .i64 (IntKind.wrap .i64 ((j : Int) + 1)))) w) (by kernel_rfl) (by rw [wrap64 (by omega) (by omega)]; congr 3)) ?_
            by_cases c4 : m.ty = ((j + 1 : Nat) : Int)
            · skip
              refine pl_val (want_no rfl) (some 59) rfl (.bool true) (fun w => Eq.trans (b := .ok (.value (.bool (decide (m.ty = ((j + 1 : Nat) : Int))))) w) (by kernel_rfl) (by rw [decide_eq_true (c4)])) ?_
              refine pl_nil ?_
              refine au_then ?_
              refine wp_cond_true (by kernel_rfl) ?_
              refine rg_lit ?_
              refine pl_val (want_no rfl) (some 60) rfl (.slice (some ⟨g2, 0, none⟩) 21 21) (fun _ => by kernel_rfl) ?_
              refine pl_val (want_no rfl) (some 61) rfl (.int .i64 (j : Int)) (fun _ => by kernel_rfl) ?_
              refine pl_val (want_no rfl) (some 62) rfl (.pointer (some ⟨g2, j, none⟩)) (run_ix0 38 9 Try.underlying38 inz9 _ _ rfl g2 21 21 (by kernel_rfl) .i64 j (by kernel_rfl) (by omega)) ?_
              refine pl_cell M (want_no rfl) (some 63) rfl 9 _ rfl g2 j (by kernel_rfl) (.string (tg nmA j)) (fun _ => by kernel_rfl) (fun w M => M.cell 1 rfl (by omega) rfl) ?_
              refine pl_val (want_no rfl) (some 13) rfl (.string (tg nmA j)) (fun _ => by kernel_rfl) ?_
              refine pl_nil ?_
              refine au_block ?_
              refine au_then ?_
              refine rg_lit ?_
              refine pl_val (want_no rfl) (some 43) rfl (.int .i64 (j : Int)) (fun _ => by kernel_rfl) ?_
              refine pl_val (want_no rfl) (some 44) rfl (.int .i64 ((j + 1 : Nat) : Int)) (fun w => Eq.trans (b := .ok (.value (.int .i64 (IntKind.wrap .i64 ((j : Int) + 1)))) w) (by kernel_rfl) (by rw [wrap64 (by omega) (by omega)]; congr 3)) ?_
              refine pl_val (want_no rfl) (some 14) rfl (.int .i64 ((j + 1 : Nat) : Int)) (fun _ => by kernel_rfl) ?_
              refine pl_nil ?_
              refine au_then ?_
              have eF : fN n_ (j + 1) = cv .u8 ((j + 1 : Nat) : Int) := if_pos c3
              have eT : tN m.ty (j + 1) = tg nmA j := if_pos c4
              exact ⟨fun k_ => ([.int .i64 (j : Int), .slice (some ⟨g2, 0, none⟩) 21 21, .int .i64 21, .bool true, .int .i64 (j : Int), .int .i64 ((j + 1 : Nat) : Int), .slice (some ⟨g2, 0, none⟩) 21 21, .int .i64 (j : Int), .pointer (some ⟨g2, j, none⟩), .string (tg nmA j), .string n_, .bool true, .int .i64 (j : Int), .int .i64 ((j + 1 : Nat) : Int), .int .u8 (cv .u8 ((j + 1 : Nat) : Int)), .pointer (some ⟨g1, 0, none⟩), .int .u8 m.ty, .int .i64 m.ty, .int .i64 (j : Int), .int .i64 ((j + 1 : Nat) : Int), .bool true, .slice (some ⟨g2, 0, none⟩) 21 21, .int .i64 (j : Int), .pointer (some ⟨g2, j, none⟩), .string (tg nmA j)] : List Value).getD (k_ - 39) undef, by rw [eF, eT]; kernel_rfl, M⟩
            · skip
              refine pl_val (want_no rfl) (some 59) rfl (.bool false) (fun w => Eq.trans (b := .ok (.value (.bool (decide (m.ty = ((j + 1 : Nat) : Int))))) w) (by kernel_rfl) (by rw [decide_eq_false (c4)])) ?_
              refine pl_nil ?_
              refine au_then ?_
              refine wp_cond_false (by kernel_rfl) ?_
              refine wp_skip ?_
              refine au_block ?_
              refine au_then ?_
              refine rg_lit ?_
              refine pl_val (want_no rfl) (some 43) rfl (.int .i64 (j : Int)) (fun _ => by kernel_rfl) ?_
              refine pl_val (want_no rfl) (some 44) rfl (.int .i64 ((j + 1 : Nat) : Int)) (fun w => Eq.trans (b := .ok (.value (.int .i64 (IntKind.wrap .i64 ((j : Int) + 1)))) w) (by kernel_rfl) (by rw [wrap64 (by omega) (by omega)]; congr 3)) ?_
              refine pl_val (want_no rfl) (some 14) rfl (.int .i64 ((j + 1 : Nat) : Int)) (fun _ => by kernel_rfl) ?_
              refine pl_nil ?_
              refine au_then ?_
              have eF : fN n_ (j + 1) = cv .u8 ((j + 1 : Nat) : Int) := if_pos c3
              have eT : tN m.ty (j + 1) = tN m.ty j := if_neg c4
              exact ⟨fun k_ => ([.int .i64 (j : Int), .slice (some ⟨g2, 0, none⟩) 21 21, .int .i64 21, .bool true, .int .i64 (j : Int), .int .i64 ((j + 1 : Nat) : Int), .slice (some ⟨g2, 0, none⟩) 21 21, .int .i64 (j : Int), .pointer (some ⟨g2, j, none⟩), .string (tg nmA j), .string n_, .bool true, .int .i64 (j : Int), .int .i64 ((j + 1 : Nat) : Int), .int .u8 (cv .u8 ((j + 1 : Nat) : Int)), .pointer (some ⟨g1, 0, none⟩), .int .u8 m.ty, .int .i64 m.ty, .int .i64 (j : Int), .int .i64 ((j + 1 : Nat) : Int), .bool false, v1 60, v1 61, v1 62, v1 63] : List Value).getD (k_ - 39) undef, by rw [eF, eT]; kernel_rfl, M⟩
          · skip
            refine pl_val (want_no rfl) (some 50) rfl (.bool false) (fun w => Eq.trans (b := .ok (.value (.bool ((tg nmA j).toList == n_.toList))) w) (by kernel_rfl) (by rw [seq_neg c3])) ?_
            refine pl_nil ?_
            refine au_then ?_
            refine wp_cond_false (by kernel_rfl) ?_
            refine wp_skip ?_
            refine au_then ?_
            refine wp_seq ?_
            refine rg_lit ?_
            refine pl_val (want_no rfl) (some 54) rfl (.pointer (some ⟨g1, 0, none⟩)) (fun _ => by kernel_rfl) ?_
            refine pl_cell M (want_no rfl) (some 55) rfl 5 _ rfl g1 0 (by kernel_rfl) (.int .u8 m.ty) (fun _ => by kernel_rfl) (fun w M => M.cell 0 rfl (by decide) rfl) ?_
            refine pl_val (want_no rfl) (some 56) rfl (.int .i64 m.ty) (fun w => Eq.trans (b := .ok (.value (.int .i64 (cv .i64 m.ty))) w) (by kernel_rfl) (by rw [cv_i64 (by have := hr.ty.1; omega) (by have := hr.ty.2; omega)])) ?_
            refine pl_val (want_no rfl) (some 57) rfl (.int .i64 (j : Int)) (fun _ => by kernel_rfl) ?_
            refine pl_val (want_no rfl) (some 58) rfl (.int .i64 ((j + 1 : Nat) : Int)) (fun w => Eq.trans (b := .ok (.value (.int .i64 (IntKind.wrap .i64 ((j : Int) + 1)))) w) (by kernel_rfl) (by rw [wrap64 (by omega) (by omega)]; congr 3)) ?_
            by_cases c4 : m.ty = ((j + 1 : Nat) : Int)
            · skip
              refine pl_val (want_no rfl) (some 59) rfl (.bool true) (fun w => Eq.trans (b := .ok (.value (.bool (decide (m.ty = ((j + 1 : Nat) : Int))))) w) (by kernel_rfl) (by rw [decide_eq_true (c4)])) ?_
              refine pl_nil ?_
              refine au_then ?_
              refine wp_cond_true (by kernel_rfl) ?_
              refine rg_lit ?_
              refine pl_val (want_no rfl) (some 60) rfl (.slice (some ⟨g2, 0, none⟩) 21 21) (fun _ => by kernel_rfl) ?_
              refine pl_val (want_no rfl) (some 61) rfl (.int .i64 (j : Int)) (fun _ => by kernel_rfl) ?_
              refine pl_val (want_no rfl) (some 62) rfl (.pointer (some ⟨g2, j, none⟩)) (run_ix0 38 9 Try.underlying38 inz9 _ _ rfl g2 21 21 (by kernel_rfl) .i64 j (by kernel_rfl) (by omega)) ?_
              refine pl_cell M (want_no rfl) (some 63) rfl 9 _ rfl g2 j (by kernel_rfl) (.string (tg nmA j)) (fun _ => by kernel_rfl) (fun w M => M.cell 1 rfl (by omega) rfl) ?_
              refine pl_val (want_no rfl) (some 13) rfl (.string (tg nmA j)) (fun _ => by kernel_rfl) ?_
              refine pl_nil ?_
              refine au_block ?_
              refine au_then ?_
              refine rg_lit ?_
              refine pl_val (want_no rfl) (some 43) rfl (.int .i64 (j : Int)) (fun _ => by kernel_rfl) ?_
              refine pl_val (want_no rfl) (some 44) rfl (.int .i64 ((j + 1 : Nat) : Int)) (fun w => Eq.trans (b := .ok (.value (.int .i64 (IntKind.wrap .i64 ((j : Int) + 1)))) w) (by kernel_rfl) (by rw [wrap64 (by omega) (by omega)]; congr 3)) ?_
              refine pl_val (want_no rfl) (some 14) rfl (.int .i64 ((j + 1 : Nat) : Int)) (fun _ => by kernel_rfl) ?_
              refine pl_nil ?_
              refine au_then ?_
              have eF : fN n_ (j + 1) = fN n_ j := if_neg c3
              have eT : tN m.ty (j + 1) = tg nmA j := if_pos c4
              exact ⟨fun k_ => ([.int .i64 (j : Int), .slice (some ⟨g2, 0, none⟩) 21 21, .int .i64 21, .bool true, .int .i64 (j : Int), .int .i64 ((j + 1 : Nat) : Int), .slice (some ⟨g2, 0, none⟩) 21 21, .int .i64 (j : Int), .pointer (some ⟨g2, j, none⟩), .string (tg nmA j), .string n_, .bool false, v1 51, v1 52, v1 53, .pointer (some ⟨g1, 0, none⟩), .int .u8 m.ty, .int .i64 m.ty, .int .i64 (j : Int), .int .i64 ((j + 1 : Nat) : Int), .bool true, .slice (some ⟨g2, 0, none⟩) 21 21, .int .i64 (j : Int), .pointer (some ⟨g2, j, none⟩), .string (tg nmA j)] : List Value).getD (k_ - 39) undef, by rw [eF, eT]; kernel_rfl, M⟩
            · skip
              refine pl_val (want_no rfl) (some 59) rfl (.bool false) (fun w => Eq.trans (b := .ok (.value (.bool (decide (m.ty = ((j + 1 : Nat) : Int))))) w) (by kernel_rfl) (by rw [decide_eq_false (c4)])) ?_
              refine pl_nil ?_
              refine au_then ?_
              refine wp_cond_false (by kernel_rfl) ?_
              refine wp_skip ?_
              refine au_block ?_
              refine au_then ?_
              refine rg_lit ?_
              refine pl_val (want_no rfl) (some 43) rfl (.int .i64 (j : Int)) (fun _ => by kernel_rfl) ?_
              refine pl_val (want_no rfl) (some 44) rfl (.int .i64 ((j + 1 : Nat) : Int)) (fun w => Eq.trans (b := .ok (.value (.int .i64 (IntKind.wrap .i64 ((j : Int) + 1)))) w) (by kernel_rfl) (by rw [wrap64 (by omega) (by omega)]; congr 3)) ?_
              refine pl_val (want_no rfl) (some 14) rfl (.int .i64 ((j + 1 : Nat) : Int)) (fun _ => by kernel_rfl) ?_
              refine pl_nil ?_
              refine au_then ?_
              have eF : fN n_ (j + 1) = fN n_ j := if_neg c3
              have eT : tN m.ty (j + 1) = tN m.ty j := if_neg c4
              exact ⟨fun k_ => ([.int .i64 (j : Int), .slice (some ⟨g2, 0, none⟩) 21 21, .int .i64 21, .bool true, .int .i64 (j : Int), .int .i64 ((j + 1 : Nat) : Int), .slice (some ⟨g2, 0, none⟩) 21 21, .int .i64 (j : Int), .pointer (some ⟨g2, j, none⟩), .string (tg nmA j), .string n_, .bool false, v1 51, v1 52, v1 53, .pointer (some ⟨g1, 0, none⟩), .int .u8 m.ty, .int .i64 m.ty, .int .i64 (j : Int), .int .i64 ((j + 1 : Nat) : Int), .bool false, v1 60, v1 61, v1 62, v1 63] : List Value).getD (k_ - 39) undef, by rw [eF, eT]; kernel_rfl, M⟩
        · intro a u0 hI
          obtain ⟨v1, rfl, M⟩ := hI
          refine wp_seq ?_
          refine wp_seq ?_
          refine rg_lit ?_
          refine pl_val (want_no rfl) (some 39) rfl (.int .i64 21) (fun _ => by kernel_rfl) ?_
          refine pl_val (want_no rfl) (some 40) rfl (.slice (some ⟨g2, 0, none⟩) 21 21) (fun _ => by kernel_rfl) ?_
          refine pl_val (want_no rfl) (some 41) rfl (.int .i64 21) (fun _ => by kernel_rfl) ?_
          refine pl_val (want_no rfl) (some 42) rfl (.bool false) (fun _ => by kernel_rfl) ?_
          refine pl_nil ?_
          refine au_then ?_
          refine wp_cond_false (by kernel_rfl) ?_
          refine wp_exit ?_
          refine au_then_exit ?_
          refine au_then_exit ?_
          refine au_block_exit ?_
          refine au_then ?_
          refine wp_seq ?_
          refine rg_tail M 52 (by kernel_rfl) (by kernel_rfl) ?_
          simp only [List.take_succ_cons, List.take_zero]
          refine k_val (want_no rfl) (some 64) rfl (.string (eO m)) (fun _ => by kernel_rfl) ?_
          refine k_val (want_no rfl) (some 65) rfl (.string (eO m)) (fun _ => by kernel_rfl) ?_
          refine k_val (want_no rfl) (some 66) rfl (.bool true) (fun w => Eq.trans (b := .ok (.value (.bool ((eO m).toList == (eO m).toList))) w) (by kernel_rfl) (by rw [beq_self_eq_true])) ?_
          refine k_val (want_no rfl) (some 67) rfl (.bool true) (fun _ => by kernel_rfl) ?_
          refine k_val (want_on 3 true rfl 67 rfl (by kernel_rfl)) (some 68) rfl (.int .i64 (mE m)) (fun _ => by kernel_rfl) ?_
          refine k_val (want_on 3 true rfl 67 rfl (by kernel_rfl)) (some 69) rfl (.int .i64 (mE m)) (fun _ => by kernel_rfl) ?_
          refine k_val (want_on 3 true rfl 67 rfl (by kernel_rfl)) (some 70) rfl (.bool true) (fun w => Eq.trans (b := .ok (.value (.bool (decide ((mE m) = (mE m))))) w) (by kernel_rfl) (by rw [decide_eq_true (by omega)])) ?_
          refine k_val (want_no rfl) (some 71) rfl (.bool true) (fun _ => by kernel_rfl) ?_
          refine k_val (want_no rfl) (some 72) rfl (.bool true) (fun _ => by kernel_rfl) ?_
          refine k_load M (want_on 8 true rfl 72 rfl (by kernel_rfl)) (some 73) rfl 30 _ rfl 0 g1 0 (by kernel_rfl) 17 30 (ls [.int .u8 m.ty, .string m.fr, .string m.tq, .int .u32 m.ix, .int .u32 m.pe, .int .u64 m.ct, .int .u64 m.ba, .int .u64 m.ve, .string m.tx, .bool (m.ev), .int .u64 m.eh, .int .u64 m.el, .int .u16 m.ep, .int .u16 m.co, .string m.tt, .string m.da, .string m.sg]) rfl 17 (ls [.int .u8 m.ty, .string m.fr, .string m.tq, .int .u32 m.ix, .int .u32 m.pe, .int .u64 m.ct, .int .u64 m.ba, .int .u64 m.ve, .string m.tx, .bool (m.ev), .int .u64 m.eh, .int .u64 m.el, .int .u16 m.ep, .int .u16 m.co, .string m.tt, .string m.da, .string m.sg]) (fun j _ => by rw [Nat.zero_add]) (by decide) _ Try.underlying30 rfl inz30 ?_
          refine k_call M (want_on 8 true rfl 72 rfl (by kernel_rfl)) (some 74) rfl 14 #[.agg (av 17 (ls [.int .u8 m.ty, .string m.fr, .string m.tq, .int .u32 m.ix, .int .u32 m.pe, .int .u64 m.ct, .int .u64 m.ba, .int .u64 m.ve, .string m.tx, .bool (m.ev), .int .u64 m.eh, .int .u64 m.el, .int .u16 m.ep, .int .u16 m.co, .string m.tt, .string m.da, .string m.sg]))] (.int .i64 (mE m)) (fun _ => by kernel_rfl) (fun w M => c_MMay m w M.laid) ?_
          refine k_load M (want_on 8 true rfl 72 rfl (by kernel_rfl)) (some 75) rfl 30 _ rfl 0 g1 0 (by kernel_rfl) 17 30 (ls [.int .u8 m.ty, .string m.fr, .string m.tq, .int .u32 m.ix, .int .u32 m.pe, .int .u64 m.ct, .int .u64 m.ba, .int .u64 m.ve, .string m.tx, .bool (m.ev), .int .u64 m.eh, .int .u64 m.el, .int .u16 m.ep, .int .u16 m.co, .string m.tt, .string m.da, .string m.sg]) rfl 17 (ls [.int .u8 m.ty, .string m.fr, .string m.tq, .int .u32 m.ix, .int .u32 m.pe, .int .u64 m.ct, .int .u64 m.ba, .int .u64 m.ve, .string m.tx, .bool (m.ev), .int .u64 m.eh, .int .u64 m.el, .int .u16 m.ep, .int .u16 m.co, .string m.tt, .string m.da, .string m.sg]) (fun j _ => by rw [Nat.zero_add]) (by decide) _ Try.underlying30 rfl inz30 ?_
          refine k_call M (want_on 8 true rfl 72 rfl (by kernel_rfl)) (some 76) rfl 15 #[.agg (av 17 (ls [.int .u8 m.ty, .string m.fr, .string m.tq, .int .u32 m.ix, .int .u32 m.pe, .int .u64 m.ct, .int .u64 m.ba, .int .u64 m.ve, .string m.tx, .bool (m.ev), .int .u64 m.eh, .int .u64 m.el, .int .u16 m.ep, .int .u16 m.co, .string m.tt, .string m.da, .string m.sg]))] (.int .i64 (mE m)) (fun _ => by kernel_rfl) (fun w M => call_val (d_May m w M.laid) (by rw [← mE_dE m hr])) ?_
          refine k_val (want_on 8 true rfl 72 rfl (by kernel_rfl)) (some 77) rfl (.bool true) (fun w => Eq.trans (b := .ok (.value (.bool (decide ((mE m) = (mE m))))) w) (by kernel_rfl) (by rw [decide_eq_true (by omega)])) ?_
          refine k_val (want_no rfl) (some 78) rfl (.bool true) (fun _ => by kernel_rfl) ?_
          refine k_val (want_no rfl) (some 79) rfl (.bool true) (fun _ => by kernel_rfl) ?_
          refine k_load M (want_on 15 true rfl 79 rfl (by kernel_rfl)) (some 80) rfl 30 _ rfl 0 g1 0 (by kernel_rfl) 17 30 (ls [.int .u8 m.ty, .string m.fr, .string m.tq, .int .u32 m.ix, .int .u32 m.pe, .int .u64 m.ct, .int .u64 m.ba, .int .u64 m.ve, .string m.tx, .bool (m.ev), .int .u64 m.eh, .int .u64 m.el, .int .u16 m.ep, .int .u16 m.co, .string m.tt, .string m.da, .string m.sg]) rfl 17 (ls [.int .u8 m.ty, .string m.fr, .string m.tq, .int .u32 m.ix, .int .u32 m.pe, .int .u64 m.ct, .int .u64 m.ba, .int .u64 m.ve, .string m.tx, .bool (m.ev), .int .u64 m.eh, .int .u64 m.el, .int .u16 m.ep, .int .u16 m.co, .string m.tt, .string m.da, .string m.sg]) (fun j _ => by rw [Nat.zero_add]) (by decide) _ Try.underlying30 rfl inz30 ?_
          refine k_call M (want_on 15 true rfl 79 rfl (by kernel_rfl)) (some 81) rfl 16 #[.agg (av 17 (ls [.int .u8 m.ty, .string m.fr, .string m.tq, .int .u32 m.ix, .int .u32 m.pe, .int .u64 m.ct, .int .u64 m.ba, .int .u64 m.ve, .string m.tx, .bool (m.ev), .int .u64 m.eh, .int .u64 m.el, .int .u16 m.ep, .int .u16 m.co, .string m.tt, .string m.da, .string m.sg]))] (.int .i64 ((eO m).size : Int)) (fun _ => by kernel_rfl) (fun w M => c_Size m hr.ty (hv_sm c0) w M.laid) ?_
          refine k_val (want_on 15 true rfl 79 rfl (by kernel_rfl)) (some 82) rfl (.string (eO m)) (fun _ => by kernel_rfl) ?_
          refine k_val (want_on 15 true rfl 79 rfl (by kernel_rfl)) (some 83) rfl (.int .i64 ((eO m).size : Int)) (fun _ => by kernel_rfl) ?_
          refine k_val (want_on 15 true rfl 79 rfl (by kernel_rfl)) (some 84) rfl (.bool true) (fun w => Eq.trans (b := .ok (.value (.bool (decide (((eO m).size : Int) = ((eO m).size : Int))))) w) (by kernel_rfl) (by rw [decide_eq_true (by omega)])) ?_
          refine k_val (want_no rfl) (some 85) rfl (.bool true) (fun _ => by kernel_rfl) ?_
          refine k_val (want_no rfl) (some 86) rfl (.bool true) (fun _ => by kernel_rfl) ?_
          refine k_val (want_on 22 true rfl 86 rfl (by kernel_rfl)) (some 87) rfl (.pointer (some ⟨g1, 0, none⟩)) (fun _ => by kernel_rfl) ?_
          refine k_cell M (want_on 22 true rfl 86 rfl (by kernel_rfl)) (some 88) rfl 5 _ rfl g1 0 (by kernel_rfl) (.int .u8 m.ty) (fun _ => by kernel_rfl) (fun w M => M.cell 0 rfl (by decide) rfl) ?_
          refine k_call M (want_on 22 true rfl 86 rfl (by kernel_rfl)) (some 89) rfl 17 #[.int .u8 m.ty] (.string (tN m.ty 21)) (fun _ => by kernel_rfl) (fun w M => call_val (c_Name m.ty w M.laid) (by rw [tN_nmP])) ?_
          refine k_val (want_on 22 true rfl 86 rfl (by kernel_rfl)) (some 90) rfl (.string (tN m.ty 21)) (fun _ => by kernel_rfl) ?_
          refine k_val (want_on 22 true rfl 86 rfl (by kernel_rfl)) (some 91) rfl (.bool true) (fun w => Eq.trans (b := .ok (.value (.bool ((tN m.ty 21).toList == (tN m.ty 21).toList))) w) (by kernel_rfl) (by rw [beq_self_eq_true])) ?_
          refine k_val (want_no rfl) (some 92) rfl (.bool true) (fun _ => by kernel_rfl) ?_
          refine k_val (want_no rfl) (some 93) rfl (.bool true) (fun _ => by kernel_rfl) ?_
          refine k_val (want_on 29 true rfl 93 rfl (by kernel_rfl)) (some 94) rfl (.int .u8 (fN n_ 21)) (fun _ => by kernel_rfl) ?_
          refine k_val (want_on 29 true rfl 93 rfl (by kernel_rfl)) (some 95) rfl (.int .u8 (fN n_ 21)) (fun _ => by kernel_rfl) ?_
          refine k_val (want_on 29 true rfl 93 rfl (by kernel_rfl)) (some 96) rfl (.bool true) (fun w => Eq.trans (b := .ok (.value (.bool (decide ((fN n_ 21) = (fN n_ 21))))) w) (by kernel_rfl) (by rw [decide_eq_true (by omega)])) ?_
          refine k_val (want_no rfl) (some 97) rfl (.bool true) (fun _ => by kernel_rfl) ?_
          refine k_val (want_no rfl) (some 98) rfl (.bool true) (fun _ => by kernel_rfl) ?_
          refine k_val (want_on 34 true rfl 98 rfl (by kernel_rfl)) (some 99) rfl (.int .i64 150) (fun _ => by kernel_rfl) ?_
          refine k_val (want_on 34 true rfl 98 rfl (by kernel_rfl)) (some 100) rfl (.bool false) (fun _ => by kernel_rfl) ?_
          refine k_val (want_on 34 true rfl 98 rfl (by kernel_rfl)) (some 101) rfl (.int .u8 (fN n_ 21)) (fun _ => by kernel_rfl) ?_
          refine k_val (want_on 34 true rfl 98 rfl (by kernel_rfl)) (some 102) rfl (.bool false) (fun w => Eq.trans (b := .ok (.value (.bool (decide (0 < (fN n_ 21))))) w) (by kernel_rfl) (by rw [decide_eq_false (c2)])) ?_
          refine k_val (want_on 34 true rfl 98 rfl (by kernel_rfl)) (some 103) rfl (.bool true) (fun _ => by kernel_rfl) ?_
          refine k_val (want_no rfl) (some 104) rfl (.bool true) (fun _ => by kernel_rfl) ?_
          refine k_val (want_no rfl) (some 105) rfl (.bool true) (fun _ => by kernel_rfl) ?_
          refine k_val (want_on 41 true rfl 105 rfl (by kernel_rfl)) (some 106) rfl (.int .i64 150) (fun _ => by kernel_rfl) ?_
          refine k_val (want_on 41 true rfl 105 rfl (by kernel_rfl)) (some 107) rfl (.bool false) (fun _ => by kernel_rfl) ?_
          refine k_val (want_on 41 true rfl 105 rfl (by kernel_rfl)) (some 108) rfl (.bool false) (fun _ => by kernel_rfl) ?_
          refine k_val (want_on 44 false rfl 108 rfl (by kernel_rfl)) (some 109) rfl (.int .i64 150) (fun _ => by kernel_rfl) ?_
          refine k_val (want_on 44 false rfl 108 rfl (by kernel_rfl)) (some 110) rfl (.bool true) (fun _ => by kernel_rfl) ?_
          refine k_val (want_on 41 true rfl 105 rfl (by kernel_rfl)) (some 111) rfl (.bool true) (fun _ => by kernel_rfl) ?_
          refine k_val (want_no rfl) (some 112) rfl (.bool true) (fun _ => by kernel_rfl) ?_
          refine k_val (want_no rfl) (some 113) rfl (.bool true) (fun _ => by kernel_rfl) ?_
          refine k_call M (want_on 49 true rfl 113 rfl (by kernel_rfl)) (some 114) rfl 9 #[] (.bool true) (fun _ => by kernel_rfl) (fun w M => c_works w M.laid) ?_
          refine k_val (want_no rfl) (some 115) rfl (.bool true) (fun _ => by kernel_rfl) ?_
          refine kl_nil ?_
          intro u7 M
          replace M : Mem ⟨w, []⟩ [⟨g1, .cells (av 17 (ls [.int .u8 m.ty, .string m.fr, .string m.tq, .int .u32 m.ix, .int .u32 m.pe, .int .u64 m.ct, .int .u64 m.ba, .int .u64 m.ve, .string m.tx, .bool (m.ev), .int .u64 m.eh, .int .u64 m.el, .int .u16 m.ep, .int .u16 m.co, .string m.tt, .string m.da, .string m.sg])) 30⟩, ⟨g2, .cells (av 21 (fS nmA)) 9⟩] u7 := M
          refine pl_val (want_no rfl) (some 4) rfl (.bool true) (fun _ => by kernel_rfl) ?_
          refine pl_nil ?_
          refine au_then ?_
          refine wp_ret ?_
          exact bodyPost_ret (v := .bool true) (results_tmp1 Try.results3 _ _ _ (by kernel_rfl)) (by kernel_rfl) ⟨rfl, below_grown M.old⟩


end Go.Proofs.Ytbechjlkmajcoaa
