/- Part 3 of the walks and facts behind edwReckons_holds. -/
import Derived.Test.YtkeocdebfgcnnaaGreatCk2
/- The document's Decode, told by what its callees hand back. -/
namespace Go.Proofs.YtkeocdebfgcnnaaGreat
open Go.RowKit

structure rdecRF (s : ByteArray) (r1 r2 r3 r4 r5 r6 r7 r8 r9 r10 : Nat → Int) : Prop where
  h1 : ∀ w, Calls Tryz.prog 37 #[.string (bs ((List.range 32).map (upd (bt (s)) 31 (bits .and .u8 ((bt (s)) 31) 127))))] w fun r w' => r = .returned (.bool true) ∧ Below w.heap.size w w'
  h2 : ∀ w, Calls Tryz.prog 38 #[.string (bs ((List.range 32).map (upd (bt (s)) 31 (bits .and .u8 ((bt (s)) 31) 127))))] w fun r w' => r = .returned (.agg (arr 16 r1)) ∧ Below w.heap.size w w'
  h3 : ∀ w, Calls Tryz.prog 39 #[.agg (arr 16 r1), .agg (arr 16 r1)] w fun r w' => r = .returned (.agg (arr 16 r2)) ∧ Below w.heap.size w w'
  h4 : ∀ w, Calls Tryz.prog 41 #[.int .u32 1] w fun r w' => r = .returned (.agg (arr 16 r3)) ∧ Below w.heap.size w w'
  h5 : ∀ w, Calls Tryz.prog 40 #[.agg (arr 16 r2), .agg (arr 16 r3)] w fun r w' => r = .returned (.agg (arr 16 r4)) ∧ Below w.heap.size w w'
  h6 : ∀ w, Calls Tryz.prog 42 #[] w fun r w' => r = .returned (.agg (arr 16 r5)) ∧ Below w.heap.size w w'
  h7 : ∀ w, Calls Tryz.prog 39 #[.agg (arr 16 r5), .agg (arr 16 r2)] w fun r w' => r = .returned (.agg (arr 16 r6)) ∧ Below w.heap.size w w'
  h8 : ∀ w, Calls Tryz.prog 43 #[.agg (arr 16 r6), .agg (arr 16 r3)] w fun r w' => r = .returned (.agg (arr 16 r7)) ∧ Below w.heap.size w w'
  h9 : ∀ w, Calls Tryz.prog 44 #[.agg (arr 16 r7)] w fun r w' => r = .returned (.agg (arr 16 r8)) ∧ Below w.heap.size w w'
  h10 : ∀ w, Calls Tryz.prog 39 #[.agg (arr 16 r4), .agg (arr 16 r8)] w fun r w' => r = .returned (.agg (arr 16 r9)) ∧ Below w.heap.size w w'
  h11 : ∀ w, Calls Tryz.prog 45 #[.agg (arr 16 r9)] w fun r w' => r = .returned (.tuple #[.agg (arr 16 r10), .bool false]) ∧ Below w.heap.size w w'

set_option maxRecDepth 100000 in
set_option maxHeartbeats 4000000 in
theorem rdecR_gen (s : ByteArray) (r1 r2 r3 r4 r5 r6 r7 r8 r9 r10 : Nat → Int) (w : World) (F : rdecRF s r1 r2 r3 r4 r5 r6 r7 r8 r9 r10) (hs : s.size = 32) (hf : ∀ i, i < 32 → 0 ≤ (upd (bt s) 31 (bits .and .u8 (bt s 31) 127)) i ∧ (upd (bt s) 31 (bits .and .u8 (bt s 31) 127)) i < 256) :
    Calls Tryz.prog 8 #[.string s] w fun r w' => r = .returned (.tuple #[.agg (arr 64 (fun _ => 0)), .int .i64 40]) ∧ Below w.heap.size w w' := by
  go_enter Tryz.func8, Tryz.ntmps8
  have M := Mem.start w
  refine wp_seq ?_
  refine rg_lit ?_
  refine pl_new M (want_no rfl) (some 2) rfl (.cells (arr 64 (fun _ => 0)) 41) (fun _ => by kernel_rfl) ?_
  intro g1 w1 M
  replace M : Mem w [⟨g1, .cells (arr 64 (fun _ => 0)) 41⟩] w1 := M
  refine pl_val (want_no rfl) (some 3) rfl (.int .i64 0) (fun _ => by kernel_rfl) ?_
  refine pl_nil ?_
  refine au_then ?_
  refine wp_seq ?_
  refine wp_seq ?_
  refine rg_lit ?_
  refine pl_val (want_no rfl) (some 12) rfl (.string s) (fun _ => by kernel_rfl) ?_
  refine pl_val (want_no rfl) (some 13) rfl (.int .i64 32) (fun w => Eq.trans (b := .ok (.value (.int .i64 (s.size : Int))) w) (by kernel_rfl) (by rw [hs]; rfl)) ?_
  refine pl_val (want_no rfl) (some 14) rfl (.bool false) (fun _ => by kernel_rfl) ?_
  refine pl_nil ?_
  refine au_then ?_
  refine wp_cond_false (by kernel_rfl) ?_
  refine wp_skip ?_
  refine au_then ?_
  refine wp_seq ?_
  refine rg_lit ?_
  refine pl_val (want_no rfl) (some 16) rfl (.string s) (fun _ => by kernel_rfl) ?_
  refine pl_conv M (want_no rfl) (some 17) rfl _ rfl (s) (by kernel_rfl) 32 hs ?_
  intro g2 cg2 Z1 w2 z1 M
  replace M : Mem w [⟨g1, .cells (arr 64 (fun _ => 0)) 41⟩, ⟨g2, Z1⟩] w2 := M
  refine pl_val (want_no rfl) (some 4) rfl (.slice (some ⟨g2, 0, none⟩) 32 cg2) (fun _ => by kernel_rfl) ?_
  refine pl_nil ?_
  refine au_then ?_
  refine wp_seq ?_
  refine rg_lit ?_
  refine pl_val (want_no rfl) (some 18) rfl (.slice (some ⟨g2, 0, none⟩) 32 cg2) (fun _ => by kernel_rfl) ?_
  refine pl_val (want_no rfl) (some 19) rfl (.pointer (some ⟨g2, 31, none⟩)) (fun _ => by kernel_rfl) ?_
  refine pl_loadb M (want_no rfl) (some 20) rfl 5 _ rfl 1 g2 31 (by kernel_rfl) (Z1) rfl 32 (bt (s)) z1 (by decide) (fun _ => by kernel_rfl) ?_
  refine pl_val (want_no rfl) (some 21) rfl (.int .u8 (bt (s) 31 / 128)) (fun w => run_bin .shr 5 _ _ rfl (by kernel_rfl) (by kernel_rfl) (fun _ => by kernel_rfl) (run_shr7 _) w) ?_
  refine pl_val (want_no rfl) (some 22) rfl (.bool (decide (bt (s) 31 / 128 = 1))) (fun _ => by kernel_rfl) ?_
  refine pl_val (want_no rfl) (some 5) rfl (.bool (decide (bt (s) 31 / 128 = 1))) (fun _ => by kernel_rfl) ?_
  refine pl_nil ?_
  refine au_then ?_
  refine wp_seq ?_
  refine rg_lit ?_
  refine pl_val (want_no rfl) (some 23) rfl (.slice (some ⟨g2, 0, none⟩) 32 cg2) (fun _ => by kernel_rfl) ?_
  refine pl_val (want_no rfl) (some 24) rfl (.slice (some ⟨g2, 0, none⟩) 32 cg2) (fun _ => by kernel_rfl) ?_
  refine pl_val (want_no rfl) (some 25) rfl (.pointer (some ⟨g2, 31, none⟩)) (fun _ => by kernel_rfl) ?_
  refine pl_loadb M (want_no rfl) (some 26) rfl 5 _ rfl 1 g2 31 (by kernel_rfl) (Z1) rfl 32 (bt (s)) z1 (by decide) (fun _ => by kernel_rfl) ?_
  refine pl_val (want_no rfl) (some 27) rfl (.int .u8 (bits .and .u8 ((bt (s)) 31) 127)) (fun _ => by kernel_rfl) ?_
  refine pl_val (want_no rfl) (some 28) rfl (.pointer (some ⟨g2, 31, none⟩)) (fun _ => by kernel_rfl) ?_
  refine pl_storeb M (want_no rfl) rfl 5 _ _ rfl 1 g2 31 (by kernel_rfl) (bits .and .u8 ((bt (s)) 31) 127) (by kernel_rfl) (Z1) rfl 32 (bt (s)) z1 (by decide) inzb ?_
  intro Z2 w3 z2 M
  replace M : Mem w [⟨g1, .cells (arr 64 (fun _ => 0)) 41⟩, ⟨g2, Z2⟩] w3 := M
  refine pl_nil ?_
  refine au_then ?_
  refine wp_seq ?_
  refine wp_seq ?_
  refine rg_lit ?_
  refine pl_val (want_no rfl) (some 29) rfl (.slice (some ⟨g2, 0, none⟩) 32 cg2) (fun _ => by kernel_rfl) ?_
  refine pl_back M (want_no rfl) (some 30) rfl _ rfl 1 g2 32 cg2 (by kernel_rfl) (Z2) rfl (upd (bt (s)) 31 (bits .and .u8 ((bt (s)) 31) 127)) z2 hf ?_
  refine pl_call M (want_no rfl) (some 31) rfl 37 #[.string (bs ((List.range 32).map (upd (bt (s)) 31 (bits .and .u8 ((bt (s)) 31) 127))))] (.bool true) (fun _ => by kernel_rfl) F.h1 ?_
  intro w4 M
  refine pl_val (want_no rfl) (some 32) rfl (.bool false) (fun _ => by kernel_rfl) ?_
  refine pl_nil ?_
  refine au_then ?_
  refine wp_cond_false (by kernel_rfl) ?_
  refine wp_skip ?_
  refine au_then ?_
  refine wp_seq ?_
  refine rg_lit ?_
  refine pl_val (want_no rfl) (some 34) rfl (.slice (some ⟨g2, 0, none⟩) 32 cg2) (fun _ => by kernel_rfl) ?_
  refine pl_back M (want_no rfl) (some 35) rfl _ rfl 1 g2 32 cg2 (by kernel_rfl) (Z2) rfl (upd (bt (s)) 31 (bits .and .u8 ((bt (s)) 31) 127)) z2 hf ?_
  refine pl_call M (want_no rfl) (some 36) rfl 38 #[.string (bs ((List.range 32).map (upd (bt (s)) 31 (bits .and .u8 ((bt (s)) 31) 127))))] (.agg (arr 16 r1)) (fun _ => by kernel_rfl) F.h2 ?_
  intro w5 M
  refine pl_new M (want_no rfl) (some 6) rfl (.cells (arr 16 (fun _ => 0)) 39) (fun _ => by kernel_rfl) ?_
  intro g3 w6 M
  replace M : Mem w [⟨g1, .cells (arr 64 (fun _ => 0)) 41⟩, ⟨g2, Z2⟩, ⟨g3, .cells (arr 16 (fun _ => 0)) 39⟩] w6 := M
  refine pl_put M (want_no rfl) rfl 39 _ _ rfl 2 g3 (by kernel_rfl) 16 39 (fun _ => 0) r1 rfl (by kernel_rfl) inz39 ?_
  intro w7 M
  replace M : Mem w [⟨g1, .cells (arr 64 (fun _ => 0)) 41⟩, ⟨g2, Z2⟩, ⟨g3, .cells (arr 16 r1) 39⟩] w7 := M
  refine pl_nil ?_
  refine au_then ?_
  refine wp_seq ?_
  refine rg_lit ?_
  refine pl_load M (want_no rfl) (some 37) rfl 39 _ rfl 2 g3 0 (by kernel_rfl) 16 39 r1 rfl 16 r1 (Part.all _ _) (by decide) _ Tryz.underlying39 rfl inz39 ?_
  refine pl_load M (want_no rfl) (some 38) rfl 39 _ rfl 2 g3 0 (by kernel_rfl) 16 39 r1 rfl 16 r1 (Part.all _ _) (by decide) _ Tryz.underlying39 rfl inz39 ?_
  refine pl_call M (want_no rfl) (some 39) rfl 39 #[.agg (arr 16 r1), .agg (arr 16 r1)] (.agg (arr 16 r2)) (fun _ => by kernel_rfl) F.h3 ?_
  intro w8 M
  refine pl_new M (want_no rfl) (some 7) rfl (.cells (arr 16 (fun _ => 0)) 39) (fun _ => by kernel_rfl) ?_
  intro g4 w9 M
  replace M : Mem w [⟨g1, .cells (arr 64 (fun _ => 0)) 41⟩, ⟨g2, Z2⟩, ⟨g3, .cells (arr 16 r1) 39⟩, ⟨g4, .cells (arr 16 (fun _ => 0)) 39⟩] w9 := M
  refine pl_put M (want_no rfl) rfl 39 _ _ rfl 3 g4 (by kernel_rfl) 16 39 (fun _ => 0) r2 rfl (by kernel_rfl) inz39 ?_
  intro w10 M
  replace M : Mem w [⟨g1, .cells (arr 64 (fun _ => 0)) 41⟩, ⟨g2, Z2⟩, ⟨g3, .cells (arr 16 r1) 39⟩, ⟨g4, .cells (arr 16 r2) 39⟩] w10 := M
  refine pl_nil ?_
  refine au_then ?_
  refine wp_seq ?_
  refine rg_allocs M 3 [(8, 39, 16)] (by kernel_rfl) (by kernel_rfl) ⟨rfl, rfl, fun _ _ => by kernel_rfl, trivial⟩ (by decide) ?_
  simp only [List.take_succ_cons, List.take_zero]
  refine k_load M (want_no rfl) (some 40) rfl 39 _ rfl 3 g4 0 (by kernel_rfl) 16 39 r2 rfl 16 r2 (Part.all _ _) (by decide) _ Tryz.underlying39 rfl inz39 ?_
  refine k_call (want_no rfl) (some 41) rfl 41 #[.int .u32 1] (.agg (arr 16 r3)) (fun _ => by kernel_rfl) F.h4 ?_
  refine k_call (want_no rfl) (some 42) rfl 40 #[.agg (arr 16 r2), .agg (arr 16 r3)] (.agg (arr 16 r4)) (fun _ => by kernel_rfl) F.h5 ?_
  refine kl_nil ?_
  intro w11 g5 M
  replace M : Mem w [⟨g1, .cells (arr 64 (fun _ => 0)) 41⟩, ⟨g2, Z2⟩, ⟨g3, .cells (arr 16 r1) 39⟩, ⟨g4, .cells (arr 16 r2) 39⟩, ⟨g5, .cells (arr 16 (fun _ => 0)) 39⟩] w11 := M
  refine pl_put M (want_no rfl) rfl 39 _ _ rfl 4 g5 (by kernel_rfl) 16 39 (fun _ => 0) r4 rfl (by kernel_rfl) inz39 ?_
  intro w12 M
  replace M : Mem w [⟨g1, .cells (arr 64 (fun _ => 0)) 41⟩, ⟨g2, Z2⟩, ⟨g3, .cells (arr 16 r1) 39⟩, ⟨g4, .cells (arr 16 r2) 39⟩, ⟨g5, .cells (arr 16 r4) 39⟩] w12 := M
  refine pl_nil ?_
  refine au_then ?_
  refine wp_seq ?_
  refine rg_allocs M 5 [(9, 39, 16)] (by kernel_rfl) (by kernel_rfl) ⟨rfl, rfl, fun _ _ => by kernel_rfl, trivial⟩ (by decide) ?_
  simp only [List.take_succ_cons, List.take_zero]
  refine k_call (want_no rfl) (some 43) rfl 42 #[] (.agg (arr 16 r5)) (fun _ => by kernel_rfl) F.h6 ?_
  refine k_load M (want_no rfl) (some 44) rfl 39 _ rfl 3 g4 0 (by kernel_rfl) 16 39 r2 rfl 16 r2 (Part.all _ _) (by decide) _ Tryz.underlying39 rfl inz39 ?_
  refine k_call (want_no rfl) (some 45) rfl 39 #[.agg (arr 16 r5), .agg (arr 16 r2)] (.agg (arr 16 r6)) (fun _ => by kernel_rfl) F.h7 ?_
  refine k_call (want_no rfl) (some 46) rfl 41 #[.int .u32 1] (.agg (arr 16 r3)) (fun _ => by kernel_rfl) F.h4 ?_
  refine k_call (want_no rfl) (some 47) rfl 43 #[.agg (arr 16 r6), .agg (arr 16 r3)] (.agg (arr 16 r7)) (fun _ => by kernel_rfl) F.h8 ?_
  refine kl_nil ?_
  intro w13 g6 M
  replace M : Mem w [⟨g1, .cells (arr 64 (fun _ => 0)) 41⟩, ⟨g2, Z2⟩, ⟨g3, .cells (arr 16 r1) 39⟩, ⟨g4, .cells (arr 16 r2) 39⟩, ⟨g5, .cells (arr 16 r4) 39⟩, ⟨g6, .cells (arr 16 (fun _ => 0)) 39⟩] w13 := M
  refine pl_put M (want_no rfl) rfl 39 _ _ rfl 5 g6 (by kernel_rfl) 16 39 (fun _ => 0) r7 rfl (by kernel_rfl) inz39 ?_
  intro w14 M
  replace M : Mem w [⟨g1, .cells (arr 64 (fun _ => 0)) 41⟩, ⟨g2, Z2⟩, ⟨g3, .cells (arr 16 r1) 39⟩, ⟨g4, .cells (arr 16 r2) 39⟩, ⟨g5, .cells (arr 16 r4) 39⟩, ⟨g6, .cells (arr 16 r7) 39⟩] w14 := M
  refine pl_nil ?_
  refine au_then ?_
  refine wp_seq ?_
  refine region_cut (fun a0 a' w' => ∃ gT8 : Nat, a' = ((((((((((a0.put (some 49) (.agg (arr 16 r4))).put (some 50) (.agg (arr 16 r7))).put (some 51) (.agg (arr 16 r8))).put (some 52) (.agg (arr 16 r9))).put (some 53) (.tuple #[.agg (arr 16 r10), .bool false])).put (some 48) (.tuple #[.agg (arr 16 r10), .bool false])).put (some 54) (.agg (arr 16 r10))).put (some 55) (.bool false)).put (some 10) (.pointer (some ⟨gT8, 0, none⟩))).put (some 11) (.bool false)) ∧ Mem w [⟨g1, .cells (arr 64 (fun _ => 0)) 41⟩, ⟨g2, Z2⟩, ⟨g3, .cells (arr 16 r1) 39⟩, ⟨g4, .cells (arr 16 r2) 39⟩, ⟨g5, .cells (arr 16 r4) 39⟩, ⟨g6, .cells (arr 16 r7) 39⟩, ⟨gT8, .cells (arr 16 r10) 39⟩] w') (by kernel_rfl) ?_ ?_
  rotate_left
  · intro hrest
    replace M := M.drew
    refine wpAny_ready (rs := [0, 1, 8]) (by kernel_rfl) (by simp) ?_
    refine rd_load M rfl rfl (some 49) rfl 39 _ rfl 4 g5 (by kernel_rfl) 16 39 r4 rfl _ Tryz.underlying39 rfl inz39 ?_ ?_
    · skip
      refine wpAny_ready (rs := [1, 8]) (by kernel_rfl) (by simp) ?_
      refine rd_load M rfl rfl (some 50) rfl 39 _ rfl 5 g6 (by kernel_rfl) 16 39 r7 rfl _ Tryz.underlying39 rfl inz39 ?_ ?_
      · skip
        refine wpAny_ready (rs := [2, 8]) (by kernel_rfl) (by simp) ?_
        refine rd_call M rfl rfl (some 51) rfl 44 #[.agg (arr 16 r7)] (.agg (arr 16 r8)) (fun _ => by kernel_rfl) F.h9 ?_ ?_
        · intro u1 M
          refine wpAny_ready (rs := [3, 8]) (by kernel_rfl) (by simp) ?_
          refine rd_call M rfl rfl (some 52) rfl 39 #[.agg (arr 16 r4), .agg (arr 16 r8)] (.agg (arr 16 r9)) (fun _ => by kernel_rfl) F.h10 ?_ ?_
          · intro u2 M
            refine wpAny_ready (rs := [4, 8]) (by kernel_rfl) (by simp) ?_
            refine rd_call M rfl rfl (some 53) rfl 45 #[.agg (arr 16 r9)] (.tuple #[.agg (arr 16 r10), .bool false]) (fun _ => by kernel_rfl) F.h11 ?_ ?_
            · intro u3 M
              refine wpAny_take (i := 5) (v := .tuple #[.agg (arr 16 r10), .bool false]) rfl (by kernel_rfl) (by kernel_rfl) (by kernel_rfl) (fun _ _ _ h => h) (Or.inl ⟨want_no rfl, fun _ => by kernel_rfl⟩) ?_
              refine wpAny_take (i := 6) (v := .agg (arr 16 r10)) rfl (by kernel_rfl) (by kernel_rfl) (by kernel_rfl) (fun _ _ _ h => h) (Or.inl ⟨want_no rfl, fun _ => by kernel_rfl⟩) ?_
              refine wpAny_take (i := 7) (v := .bool false) rfl (by kernel_rfl) (by kernel_rfl) (by kernel_rfl) (fun _ _ _ h => h) (Or.inl ⟨want_no rfl, fun _ => by kernel_rfl⟩) ?_
              refine wpAny_ready (rs := [8]) (by kernel_rfl) (by simp) ?_
              refine rd_new M rfl rfl (some 10) rfl (.cells (arr 16 (fun _ => 0)) 39) (fun _ => by kernel_rfl) ?_ ?_
              · intro k4 u4 M
                replace M : Mem w [⟨g1, .cells (arr 64 (fun _ => 0)) 41⟩, ⟨g2, Z2⟩, ⟨g3, .cells (arr 16 r1) 39⟩, ⟨g4, .cells (arr 16 r2) 39⟩, ⟨g5, .cells (arr 16 r4) 39⟩, ⟨g6, .cells (arr 16 r7) 39⟩, ⟨k4, .cells (arr 16 (fun _ => 0)) 39⟩] u4 := M
                refine wpAny_ready (rs := [9]) (by kernel_rfl) (by simp) ?_
                refine rd_put M rfl rfl rfl 39 _ _ rfl 6 k4 (by kernel_rfl) 16 39 (fun _ => 0) r10 rfl (by kernel_rfl) inz39 ?_ ?_
                · intro u5 M
                  replace M : Mem w [⟨g1, .cells (arr 64 (fun _ => 0)) 41⟩, ⟨g2, Z2⟩, ⟨g3, .cells (arr 16 r1) 39⟩, ⟨g4, .cells (arr 16 r2) 39⟩, ⟨g5, .cells (arr 16 r4) 39⟩, ⟨g6, .cells (arr 16 r7) 39⟩, ⟨k4, .cells (arr 16 r10) 39⟩] u5 := M
                  refine wpAny_take (i := 10) (v := .bool false) rfl (by kernel_rfl) (by kernel_rfl) (by kernel_rfl) (fun _ _ _ h => h) (Or.inl ⟨want_no rfl, fun _ => by kernel_rfl⟩) ?_
                  exact rd_end (by kernel_rfl) (hrest _ _ ⟨k4, by kernel_rfl, M⟩) _
                exact AllReady.nil
              exact AllReady.nil
            refine rd_new M rfl rfl (some 10) rfl (.cells (arr 16 (fun _ => 0)) 39) (fun _ => by kernel_rfl) ?_ ?_
            · intro k6 u6 M
              replace M : Mem w [⟨g1, .cells (arr 64 (fun _ => 0)) 41⟩, ⟨g2, Z2⟩, ⟨g3, .cells (arr 16 r1) 39⟩, ⟨g4, .cells (arr 16 r2) 39⟩, ⟨g5, .cells (arr 16 r4) 39⟩, ⟨g6, .cells (arr 16 r7) 39⟩, ⟨k6, .cells (arr 16 (fun _ => 0)) 39⟩] u6 := M
              refine wpAny_ready (rs := [4]) (by kernel_rfl) (by simp) ?_
              refine rd_call M rfl rfl (some 53) rfl 45 #[.agg (arr 16 r9)] (.tuple #[.agg (arr 16 r10), .bool false]) (fun _ => by kernel_rfl) F.h11 ?_ ?_
              · intro u7 M
                refine wpAny_take (i := 5) (v := .tuple #[.agg (arr 16 r10), .bool false]) rfl (by kernel_rfl) (by kernel_rfl) (by kernel_rfl) (fun _ _ _ h => h) (Or.inl ⟨want_no rfl, fun _ => by kernel_rfl⟩) ?_
                refine wpAny_take (i := 6) (v := .agg (arr 16 r10)) rfl (by kernel_rfl) (by kernel_rfl) (by kernel_rfl) (fun _ _ _ h => h) (Or.inl ⟨want_no rfl, fun _ => by kernel_rfl⟩) ?_
                refine wpAny_take (i := 7) (v := .bool false) rfl (by kernel_rfl) (by kernel_rfl) (by kernel_rfl) (fun _ _ _ h => h) (Or.inl ⟨want_no rfl, fun _ => by kernel_rfl⟩) ?_
                refine wpAny_ready (rs := [9]) (by kernel_rfl) (by simp) ?_
                refine rd_put M rfl rfl rfl 39 _ _ rfl 6 k6 (by kernel_rfl) 16 39 (fun _ => 0) r10 rfl (by kernel_rfl) inz39 ?_ ?_
                · intro u8 M
                  replace M : Mem w [⟨g1, .cells (arr 64 (fun _ => 0)) 41⟩, ⟨g2, Z2⟩, ⟨g3, .cells (arr 16 r1) 39⟩, ⟨g4, .cells (arr 16 r2) 39⟩, ⟨g5, .cells (arr 16 r4) 39⟩, ⟨g6, .cells (arr 16 r7) 39⟩, ⟨k6, .cells (arr 16 r10) 39⟩] u8 := M
                  refine wpAny_take (i := 10) (v := .bool false) rfl (by kernel_rfl) (by kernel_rfl) (by kernel_rfl) (fun _ _ _ h => h) (Or.inl ⟨want_no rfl, fun _ => by kernel_rfl⟩) ?_
                  exact rd_end (by kernel_rfl) (hrest _ _ ⟨k6, by kernel_rfl, M⟩) _
                exact AllReady.nil
              exact AllReady.nil
            exact AllReady.nil
          refine rd_new M rfl rfl (some 10) rfl (.cells (arr 16 (fun _ => 0)) 39) (fun _ => by kernel_rfl) ?_ ?_
          · intro k9 u9 M
            replace M : Mem w [⟨g1, .cells (arr 64 (fun _ => 0)) 41⟩, ⟨g2, Z2⟩, ⟨g3, .cells (arr 16 r1) 39⟩, ⟨g4, .cells (arr 16 r2) 39⟩, ⟨g5, .cells (arr 16 r4) 39⟩, ⟨g6, .cells (arr 16 r7) 39⟩, ⟨k9, .cells (arr 16 (fun _ => 0)) 39⟩] u9 := M
            refine wpAny_ready (rs := [3]) (by kernel_rfl) (by simp) ?_
            refine rd_call M rfl rfl (some 52) rfl 39 #[.agg (arr 16 r4), .agg (arr 16 r8)] (.agg (arr 16 r9)) (fun _ => by kernel_rfl) F.h10 ?_ ?_
            · intro u10 M
              refine wpAny_ready (rs := [4]) (by kernel_rfl) (by simp) ?_
              refine rd_call M rfl rfl (some 53) rfl 45 #[.agg (arr 16 r9)] (.tuple #[.agg (arr 16 r10), .bool false]) (fun _ => by kernel_rfl) F.h11 ?_ ?_
              · intro u11 M
                refine wpAny_take (i := 5) (v := .tuple #[.agg (arr 16 r10), .bool false]) rfl (by kernel_rfl) (by kernel_rfl) (by kernel_rfl) (fun _ _ _ h => h) (Or.inl ⟨want_no rfl, fun _ => by kernel_rfl⟩) ?_
                refine wpAny_take (i := 6) (v := .agg (arr 16 r10)) rfl (by kernel_rfl) (by kernel_rfl) (by kernel_rfl) (fun _ _ _ h => h) (Or.inl ⟨want_no rfl, fun _ => by kernel_rfl⟩) ?_
                refine wpAny_take (i := 7) (v := .bool false) rfl (by kernel_rfl) (by kernel_rfl) (by kernel_rfl) (fun _ _ _ h => h) (Or.inl ⟨want_no rfl, fun _ => by kernel_rfl⟩) ?_
                refine wpAny_ready (rs := [9]) (by kernel_rfl) (by simp) ?_
                refine rd_put M rfl rfl rfl 39 _ _ rfl 6 k9 (by kernel_rfl) 16 39 (fun _ => 0) r10 rfl (by kernel_rfl) inz39 ?_ ?_
                · intro u12 M
                  replace M : Mem w [⟨g1, .cells (arr 64 (fun _ => 0)) 41⟩, ⟨g2, Z2⟩, ⟨g3, .cells (arr 16 r1) 39⟩, ⟨g4, .cells (arr 16 r2) 39⟩, ⟨g5, .cells (arr 16 r4) 39⟩, ⟨g6, .cells (arr 16 r7) 39⟩, ⟨k9, .cells (arr 16 r10) 39⟩] u12 := M
                  refine wpAny_take (i := 10) (v := .bool false) rfl (by kernel_rfl) (by kernel_rfl) (by kernel_rfl) (fun _ _ _ h => h) (Or.inl ⟨want_no rfl, fun _ => by kernel_rfl⟩) ?_
                  exact rd_end (by kernel_rfl) (hrest _ _ ⟨k9, by kernel_rfl, M⟩) _
                exact AllReady.nil
              exact AllReady.nil
            exact AllReady.nil
          exact AllReady.nil
        refine rd_new M rfl rfl (some 10) rfl (.cells (arr 16 (fun _ => 0)) 39) (fun _ => by kernel_rfl) ?_ ?_
        · intro k13 u13 M
          replace M : Mem w [⟨g1, .cells (arr 64 (fun _ => 0)) 41⟩, ⟨g2, Z2⟩, ⟨g3, .cells (arr 16 r1) 39⟩, ⟨g4, .cells (arr 16 r2) 39⟩, ⟨g5, .cells (arr 16 r4) 39⟩, ⟨g6, .cells (arr 16 r7) 39⟩, ⟨k13, .cells (arr 16 (fun _ => 0)) 39⟩] u13 := M
          refine wpAny_ready (rs := [2]) (by kernel_rfl) (by simp) ?_
          refine rd_call M rfl rfl (some 51) rfl 44 #[.agg (arr 16 r7)] (.agg (arr 16 r8)) (fun _ => by kernel_rfl) F.h9 ?_ ?_
          · intro u14 M
            refine wpAny_ready (rs := [3]) (by kernel_rfl) (by simp) ?_
            refine rd_call M rfl rfl (some 52) rfl 39 #[.agg (arr 16 r4), .agg (arr 16 r8)] (.agg (arr 16 r9)) (fun _ => by kernel_rfl) F.h10 ?_ ?_
            · intro u15 M
              refine wpAny_ready (rs := [4]) (by kernel_rfl) (by simp) ?_
              refine rd_call M rfl rfl (some 53) rfl 45 #[.agg (arr 16 r9)] (.tuple #[.agg (arr 16 r10), .bool false]) (fun _ => by kernel_rfl) F.h11 ?_ ?_
              · intro u16 M
                refine wpAny_take (i := 5) (v := .tuple #[.agg (arr 16 r10), .bool false]) rfl (by kernel_rfl) (by kernel_rfl) (by kernel_rfl) (fun _ _ _ h => h) (Or.inl ⟨want_no rfl, fun _ => by kernel_rfl⟩) ?_
                refine wpAny_take (i := 6) (v := .agg (arr 16 r10)) rfl (by kernel_rfl) (by kernel_rfl) (by kernel_rfl) (fun _ _ _ h => h) (Or.inl ⟨want_no rfl, fun _ => by kernel_rfl⟩) ?_
                refine wpAny_take (i := 7) (v := .bool false) rfl (by kernel_rfl) (by kernel_rfl) (by kernel_rfl) (fun _ _ _ h => h) (Or.inl ⟨want_no rfl, fun _ => by kernel_rfl⟩) ?_
                refine wpAny_ready (rs := [9]) (by kernel_rfl) (by simp) ?_
                refine rd_put M rfl rfl rfl 39 _ _ rfl 6 k13 (by kernel_rfl) 16 39 (fun _ => 0) r10 rfl (by kernel_rfl) inz39 ?_ ?_
                · intro u17 M
                  replace M : Mem w [⟨g1, .cells (arr 64 (fun _ => 0)) 41⟩, ⟨g2, Z2⟩, ⟨g3, .cells (arr 16 r1) 39⟩, ⟨g4, .cells (arr 16 r2) 39⟩, ⟨g5, .cells (arr 16 r4) 39⟩, ⟨g6, .cells (arr 16 r7) 39⟩, ⟨k13, .cells (arr 16 r10) 39⟩] u17 := M
                  refine wpAny_take (i := 10) (v := .bool false) rfl (by kernel_rfl) (by kernel_rfl) (by kernel_rfl) (fun _ _ _ h => h) (Or.inl ⟨want_no rfl, fun _ => by kernel_rfl⟩) ?_
                  exact rd_end (by kernel_rfl) (hrest _ _ ⟨k13, by kernel_rfl, M⟩) _
                exact AllReady.nil
              exact AllReady.nil
            exact AllReady.nil
          exact AllReady.nil
        exact AllReady.nil
      refine rd_new M rfl rfl (some 10) rfl (.cells (arr 16 (fun _ => 0)) 39) (fun _ => by kernel_rfl) ?_ ?_
      · intro k18 u18 M
        replace M : Mem w [⟨g1, .cells (arr 64 (fun _ => 0)) 41⟩, ⟨g2, Z2⟩, ⟨g3, .cells (arr 16 r1) 39⟩, ⟨g4, .cells (arr 16 r2) 39⟩, ⟨g5, .cells (arr 16 r4) 39⟩, ⟨g6, .cells (arr 16 r7) 39⟩, ⟨k18, .cells (arr 16 (fun _ => 0)) 39⟩] u18 := M
        refine wpAny_ready (rs := [1]) (by kernel_rfl) (by simp) ?_
        refine rd_load M rfl rfl (some 50) rfl 39 _ rfl 5 g6 (by kernel_rfl) 16 39 r7 rfl _ Tryz.underlying39 rfl inz39 ?_ ?_
        · skip
          refine wpAny_ready (rs := [2]) (by kernel_rfl) (by simp) ?_
          refine rd_call M rfl rfl (some 51) rfl 44 #[.agg (arr 16 r7)] (.agg (arr 16 r8)) (fun _ => by kernel_rfl) F.h9 ?_ ?_
          · intro u19 M
            refine wpAny_ready (rs := [3]) (by kernel_rfl) (by simp) ?_
            refine rd_call M rfl rfl (some 52) rfl 39 #[.agg (arr 16 r4), .agg (arr 16 r8)] (.agg (arr 16 r9)) (fun _ => by kernel_rfl) F.h10 ?_ ?_
            · intro u20 M
              refine wpAny_ready (rs := [4]) (by kernel_rfl) (by simp) ?_
              refine rd_call M rfl rfl (some 53) rfl 45 #[.agg (arr 16 r9)] (.tuple #[.agg (arr 16 r10), .bool false]) (fun _ => by kernel_rfl) F.h11 ?_ ?_
              · intro u21 M
                refine wpAny_take (i := 5) (v := .tuple #[.agg (arr 16 r10), .bool false]) rfl (by kernel_rfl) (by kernel_rfl) (by kernel_rfl) (fun _ _ _ h => h) (Or.inl ⟨want_no rfl, fun _ => by kernel_rfl⟩) ?_
                refine wpAny_take (i := 6) (v := .agg (arr 16 r10)) rfl (by kernel_rfl) (by kernel_rfl) (by kernel_rfl) (fun _ _ _ h => h) (Or.inl ⟨want_no rfl, fun _ => by kernel_rfl⟩) ?_
                refine wpAny_take (i := 7) (v := .bool false) rfl (by kernel_rfl) (by kernel_rfl) (by kernel_rfl) (fun _ _ _ h => h) (Or.inl ⟨want_no rfl, fun _ => by kernel_rfl⟩) ?_
                refine wpAny_ready (rs := [9]) (by kernel_rfl) (by simp) ?_
                refine rd_put M rfl rfl rfl 39 _ _ rfl 6 k18 (by kernel_rfl) 16 39 (fun _ => 0) r10 rfl (by kernel_rfl) inz39 ?_ ?_
                · intro u22 M
                  replace M : Mem w [⟨g1, .cells (arr 64 (fun _ => 0)) 41⟩, ⟨g2, Z2⟩, ⟨g3, .cells (arr 16 r1) 39⟩, ⟨g4, .cells (arr 16 r2) 39⟩, ⟨g5, .cells (arr 16 r4) 39⟩, ⟨g6, .cells (arr 16 r7) 39⟩, ⟨k18, .cells (arr 16 r10) 39⟩] u22 := M
                  refine wpAny_take (i := 10) (v := .bool false) rfl (by kernel_rfl) (by kernel_rfl) (by kernel_rfl) (fun _ _ _ h => h) (Or.inl ⟨want_no rfl, fun _ => by kernel_rfl⟩) ?_
                  exact rd_end (by kernel_rfl) (hrest _ _ ⟨k18, by kernel_rfl, M⟩) _
                exact AllReady.nil
              exact AllReady.nil
            exact AllReady.nil
          exact AllReady.nil
        exact AllReady.nil
      exact AllReady.nil
    refine rd_load M rfl rfl (some 50) rfl 39 _ rfl 5 g6 (by kernel_rfl) 16 39 r7 rfl _ Tryz.underlying39 rfl inz39 ?_ ?_
    · skip
      refine wpAny_ready (rs := [0, 2, 8]) (by kernel_rfl) (by simp) ?_
      refine rd_load M rfl rfl (some 49) rfl 39 _ rfl 4 g5 (by kernel_rfl) 16 39 r4 rfl _ Tryz.underlying39 rfl inz39 ?_ ?_
      · skip
        refine wpAny_ready (rs := [2, 8]) (by kernel_rfl) (by simp) ?_
        refine rd_call M rfl rfl (some 51) rfl 44 #[.agg (arr 16 r7)] (.agg (arr 16 r8)) (fun _ => by kernel_rfl) F.h9 ?_ ?_
        · intro u23 M
          refine wpAny_ready (rs := [3, 8]) (by kernel_rfl) (by simp) ?_
          refine rd_call M rfl rfl (some 52) rfl 39 #[.agg (arr 16 r4), .agg (arr 16 r8)] (.agg (arr 16 r9)) (fun _ => by kernel_rfl) F.h10 ?_ ?_
          · intro u24 M
            refine wpAny_ready (rs := [4, 8]) (by kernel_rfl) (by simp) ?_
            refine rd_call M rfl rfl (some 53) rfl 45 #[.agg (arr 16 r9)] (.tuple #[.agg (arr 16 r10), .bool false]) (fun _ => by kernel_rfl) F.h11 ?_ ?_
            · intro u25 M
              refine wpAny_take (i := 5) (v := .tuple #[.agg (arr 16 r10), .bool false]) rfl (by kernel_rfl) (by kernel_rfl) (by kernel_rfl) (fun _ _ _ h => h) (Or.inl ⟨want_no rfl, fun _ => by kernel_rfl⟩) ?_
              refine wpAny_take (i := 6) (v := .agg (arr 16 r10)) rfl (by kernel_rfl) (by kernel_rfl) (by kernel_rfl) (fun _ _ _ h => h) (Or.inl ⟨want_no rfl, fun _ => by kernel_rfl⟩) ?_
              refine wpAny_take (i := 7) (v := .bool false) rfl (by kernel_rfl) (by kernel_rfl) (by kernel_rfl) (fun _ _ _ h => h) (Or.inl ⟨want_no rfl, fun _ => by kernel_rfl⟩) ?_
              refine wpAny_ready (rs := [8]) (by kernel_rfl) (by simp) ?_
              refine rd_new M rfl rfl (some 10) rfl (.cells (arr 16 (fun _ => 0)) 39) (fun _ => by kernel_rfl) ?_ ?_
              · intro k26 u26 M
                replace M : Mem w [⟨g1, .cells (arr 64 (fun _ => 0)) 41⟩, ⟨g2, Z2⟩, ⟨g3, .cells (arr 16 r1) 39⟩, ⟨g4, .cells (arr 16 r2) 39⟩, ⟨g5, .cells (arr 16 r4) 39⟩, ⟨g6, .cells (arr 16 r7) 39⟩, ⟨k26, .cells (arr 16 (fun _ => 0)) 39⟩] u26 := M
                refine wpAny_ready (rs := [9]) (by kernel_rfl) (by simp) ?_
                refine rd_put M rfl rfl rfl 39 _ _ rfl 6 k26 (by kernel_rfl) 16 39 (fun _ => 0) r10 rfl (by kernel_rfl) inz39 ?_ ?_
                · intro u27 M
                  replace M : Mem w [⟨g1, .cells (arr 64 (fun _ => 0)) 41⟩, ⟨g2, Z2⟩, ⟨g3, .cells (arr 16 r1) 39⟩, ⟨g4, .cells (arr 16 r2) 39⟩, ⟨g5, .cells (arr 16 r4) 39⟩, ⟨g6, .cells (arr 16 r7) 39⟩, ⟨k26, .cells (arr 16 r10) 39⟩] u27 := M
                  refine wpAny_take (i := 10) (v := .bool false) rfl (by kernel_rfl) (by kernel_rfl) (by kernel_rfl) (fun _ _ _ h => h) (Or.inl ⟨want_no rfl, fun _ => by kernel_rfl⟩) ?_
                  exact rd_end (by kernel_rfl) (hrest _ _ ⟨k26, by kernel_rfl, M⟩) _
                exact AllReady.nil
              exact AllReady.nil
            refine rd_new M rfl rfl (some 10) rfl (.cells (arr 16 (fun _ => 0)) 39) (fun _ => by kernel_rfl) ?_ ?_
            · intro k28 u28 M
              replace M : Mem w [⟨g1, .cells (arr 64 (fun _ => 0)) 41⟩, ⟨g2, Z2⟩, ⟨g3, .cells (arr 16 r1) 39⟩, ⟨g4, .cells (arr 16 r2) 39⟩, ⟨g5, .cells (arr 16 r4) 39⟩, ⟨g6, .cells (arr 16 r7) 39⟩, ⟨k28, .cells (arr 16 (fun _ => 0)) 39⟩] u28 := M
              refine wpAny_ready (rs := [4]) (by kernel_rfl) (by simp) ?_
              refine rd_call M rfl rfl (some 53) rfl 45 #[.agg (arr 16 r9)] (.tuple #[.agg (arr 16 r10), .bool false]) (fun _ => by kernel_rfl) F.h11 ?_ ?_
              · intro u29 M
                refine wpAny_take (i := 5) (v := .tuple #[.agg (arr 16 r10), .bool false]) rfl (by kernel_rfl) (by kernel_rfl) (by kernel_rfl) (fun _ _ _ h => h) (Or.inl ⟨want_no rfl, fun _ => by kernel_rfl⟩) ?_
                refine wpAny_take (i := 6) (v := .agg (arr 16 r10)) rfl (by kernel_rfl) (by kernel_rfl) (by kernel_rfl) (fun _ _ _ h => h) (Or.inl ⟨want_no rfl, fun _ => by kernel_rfl⟩) ?_
                refine wpAny_take (i := 7) (v := .bool false) rfl (by kernel_rfl) (by kernel_rfl) (by kernel_rfl) (fun _ _ _ h => h) (Or.inl ⟨want_no rfl, fun _ => by kernel_rfl⟩) ?_
                refine wpAny_ready (rs := [9]) (by kernel_rfl) (by simp) ?_
                refine rd_put M rfl rfl rfl 39 _ _ rfl 6 k28 (by kernel_rfl) 16 39 (fun _ => 0) r10 rfl (by kernel_rfl) inz39 ?_ ?_
                · intro u30 M
                  replace M : Mem w [⟨g1, .cells (arr 64 (fun _ => 0)) 41⟩, ⟨g2, Z2⟩, ⟨g3, .cells (arr 16 r1) 39⟩, ⟨g4, .cells (arr 16 r2) 39⟩, ⟨g5, .cells (arr 16 r4) 39⟩, ⟨g6, .cells (arr 16 r7) 39⟩, ⟨k28, .cells (arr 16 r10) 39⟩] u30 := M
                  refine wpAny_take (i := 10) (v := .bool false) rfl (by kernel_rfl) (by kernel_rfl) (by kernel_rfl) (fun _ _ _ h => h) (Or.inl ⟨want_no rfl, fun _ => by kernel_rfl⟩) ?_
                  exact rd_end (by kernel_rfl) (hrest _ _ ⟨k28, by kernel_rfl, M⟩) _
                exact AllReady.nil
              exact AllReady.nil
            exact AllReady.nil
          refine rd_new M rfl rfl (some 10) rfl (.cells (arr 16 (fun _ => 0)) 39) (fun _ => by kernel_rfl) ?_ ?_
          · intro k31 u31 M
            replace M : Mem w [⟨g1, .cells (arr 64 (fun _ => 0)) 41⟩, ⟨g2, Z2⟩, ⟨g3, .cells (arr 16 r1) 39⟩, ⟨g4, .cells (arr 16 r2) 39⟩, ⟨g5, .cells (arr 16 r4) 39⟩, ⟨g6, .cells (arr 16 r7) 39⟩, ⟨k31, .cells (arr 16 (fun _ => 0)) 39⟩] u31 := M
            refine wpAny_ready (rs := [3]) (by kernel_rfl) (by simp) ?_
            refine rd_call M rfl rfl (some 52) rfl 39 #[.agg (arr 16 r4), .agg (arr 16 r8)] (.agg (arr 16 r9)) (fun _ => by kernel_rfl) F.h10 ?_ ?_
            · intro u32 M
              refine wpAny_ready (rs := [4]) (by kernel_rfl) (by simp) ?_
              refine rd_call M rfl rfl (some 53) rfl 45 #[.agg (arr 16 r9)] (.tuple #[.agg (arr 16 r10), .bool false]) (fun _ => by kernel_rfl) F.h11 ?_ ?_
              · intro u33 M
                refine wpAny_take (i := 5) (v := .tuple #[.agg (arr 16 r10), .bool false]) rfl (by kernel_rfl) (by kernel_rfl) (by kernel_rfl) (fun _ _ _ h => h) (Or.inl ⟨want_no rfl, fun _ => by kernel_rfl⟩) ?_
                refine wpAny_take (i := 6) (v := .agg (arr 16 r10)) rfl (by kernel_rfl) (by kernel_rfl) (by kernel_rfl) (fun _ _ _ h => h) (Or.inl ⟨want_no rfl, fun _ => by kernel_rfl⟩) ?_
                refine wpAny_take (i := 7) (v := .bool false) rfl (by kernel_rfl) (by kernel_rfl) (by kernel_rfl) (fun _ _ _ h => h) (Or.inl ⟨want_no rfl, fun _ => by kernel_rfl⟩) ?_
                refine wpAny_ready (rs := [9]) (by kernel_rfl) (by simp) ?_
                refine rd_put M rfl rfl rfl 39 _ _ rfl 6 k31 (by kernel_rfl) 16 39 (fun _ => 0) r10 rfl (by kernel_rfl) inz39 ?_ ?_
                · intro u34 M
                  replace M : Mem w [⟨g1, .cells (arr 64 (fun _ => 0)) 41⟩, ⟨g2, Z2⟩, ⟨g3, .cells (arr 16 r1) 39⟩, ⟨g4, .cells (arr 16 r2) 39⟩, ⟨g5, .cells (arr 16 r4) 39⟩, ⟨g6, .cells (arr 16 r7) 39⟩, ⟨k31, .cells (arr 16 r10) 39⟩] u34 := M
                  refine wpAny_take (i := 10) (v := .bool false) rfl (by kernel_rfl) (by kernel_rfl) (by kernel_rfl) (fun _ _ _ h => h) (Or.inl ⟨want_no rfl, fun _ => by kernel_rfl⟩) ?_
                  exact rd_end (by kernel_rfl) (hrest _ _ ⟨k31, by kernel_rfl, M⟩) _
                exact AllReady.nil
              exact AllReady.nil
            exact AllReady.nil
          exact AllReady.nil
        refine rd_new M rfl rfl (some 10) rfl (.cells (arr 16 (fun _ => 0)) 39) (fun _ => by kernel_rfl) ?_ ?_
        · intro k35 u35 M
          replace M : Mem w [⟨g1, .cells (arr 64 (fun _ => 0)) 41⟩, ⟨g2, Z2⟩, ⟨g3, .cells (arr 16 r1) 39⟩, ⟨g4, .cells (arr 16 r2) 39⟩, ⟨g5, .cells (arr 16 r4) 39⟩, ⟨g6, .cells (arr 16 r7) 39⟩, ⟨k35, .cells (arr 16 (fun _ => 0)) 39⟩] u35 := M
          refine wpAny_ready (rs := [2]) (by kernel_rfl) (by simp) ?_
          refine rd_call M rfl rfl (some 51) rfl 44 #[.agg (arr 16 r7)] (.agg (arr 16 r8)) (fun _ => by kernel_rfl) F.h9 ?_ ?_
          · intro u36 M
            refine wpAny_ready (rs := [3]) (by kernel_rfl) (by simp) ?_
            refine rd_call M rfl rfl (some 52) rfl 39 #[.agg (arr 16 r4), .agg (arr 16 r8)] (.agg (arr 16 r9)) (fun _ => by kernel_rfl) F.h10 ?_ ?_
            · intro u37 M
              refine wpAny_ready (rs := [4]) (by kernel_rfl) (by simp) ?_
              refine rd_call M rfl rfl (some 53) rfl 45 #[.agg (arr 16 r9)] (.tuple #[.agg (arr 16 r10), .bool false]) (fun _ => by kernel_rfl) F.h11 ?_ ?_
              · intro u38 M
                refine wpAny_take (i := 5) (v := .tuple #[.agg (arr 16 r10), .bool false]) rfl (by kernel_rfl) (by kernel_rfl) (by kernel_rfl) (fun _ _ _ h => h) (Or.inl ⟨want_no rfl, fun _ => by kernel_rfl⟩) ?_
                refine wpAny_take (i := 6) (v := .agg (arr 16 r10)) rfl (by kernel_rfl) (by kernel_rfl) (by kernel_rfl) (fun _ _ _ h => h) (Or.inl ⟨want_no rfl, fun _ => by kernel_rfl⟩) ?_
                refine wpAny_take (i := 7) (v := .bool false) rfl (by kernel_rfl) (by kernel_rfl) (by kernel_rfl) (fun _ _ _ h => h) (Or.inl ⟨want_no rfl, fun _ => by kernel_rfl⟩) ?_
                refine wpAny_ready (rs := [9]) (by kernel_rfl) (by simp) ?_
                refine rd_put M rfl rfl rfl 39 _ _ rfl 6 k35 (by kernel_rfl) 16 39 (fun _ => 0) r10 rfl (by kernel_rfl) inz39 ?_ ?_
                · intro u39 M
                  replace M : Mem w [⟨g1, .cells (arr 64 (fun _ => 0)) 41⟩, ⟨g2, Z2⟩, ⟨g3, .cells (arr 16 r1) 39⟩, ⟨g4, .cells (arr 16 r2) 39⟩, ⟨g5, .cells (arr 16 r4) 39⟩, ⟨g6, .cells (arr 16 r7) 39⟩, ⟨k35, .cells (arr 16 r10) 39⟩] u39 := M
                  refine wpAny_take (i := 10) (v := .bool false) rfl (by kernel_rfl) (by kernel_rfl) (by kernel_rfl) (fun _ _ _ h => h) (Or.inl ⟨want_no rfl, fun _ => by kernel_rfl⟩) ?_
                  exact rd_end (by kernel_rfl) (hrest _ _ ⟨k35, by kernel_rfl, M⟩) _
                exact AllReady.nil
              exact AllReady.nil
            exact AllReady.nil
          exact AllReady.nil
        exact AllReady.nil
      refine rd_call M rfl rfl (some 51) rfl 44 #[.agg (arr 16 r7)] (.agg (arr 16 r8)) (fun _ => by kernel_rfl) F.h9 ?_ ?_
      · intro u40 M
        refine wpAny_ready (rs := [0, 8]) (by kernel_rfl) (by simp) ?_
        refine rd_load M rfl rfl (some 49) rfl 39 _ rfl 4 g5 (by kernel_rfl) 16 39 r4 rfl _ Tryz.underlying39 rfl inz39 ?_ ?_
        · skip
          refine wpAny_ready (rs := [3, 8]) (by kernel_rfl) (by simp) ?_
          refine rd_call M rfl rfl (some 52) rfl 39 #[.agg (arr 16 r4), .agg (arr 16 r8)] (.agg (arr 16 r9)) (fun _ => by kernel_rfl) F.h10 ?_ ?_
          · intro u41 M
            refine wpAny_ready (rs := [4, 8]) (by kernel_rfl) (by simp) ?_
            refine rd_call M rfl rfl (some 53) rfl 45 #[.agg (arr 16 r9)] (.tuple #[.agg (arr 16 r10), .bool false]) (fun _ => by kernel_rfl) F.h11 ?_ ?_
            · intro u42 M
              refine wpAny_take (i := 5) (v := .tuple #[.agg (arr 16 r10), .bool false]) rfl (by kernel_rfl) (by kernel_rfl) (by kernel_rfl) (fun _ _ _ h => h) (Or.inl ⟨want_no rfl, fun _ => by kernel_rfl⟩) ?_
              refine wpAny_take (i := 6) (v := .agg (arr 16 r10)) rfl (by kernel_rfl) (by kernel_rfl) (by kernel_rfl) (fun _ _ _ h => h) (Or.inl ⟨want_no rfl, fun _ => by kernel_rfl⟩) ?_
              refine wpAny_take (i := 7) (v := .bool false) rfl (by kernel_rfl) (by kernel_rfl) (by kernel_rfl) (fun _ _ _ h => h) (Or.inl ⟨want_no rfl, fun _ => by kernel_rfl⟩) ?_
              refine wpAny_ready (rs := [8]) (by kernel_rfl) (by simp) ?_
              refine rd_new M rfl rfl (some 10) rfl (.cells (arr 16 (fun _ => 0)) 39) (fun _ => by kernel_rfl) ?_ ?_
              · intro k43 u43 M
                replace M : Mem w [⟨g1, .cells (arr 64 (fun _ => 0)) 41⟩, ⟨g2, Z2⟩, ⟨g3, .cells (arr 16 r1) 39⟩, ⟨g4, .cells (arr 16 r2) 39⟩, ⟨g5, .cells (arr 16 r4) 39⟩, ⟨g6, .cells (arr 16 r7) 39⟩, ⟨k43, .cells (arr 16 (fun _ => 0)) 39⟩] u43 := M
                refine wpAny_ready (rs := [9]) (by kernel_rfl) (by simp) ?_
                refine rd_put M rfl rfl rfl 39 _ _ rfl 6 k43 (by kernel_rfl) 16 39 (fun _ => 0) r10 rfl (by kernel_rfl) inz39 ?_ ?_
                · intro u44 M
                  replace M : Mem w [⟨g1, .cells (arr 64 (fun _ => 0)) 41⟩, ⟨g2, Z2⟩, ⟨g3, .cells (arr 16 r1) 39⟩, ⟨g4, .cells (arr 16 r2) 39⟩, ⟨g5, .cells (arr 16 r4) 39⟩, ⟨g6, .cells (arr 16 r7) 39⟩, ⟨k43, .cells (arr 16 r10) 39⟩] u44 := M
                  refine wpAny_take (i := 10) (v := .bool false) rfl (by kernel_rfl) (by kernel_rfl) (by kernel_rfl) (fun _ _ _ h => h) (Or.inl ⟨want_no rfl, fun _ => by kernel_rfl⟩) ?_
                  exact rd_end (by kernel_rfl) (hrest _ _ ⟨k43, by kernel_rfl, M⟩) _
                exact AllReady.nil
              exact AllReady.nil
            refine rd_new M rfl rfl (some 10) rfl (.cells (arr 16 (fun _ => 0)) 39) (fun _ => by kernel_rfl) ?_ ?_
            · intro k45 u45 M
              replace M : Mem w [⟨g1, .cells (arr 64 (fun _ => 0)) 41⟩, ⟨g2, Z2⟩, ⟨g3, .cells (arr 16 r1) 39⟩, ⟨g4, .cells (arr 16 r2) 39⟩, ⟨g5, .cells (arr 16 r4) 39⟩, ⟨g6, .cells (arr 16 r7) 39⟩, ⟨k45, .cells (arr 16 (fun _ => 0)) 39⟩] u45 := M
              refine wpAny_ready (rs := [4]) (by kernel_rfl) (by simp) ?_
              refine rd_call M rfl rfl (some 53) rfl 45 #[.agg (arr 16 r9)] (.tuple #[.agg (arr 16 r10), .bool false]) (fun _ => by kernel_rfl) F.h11 ?_ ?_
              · intro u46 M
                refine wpAny_take (i := 5) (v := .tuple #[.agg (arr 16 r10), .bool false]) rfl (by kernel_rfl) (by kernel_rfl) (by kernel_rfl) (fun _ _ _ h => h) (Or.inl ⟨want_no rfl, fun _ => by kernel_rfl⟩) ?_
                refine wpAny_take (i := 6) (v := .agg (arr 16 r10)) rfl (by kernel_rfl) (by kernel_rfl) (by kernel_rfl) (fun _ _ _ h => h) (Or.inl ⟨want_no rfl, fun _ => by kernel_rfl⟩) ?_
                refine wpAny_take (i := 7) (v := .bool false) rfl (by kernel_rfl) (by kernel_rfl) (by kernel_rfl) (fun _ _ _ h => h) (Or.inl ⟨want_no rfl, fun _ => by kernel_rfl⟩) ?_
                refine wpAny_ready (rs := [9]) (by kernel_rfl) (by simp) ?_
                refine rd_put M rfl rfl rfl 39 _ _ rfl 6 k45 (by kernel_rfl) 16 39 (fun _ => 0) r10 rfl (by kernel_rfl) inz39 ?_ ?_
                · intro u47 M
                  replace M : Mem w [⟨g1, .cells (arr 64 (fun _ => 0)) 41⟩, ⟨g2, Z2⟩, ⟨g3, .cells (arr 16 r1) 39⟩, ⟨g4, .cells (arr 16 r2) 39⟩, ⟨g5, .cells (arr 16 r4) 39⟩, ⟨g6, .cells (arr 16 r7) 39⟩, ⟨k45, .cells (arr 16 r10) 39⟩] u47 := M
                  refine wpAny_take (i := 10) (v := .bool false) rfl (by kernel_rfl) (by kernel_rfl) (by kernel_rfl) (fun _ _ _ h => h) (Or.inl ⟨want_no rfl, fun _ => by kernel_rfl⟩) ?_
                  exact rd_end (by kernel_rfl) (hrest _ _ ⟨k45, by kernel_rfl, M⟩) _
                exact AllReady.nil
              exact AllReady.nil
            exact AllReady.nil
          refine rd_new M rfl rfl (some 10) rfl (.cells (arr 16 (fun _ => 0)) 39) (fun _ => by kernel_rfl) ?_ ?_
          · intro k48 u48 M
            replace M : Mem w [⟨g1, .cells (arr 64 (fun _ => 0)) 41⟩, ⟨g2, Z2⟩, ⟨g3, .cells (arr 16 r1) 39⟩, ⟨g4, .cells (arr 16 r2) 39⟩, ⟨g5, .cells (arr 16 r4) 39⟩, ⟨g6, .cells (arr 16 r7) 39⟩, ⟨k48, .cells (arr 16 (fun _ => 0)) 39⟩] u48 := M
            refine wpAny_ready (rs := [3]) (by kernel_rfl) (by simp) ?_
            refine rd_call M rfl rfl (some 52) rfl 39 #[.agg (arr 16 r4), .agg (arr 16 r8)] (.agg (arr 16 r9)) (fun _ => by kernel_rfl) F.h10 ?_ ?_
            · intro u49 M
              refine wpAny_ready (rs := [4]) (by kernel_rfl) (by simp) ?_
              refine rd_call M rfl rfl (some 53) rfl 45 #[.agg (arr 16 r9)] (.tuple #[.agg (arr 16 r10), .bool false]) (fun _ => by kernel_rfl) F.h11 ?_ ?_
              · intro u50 M
                refine wpAny_take (i := 5) (v := .tuple #[.agg (arr 16 r10), .bool false]) rfl (by kernel_rfl) (by kernel_rfl) (by kernel_rfl) (fun _ _ _ h => h) (Or.inl ⟨want_no rfl, fun _ => by kernel_rfl⟩) ?_
                refine wpAny_take (i := 6) (v := .agg (arr 16 r10)) rfl (by kernel_rfl) (by kernel_rfl) (by kernel_rfl) (fun _ _ _ h => h) (Or.inl ⟨want_no rfl, fun _ => by kernel_rfl⟩) ?_
                refine wpAny_take (i := 7) (v := .bool false) rfl (by kernel_rfl) (by kernel_rfl) (by kernel_rfl) (fun _ _ _ h => h) (Or.inl ⟨want_no rfl, fun _ => by kernel_rfl⟩) ?_
                refine wpAny_ready (rs := [9]) (by kernel_rfl) (by simp) ?_
                refine rd_put M rfl rfl rfl 39 _ _ rfl 6 k48 (by kernel_rfl) 16 39 (fun _ => 0) r10 rfl (by kernel_rfl) inz39 ?_ ?_
                · intro u51 M
                  replace M : Mem w [⟨g1, .cells (arr 64 (fun _ => 0)) 41⟩, ⟨g2, Z2⟩, ⟨g3, .cells (arr 16 r1) 39⟩, ⟨g4, .cells (arr 16 r2) 39⟩, ⟨g5, .cells (arr 16 r4) 39⟩, ⟨g6, .cells (arr 16 r7) 39⟩, ⟨k48, .cells (arr 16 r10) 39⟩] u51 := M
                  refine wpAny_take (i := 10) (v := .bool false) rfl (by kernel_rfl) (by kernel_rfl) (by kernel_rfl) (fun _ _ _ h => h) (Or.inl ⟨want_no rfl, fun _ => by kernel_rfl⟩) ?_
                  exact rd_end (by kernel_rfl) (hrest _ _ ⟨k48, by kernel_rfl, M⟩) _
                exact AllReady.nil
              exact AllReady.nil
            exact AllReady.nil
          exact AllReady.nil
        refine rd_new M rfl rfl (some 10) rfl (.cells (arr 16 (fun _ => 0)) 39) (fun _ => by kernel_rfl) ?_ ?_
        · intro k52 u52 M
          replace M : Mem w [⟨g1, .cells (arr 64 (fun _ => 0)) 41⟩, ⟨g2, Z2⟩, ⟨g3, .cells (arr 16 r1) 39⟩, ⟨g4, .cells (arr 16 r2) 39⟩, ⟨g5, .cells (arr 16 r4) 39⟩, ⟨g6, .cells (arr 16 r7) 39⟩, ⟨k52, .cells (arr 16 (fun _ => 0)) 39⟩] u52 := M
          refine wpAny_ready (rs := [0]) (by kernel_rfl) (by simp) ?_
          refine rd_load M rfl rfl (some 49) rfl 39 _ rfl 4 g5 (by kernel_rfl) 16 39 r4 rfl _ Tryz.underlying39 rfl inz39 ?_ ?_
          · skip
            refine wpAny_ready (rs := [3]) (by kernel_rfl) (by simp) ?_
            refine rd_call M rfl rfl (some 52) rfl 39 #[.agg (arr 16 r4), .agg (arr 16 r8)] (.agg (arr 16 r9)) (fun _ => by kernel_rfl) F.h10 ?_ ?_
            · intro u53 M
              refine wpAny_ready (rs := [4]) (by kernel_rfl) (by simp) ?_
              refine rd_call M rfl rfl (some 53) rfl 45 #[.agg (arr 16 r9)] (.tuple #[.agg (arr 16 r10), .bool false]) (fun _ => by kernel_rfl) F.h11 ?_ ?_
              · intro u54 M
                refine wpAny_take (i := 5) (v := .tuple #[.agg (arr 16 r10), .bool false]) rfl (by kernel_rfl) (by kernel_rfl) (by kernel_rfl) (fun _ _ _ h => h) (Or.inl ⟨want_no rfl, fun _ => by kernel_rfl⟩) ?_
                refine wpAny_take (i := 6) (v := .agg (arr 16 r10)) rfl (by kernel_rfl) (by kernel_rfl) (by kernel_rfl) (fun _ _ _ h => h) (Or.inl ⟨want_no rfl, fun _ => by kernel_rfl⟩) ?_
                refine wpAny_take (i := 7) (v := .bool false) rfl (by kernel_rfl) (by kernel_rfl) (by kernel_rfl) (fun _ _ _ h => h) (Or.inl ⟨want_no rfl, fun _ => by kernel_rfl⟩) ?_
                refine wpAny_ready (rs := [9]) (by kernel_rfl) (by simp) ?_
                refine rd_put M rfl rfl rfl 39 _ _ rfl 6 k52 (by kernel_rfl) 16 39 (fun _ => 0) r10 rfl (by kernel_rfl) inz39 ?_ ?_
                · intro u55 M
                  replace M : Mem w [⟨g1, .cells (arr 64 (fun _ => 0)) 41⟩, ⟨g2, Z2⟩, ⟨g3, .cells (arr 16 r1) 39⟩, ⟨g4, .cells (arr 16 r2) 39⟩, ⟨g5, .cells (arr 16 r4) 39⟩, ⟨g6, .cells (arr 16 r7) 39⟩, ⟨k52, .cells (arr 16 r10) 39⟩] u55 := M
                  refine wpAny_take (i := 10) (v := .bool false) rfl (by kernel_rfl) (by kernel_rfl) (by kernel_rfl) (fun _ _ _ h => h) (Or.inl ⟨want_no rfl, fun _ => by kernel_rfl⟩) ?_
                  exact rd_end (by kernel_rfl) (hrest _ _ ⟨k52, by kernel_rfl, M⟩) _
                exact AllReady.nil
              exact AllReady.nil
            exact AllReady.nil
          exact AllReady.nil
        exact AllReady.nil
      refine rd_new M rfl rfl (some 10) rfl (.cells (arr 16 (fun _ => 0)) 39) (fun _ => by kernel_rfl) ?_ ?_
      · intro k56 u56 M
        replace M : Mem w [⟨g1, .cells (arr 64 (fun _ => 0)) 41⟩, ⟨g2, Z2⟩, ⟨g3, .cells (arr 16 r1) 39⟩, ⟨g4, .cells (arr 16 r2) 39⟩, ⟨g5, .cells (arr 16 r4) 39⟩, ⟨g6, .cells (arr 16 r7) 39⟩, ⟨k56, .cells (arr 16 (fun _ => 0)) 39⟩] u56 := M
        refine wpAny_ready (rs := [0, 2]) (by kernel_rfl) (by simp) ?_
        refine rd_load M rfl rfl (some 49) rfl 39 _ rfl 4 g5 (by kernel_rfl) 16 39 r4 rfl _ Tryz.underlying39 rfl inz39 ?_ ?_
        · skip
          refine wpAny_ready (rs := [2]) (by kernel_rfl) (by simp) ?_
          refine rd_call M rfl rfl (some 51) rfl 44 #[.agg (arr 16 r7)] (.agg (arr 16 r8)) (fun _ => by kernel_rfl) F.h9 ?_ ?_
          · intro u57 M
            refine wpAny_ready (rs := [3]) (by kernel_rfl) (by simp) ?_
            refine rd_call M rfl rfl (some 52) rfl 39 #[.agg (arr 16 r4), .agg (arr 16 r8)] (.agg (arr 16 r9)) (fun _ => by kernel_rfl) F.h10 ?_ ?_
            · intro u58 M
              refine wpAny_ready (rs := [4]) (by kernel_rfl) (by simp) ?_
              refine rd_call M rfl rfl (some 53) rfl 45 #[.agg (arr 16 r9)] (.tuple #[.agg (arr 16 r10), .bool false]) (fun _ => by kernel_rfl) F.h11 ?_ ?_
              · intro u59 M
                refine wpAny_take (i := 5) (v := .tuple #[.agg (arr 16 r10), .bool false]) rfl (by kernel_rfl) (by kernel_rfl) (by kernel_rfl) (fun _ _ _ h => h) (Or.inl ⟨want_no rfl, fun _ => by kernel_rfl⟩) ?_
                refine wpAny_take (i := 6) (v := .agg (arr 16 r10)) rfl (by kernel_rfl) (by kernel_rfl) (by kernel_rfl) (fun _ _ _ h => h) (Or.inl ⟨want_no rfl, fun _ => by kernel_rfl⟩) ?_
                refine wpAny_take (i := 7) (v := .bool false) rfl (by kernel_rfl) (by kernel_rfl) (by kernel_rfl) (fun _ _ _ h => h) (Or.inl ⟨want_no rfl, fun _ => by kernel_rfl⟩) ?_
                refine wpAny_ready (rs := [9]) (by kernel_rfl) (by simp) ?_
                refine rd_put M rfl rfl rfl 39 _ _ rfl 6 k56 (by kernel_rfl) 16 39 (fun _ => 0) r10 rfl (by kernel_rfl) inz39 ?_ ?_
                · intro u60 M
                  replace M : Mem w [⟨g1, .cells (arr 64 (fun _ => 0)) 41⟩, ⟨g2, Z2⟩, ⟨g3, .cells (arr 16 r1) 39⟩, ⟨g4, .cells (arr 16 r2) 39⟩, ⟨g5, .cells (arr 16 r4) 39⟩, ⟨g6, .cells (arr 16 r7) 39⟩, ⟨k56, .cells (arr 16 r10) 39⟩] u60 := M
                  refine wpAny_take (i := 10) (v := .bool false) rfl (by kernel_rfl) (by kernel_rfl) (by kernel_rfl) (fun _ _ _ h => h) (Or.inl ⟨want_no rfl, fun _ => by kernel_rfl⟩) ?_
                  exact rd_end (by kernel_rfl) (hrest _ _ ⟨k56, by kernel_rfl, M⟩) _
                exact AllReady.nil
              exact AllReady.nil
            exact AllReady.nil
          exact AllReady.nil
        refine rd_call M rfl rfl (some 51) rfl 44 #[.agg (arr 16 r7)] (.agg (arr 16 r8)) (fun _ => by kernel_rfl) F.h9 ?_ ?_
        · intro u61 M
          refine wpAny_ready (rs := [0]) (by kernel_rfl) (by simp) ?_
          refine rd_load M rfl rfl (some 49) rfl 39 _ rfl 4 g5 (by kernel_rfl) 16 39 r4 rfl _ Tryz.underlying39 rfl inz39 ?_ ?_
          · skip
            refine wpAny_ready (rs := [3]) (by kernel_rfl) (by simp) ?_
            refine rd_call M rfl rfl (some 52) rfl 39 #[.agg (arr 16 r4), .agg (arr 16 r8)] (.agg (arr 16 r9)) (fun _ => by kernel_rfl) F.h10 ?_ ?_
            · intro u62 M
              refine wpAny_ready (rs := [4]) (by kernel_rfl) (by simp) ?_
              refine rd_call M rfl rfl (some 53) rfl 45 #[.agg (arr 16 r9)] (.tuple #[.agg (arr 16 r10), .bool false]) (fun _ => by kernel_rfl) F.h11 ?_ ?_
              · intro u63 M
                refine wpAny_take (i := 5) (v := .tuple #[.agg (arr 16 r10), .bool false]) rfl (by kernel_rfl) (by kernel_rfl) (by kernel_rfl) (fun _ _ _ h => h) (Or.inl ⟨want_no rfl, fun _ => by kernel_rfl⟩) ?_
                refine wpAny_take (i := 6) (v := .agg (arr 16 r10)) rfl (by kernel_rfl) (by kernel_rfl) (by kernel_rfl) (fun _ _ _ h => h) (Or.inl ⟨want_no rfl, fun _ => by kernel_rfl⟩) ?_
                refine wpAny_take (i := 7) (v := .bool false) rfl (by kernel_rfl) (by kernel_rfl) (by kernel_rfl) (fun _ _ _ h => h) (Or.inl ⟨want_no rfl, fun _ => by kernel_rfl⟩) ?_
                refine wpAny_ready (rs := [9]) (by kernel_rfl) (by simp) ?_
                refine rd_put M rfl rfl rfl 39 _ _ rfl 6 k56 (by kernel_rfl) 16 39 (fun _ => 0) r10 rfl (by kernel_rfl) inz39 ?_ ?_
                · intro u64 M
                  replace M : Mem w [⟨g1, .cells (arr 64 (fun _ => 0)) 41⟩, ⟨g2, Z2⟩, ⟨g3, .cells (arr 16 r1) 39⟩, ⟨g4, .cells (arr 16 r2) 39⟩, ⟨g5, .cells (arr 16 r4) 39⟩, ⟨g6, .cells (arr 16 r7) 39⟩, ⟨k56, .cells (arr 16 r10) 39⟩] u64 := M
                  refine wpAny_take (i := 10) (v := .bool false) rfl (by kernel_rfl) (by kernel_rfl) (by kernel_rfl) (fun _ _ _ h => h) (Or.inl ⟨want_no rfl, fun _ => by kernel_rfl⟩) ?_
                  exact rd_end (by kernel_rfl) (hrest _ _ ⟨k56, by kernel_rfl, M⟩) _
                exact AllReady.nil
              exact AllReady.nil
            exact AllReady.nil
          exact AllReady.nil
        exact AllReady.nil
      exact AllReady.nil
    refine rd_new M rfl rfl (some 10) rfl (.cells (arr 16 (fun _ => 0)) 39) (fun _ => by kernel_rfl) ?_ ?_
    · intro k65 u65 M
      replace M : Mem w [⟨g1, .cells (arr 64 (fun _ => 0)) 41⟩, ⟨g2, Z2⟩, ⟨g3, .cells (arr 16 r1) 39⟩, ⟨g4, .cells (arr 16 r2) 39⟩, ⟨g5, .cells (arr 16 r4) 39⟩, ⟨g6, .cells (arr 16 r7) 39⟩, ⟨k65, .cells (arr 16 (fun _ => 0)) 39⟩] u65 := M
      refine wpAny_ready (rs := [0, 1]) (by kernel_rfl) (by simp) ?_
      refine rd_load M rfl rfl (some 49) rfl 39 _ rfl 4 g5 (by kernel_rfl) 16 39 r4 rfl _ Tryz.underlying39 rfl inz39 ?_ ?_
      · skip
        refine wpAny_ready (rs := [1]) (by kernel_rfl) (by simp) ?_
        refine rd_load M rfl rfl (some 50) rfl 39 _ rfl 5 g6 (by kernel_rfl) 16 39 r7 rfl _ Tryz.underlying39 rfl inz39 ?_ ?_
        · skip
          refine wpAny_ready (rs := [2]) (by kernel_rfl) (by simp) ?_
          refine rd_call M rfl rfl (some 51) rfl 44 #[.agg (arr 16 r7)] (.agg (arr 16 r8)) (fun _ => by kernel_rfl) F.h9 ?_ ?_
          · intro u66 M
            refine wpAny_ready (rs := [3]) (by kernel_rfl) (by simp) ?_
            refine rd_call M rfl rfl (some 52) rfl 39 #[.agg (arr 16 r4), .agg (arr 16 r8)] (.agg (arr 16 r9)) (fun _ => by kernel_rfl) F.h10 ?_ ?_
            · intro u67 M
              refine wpAny_ready (rs := [4]) (by kernel_rfl) (by simp) ?_
              refine rd_call M rfl rfl (some 53) rfl 45 #[.agg (arr 16 r9)] (.tuple #[.agg (arr 16 r10), .bool false]) (fun _ => by kernel_rfl) F.h11 ?_ ?_
              · intro u68 M
                refine wpAny_take (i := 5) (v := .tuple #[.agg (arr 16 r10), .bool false]) rfl (by kernel_rfl) (by kernel_rfl) (by kernel_rfl) (fun _ _ _ h => h) (Or.inl ⟨want_no rfl, fun _ => by kernel_rfl⟩) ?_
                refine wpAny_take (i := 6) (v := .agg (arr 16 r10)) rfl (by kernel_rfl) (by kernel_rfl) (by kernel_rfl) (fun _ _ _ h => h) (Or.inl ⟨want_no rfl, fun _ => by kernel_rfl⟩) ?_
                refine wpAny_take (i := 7) (v := .bool false) rfl (by kernel_rfl) (by kernel_rfl) (by kernel_rfl) (fun _ _ _ h => h) (Or.inl ⟨want_no rfl, fun _ => by kernel_rfl⟩) ?_
                refine wpAny_ready (rs := [9]) (by kernel_rfl) (by simp) ?_
                refine rd_put M rfl rfl rfl 39 _ _ rfl 6 k65 (by kernel_rfl) 16 39 (fun _ => 0) r10 rfl (by kernel_rfl) inz39 ?_ ?_
                · intro u69 M
                  replace M : Mem w [⟨g1, .cells (arr 64 (fun _ => 0)) 41⟩, ⟨g2, Z2⟩, ⟨g3, .cells (arr 16 r1) 39⟩, ⟨g4, .cells (arr 16 r2) 39⟩, ⟨g5, .cells (arr 16 r4) 39⟩, ⟨g6, .cells (arr 16 r7) 39⟩, ⟨k65, .cells (arr 16 r10) 39⟩] u69 := M
                  refine wpAny_take (i := 10) (v := .bool false) rfl (by kernel_rfl) (by kernel_rfl) (by kernel_rfl) (fun _ _ _ h => h) (Or.inl ⟨want_no rfl, fun _ => by kernel_rfl⟩) ?_
                  exact rd_end (by kernel_rfl) (hrest _ _ ⟨k65, by kernel_rfl, M⟩) _
                exact AllReady.nil
              exact AllReady.nil
            exact AllReady.nil
          exact AllReady.nil
        exact AllReady.nil
      refine rd_load M rfl rfl (some 50) rfl 39 _ rfl 5 g6 (by kernel_rfl) 16 39 r7 rfl _ Tryz.underlying39 rfl inz39 ?_ ?_
      · skip
        refine wpAny_ready (rs := [0, 2]) (by kernel_rfl) (by simp) ?_
        refine rd_load M rfl rfl (some 49) rfl 39 _ rfl 4 g5 (by kernel_rfl) 16 39 r4 rfl _ Tryz.underlying39 rfl inz39 ?_ ?_
        · skip
          refine wpAny_ready (rs := [2]) (by kernel_rfl) (by simp) ?_
          refine rd_call M rfl rfl (some 51) rfl 44 #[.agg (arr 16 r7)] (.agg (arr 16 r8)) (fun _ => by kernel_rfl) F.h9 ?_ ?_
          · intro u70 M
            refine wpAny_ready (rs := [3]) (by kernel_rfl) (by simp) ?_
            refine rd_call M rfl rfl (some 52) rfl 39 #[.agg (arr 16 r4), .agg (arr 16 r8)] (.agg (arr 16 r9)) (fun _ => by kernel_rfl) F.h10 ?_ ?_
            · intro u71 M
              refine wpAny_ready (rs := [4]) (by kernel_rfl) (by simp) ?_
              refine rd_call M rfl rfl (some 53) rfl 45 #[.agg (arr 16 r9)] (.tuple #[.agg (arr 16 r10), .bool false]) (fun _ => by kernel_rfl) F.h11 ?_ ?_
              · intro u72 M
                refine wpAny_take (i := 5) (v := .tuple #[.agg (arr 16 r10), .bool false]) rfl (by kernel_rfl) (by kernel_rfl) (by kernel_rfl) (fun _ _ _ h => h) (Or.inl ⟨want_no rfl, fun _ => by kernel_rfl⟩) ?_
                refine wpAny_take (i := 6) (v := .agg (arr 16 r10)) rfl (by kernel_rfl) (by kernel_rfl) (by kernel_rfl) (fun _ _ _ h => h) (Or.inl ⟨want_no rfl, fun _ => by kernel_rfl⟩) ?_
                refine wpAny_take (i := 7) (v := .bool false) rfl (by kernel_rfl) (by kernel_rfl) (by kernel_rfl) (fun _ _ _ h => h) (Or.inl ⟨want_no rfl, fun _ => by kernel_rfl⟩) ?_
                refine wpAny_ready (rs := [9]) (by kernel_rfl) (by simp) ?_
                refine rd_put M rfl rfl rfl 39 _ _ rfl 6 k65 (by kernel_rfl) 16 39 (fun _ => 0) r10 rfl (by kernel_rfl) inz39 ?_ ?_
                · intro u73 M
                  replace M : Mem w [⟨g1, .cells (arr 64 (fun _ => 0)) 41⟩, ⟨g2, Z2⟩, ⟨g3, .cells (arr 16 r1) 39⟩, ⟨g4, .cells (arr 16 r2) 39⟩, ⟨g5, .cells (arr 16 r4) 39⟩, ⟨g6, .cells (arr 16 r7) 39⟩, ⟨k65, .cells (arr 16 r10) 39⟩] u73 := M
                  refine wpAny_take (i := 10) (v := .bool false) rfl (by kernel_rfl) (by kernel_rfl) (by kernel_rfl) (fun _ _ _ h => h) (Or.inl ⟨want_no rfl, fun _ => by kernel_rfl⟩) ?_
                  exact rd_end (by kernel_rfl) (hrest _ _ ⟨k65, by kernel_rfl, M⟩) _
                exact AllReady.nil
              exact AllReady.nil
            exact AllReady.nil
          exact AllReady.nil
        refine rd_call M rfl rfl (some 51) rfl 44 #[.agg (arr 16 r7)] (.agg (arr 16 r8)) (fun _ => by kernel_rfl) F.h9 ?_ ?_
        · intro u74 M
          refine wpAny_ready (rs := [0]) (by kernel_rfl) (by simp) ?_
          refine rd_load M rfl rfl (some 49) rfl 39 _ rfl 4 g5 (by kernel_rfl) 16 39 r4 rfl _ Tryz.underlying39 rfl inz39 ?_ ?_
          · skip
            refine wpAny_ready (rs := [3]) (by kernel_rfl) (by simp) ?_
            refine rd_call M rfl rfl (some 52) rfl 39 #[.agg (arr 16 r4), .agg (arr 16 r8)] (.agg (arr 16 r9)) (fun _ => by kernel_rfl) F.h10 ?_ ?_
            · intro u75 M
              refine wpAny_ready (rs := [4]) (by kernel_rfl) (by simp) ?_
              refine rd_call M rfl rfl (some 53) rfl 45 #[.agg (arr 16 r9)] (.tuple #[.agg (arr 16 r10), .bool false]) (fun _ => by kernel_rfl) F.h11 ?_ ?_
              · intro u76 M
                refine wpAny_take (i := 5) (v := .tuple #[.agg (arr 16 r10), .bool false]) rfl (by kernel_rfl) (by kernel_rfl) (by kernel_rfl) (fun _ _ _ h => h) (Or.inl ⟨want_no rfl, fun _ => by kernel_rfl⟩) ?_
                refine wpAny_take (i := 6) (v := .agg (arr 16 r10)) rfl (by kernel_rfl) (by kernel_rfl) (by kernel_rfl) (fun _ _ _ h => h) (Or.inl ⟨want_no rfl, fun _ => by kernel_rfl⟩) ?_
                refine wpAny_take (i := 7) (v := .bool false) rfl (by kernel_rfl) (by kernel_rfl) (by kernel_rfl) (fun _ _ _ h => h) (Or.inl ⟨want_no rfl, fun _ => by kernel_rfl⟩) ?_
                refine wpAny_ready (rs := [9]) (by kernel_rfl) (by simp) ?_
                refine rd_put M rfl rfl rfl 39 _ _ rfl 6 k65 (by kernel_rfl) 16 39 (fun _ => 0) r10 rfl (by kernel_rfl) inz39 ?_ ?_
                · intro u77 M
                  replace M : Mem w [⟨g1, .cells (arr 64 (fun _ => 0)) 41⟩, ⟨g2, Z2⟩, ⟨g3, .cells (arr 16 r1) 39⟩, ⟨g4, .cells (arr 16 r2) 39⟩, ⟨g5, .cells (arr 16 r4) 39⟩, ⟨g6, .cells (arr 16 r7) 39⟩, ⟨k65, .cells (arr 16 r10) 39⟩] u77 := M
                  refine wpAny_take (i := 10) (v := .bool false) rfl (by kernel_rfl) (by kernel_rfl) (by kernel_rfl) (fun _ _ _ h => h) (Or.inl ⟨want_no rfl, fun _ => by kernel_rfl⟩) ?_
                  exact rd_end (by kernel_rfl) (hrest _ _ ⟨k65, by kernel_rfl, M⟩) _
                exact AllReady.nil
              exact AllReady.nil
            exact AllReady.nil
          exact AllReady.nil
        exact AllReady.nil
      exact AllReady.nil
    exact AllReady.nil
  rintro _ w15 ⟨gT8, rfl, M⟩
  refine au_then ?_
  refine wp_seq ?_
  refine wp_seq ?_
  refine rg_lit ?_
  refine pl_val (want_no rfl) (some 56) rfl (.bool false) (fun _ => by kernel_rfl) ?_
  refine pl_val (want_no rfl) (some 57) rfl (.bool true) (fun _ => by kernel_rfl) ?_
  refine pl_val (want_no rfl) (some 58) rfl (.bool true) (fun _ => by kernel_rfl) ?_
  refine pl_skip (want_off 2 false rfl 58 rfl (by kernel_rfl)) (some 59) rfl ?_
  refine pl_skip (want_off 2 false rfl 58 rfl (by kernel_rfl)) (some 60) rfl ?_
  refine pl_skip (want_off 2 false rfl 58 rfl (by kernel_rfl)) (some 61) rfl ?_
  refine pl_skip (want_off 2 false rfl 58 rfl (by kernel_rfl)) (some 62) rfl ?_
  refine pl_skip (want_und 6 true rfl 62 rfl (by kernel_rfl)) (some 63) rfl ?_
  refine pl_skip (want_off 2 false rfl 58 rfl (by kernel_rfl)) (some 64) rfl ?_
  refine pl_val (want_no rfl) (some 65) rfl (.bool true) (fun _ => by kernel_rfl) ?_
  refine pl_nil ?_
  refine au_then ?_
  refine wp_cond_true (by kernel_rfl) ?_
  refine wp_seq ?_
  refine rg_lit ?_
  refine pl_val (want_no rfl) (some 66) rfl (.agg (arr 64 (fun _ => 0))) (fun _ => by kernel_rfl) ?_
  refine pl_put M (want_no rfl) rfl 41 _ _ rfl 0 g1 (by kernel_rfl) 64 41 (fun _ => 0) (fun _ => 0) rfl (by kernel_rfl) inz41 ?_
  intro w16 M
  replace M : Mem w [⟨g1, .cells (arr 64 (fun _ => 0)) 41⟩, ⟨g2, Z2⟩, ⟨g3, .cells (arr 16 r1) 39⟩, ⟨g4, .cells (arr 16 r2) 39⟩, ⟨g5, .cells (arr 16 r4) 39⟩, ⟨g6, .cells (arr 16 r7) 39⟩, ⟨gT8, .cells (arr 16 r10) 39⟩] w16 := M
  refine pl_val (want_no rfl) (some 3) rfl (.int .i64 40) (fun _ => by kernel_rfl) ?_
  refine pl_nil ?_
  refine au_then ?_
  refine wp_ret ?_
  refine au_then_ret ?_
  exact bodyPost_ret (v := .tuple #[.agg (arr 64 (fun _ => 0)), .int .i64 40]) (results_cell_tmp Tryz.results8 _ _ g1 41 (arr 64 (fun _ => 0)) (0, 0) _ (.int .i64 40) (by kernel_rfl) (by kernel_rfl) (M.get 0 rfl) Tryz.underlying41 rfl (by rw [arr_size]; exact inz41)) (by kernel_rfl) ⟨rfl, M.old⟩

structure rdecYFF (s : ByteArray) (r1 r2 r3 r4 r5 r6 r7 r8 r9 r10 r11 : Nat → Int) : Prop where
  h1 : ∀ w, Calls Tryz.prog 37 #[.string (bs ((List.range 32).map (upd (bt (s)) 31 (bits .and .u8 ((bt (s)) 31) 127))))] w fun r w' => r = .returned (.bool true) ∧ Below w.heap.size w w'
  h2 : ∀ w, Calls Tryz.prog 38 #[.string (bs ((List.range 32).map (upd (bt (s)) 31 (bits .and .u8 ((bt (s)) 31) 127))))] w fun r w' => r = .returned (.agg (arr 16 r1)) ∧ Below w.heap.size w w'
  h3 : ∀ w, Calls Tryz.prog 39 #[.agg (arr 16 r1), .agg (arr 16 r1)] w fun r w' => r = .returned (.agg (arr 16 r2)) ∧ Below w.heap.size w w'
  h4 : ∀ w, Calls Tryz.prog 41 #[.int .u32 1] w fun r w' => r = .returned (.agg (arr 16 r3)) ∧ Below w.heap.size w w'
  h5 : ∀ w, Calls Tryz.prog 40 #[.agg (arr 16 r2), .agg (arr 16 r3)] w fun r w' => r = .returned (.agg (arr 16 r4)) ∧ Below w.heap.size w w'
  h6 : ∀ w, Calls Tryz.prog 42 #[] w fun r w' => r = .returned (.agg (arr 16 r5)) ∧ Below w.heap.size w w'
  h7 : ∀ w, Calls Tryz.prog 39 #[.agg (arr 16 r5), .agg (arr 16 r2)] w fun r w' => r = .returned (.agg (arr 16 r6)) ∧ Below w.heap.size w w'
  h8 : ∀ w, Calls Tryz.prog 43 #[.agg (arr 16 r6), .agg (arr 16 r3)] w fun r w' => r = .returned (.agg (arr 16 r7)) ∧ Below w.heap.size w w'
  h9 : ∀ w, Calls Tryz.prog 44 #[.agg (arr 16 r7)] w fun r w' => r = .returned (.agg (arr 16 r8)) ∧ Below w.heap.size w w'
  h10 : ∀ w, Calls Tryz.prog 39 #[.agg (arr 16 r4), .agg (arr 16 r8)] w fun r w' => r = .returned (.agg (arr 16 r9)) ∧ Below w.heap.size w w'
  h11 : ∀ w, Calls Tryz.prog 45 #[.agg (arr 16 r9)] w fun r w' => r = .returned (.tuple #[.agg (arr 16 r10), .bool true]) ∧ Below w.heap.size w w'
  h12 : ∀ w, Calls Tryz.prog 47 #[.agg (arr 16 r10), .agg (arr 16 r1)] w fun r w' => r = .returned (.agg (arr 64 r11)) ∧ Below w.heap.size w w'

set_option maxRecDepth 100000 in
set_option maxHeartbeats 4000000 in
theorem rdecYF_gen (s : ByteArray) (r1 r2 r3 r4 r5 r6 r7 r8 r9 r10 r11 : Nat → Int) (w : World) (F : rdecYFF s r1 r2 r3 r4 r5 r6 r7 r8 r9 r10 r11) (hs : s.size = 32) (hf : ∀ i, i < 32 → 0 ≤ (upd (bt s) 31 (bits .and .u8 (bt s 31) 127)) i ∧ (upd (bt s) 31 (bits .and .u8 (bt s 31) 127)) i < 256) (ho : decide (bt s 31 / 128 = 1) = false) (he : eqw r10 (fun _ => 0) 0 16 = false) :
    Calls Tryz.prog 8 #[.string s] w fun r w' => r = .returned (.tuple #[.agg (arr 64 r11), .int .i64 0]) ∧ Below w.heap.size w w' := by
  go_enter Tryz.func8, Tryz.ntmps8
  have M := Mem.start w
  refine wp_seq ?_
  refine rg_lit ?_
  refine pl_new M (want_no rfl) (some 2) rfl (.cells (arr 64 (fun _ => 0)) 41) (fun _ => by kernel_rfl) ?_
  intro g1 w1 M
  replace M : Mem w [⟨g1, .cells (arr 64 (fun _ => 0)) 41⟩] w1 := M
  refine pl_val (want_no rfl) (some 3) rfl (.int .i64 0) (fun _ => by kernel_rfl) ?_
  refine pl_nil ?_
  refine au_then ?_
  refine wp_seq ?_
  refine wp_seq ?_
  refine rg_lit ?_
  refine pl_val (want_no rfl) (some 12) rfl (.string s) (fun _ => by kernel_rfl) ?_
  refine pl_val (want_no rfl) (some 13) rfl (.int .i64 32) (fun w => Eq.trans (b := .ok (.value (.int .i64 (s.size : Int))) w) (by kernel_rfl) (by rw [hs]; rfl)) ?_
  refine pl_val (want_no rfl) (some 14) rfl (.bool false) (fun _ => by kernel_rfl) ?_
  refine pl_nil ?_
  refine au_then ?_
  refine wp_cond_false (by kernel_rfl) ?_
  refine wp_skip ?_
  refine au_then ?_
  refine wp_seq ?_
  refine rg_lit ?_
  refine pl_val (want_no rfl) (some 16) rfl (.string s) (fun _ => by kernel_rfl) ?_
  refine pl_conv M (want_no rfl) (some 17) rfl _ rfl (s) (by kernel_rfl) 32 hs ?_
  intro g2 cg2 Z1 w2 z1 M
  replace M : Mem w [⟨g1, .cells (arr 64 (fun _ => 0)) 41⟩, ⟨g2, Z1⟩] w2 := M
  refine pl_val (want_no rfl) (some 4) rfl (.slice (some ⟨g2, 0, none⟩) 32 cg2) (fun _ => by kernel_rfl) ?_
  refine pl_nil ?_
  refine au_then ?_
  refine wp_seq ?_
  refine rg_lit ?_
  refine pl_val (want_no rfl) (some 18) rfl (.slice (some ⟨g2, 0, none⟩) 32 cg2) (fun _ => by kernel_rfl) ?_
  refine pl_val (want_no rfl) (some 19) rfl (.pointer (some ⟨g2, 31, none⟩)) (fun _ => by kernel_rfl) ?_
  refine pl_loadb M (want_no rfl) (some 20) rfl 5 _ rfl 1 g2 31 (by kernel_rfl) (Z1) rfl 32 (bt (s)) z1 (by decide) (fun _ => by kernel_rfl) ?_
  refine pl_val (want_no rfl) (some 21) rfl (.int .u8 (bt (s) 31 / 128)) (fun w => run_bin .shr 5 _ _ rfl (by kernel_rfl) (by kernel_rfl) (fun _ => by kernel_rfl) (run_shr7 _) w) ?_
  refine pl_val (want_no rfl) (some 22) rfl (.bool false) (fun w => Eq.trans (b := .ok (.value (.bool (decide (bt s 31 / 128 = 1)))) w) (by kernel_rfl) (by rw [ho])) ?_
  refine pl_val (want_no rfl) (some 5) rfl (.bool false) (fun _ => by kernel_rfl) ?_
  refine pl_nil ?_
  refine au_then ?_
  refine wp_seq ?_
  refine rg_lit ?_
  refine pl_val (want_no rfl) (some 23) rfl (.slice (some ⟨g2, 0, none⟩) 32 cg2) (fun _ => by kernel_rfl) ?_
  refine pl_val (want_no rfl) (some 24) rfl (.slice (some ⟨g2, 0, none⟩) 32 cg2) (fun _ => by kernel_rfl) ?_
  refine pl_val (want_no rfl) (some 25) rfl (.pointer (some ⟨g2, 31, none⟩)) (fun _ => by kernel_rfl) ?_
  refine pl_loadb M (want_no rfl) (some 26) rfl 5 _ rfl 1 g2 31 (by kernel_rfl) (Z1) rfl 32 (bt (s)) z1 (by decide) (fun _ => by kernel_rfl) ?_
  refine pl_val (want_no rfl) (some 27) rfl (.int .u8 (bits .and .u8 ((bt (s)) 31) 127)) (fun _ => by kernel_rfl) ?_
  refine pl_val (want_no rfl) (some 28) rfl (.pointer (some ⟨g2, 31, none⟩)) (fun _ => by kernel_rfl) ?_
  refine pl_storeb M (want_no rfl) rfl 5 _ _ rfl 1 g2 31 (by kernel_rfl) (bits .and .u8 ((bt (s)) 31) 127) (by kernel_rfl) (Z1) rfl 32 (bt (s)) z1 (by decide) inzb ?_
  intro Z2 w3 z2 M
  replace M : Mem w [⟨g1, .cells (arr 64 (fun _ => 0)) 41⟩, ⟨g2, Z2⟩] w3 := M
  refine pl_nil ?_
  refine au_then ?_
  refine wp_seq ?_
  refine wp_seq ?_
  refine rg_lit ?_
  refine pl_val (want_no rfl) (some 29) rfl (.slice (some ⟨g2, 0, none⟩) 32 cg2) (fun _ => by kernel_rfl) ?_
  refine pl_back M (want_no rfl) (some 30) rfl _ rfl 1 g2 32 cg2 (by kernel_rfl) (Z2) rfl (upd (bt (s)) 31 (bits .and .u8 ((bt (s)) 31) 127)) z2 hf ?_
  refine pl_call M (want_no rfl) (some 31) rfl 37 #[.string (bs ((List.range 32).map (upd (bt (s)) 31 (bits .and .u8 ((bt (s)) 31) 127))))] (.bool true) (fun _ => by kernel_rfl) F.h1 ?_
  intro w4 M
  refine pl_val (want_no rfl) (some 32) rfl (.bool false) (fun _ => by kernel_rfl) ?_
  refine pl_nil ?_
  refine au_then ?_
  refine wp_cond_false (by kernel_rfl) ?_
  refine wp_skip ?_
  refine au_then ?_
  refine wp_seq ?_
  refine rg_lit ?_
  refine pl_val (want_no rfl) (some 34) rfl (.slice (some ⟨g2, 0, none⟩) 32 cg2) (fun _ => by kernel_rfl) ?_
  refine pl_back M (want_no rfl) (some 35) rfl _ rfl 1 g2 32 cg2 (by kernel_rfl) (Z2) rfl (upd (bt (s)) 31 (bits .and .u8 ((bt (s)) 31) 127)) z2 hf ?_
  refine pl_call M (want_no rfl) (some 36) rfl 38 #[.string (bs ((List.range 32).map (upd (bt (s)) 31 (bits .and .u8 ((bt (s)) 31) 127))))] (.agg (arr 16 r1)) (fun _ => by kernel_rfl) F.h2 ?_
  intro w5 M
  refine pl_new M (want_no rfl) (some 6) rfl (.cells (arr 16 (fun _ => 0)) 39) (fun _ => by kernel_rfl) ?_
  intro g3 w6 M
  replace M : Mem w [⟨g1, .cells (arr 64 (fun _ => 0)) 41⟩, ⟨g2, Z2⟩, ⟨g3, .cells (arr 16 (fun _ => 0)) 39⟩] w6 := M
  refine pl_put M (want_no rfl) rfl 39 _ _ rfl 2 g3 (by kernel_rfl) 16 39 (fun _ => 0) r1 rfl (by kernel_rfl) inz39 ?_
  intro w7 M
  replace M : Mem w [⟨g1, .cells (arr 64 (fun _ => 0)) 41⟩, ⟨g2, Z2⟩, ⟨g3, .cells (arr 16 r1) 39⟩] w7 := M
  refine pl_nil ?_
  refine au_then ?_
  refine wp_seq ?_
  refine rg_lit ?_
  refine pl_load M (want_no rfl) (some 37) rfl 39 _ rfl 2 g3 0 (by kernel_rfl) 16 39 r1 rfl 16 r1 (Part.all _ _) (by decide) _ Tryz.underlying39 rfl inz39 ?_
  refine pl_load M (want_no rfl) (some 38) rfl 39 _ rfl 2 g3 0 (by kernel_rfl) 16 39 r1 rfl 16 r1 (Part.all _ _) (by decide) _ Tryz.underlying39 rfl inz39 ?_
  refine pl_call M (want_no rfl) (some 39) rfl 39 #[.agg (arr 16 r1), .agg (arr 16 r1)] (.agg (arr 16 r2)) (fun _ => by kernel_rfl) F.h3 ?_
  intro w8 M
  refine pl_new M (want_no rfl) (some 7) rfl (.cells (arr 16 (fun _ => 0)) 39) (fun _ => by kernel_rfl) ?_
  intro g4 w9 M
  replace M : Mem w [⟨g1, .cells (arr 64 (fun _ => 0)) 41⟩, ⟨g2, Z2⟩, ⟨g3, .cells (arr 16 r1) 39⟩, ⟨g4, .cells (arr 16 (fun _ => 0)) 39⟩] w9 := M
  refine pl_put M (want_no rfl) rfl 39 _ _ rfl 3 g4 (by kernel_rfl) 16 39 (fun _ => 0) r2 rfl (by kernel_rfl) inz39 ?_
  intro w10 M
  replace M : Mem w [⟨g1, .cells (arr 64 (fun _ => 0)) 41⟩, ⟨g2, Z2⟩, ⟨g3, .cells (arr 16 r1) 39⟩, ⟨g4, .cells (arr 16 r2) 39⟩] w10 := M
  refine pl_nil ?_
  refine au_then ?_
  refine wp_seq ?_
  refine rg_allocs M 3 [(8, 39, 16)] (by kernel_rfl) (by kernel_rfl) ⟨rfl, rfl, fun _ _ => by kernel_rfl, trivial⟩ (by decide) ?_
  simp only [List.take_succ_cons, List.take_zero]
  refine k_load M (want_no rfl) (some 40) rfl 39 _ rfl 3 g4 0 (by kernel_rfl) 16 39 r2 rfl 16 r2 (Part.all _ _) (by decide) _ Tryz.underlying39 rfl inz39 ?_
  refine k_call (want_no rfl) (some 41) rfl 41 #[.int .u32 1] (.agg (arr 16 r3)) (fun _ => by kernel_rfl) F.h4 ?_
  refine k_call (want_no rfl) (some 42) rfl 40 #[.agg (arr 16 r2), .agg (arr 16 r3)] (.agg (arr 16 r4)) (fun _ => by kernel_rfl) F.h5 ?_
  refine kl_nil ?_
  intro w11 g5 M
  replace M : Mem w [⟨g1, .cells (arr 64 (fun _ => 0)) 41⟩, ⟨g2, Z2⟩, ⟨g3, .cells (arr 16 r1) 39⟩, ⟨g4, .cells (arr 16 r2) 39⟩, ⟨g5, .cells (arr 16 (fun _ => 0)) 39⟩] w11 := M
  refine pl_put M (want_no rfl) rfl 39 _ _ rfl 4 g5 (by kernel_rfl) 16 39 (fun _ => 0) r4 rfl (by kernel_rfl) inz39 ?_
  intro w12 M
  replace M : Mem w [⟨g1, .cells (arr 64 (fun _ => 0)) 41⟩, ⟨g2, Z2⟩, ⟨g3, .cells (arr 16 r1) 39⟩, ⟨g4, .cells (arr 16 r2) 39⟩, ⟨g5, .cells (arr 16 r4) 39⟩] w12 := M
  refine pl_nil ?_
  refine au_then ?_
  refine wp_seq ?_
  refine rg_allocs M 5 [(9, 39, 16)] (by kernel_rfl) (by kernel_rfl) ⟨rfl, rfl, fun _ _ => by kernel_rfl, trivial⟩ (by decide) ?_
  simp only [List.take_succ_cons, List.take_zero]
  refine k_call (want_no rfl) (some 43) rfl 42 #[] (.agg (arr 16 r5)) (fun _ => by kernel_rfl) F.h6 ?_
  refine k_load M (want_no rfl) (some 44) rfl 39 _ rfl 3 g4 0 (by kernel_rfl) 16 39 r2 rfl 16 r2 (Part.all _ _) (by decide) _ Tryz.underlying39 rfl inz39 ?_
  refine k_call (want_no rfl) (some 45) rfl 39 #[.agg (arr 16 r5), .agg (arr 16 r2)] (.agg (arr 16 r6)) (fun _ => by kernel_rfl) F.h7 ?_
  refine k_call (want_no rfl) (some 46) rfl 41 #[.int .u32 1] (.agg (arr 16 r3)) (fun _ => by kernel_rfl) F.h4 ?_
  refine k_call (want_no rfl) (some 47) rfl 43 #[.agg (arr 16 r6), .agg (arr 16 r3)] (.agg (arr 16 r7)) (fun _ => by kernel_rfl) F.h8 ?_
  refine kl_nil ?_
  intro w13 g6 M
  replace M : Mem w [⟨g1, .cells (arr 64 (fun _ => 0)) 41⟩, ⟨g2, Z2⟩, ⟨g3, .cells (arr 16 r1) 39⟩, ⟨g4, .cells (arr 16 r2) 39⟩, ⟨g5, .cells (arr 16 r4) 39⟩, ⟨g6, .cells (arr 16 (fun _ => 0)) 39⟩] w13 := M
  refine pl_put M (want_no rfl) rfl 39 _ _ rfl 5 g6 (by kernel_rfl) 16 39 (fun _ => 0) r7 rfl (by kernel_rfl) inz39 ?_
  intro w14 M
  replace M : Mem w [⟨g1, .cells (arr 64 (fun _ => 0)) 41⟩, ⟨g2, Z2⟩, ⟨g3, .cells (arr 16 r1) 39⟩, ⟨g4, .cells (arr 16 r2) 39⟩, ⟨g5, .cells (arr 16 r4) 39⟩, ⟨g6, .cells (arr 16 r7) 39⟩] w14 := M
  refine pl_nil ?_
  refine au_then ?_
  refine wp_seq ?_
  refine region_cut (fun a0 a' w' => ∃ gT8 : Nat, a' = ((((((((((a0.put (some 49) (.agg (arr 16 r4))).put (some 50) (.agg (arr 16 r7))).put (some 51) (.agg (arr 16 r8))).put (some 52) (.agg (arr 16 r9))).put (some 53) (.tuple #[.agg (arr 16 r10), .bool true])).put (some 48) (.tuple #[.agg (arr 16 r10), .bool true])).put (some 54) (.agg (arr 16 r10))).put (some 55) (.bool true)).put (some 10) (.pointer (some ⟨gT8, 0, none⟩))).put (some 11) (.bool true)) ∧ Mem w [⟨g1, .cells (arr 64 (fun _ => 0)) 41⟩, ⟨g2, Z2⟩, ⟨g3, .cells (arr 16 r1) 39⟩, ⟨g4, .cells (arr 16 r2) 39⟩, ⟨g5, .cells (arr 16 r4) 39⟩, ⟨g6, .cells (arr 16 r7) 39⟩, ⟨gT8, .cells (arr 16 r10) 39⟩] w') (by kernel_rfl) ?_ ?_
  rotate_left
  · intro hrest
    replace M := M.drew
    refine wpAny_ready (rs := [0, 1, 8]) (by kernel_rfl) (by simp) ?_
    refine rd_load M rfl rfl (some 49) rfl 39 _ rfl 4 g5 (by kernel_rfl) 16 39 r4 rfl _ Tryz.underlying39 rfl inz39 ?_ ?_
    · skip
      refine wpAny_ready (rs := [1, 8]) (by kernel_rfl) (by simp) ?_
      refine rd_load M rfl rfl (some 50) rfl 39 _ rfl 5 g6 (by kernel_rfl) 16 39 r7 rfl _ Tryz.underlying39 rfl inz39 ?_ ?_
      · skip
        refine wpAny_ready (rs := [2, 8]) (by kernel_rfl) (by simp) ?_
        refine rd_call M rfl rfl (some 51) rfl 44 #[.agg (arr 16 r7)] (.agg (arr 16 r8)) (fun _ => by kernel_rfl) F.h9 ?_ ?_
        · intro u1 M
          refine wpAny_ready (rs := [3, 8]) (by kernel_rfl) (by simp) ?_
          refine rd_call M rfl rfl (some 52) rfl 39 #[.agg (arr 16 r4), .agg (arr 16 r8)] (.agg (arr 16 r9)) (fun _ => by kernel_rfl) F.h10 ?_ ?_
          · intro u2 M
            refine wpAny_ready (rs := [4, 8]) (by kernel_rfl) (by simp) ?_
            refine rd_call M rfl rfl (some 53) rfl 45 #[.agg (arr 16 r9)] (.tuple #[.agg (arr 16 r10), .bool true]) (fun _ => by kernel_rfl) F.h11 ?_ ?_
            · intro u3 M
              refine wpAny_take (i := 5) (v := .tuple #[.agg (arr 16 r10), .bool true]) rfl (by kernel_rfl) (by kernel_rfl) (by kernel_rfl) (fun _ _ _ h => h) (Or.inl ⟨want_no rfl, fun _ => by kernel_rfl⟩) ?_
              refine wpAny_take (i := 6) (v := .agg (arr 16 r10)) rfl (by kernel_rfl) (by kernel_rfl) (by kernel_rfl) (fun _ _ _ h => h) (Or.inl ⟨want_no rfl, fun _ => by kernel_rfl⟩) ?_
              refine wpAny_take (i := 7) (v := .bool true) rfl (by kernel_rfl) (by kernel_rfl) (by kernel_rfl) (fun _ _ _ h => h) (Or.inl ⟨want_no rfl, fun _ => by kernel_rfl⟩) ?_
              refine wpAny_ready (rs := [8]) (by kernel_rfl) (by simp) ?_
              refine rd_new M rfl rfl (some 10) rfl (.cells (arr 16 (fun _ => 0)) 39) (fun _ => by kernel_rfl) ?_ ?_
              · intro k4 u4 M
                replace M : Mem w [⟨g1, .cells (arr 64 (fun _ => 0)) 41⟩, ⟨g2, Z2⟩, ⟨g3, .cells (arr 16 r1) 39⟩, ⟨g4, .cells (arr 16 r2) 39⟩, ⟨g5, .cells (arr 16 r4) 39⟩, ⟨g6, .cells (arr 16 r7) 39⟩, ⟨k4, .cells (arr 16 (fun _ => 0)) 39⟩] u4 := M
                refine wpAny_ready (rs := [9]) (by kernel_rfl) (by simp) ?_
                refine rd_put M rfl rfl rfl 39 _ _ rfl 6 k4 (by kernel_rfl) 16 39 (fun _ => 0) r10 rfl (by kernel_rfl) inz39 ?_ ?_
                · intro u5 M
                  replace M : Mem w [⟨g1, .cells (arr 64 (fun _ => 0)) 41⟩, ⟨g2, Z2⟩, ⟨g3, .cells (arr 16 r1) 39⟩, ⟨g4, .cells (arr 16 r2) 39⟩, ⟨g5, .cells (arr 16 r4) 39⟩, ⟨g6, .cells (arr 16 r7) 39⟩, ⟨k4, .cells (arr 16 r10) 39⟩] u5 := M
                  refine wpAny_take (i := 10) (v := .bool true) rfl (by kernel_rfl) (by kernel_rfl) (by kernel_rfl) (fun _ _ _ h => h) (Or.inl ⟨want_no rfl, fun _ => by kernel_rfl⟩) ?_
                  exact rd_end (by kernel_rfl) (hrest _ _ ⟨k4, by kernel_rfl, M⟩) _
                exact AllReady.nil
              exact AllReady.nil
            refine rd_new M rfl rfl (some 10) rfl (.cells (arr 16 (fun _ => 0)) 39) (fun _ => by kernel_rfl) ?_ ?_
            · intro k6 u6 M
              replace M : Mem w [⟨g1, .cells (arr 64 (fun _ => 0)) 41⟩, ⟨g2, Z2⟩, ⟨g3, .cells (arr 16 r1) 39⟩, ⟨g4, .cells (arr 16 r2) 39⟩, ⟨g5, .cells (arr 16 r4) 39⟩, ⟨g6, .cells (arr 16 r7) 39⟩, ⟨k6, .cells (arr 16 (fun _ => 0)) 39⟩] u6 := M
              refine wpAny_ready (rs := [4]) (by kernel_rfl) (by simp) ?_
              refine rd_call M rfl rfl (some 53) rfl 45 #[.agg (arr 16 r9)] (.tuple #[.agg (arr 16 r10), .bool true]) (fun _ => by kernel_rfl) F.h11 ?_ ?_
              · intro u7 M
                refine wpAny_take (i := 5) (v := .tuple #[.agg (arr 16 r10), .bool true]) rfl (by kernel_rfl) (by kernel_rfl) (by kernel_rfl) (fun _ _ _ h => h) (Or.inl ⟨want_no rfl, fun _ => by kernel_rfl⟩) ?_
                refine wpAny_take (i := 6) (v := .agg (arr 16 r10)) rfl (by kernel_rfl) (by kernel_rfl) (by kernel_rfl) (fun _ _ _ h => h) (Or.inl ⟨want_no rfl, fun _ => by kernel_rfl⟩) ?_
                refine wpAny_take (i := 7) (v := .bool true) rfl (by kernel_rfl) (by kernel_rfl) (by kernel_rfl) (fun _ _ _ h => h) (Or.inl ⟨want_no rfl, fun _ => by kernel_rfl⟩) ?_
                refine wpAny_ready (rs := [9]) (by kernel_rfl) (by simp) ?_
                refine rd_put M rfl rfl rfl 39 _ _ rfl 6 k6 (by kernel_rfl) 16 39 (fun _ => 0) r10 rfl (by kernel_rfl) inz39 ?_ ?_
                · intro u8 M
                  replace M : Mem w [⟨g1, .cells (arr 64 (fun _ => 0)) 41⟩, ⟨g2, Z2⟩, ⟨g3, .cells (arr 16 r1) 39⟩, ⟨g4, .cells (arr 16 r2) 39⟩, ⟨g5, .cells (arr 16 r4) 39⟩, ⟨g6, .cells (arr 16 r7) 39⟩, ⟨k6, .cells (arr 16 r10) 39⟩] u8 := M
                  refine wpAny_take (i := 10) (v := .bool true) rfl (by kernel_rfl) (by kernel_rfl) (by kernel_rfl) (fun _ _ _ h => h) (Or.inl ⟨want_no rfl, fun _ => by kernel_rfl⟩) ?_
                  exact rd_end (by kernel_rfl) (hrest _ _ ⟨k6, by kernel_rfl, M⟩) _
                exact AllReady.nil
              exact AllReady.nil
            exact AllReady.nil
          refine rd_new M rfl rfl (some 10) rfl (.cells (arr 16 (fun _ => 0)) 39) (fun _ => by kernel_rfl) ?_ ?_
          · intro k9 u9 M
            replace M : Mem w [⟨g1, .cells (arr 64 (fun _ => 0)) 41⟩, ⟨g2, Z2⟩, ⟨g3, .cells (arr 16 r1) 39⟩, ⟨g4, .cells (arr 16 r2) 39⟩, ⟨g5, .cells (arr 16 r4) 39⟩, ⟨g6, .cells (arr 16 r7) 39⟩, ⟨k9, .cells (arr 16 (fun _ => 0)) 39⟩] u9 := M
            refine wpAny_ready (rs := [3]) (by kernel_rfl) (by simp) ?_
            refine rd_call M rfl rfl (some 52) rfl 39 #[.agg (arr 16 r4), .agg (arr 16 r8)] (.agg (arr 16 r9)) (fun _ => by kernel_rfl) F.h10 ?_ ?_
            · intro u10 M
              refine wpAny_ready (rs := [4]) (by kernel_rfl) (by simp) ?_
              refine rd_call M rfl rfl (some 53) rfl 45 #[.agg (arr 16 r9)] (.tuple #[.agg (arr 16 r10), .bool true]) (fun _ => by kernel_rfl) F.h11 ?_ ?_
              · intro u11 M
                refine wpAny_take (i := 5) (v := .tuple #[.agg (arr 16 r10), .bool true]) rfl (by kernel_rfl) (by kernel_rfl) (by kernel_rfl) (fun _ _ _ h => h) (Or.inl ⟨want_no rfl, fun _ => by kernel_rfl⟩) ?_
                refine wpAny_take (i := 6) (v := .agg (arr 16 r10)) rfl (by kernel_rfl) (by kernel_rfl) (by kernel_rfl) (fun _ _ _ h => h) (Or.inl ⟨want_no rfl, fun _ => by kernel_rfl⟩) ?_
                refine wpAny_take (i := 7) (v := .bool true) rfl (by kernel_rfl) (by kernel_rfl) (by kernel_rfl) (fun _ _ _ h => h) (Or.inl ⟨want_no rfl, fun _ => by kernel_rfl⟩) ?_
                refine wpAny_ready (rs := [9]) (by kernel_rfl) (by simp) ?_
                refine rd_put M rfl rfl rfl 39 _ _ rfl 6 k9 (by kernel_rfl) 16 39 (fun _ => 0) r10 rfl (by kernel_rfl) inz39 ?_ ?_
                · intro u12 M
                  replace M : Mem w [⟨g1, .cells (arr 64 (fun _ => 0)) 41⟩, ⟨g2, Z2⟩, ⟨g3, .cells (arr 16 r1) 39⟩, ⟨g4, .cells (arr 16 r2) 39⟩, ⟨g5, .cells (arr 16 r4) 39⟩, ⟨g6, .cells (arr 16 r7) 39⟩, ⟨k9, .cells (arr 16 r10) 39⟩] u12 := M
                  refine wpAny_take (i := 10) (v := .bool true) rfl (by kernel_rfl) (by kernel_rfl) (by kernel_rfl) (fun _ _ _ h => h) (Or.inl ⟨want_no rfl, fun _ => by kernel_rfl⟩) ?_
                  exact rd_end (by kernel_rfl) (hrest _ _ ⟨k9, by kernel_rfl, M⟩) _
                exact AllReady.nil
              exact AllReady.nil
            exact AllReady.nil
          exact AllReady.nil
        refine rd_new M rfl rfl (some 10) rfl (.cells (arr 16 (fun _ => 0)) 39) (fun _ => by kernel_rfl) ?_ ?_
        · intro k13 u13 M
          replace M : Mem w [⟨g1, .cells (arr 64 (fun _ => 0)) 41⟩, ⟨g2, Z2⟩, ⟨g3, .cells (arr 16 r1) 39⟩, ⟨g4, .cells (arr 16 r2) 39⟩, ⟨g5, .cells (arr 16 r4) 39⟩, ⟨g6, .cells (arr 16 r7) 39⟩, ⟨k13, .cells (arr 16 (fun _ => 0)) 39⟩] u13 := M
          refine wpAny_ready (rs := [2]) (by kernel_rfl) (by simp) ?_
          refine rd_call M rfl rfl (some 51) rfl 44 #[.agg (arr 16 r7)] (.agg (arr 16 r8)) (fun _ => by kernel_rfl) F.h9 ?_ ?_
          · intro u14 M
            refine wpAny_ready (rs := [3]) (by kernel_rfl) (by simp) ?_
            refine rd_call M rfl rfl (some 52) rfl 39 #[.agg (arr 16 r4), .agg (arr 16 r8)] (.agg (arr 16 r9)) (fun _ => by kernel_rfl) F.h10 ?_ ?_
            · intro u15 M
              refine wpAny_ready (rs := [4]) (by kernel_rfl) (by simp) ?_
              refine rd_call M rfl rfl (some 53) rfl 45 #[.agg (arr 16 r9)] (.tuple #[.agg (arr 16 r10), .bool true]) (fun _ => by kernel_rfl) F.h11 ?_ ?_
              · intro u16 M
                refine wpAny_take (i := 5) (v := .tuple #[.agg (arr 16 r10), .bool true]) rfl (by kernel_rfl) (by kernel_rfl) (by kernel_rfl) (fun _ _ _ h => h) (Or.inl ⟨want_no rfl, fun _ => by kernel_rfl⟩) ?_
                refine wpAny_take (i := 6) (v := .agg (arr 16 r10)) rfl (by kernel_rfl) (by kernel_rfl) (by kernel_rfl) (fun _ _ _ h => h) (Or.inl ⟨want_no rfl, fun _ => by kernel_rfl⟩) ?_
                refine wpAny_take (i := 7) (v := .bool true) rfl (by kernel_rfl) (by kernel_rfl) (by kernel_rfl) (fun _ _ _ h => h) (Or.inl ⟨want_no rfl, fun _ => by kernel_rfl⟩) ?_
                refine wpAny_ready (rs := [9]) (by kernel_rfl) (by simp) ?_
                refine rd_put M rfl rfl rfl 39 _ _ rfl 6 k13 (by kernel_rfl) 16 39 (fun _ => 0) r10 rfl (by kernel_rfl) inz39 ?_ ?_
                · intro u17 M
                  replace M : Mem w [⟨g1, .cells (arr 64 (fun _ => 0)) 41⟩, ⟨g2, Z2⟩, ⟨g3, .cells (arr 16 r1) 39⟩, ⟨g4, .cells (arr 16 r2) 39⟩, ⟨g5, .cells (arr 16 r4) 39⟩, ⟨g6, .cells (arr 16 r7) 39⟩, ⟨k13, .cells (arr 16 r10) 39⟩] u17 := M
                  refine wpAny_take (i := 10) (v := .bool true) rfl (by kernel_rfl) (by kernel_rfl) (by kernel_rfl) (fun _ _ _ h => h) (Or.inl ⟨want_no rfl, fun _ => by kernel_rfl⟩) ?_
                  exact rd_end (by kernel_rfl) (hrest _ _ ⟨k13, by kernel_rfl, M⟩) _
                exact AllReady.nil
              exact AllReady.nil
            exact AllReady.nil
          exact AllReady.nil
        exact AllReady.nil
      refine rd_new M rfl rfl (some 10) rfl (.cells (arr 16 (fun _ => 0)) 39) (fun _ => by kernel_rfl) ?_ ?_
      · intro k18 u18 M
        replace M : Mem w [⟨g1, .cells (arr 64 (fun _ => 0)) 41⟩, ⟨g2, Z2⟩, ⟨g3, .cells (arr 16 r1) 39⟩, ⟨g4, .cells (arr 16 r2) 39⟩, ⟨g5, .cells (arr 16 r4) 39⟩, ⟨g6, .cells (arr 16 r7) 39⟩, ⟨k18, .cells (arr 16 (fun _ => 0)) 39⟩] u18 := M
        refine wpAny_ready (rs := [1]) (by kernel_rfl) (by simp) ?_
        refine rd_load M rfl rfl (some 50) rfl 39 _ rfl 5 g6 (by kernel_rfl) 16 39 r7 rfl _ Tryz.underlying39 rfl inz39 ?_ ?_
        · skip
          refine wpAny_ready (rs := [2]) (by kernel_rfl) (by simp) ?_
          refine rd_call M rfl rfl (some 51) rfl 44 #[.agg (arr 16 r7)] (.agg (arr 16 r8)) (fun _ => by kernel_rfl) F.h9 ?_ ?_
          · intro u19 M
            refine wpAny_ready (rs := [3]) (by kernel_rfl) (by simp) ?_
            refine rd_call M rfl rfl (some 52) rfl 39 #[.agg (arr 16 r4), .agg (arr 16 r8)] (.agg (arr 16 r9)) (fun _ => by kernel_rfl) F.h10 ?_ ?_
            · intro u20 M
              refine wpAny_ready (rs := [4]) (by kernel_rfl) (by simp) ?_
              refine rd_call M rfl rfl (some 53) rfl 45 #[.agg (arr 16 r9)] (.tuple #[.agg (arr 16 r10), .bool true]) (fun _ => by kernel_rfl) F.h11 ?_ ?_
              · intro u21 M
                refine wpAny_take (i := 5) (v := .tuple #[.agg (arr 16 r10), .bool true]) rfl (by kernel_rfl) (by kernel_rfl) (by kernel_rfl) (fun _ _ _ h => h) (Or.inl ⟨want_no rfl, fun _ => by kernel_rfl⟩) ?_
                refine wpAny_take (i := 6) (v := .agg (arr 16 r10)) rfl (by kernel_rfl) (by kernel_rfl) (by kernel_rfl) (fun _ _ _ h => h) (Or.inl ⟨want_no rfl, fun _ => by kernel_rfl⟩) ?_
                refine wpAny_take (i := 7) (v := .bool true) rfl (by kernel_rfl) (by kernel_rfl) (by kernel_rfl) (fun _ _ _ h => h) (Or.inl ⟨want_no rfl, fun _ => by kernel_rfl⟩) ?_
                refine wpAny_ready (rs := [9]) (by kernel_rfl) (by simp) ?_
                refine rd_put M rfl rfl rfl 39 _ _ rfl 6 k18 (by kernel_rfl) 16 39 (fun _ => 0) r10 rfl (by kernel_rfl) inz39 ?_ ?_
                · intro u22 M
                  replace M : Mem w [⟨g1, .cells (arr 64 (fun _ => 0)) 41⟩, ⟨g2, Z2⟩, ⟨g3, .cells (arr 16 r1) 39⟩, ⟨g4, .cells (arr 16 r2) 39⟩, ⟨g5, .cells (arr 16 r4) 39⟩, ⟨g6, .cells (arr 16 r7) 39⟩, ⟨k18, .cells (arr 16 r10) 39⟩] u22 := M
                  refine wpAny_take (i := 10) (v := .bool true) rfl (by kernel_rfl) (by kernel_rfl) (by kernel_rfl) (fun _ _ _ h => h) (Or.inl ⟨want_no rfl, fun _ => by kernel_rfl⟩) ?_
                  exact rd_end (by kernel_rfl) (hrest _ _ ⟨k18, by kernel_rfl, M⟩) _
                exact AllReady.nil
              exact AllReady.nil
            exact AllReady.nil
          exact AllReady.nil
        exact AllReady.nil
      exact AllReady.nil
    refine rd_load M rfl rfl (some 50) rfl 39 _ rfl 5 g6 (by kernel_rfl) 16 39 r7 rfl _ Tryz.underlying39 rfl inz39 ?_ ?_
    · skip
      refine wpAny_ready (rs := [0, 2, 8]) (by kernel_rfl) (by simp) ?_
      refine rd_load M rfl rfl (some 49) rfl 39 _ rfl 4 g5 (by kernel_rfl) 16 39 r4 rfl _ Tryz.underlying39 rfl inz39 ?_ ?_
      · skip
        refine wpAny_ready (rs := [2, 8]) (by kernel_rfl) (by simp) ?_
        refine rd_call M rfl rfl (some 51) rfl 44 #[.agg (arr 16 r7)] (.agg (arr 16 r8)) (fun _ => by kernel_rfl) F.h9 ?_ ?_
        · intro u23 M
          refine wpAny_ready (rs := [3, 8]) (by kernel_rfl) (by simp) ?_
          refine rd_call M rfl rfl (some 52) rfl 39 #[.agg (arr 16 r4), .agg (arr 16 r8)] (.agg (arr 16 r9)) (fun _ => by kernel_rfl) F.h10 ?_ ?_
          · intro u24 M
            refine wpAny_ready (rs := [4, 8]) (by kernel_rfl) (by simp) ?_
            refine rd_call M rfl rfl (some 53) rfl 45 #[.agg (arr 16 r9)] (.tuple #[.agg (arr 16 r10), .bool true]) (fun _ => by kernel_rfl) F.h11 ?_ ?_
            · intro u25 M
              refine wpAny_take (i := 5) (v := .tuple #[.agg (arr 16 r10), .bool true]) rfl (by kernel_rfl) (by kernel_rfl) (by kernel_rfl) (fun _ _ _ h => h) (Or.inl ⟨want_no rfl, fun _ => by kernel_rfl⟩) ?_
              refine wpAny_take (i := 6) (v := .agg (arr 16 r10)) rfl (by kernel_rfl) (by kernel_rfl) (by kernel_rfl) (fun _ _ _ h => h) (Or.inl ⟨want_no rfl, fun _ => by kernel_rfl⟩) ?_
              refine wpAny_take (i := 7) (v := .bool true) rfl (by kernel_rfl) (by kernel_rfl) (by kernel_rfl) (fun _ _ _ h => h) (Or.inl ⟨want_no rfl, fun _ => by kernel_rfl⟩) ?_
              refine wpAny_ready (rs := [8]) (by kernel_rfl) (by simp) ?_
              refine rd_new M rfl rfl (some 10) rfl (.cells (arr 16 (fun _ => 0)) 39) (fun _ => by kernel_rfl) ?_ ?_
              · intro k26 u26 M
                replace M : Mem w [⟨g1, .cells (arr 64 (fun _ => 0)) 41⟩, ⟨g2, Z2⟩, ⟨g3, .cells (arr 16 r1) 39⟩, ⟨g4, .cells (arr 16 r2) 39⟩, ⟨g5, .cells (arr 16 r4) 39⟩, ⟨g6, .cells (arr 16 r7) 39⟩, ⟨k26, .cells (arr 16 (fun _ => 0)) 39⟩] u26 := M
                refine wpAny_ready (rs := [9]) (by kernel_rfl) (by simp) ?_
                refine rd_put M rfl rfl rfl 39 _ _ rfl 6 k26 (by kernel_rfl) 16 39 (fun _ => 0) r10 rfl (by kernel_rfl) inz39 ?_ ?_
                · intro u27 M
                  replace M : Mem w [⟨g1, .cells (arr 64 (fun _ => 0)) 41⟩, ⟨g2, Z2⟩, ⟨g3, .cells (arr 16 r1) 39⟩, ⟨g4, .cells (arr 16 r2) 39⟩, ⟨g5, .cells (arr 16 r4) 39⟩, ⟨g6, .cells (arr 16 r7) 39⟩, ⟨k26, .cells (arr 16 r10) 39⟩] u27 := M
                  refine wpAny_take (i := 10) (v := .bool true) rfl (by kernel_rfl) (by kernel_rfl) (by kernel_rfl) (fun _ _ _ h => h) (Or.inl ⟨want_no rfl, fun _ => by kernel_rfl⟩) ?_
                  exact rd_end (by kernel_rfl) (hrest _ _ ⟨k26, by kernel_rfl, M⟩) _
                exact AllReady.nil
              exact AllReady.nil
            refine rd_new M rfl rfl (some 10) rfl (.cells (arr 16 (fun _ => 0)) 39) (fun _ => by kernel_rfl) ?_ ?_
            · intro k28 u28 M
              replace M : Mem w [⟨g1, .cells (arr 64 (fun _ => 0)) 41⟩, ⟨g2, Z2⟩, ⟨g3, .cells (arr 16 r1) 39⟩, ⟨g4, .cells (arr 16 r2) 39⟩, ⟨g5, .cells (arr 16 r4) 39⟩, ⟨g6, .cells (arr 16 r7) 39⟩, ⟨k28, .cells (arr 16 (fun _ => 0)) 39⟩] u28 := M
              refine wpAny_ready (rs := [4]) (by kernel_rfl) (by simp) ?_
              refine rd_call M rfl rfl (some 53) rfl 45 #[.agg (arr 16 r9)] (.tuple #[.agg (arr 16 r10), .bool true]) (fun _ => by kernel_rfl) F.h11 ?_ ?_
              · intro u29 M
                refine wpAny_take (i := 5) (v := .tuple #[.agg (arr 16 r10), .bool true]) rfl (by kernel_rfl) (by kernel_rfl) (by kernel_rfl) (fun _ _ _ h => h) (Or.inl ⟨want_no rfl, fun _ => by kernel_rfl⟩) ?_
                refine wpAny_take (i := 6) (v := .agg (arr 16 r10)) rfl (by kernel_rfl) (by kernel_rfl) (by kernel_rfl) (fun _ _ _ h => h) (Or.inl ⟨want_no rfl, fun _ => by kernel_rfl⟩) ?_
                refine wpAny_take (i := 7) (v := .bool true) rfl (by kernel_rfl) (by kernel_rfl) (by kernel_rfl) (fun _ _ _ h => h) (Or.inl ⟨want_no rfl, fun _ => by kernel_rfl⟩) ?_
                refine wpAny_ready (rs := [9]) (by kernel_rfl) (by simp) ?_
                refine rd_put M rfl rfl rfl 39 _ _ rfl 6 k28 (by kernel_rfl) 16 39 (fun _ => 0) r10 rfl (by kernel_rfl) inz39 ?_ ?_
                · intro u30 M
                  replace M : Mem w [⟨g1, .cells (arr 64 (fun _ => 0)) 41⟩, ⟨g2, Z2⟩, ⟨g3, .cells (arr 16 r1) 39⟩, ⟨g4, .cells (arr 16 r2) 39⟩, ⟨g5, .cells (arr 16 r4) 39⟩, ⟨g6, .cells (arr 16 r7) 39⟩, ⟨k28, .cells (arr 16 r10) 39⟩] u30 := M
                  refine wpAny_take (i := 10) (v := .bool true) rfl (by kernel_rfl) (by kernel_rfl) (by kernel_rfl) (fun _ _ _ h => h) (Or.inl ⟨want_no rfl, fun _ => by kernel_rfl⟩) ?_
                  exact rd_end (by kernel_rfl) (hrest _ _ ⟨k28, by kernel_rfl, M⟩) _
                exact AllReady.nil
              exact AllReady.nil
            exact AllReady.nil
          refine rd_new M rfl rfl (some 10) rfl (.cells (arr 16 (fun _ => 0)) 39) (fun _ => by kernel_rfl) ?_ ?_
          · intro k31 u31 M
            replace M : Mem w [⟨g1, .cells (arr 64 (fun _ => 0)) 41⟩, ⟨g2, Z2⟩, ⟨g3, .cells (arr 16 r1) 39⟩, ⟨g4, .cells (arr 16 r2) 39⟩, ⟨g5, .cells (arr 16 r4) 39⟩, ⟨g6, .cells (arr 16 r7) 39⟩, ⟨k31, .cells (arr 16 (fun _ => 0)) 39⟩] u31 := M
            refine wpAny_ready (rs := [3]) (by kernel_rfl) (by simp) ?_
            refine rd_call M rfl rfl (some 52) rfl 39 #[.agg (arr 16 r4), .agg (arr 16 r8)] (.agg (arr 16 r9)) (fun _ => by kernel_rfl) F.h10 ?_ ?_
            · intro u32 M
              refine wpAny_ready (rs := [4]) (by kernel_rfl) (by simp) ?_
              refine rd_call M rfl rfl (some 53) rfl 45 #[.agg (arr 16 r9)] (.tuple #[.agg (arr 16 r10), .bool true]) (fun _ => by kernel_rfl) F.h11 ?_ ?_
              · intro u33 M
                refine wpAny_take (i := 5) (v := .tuple #[.agg (arr 16 r10), .bool true]) rfl (by kernel_rfl) (by kernel_rfl) (by kernel_rfl) (fun _ _ _ h => h) (Or.inl ⟨want_no rfl, fun _ => by kernel_rfl⟩) ?_
                refine wpAny_take (i := 6) (v := .agg (arr 16 r10)) rfl (by kernel_rfl) (by kernel_rfl) (by kernel_rfl) (fun _ _ _ h => h) (Or.inl ⟨want_no rfl, fun _ => by kernel_rfl⟩) ?_
                refine wpAny_take (i := 7) (v := .bool true) rfl (by kernel_rfl) (by kernel_rfl) (by kernel_rfl) (fun _ _ _ h => h) (Or.inl ⟨want_no rfl, fun _ => by kernel_rfl⟩) ?_
                refine wpAny_ready (rs := [9]) (by kernel_rfl) (by simp) ?_
                refine rd_put M rfl rfl rfl 39 _ _ rfl 6 k31 (by kernel_rfl) 16 39 (fun _ => 0) r10 rfl (by kernel_rfl) inz39 ?_ ?_
                · intro u34 M
                  replace M : Mem w [⟨g1, .cells (arr 64 (fun _ => 0)) 41⟩, ⟨g2, Z2⟩, ⟨g3, .cells (arr 16 r1) 39⟩, ⟨g4, .cells (arr 16 r2) 39⟩, ⟨g5, .cells (arr 16 r4) 39⟩, ⟨g6, .cells (arr 16 r7) 39⟩, ⟨k31, .cells (arr 16 r10) 39⟩] u34 := M
                  refine wpAny_take (i := 10) (v := .bool true) rfl (by kernel_rfl) (by kernel_rfl) (by kernel_rfl) (fun _ _ _ h => h) (Or.inl ⟨want_no rfl, fun _ => by kernel_rfl⟩) ?_
                  exact rd_end (by kernel_rfl) (hrest _ _ ⟨k31, by kernel_rfl, M⟩) _
                exact AllReady.nil
              exact AllReady.nil
            exact AllReady.nil
          exact AllReady.nil
        refine rd_new M rfl rfl (some 10) rfl (.cells (arr 16 (fun _ => 0)) 39) (fun _ => by kernel_rfl) ?_ ?_
        · intro k35 u35 M
          replace M : Mem w [⟨g1, .cells (arr 64 (fun _ => 0)) 41⟩, ⟨g2, Z2⟩, ⟨g3, .cells (arr 16 r1) 39⟩, ⟨g4, .cells (arr 16 r2) 39⟩, ⟨g5, .cells (arr 16 r4) 39⟩, ⟨g6, .cells (arr 16 r7) 39⟩, ⟨k35, .cells (arr 16 (fun _ => 0)) 39⟩] u35 := M
          refine wpAny_ready (rs := [2]) (by kernel_rfl) (by simp) ?_
          refine rd_call M rfl rfl (some 51) rfl 44 #[.agg (arr 16 r7)] (.agg (arr 16 r8)) (fun _ => by kernel_rfl) F.h9 ?_ ?_
          · intro u36 M
            refine wpAny_ready (rs := [3]) (by kernel_rfl) (by simp) ?_
            refine rd_call M rfl rfl (some 52) rfl 39 #[.agg (arr 16 r4), .agg (arr 16 r8)] (.agg (arr 16 r9)) (fun _ => by kernel_rfl) F.h10 ?_ ?_
            · intro u37 M
              refine wpAny_ready (rs := [4]) (by kernel_rfl) (by simp) ?_
              refine rd_call M rfl rfl (some 53) rfl 45 #[.agg (arr 16 r9)] (.tuple #[.agg (arr 16 r10), .bool true]) (fun _ => by kernel_rfl) F.h11 ?_ ?_
              · intro u38 M
                refine wpAny_take (i := 5) (v := .tuple #[.agg (arr 16 r10), .bool true]) rfl (by kernel_rfl) (by kernel_rfl) (by kernel_rfl) (fun _ _ _ h => h) (Or.inl ⟨want_no rfl, fun _ => by kernel_rfl⟩) ?_
                refine wpAny_take (i := 6) (v := .agg (arr 16 r10)) rfl (by kernel_rfl) (by kernel_rfl) (by kernel_rfl) (fun _ _ _ h => h) (Or.inl ⟨want_no rfl, fun _ => by kernel_rfl⟩) ?_
                refine wpAny_take (i := 7) (v := .bool true) rfl (by kernel_rfl) (by kernel_rfl) (by kernel_rfl) (fun _ _ _ h => h) (Or.inl ⟨want_no rfl, fun _ => by kernel_rfl⟩) ?_
                refine wpAny_ready (rs := [9]) (by kernel_rfl) (by simp) ?_
                refine rd_put M rfl rfl rfl 39 _ _ rfl 6 k35 (by kernel_rfl) 16 39 (fun _ => 0) r10 rfl (by kernel_rfl) inz39 ?_ ?_
                · intro u39 M
                  replace M : Mem w [⟨g1, .cells (arr 64 (fun _ => 0)) 41⟩, ⟨g2, Z2⟩, ⟨g3, .cells (arr 16 r1) 39⟩, ⟨g4, .cells (arr 16 r2) 39⟩, ⟨g5, .cells (arr 16 r4) 39⟩, ⟨g6, .cells (arr 16 r7) 39⟩, ⟨k35, .cells (arr 16 r10) 39⟩] u39 := M
                  refine wpAny_take (i := 10) (v := .bool true) rfl (by kernel_rfl) (by kernel_rfl) (by kernel_rfl) (fun _ _ _ h => h) (Or.inl ⟨want_no rfl, fun _ => by kernel_rfl⟩) ?_
                  exact rd_end (by kernel_rfl) (hrest _ _ ⟨k35, by kernel_rfl, M⟩) _
                exact AllReady.nil
              exact AllReady.nil
            exact AllReady.nil
          exact AllReady.nil
        exact AllReady.nil
      refine rd_call M rfl rfl (some 51) rfl 44 #[.agg (arr 16 r7)] (.agg (arr 16 r8)) (fun _ => by kernel_rfl) F.h9 ?_ ?_
      · intro u40 M
        refine wpAny_ready (rs := [0, 8]) (by kernel_rfl) (by simp) ?_
        refine rd_load M rfl rfl (some 49) rfl 39 _ rfl 4 g5 (by kernel_rfl) 16 39 r4 rfl _ Tryz.underlying39 rfl inz39 ?_ ?_
        · skip
          refine wpAny_ready (rs := [3, 8]) (by kernel_rfl) (by simp) ?_
          refine rd_call M rfl rfl (some 52) rfl 39 #[.agg (arr 16 r4), .agg (arr 16 r8)] (.agg (arr 16 r9)) (fun _ => by kernel_rfl) F.h10 ?_ ?_
          · intro u41 M
            refine wpAny_ready (rs := [4, 8]) (by kernel_rfl) (by simp) ?_
            refine rd_call M rfl rfl (some 53) rfl 45 #[.agg (arr 16 r9)] (.tuple #[.agg (arr 16 r10), .bool true]) (fun _ => by kernel_rfl) F.h11 ?_ ?_
            · intro u42 M
              refine wpAny_take (i := 5) (v := .tuple #[.agg (arr 16 r10), .bool true]) rfl (by kernel_rfl) (by kernel_rfl) (by kernel_rfl) (fun _ _ _ h => h) (Or.inl ⟨want_no rfl, fun _ => by kernel_rfl⟩) ?_
              refine wpAny_take (i := 6) (v := .agg (arr 16 r10)) rfl (by kernel_rfl) (by kernel_rfl) (by kernel_rfl) (fun _ _ _ h => h) (Or.inl ⟨want_no rfl, fun _ => by kernel_rfl⟩) ?_
              refine wpAny_take (i := 7) (v := .bool true) rfl (by kernel_rfl) (by kernel_rfl) (by kernel_rfl) (fun _ _ _ h => h) (Or.inl ⟨want_no rfl, fun _ => by kernel_rfl⟩) ?_
              refine wpAny_ready (rs := [8]) (by kernel_rfl) (by simp) ?_
              refine rd_new M rfl rfl (some 10) rfl (.cells (arr 16 (fun _ => 0)) 39) (fun _ => by kernel_rfl) ?_ ?_
              · intro k43 u43 M
                replace M : Mem w [⟨g1, .cells (arr 64 (fun _ => 0)) 41⟩, ⟨g2, Z2⟩, ⟨g3, .cells (arr 16 r1) 39⟩, ⟨g4, .cells (arr 16 r2) 39⟩, ⟨g5, .cells (arr 16 r4) 39⟩, ⟨g6, .cells (arr 16 r7) 39⟩, ⟨k43, .cells (arr 16 (fun _ => 0)) 39⟩] u43 := M
                refine wpAny_ready (rs := [9]) (by kernel_rfl) (by simp) ?_
                refine rd_put M rfl rfl rfl 39 _ _ rfl 6 k43 (by kernel_rfl) 16 39 (fun _ => 0) r10 rfl (by kernel_rfl) inz39 ?_ ?_
                · intro u44 M
                  replace M : Mem w [⟨g1, .cells (arr 64 (fun _ => 0)) 41⟩, ⟨g2, Z2⟩, ⟨g3, .cells (arr 16 r1) 39⟩, ⟨g4, .cells (arr 16 r2) 39⟩, ⟨g5, .cells (arr 16 r4) 39⟩, ⟨g6, .cells (arr 16 r7) 39⟩, ⟨k43, .cells (arr 16 r10) 39⟩] u44 := M
                  refine wpAny_take (i := 10) (v := .bool true) rfl (by kernel_rfl) (by kernel_rfl) (by kernel_rfl) (fun _ _ _ h => h) (Or.inl ⟨want_no rfl, fun _ => by kernel_rfl⟩) ?_
                  exact rd_end (by kernel_rfl) (hrest _ _ ⟨k43, by kernel_rfl, M⟩) _
                exact AllReady.nil
              exact AllReady.nil
            refine rd_new M rfl rfl (some 10) rfl (.cells (arr 16 (fun _ => 0)) 39) (fun _ => by kernel_rfl) ?_ ?_
            · intro k45 u45 M
              replace M : Mem w [⟨g1, .cells (arr 64 (fun _ => 0)) 41⟩, ⟨g2, Z2⟩, ⟨g3, .cells (arr 16 r1) 39⟩, ⟨g4, .cells (arr 16 r2) 39⟩, ⟨g5, .cells (arr 16 r4) 39⟩, ⟨g6, .cells (arr 16 r7) 39⟩, ⟨k45, .cells (arr 16 (fun _ => 0)) 39⟩] u45 := M
              refine wpAny_ready (rs := [4]) (by kernel_rfl) (by simp) ?_
              refine rd_call M rfl rfl (some 53) rfl 45 #[.agg (arr 16 r9)] (.tuple #[.agg (arr 16 r10), .bool true]) (fun _ => by kernel_rfl) F.h11 ?_ ?_
              · intro u46 M
                refine wpAny_take (i := 5) (v := .tuple #[.agg (arr 16 r10), .bool true]) rfl (by kernel_rfl) (by kernel_rfl) (by kernel_rfl) (fun _ _ _ h => h) (Or.inl ⟨want_no rfl, fun _ => by kernel_rfl⟩) ?_
                refine wpAny_take (i := 6) (v := .agg (arr 16 r10)) rfl (by kernel_rfl) (by kernel_rfl) (by kernel_rfl) (fun _ _ _ h => h) (Or.inl ⟨want_no rfl, fun _ => by kernel_rfl⟩) ?_
                refine wpAny_take (i := 7) (v := .bool true) rfl (by kernel_rfl) (by kernel_rfl) (by kernel_rfl) (fun _ _ _ h => h) (Or.inl ⟨want_no rfl, fun _ => by kernel_rfl⟩) ?_
                refine wpAny_ready (rs := [9]) (by kernel_rfl) (by simp) ?_
                refine rd_put M rfl rfl rfl 39 _ _ rfl 6 k45 (by kernel_rfl) 16 39 (fun _ => 0) r10 rfl (by kernel_rfl) inz39 ?_ ?_
                · intro u47 M
                  replace M : Mem w [⟨g1, .cells (arr 64 (fun _ => 0)) 41⟩, ⟨g2, Z2⟩, ⟨g3, .cells (arr 16 r1) 39⟩, ⟨g4, .cells (arr 16 r2) 39⟩, ⟨g5, .cells (arr 16 r4) 39⟩, ⟨g6, .cells (arr 16 r7) 39⟩, ⟨k45, .cells (arr 16 r10) 39⟩] u47 := M
                  refine wpAny_take (i := 10) (v := .bool true) rfl (by kernel_rfl) (by kernel_rfl) (by kernel_rfl) (fun _ _ _ h => h) (Or.inl ⟨want_no rfl, fun _ => by kernel_rfl⟩) ?_
                  exact rd_end (by kernel_rfl) (hrest _ _ ⟨k45, by kernel_rfl, M⟩) _
                exact AllReady.nil
              exact AllReady.nil
            exact AllReady.nil
          refine rd_new M rfl rfl (some 10) rfl (.cells (arr 16 (fun _ => 0)) 39) (fun _ => by kernel_rfl) ?_ ?_
          · intro k48 u48 M
            replace M : Mem w [⟨g1, .cells (arr 64 (fun _ => 0)) 41⟩, ⟨g2, Z2⟩, ⟨g3, .cells (arr 16 r1) 39⟩, ⟨g4, .cells (arr 16 r2) 39⟩, ⟨g5, .cells (arr 16 r4) 39⟩, ⟨g6, .cells (arr 16 r7) 39⟩, ⟨k48, .cells (arr 16 (fun _ => 0)) 39⟩] u48 := M
            refine wpAny_ready (rs := [3]) (by kernel_rfl) (by simp) ?_
            refine rd_call M rfl rfl (some 52) rfl 39 #[.agg (arr 16 r4), .agg (arr 16 r8)] (.agg (arr 16 r9)) (fun _ => by kernel_rfl) F.h10 ?_ ?_
            · intro u49 M
              refine wpAny_ready (rs := [4]) (by kernel_rfl) (by simp) ?_
              refine rd_call M rfl rfl (some 53) rfl 45 #[.agg (arr 16 r9)] (.tuple #[.agg (arr 16 r10), .bool true]) (fun _ => by kernel_rfl) F.h11 ?_ ?_
              · intro u50 M
                refine wpAny_take (i := 5) (v := .tuple #[.agg (arr 16 r10), .bool true]) rfl (by kernel_rfl) (by kernel_rfl) (by kernel_rfl) (fun _ _ _ h => h) (Or.inl ⟨want_no rfl, fun _ => by kernel_rfl⟩) ?_
                refine wpAny_take (i := 6) (v := .agg (arr 16 r10)) rfl (by kernel_rfl) (by kernel_rfl) (by kernel_rfl) (fun _ _ _ h => h) (Or.inl ⟨want_no rfl, fun _ => by kernel_rfl⟩) ?_
                refine wpAny_take (i := 7) (v := .bool true) rfl (by kernel_rfl) (by kernel_rfl) (by kernel_rfl) (fun _ _ _ h => h) (Or.inl ⟨want_no rfl, fun _ => by kernel_rfl⟩) ?_
                refine wpAny_ready (rs := [9]) (by kernel_rfl) (by simp) ?_
                refine rd_put M rfl rfl rfl 39 _ _ rfl 6 k48 (by kernel_rfl) 16 39 (fun _ => 0) r10 rfl (by kernel_rfl) inz39 ?_ ?_
                · intro u51 M
                  replace M : Mem w [⟨g1, .cells (arr 64 (fun _ => 0)) 41⟩, ⟨g2, Z2⟩, ⟨g3, .cells (arr 16 r1) 39⟩, ⟨g4, .cells (arr 16 r2) 39⟩, ⟨g5, .cells (arr 16 r4) 39⟩, ⟨g6, .cells (arr 16 r7) 39⟩, ⟨k48, .cells (arr 16 r10) 39⟩] u51 := M
                  refine wpAny_take (i := 10) (v := .bool true) rfl (by kernel_rfl) (by kernel_rfl) (by kernel_rfl) (fun _ _ _ h => h) (Or.inl ⟨want_no rfl, fun _ => by kernel_rfl⟩) ?_
                  exact rd_end (by kernel_rfl) (hrest _ _ ⟨k48, by kernel_rfl, M⟩) _
                exact AllReady.nil
              exact AllReady.nil
            exact AllReady.nil
          exact AllReady.nil
        refine rd_new M rfl rfl (some 10) rfl (.cells (arr 16 (fun _ => 0)) 39) (fun _ => by kernel_rfl) ?_ ?_
        · intro k52 u52 M
          replace M : Mem w [⟨g1, .cells (arr 64 (fun _ => 0)) 41⟩, ⟨g2, Z2⟩, ⟨g3, .cells (arr 16 r1) 39⟩, ⟨g4, .cells (arr 16 r2) 39⟩, ⟨g5, .cells (arr 16 r4) 39⟩, ⟨g6, .cells (arr 16 r7) 39⟩, ⟨k52, .cells (arr 16 (fun _ => 0)) 39⟩] u52 := M
          refine wpAny_ready (rs := [0]) (by kernel_rfl) (by simp) ?_
          refine rd_load M rfl rfl (some 49) rfl 39 _ rfl 4 g5 (by kernel_rfl) 16 39 r4 rfl _ Tryz.underlying39 rfl inz39 ?_ ?_
          · skip
            refine wpAny_ready (rs := [3]) (by kernel_rfl) (by simp) ?_
            refine rd_call M rfl rfl (some 52) rfl 39 #[.agg (arr 16 r4), .agg (arr 16 r8)] (.agg (arr 16 r9)) (fun _ => by kernel_rfl) F.h10 ?_ ?_
            · intro u53 M
              refine wpAny_ready (rs := [4]) (by kernel_rfl) (by simp) ?_
              refine rd_call M rfl rfl (some 53) rfl 45 #[.agg (arr 16 r9)] (.tuple #[.agg (arr 16 r10), .bool true]) (fun _ => by kernel_rfl) F.h11 ?_ ?_
              · intro u54 M
                refine wpAny_take (i := 5) (v := .tuple #[.agg (arr 16 r10), .bool true]) rfl (by kernel_rfl) (by kernel_rfl) (by kernel_rfl) (fun _ _ _ h => h) (Or.inl ⟨want_no rfl, fun _ => by kernel_rfl⟩) ?_
                refine wpAny_take (i := 6) (v := .agg (arr 16 r10)) rfl (by kernel_rfl) (by kernel_rfl) (by kernel_rfl) (fun _ _ _ h => h) (Or.inl ⟨want_no rfl, fun _ => by kernel_rfl⟩) ?_
                refine wpAny_take (i := 7) (v := .bool true) rfl (by kernel_rfl) (by kernel_rfl) (by kernel_rfl) (fun _ _ _ h => h) (Or.inl ⟨want_no rfl, fun _ => by kernel_rfl⟩) ?_
                refine wpAny_ready (rs := [9]) (by kernel_rfl) (by simp) ?_
                refine rd_put M rfl rfl rfl 39 _ _ rfl 6 k52 (by kernel_rfl) 16 39 (fun _ => 0) r10 rfl (by kernel_rfl) inz39 ?_ ?_
                · intro u55 M
                  replace M : Mem w [⟨g1, .cells (arr 64 (fun _ => 0)) 41⟩, ⟨g2, Z2⟩, ⟨g3, .cells (arr 16 r1) 39⟩, ⟨g4, .cells (arr 16 r2) 39⟩, ⟨g5, .cells (arr 16 r4) 39⟩, ⟨g6, .cells (arr 16 r7) 39⟩, ⟨k52, .cells (arr 16 r10) 39⟩] u55 := M
                  refine wpAny_take (i := 10) (v := .bool true) rfl (by kernel_rfl) (by kernel_rfl) (by kernel_rfl) (fun _ _ _ h => h) (Or.inl ⟨want_no rfl, fun _ => by kernel_rfl⟩) ?_
                  exact rd_end (by kernel_rfl) (hrest _ _ ⟨k52, by kernel_rfl, M⟩) _
                exact AllReady.nil
              exact AllReady.nil
            exact AllReady.nil
          exact AllReady.nil
        exact AllReady.nil
      refine rd_new M rfl rfl (some 10) rfl (.cells (arr 16 (fun _ => 0)) 39) (fun _ => by kernel_rfl) ?_ ?_
      · intro k56 u56 M
        replace M : Mem w [⟨g1, .cells (arr 64 (fun _ => 0)) 41⟩, ⟨g2, Z2⟩, ⟨g3, .cells (arr 16 r1) 39⟩, ⟨g4, .cells (arr 16 r2) 39⟩, ⟨g5, .cells (arr 16 r4) 39⟩, ⟨g6, .cells (arr 16 r7) 39⟩, ⟨k56, .cells (arr 16 (fun _ => 0)) 39⟩] u56 := M
        refine wpAny_ready (rs := [0, 2]) (by kernel_rfl) (by simp) ?_
        refine rd_load M rfl rfl (some 49) rfl 39 _ rfl 4 g5 (by kernel_rfl) 16 39 r4 rfl _ Tryz.underlying39 rfl inz39 ?_ ?_
        · skip
          refine wpAny_ready (rs := [2]) (by kernel_rfl) (by simp) ?_
          refine rd_call M rfl rfl (some 51) rfl 44 #[.agg (arr 16 r7)] (.agg (arr 16 r8)) (fun _ => by kernel_rfl) F.h9 ?_ ?_
          · intro u57 M
            refine wpAny_ready (rs := [3]) (by kernel_rfl) (by simp) ?_
            refine rd_call M rfl rfl (some 52) rfl 39 #[.agg (arr 16 r4), .agg (arr 16 r8)] (.agg (arr 16 r9)) (fun _ => by kernel_rfl) F.h10 ?_ ?_
            · intro u58 M
              refine wpAny_ready (rs := [4]) (by kernel_rfl) (by simp) ?_
              refine rd_call M rfl rfl (some 53) rfl 45 #[.agg (arr 16 r9)] (.tuple #[.agg (arr 16 r10), .bool true]) (fun _ => by kernel_rfl) F.h11 ?_ ?_
              · intro u59 M
                refine wpAny_take (i := 5) (v := .tuple #[.agg (arr 16 r10), .bool true]) rfl (by kernel_rfl) (by kernel_rfl) (by kernel_rfl) (fun _ _ _ h => h) (Or.inl ⟨want_no rfl, fun _ => by kernel_rfl⟩) ?_
                refine wpAny_take (i := 6) (v := .agg (arr 16 r10)) rfl (by kernel_rfl) (by kernel_rfl) (by kernel_rfl) (fun _ _ _ h => h) (Or.inl ⟨want_no rfl, fun _ => by kernel_rfl⟩) ?_
                refine wpAny_take (i := 7) (v := .bool true) rfl (by kernel_rfl) (by kernel_rfl) (by kernel_rfl) (fun _ _ _ h => h) (Or.inl ⟨want_no rfl, fun _ => by kernel_rfl⟩) ?_
                refine wpAny_ready (rs := [9]) (by kernel_rfl) (by simp) ?_
                refine rd_put M rfl rfl rfl 39 _ _ rfl 6 k56 (by kernel_rfl) 16 39 (fun _ => 0) r10 rfl (by kernel_rfl) inz39 ?_ ?_
                · intro u60 M
                  replace M : Mem w [⟨g1, .cells (arr 64 (fun _ => 0)) 41⟩, ⟨g2, Z2⟩, ⟨g3, .cells (arr 16 r1) 39⟩, ⟨g4, .cells (arr 16 r2) 39⟩, ⟨g5, .cells (arr 16 r4) 39⟩, ⟨g6, .cells (arr 16 r7) 39⟩, ⟨k56, .cells (arr 16 r10) 39⟩] u60 := M
                  refine wpAny_take (i := 10) (v := .bool true) rfl (by kernel_rfl) (by kernel_rfl) (by kernel_rfl) (fun _ _ _ h => h) (Or.inl ⟨want_no rfl, fun _ => by kernel_rfl⟩) ?_
                  exact rd_end (by kernel_rfl) (hrest _ _ ⟨k56, by kernel_rfl, M⟩) _
                exact AllReady.nil
              exact AllReady.nil
            exact AllReady.nil
          exact AllReady.nil
        refine rd_call M rfl rfl (some 51) rfl 44 #[.agg (arr 16 r7)] (.agg (arr 16 r8)) (fun _ => by kernel_rfl) F.h9 ?_ ?_
        · intro u61 M
          refine wpAny_ready (rs := [0]) (by kernel_rfl) (by simp) ?_
          refine rd_load M rfl rfl (some 49) rfl 39 _ rfl 4 g5 (by kernel_rfl) 16 39 r4 rfl _ Tryz.underlying39 rfl inz39 ?_ ?_
          · skip
            refine wpAny_ready (rs := [3]) (by kernel_rfl) (by simp) ?_
            refine rd_call M rfl rfl (some 52) rfl 39 #[.agg (arr 16 r4), .agg (arr 16 r8)] (.agg (arr 16 r9)) (fun _ => by kernel_rfl) F.h10 ?_ ?_
            · intro u62 M
              refine wpAny_ready (rs := [4]) (by kernel_rfl) (by simp) ?_
              refine rd_call M rfl rfl (some 53) rfl 45 #[.agg (arr 16 r9)] (.tuple #[.agg (arr 16 r10), .bool true]) (fun _ => by kernel_rfl) F.h11 ?_ ?_
              · intro u63 M
                refine wpAny_take (i := 5) (v := .tuple #[.agg (arr 16 r10), .bool true]) rfl (by kernel_rfl) (by kernel_rfl) (by kernel_rfl) (fun _ _ _ h => h) (Or.inl ⟨want_no rfl, fun _ => by kernel_rfl⟩) ?_
                refine wpAny_take (i := 6) (v := .agg (arr 16 r10)) rfl (by kernel_rfl) (by kernel_rfl) (by kernel_rfl) (fun _ _ _ h => h) (Or.inl ⟨want_no rfl, fun _ => by kernel_rfl⟩) ?_
                refine wpAny_take (i := 7) (v := .bool true) rfl (by kernel_rfl) (by kernel_rfl) (by kernel_rfl) (fun _ _ _ h => h) (Or.inl ⟨want_no rfl, fun _ => by kernel_rfl⟩) ?_
                refine wpAny_ready (rs := [9]) (by kernel_rfl) (by simp) ?_
                refine rd_put M rfl rfl rfl 39 _ _ rfl 6 k56 (by kernel_rfl) 16 39 (fun _ => 0) r10 rfl (by kernel_rfl) inz39 ?_ ?_
                · intro u64 M
                  replace M : Mem w [⟨g1, .cells (arr 64 (fun _ => 0)) 41⟩, ⟨g2, Z2⟩, ⟨g3, .cells (arr 16 r1) 39⟩, ⟨g4, .cells (arr 16 r2) 39⟩, ⟨g5, .cells (arr 16 r4) 39⟩, ⟨g6, .cells (arr 16 r7) 39⟩, ⟨k56, .cells (arr 16 r10) 39⟩] u64 := M
                  refine wpAny_take (i := 10) (v := .bool true) rfl (by kernel_rfl) (by kernel_rfl) (by kernel_rfl) (fun _ _ _ h => h) (Or.inl ⟨want_no rfl, fun _ => by kernel_rfl⟩) ?_
                  exact rd_end (by kernel_rfl) (hrest _ _ ⟨k56, by kernel_rfl, M⟩) _
                exact AllReady.nil
              exact AllReady.nil
            exact AllReady.nil
          exact AllReady.nil
        exact AllReady.nil
      exact AllReady.nil
    refine rd_new M rfl rfl (some 10) rfl (.cells (arr 16 (fun _ => 0)) 39) (fun _ => by kernel_rfl) ?_ ?_
    · intro k65 u65 M
      replace M : Mem w [⟨g1, .cells (arr 64 (fun _ => 0)) 41⟩, ⟨g2, Z2⟩, ⟨g3, .cells (arr 16 r1) 39⟩, ⟨g4, .cells (arr 16 r2) 39⟩, ⟨g5, .cells (arr 16 r4) 39⟩, ⟨g6, .cells (arr 16 r7) 39⟩, ⟨k65, .cells (arr 16 (fun _ => 0)) 39⟩] u65 := M
      refine wpAny_ready (rs := [0, 1]) (by kernel_rfl) (by simp) ?_
      refine rd_load M rfl rfl (some 49) rfl 39 _ rfl 4 g5 (by kernel_rfl) 16 39 r4 rfl _ Tryz.underlying39 rfl inz39 ?_ ?_
      · skip
        refine wpAny_ready (rs := [1]) (by kernel_rfl) (by simp) ?_
        refine rd_load M rfl rfl (some 50) rfl 39 _ rfl 5 g6 (by kernel_rfl) 16 39 r7 rfl _ Tryz.underlying39 rfl inz39 ?_ ?_
        · skip
          refine wpAny_ready (rs := [2]) (by kernel_rfl) (by simp) ?_
          refine rd_call M rfl rfl (some 51) rfl 44 #[.agg (arr 16 r7)] (.agg (arr 16 r8)) (fun _ => by kernel_rfl) F.h9 ?_ ?_
          · intro u66 M
            refine wpAny_ready (rs := [3]) (by kernel_rfl) (by simp) ?_
            refine rd_call M rfl rfl (some 52) rfl 39 #[.agg (arr 16 r4), .agg (arr 16 r8)] (.agg (arr 16 r9)) (fun _ => by kernel_rfl) F.h10 ?_ ?_
            · intro u67 M
              refine wpAny_ready (rs := [4]) (by kernel_rfl) (by simp) ?_
              refine rd_call M rfl rfl (some 53) rfl 45 #[.agg (arr 16 r9)] (.tuple #[.agg (arr 16 r10), .bool true]) (fun _ => by kernel_rfl) F.h11 ?_ ?_
              · intro u68 M
                refine wpAny_take (i := 5) (v := .tuple #[.agg (arr 16 r10), .bool true]) rfl (by kernel_rfl) (by kernel_rfl) (by kernel_rfl) (fun _ _ _ h => h) (Or.inl ⟨want_no rfl, fun _ => by kernel_rfl⟩) ?_
                refine wpAny_take (i := 6) (v := .agg (arr 16 r10)) rfl (by kernel_rfl) (by kernel_rfl) (by kernel_rfl) (fun _ _ _ h => h) (Or.inl ⟨want_no rfl, fun _ => by kernel_rfl⟩) ?_
                refine wpAny_take (i := 7) (v := .bool true) rfl (by kernel_rfl) (by kernel_rfl) (by kernel_rfl) (fun _ _ _ h => h) (Or.inl ⟨want_no rfl, fun _ => by kernel_rfl⟩) ?_
                refine wpAny_ready (rs := [9]) (by kernel_rfl) (by simp) ?_
                refine rd_put M rfl rfl rfl 39 _ _ rfl 6 k65 (by kernel_rfl) 16 39 (fun _ => 0) r10 rfl (by kernel_rfl) inz39 ?_ ?_
                · intro u69 M
                  replace M : Mem w [⟨g1, .cells (arr 64 (fun _ => 0)) 41⟩, ⟨g2, Z2⟩, ⟨g3, .cells (arr 16 r1) 39⟩, ⟨g4, .cells (arr 16 r2) 39⟩, ⟨g5, .cells (arr 16 r4) 39⟩, ⟨g6, .cells (arr 16 r7) 39⟩, ⟨k65, .cells (arr 16 r10) 39⟩] u69 := M
                  refine wpAny_take (i := 10) (v := .bool true) rfl (by kernel_rfl) (by kernel_rfl) (by kernel_rfl) (fun _ _ _ h => h) (Or.inl ⟨want_no rfl, fun _ => by kernel_rfl⟩) ?_
                  exact rd_end (by kernel_rfl) (hrest _ _ ⟨k65, by kernel_rfl, M⟩) _
                exact AllReady.nil
              exact AllReady.nil
            exact AllReady.nil
          exact AllReady.nil
        exact AllReady.nil
      refine rd_load M rfl rfl (some 50) rfl 39 _ rfl 5 g6 (by kernel_rfl) 16 39 r7 rfl _ Tryz.underlying39 rfl inz39 ?_ ?_
      · skip
        refine wpAny_ready (rs := [0, 2]) (by kernel_rfl) (by simp) ?_
        refine rd_load M rfl rfl (some 49) rfl 39 _ rfl 4 g5 (by kernel_rfl) 16 39 r4 rfl _ Tryz.underlying39 rfl inz39 ?_ ?_
        · skip
          refine wpAny_ready (rs := [2]) (by kernel_rfl) (by simp) ?_
          refine rd_call M rfl rfl (some 51) rfl 44 #[.agg (arr 16 r7)] (.agg (arr 16 r8)) (fun _ => by kernel_rfl) F.h9 ?_ ?_
          · intro u70 M
            refine wpAny_ready (rs := [3]) (by kernel_rfl) (by simp) ?_
            refine rd_call M rfl rfl (some 52) rfl 39 #[.agg (arr 16 r4), .agg (arr 16 r8)] (.agg (arr 16 r9)) (fun _ => by kernel_rfl) F.h10 ?_ ?_
            · intro u71 M
              refine wpAny_ready (rs := [4]) (by kernel_rfl) (by simp) ?_
              refine rd_call M rfl rfl (some 53) rfl 45 #[.agg (arr 16 r9)] (.tuple #[.agg (arr 16 r10), .bool true]) (fun _ => by kernel_rfl) F.h11 ?_ ?_
              · intro u72 M
                refine wpAny_take (i := 5) (v := .tuple #[.agg (arr 16 r10), .bool true]) rfl (by kernel_rfl) (by kernel_rfl) (by kernel_rfl) (fun _ _ _ h => h) (Or.inl ⟨want_no rfl, fun _ => by kernel_rfl⟩) ?_
                refine wpAny_take (i := 6) (v := .agg (arr 16 r10)) rfl (by kernel_rfl) (by kernel_rfl) (by kernel_rfl) (fun _ _ _ h => h) (Or.inl ⟨want_no rfl, fun _ => by kernel_rfl⟩) ?_
                refine wpAny_take (i := 7) (v := .bool true) rfl (by kernel_rfl) (by kernel_rfl) (by kernel_rfl) (fun _ _ _ h => h) (Or.inl ⟨want_no rfl, fun _ => by kernel_rfl⟩) ?_
                refine wpAny_ready (rs := [9]) (by kernel_rfl) (by simp) ?_
                refine rd_put M rfl rfl rfl 39 _ _ rfl 6 k65 (by kernel_rfl) 16 39 (fun _ => 0) r10 rfl (by kernel_rfl) inz39 ?_ ?_
                · intro u73 M
                  replace M : Mem w [⟨g1, .cells (arr 64 (fun _ => 0)) 41⟩, ⟨g2, Z2⟩, ⟨g3, .cells (arr 16 r1) 39⟩, ⟨g4, .cells (arr 16 r2) 39⟩, ⟨g5, .cells (arr 16 r4) 39⟩, ⟨g6, .cells (arr 16 r7) 39⟩, ⟨k65, .cells (arr 16 r10) 39⟩] u73 := M
                  refine wpAny_take (i := 10) (v := .bool true) rfl (by kernel_rfl) (by kernel_rfl) (by kernel_rfl) (fun _ _ _ h => h) (Or.inl ⟨want_no rfl, fun _ => by kernel_rfl⟩) ?_
                  exact rd_end (by kernel_rfl) (hrest _ _ ⟨k65, by kernel_rfl, M⟩) _
                exact AllReady.nil
              exact AllReady.nil
            exact AllReady.nil
          exact AllReady.nil
        refine rd_call M rfl rfl (some 51) rfl 44 #[.agg (arr 16 r7)] (.agg (arr 16 r8)) (fun _ => by kernel_rfl) F.h9 ?_ ?_
        · intro u74 M
          refine wpAny_ready (rs := [0]) (by kernel_rfl) (by simp) ?_
          refine rd_load M rfl rfl (some 49) rfl 39 _ rfl 4 g5 (by kernel_rfl) 16 39 r4 rfl _ Tryz.underlying39 rfl inz39 ?_ ?_
          · skip
            refine wpAny_ready (rs := [3]) (by kernel_rfl) (by simp) ?_
            refine rd_call M rfl rfl (some 52) rfl 39 #[.agg (arr 16 r4), .agg (arr 16 r8)] (.agg (arr 16 r9)) (fun _ => by kernel_rfl) F.h10 ?_ ?_
            · intro u75 M
              refine wpAny_ready (rs := [4]) (by kernel_rfl) (by simp) ?_
              refine rd_call M rfl rfl (some 53) rfl 45 #[.agg (arr 16 r9)] (.tuple #[.agg (arr 16 r10), .bool true]) (fun _ => by kernel_rfl) F.h11 ?_ ?_
              · intro u76 M
                refine wpAny_take (i := 5) (v := .tuple #[.agg (arr 16 r10), .bool true]) rfl (by kernel_rfl) (by kernel_rfl) (by kernel_rfl) (fun _ _ _ h => h) (Or.inl ⟨want_no rfl, fun _ => by kernel_rfl⟩) ?_
                refine wpAny_take (i := 6) (v := .agg (arr 16 r10)) rfl (by kernel_rfl) (by kernel_rfl) (by kernel_rfl) (fun _ _ _ h => h) (Or.inl ⟨want_no rfl, fun _ => by kernel_rfl⟩) ?_
                refine wpAny_take (i := 7) (v := .bool true) rfl (by kernel_rfl) (by kernel_rfl) (by kernel_rfl) (fun _ _ _ h => h) (Or.inl ⟨want_no rfl, fun _ => by kernel_rfl⟩) ?_
                refine wpAny_ready (rs := [9]) (by kernel_rfl) (by simp) ?_
                refine rd_put M rfl rfl rfl 39 _ _ rfl 6 k65 (by kernel_rfl) 16 39 (fun _ => 0) r10 rfl (by kernel_rfl) inz39 ?_ ?_
                · intro u77 M
                  replace M : Mem w [⟨g1, .cells (arr 64 (fun _ => 0)) 41⟩, ⟨g2, Z2⟩, ⟨g3, .cells (arr 16 r1) 39⟩, ⟨g4, .cells (arr 16 r2) 39⟩, ⟨g5, .cells (arr 16 r4) 39⟩, ⟨g6, .cells (arr 16 r7) 39⟩, ⟨k65, .cells (arr 16 r10) 39⟩] u77 := M
                  refine wpAny_take (i := 10) (v := .bool true) rfl (by kernel_rfl) (by kernel_rfl) (by kernel_rfl) (fun _ _ _ h => h) (Or.inl ⟨want_no rfl, fun _ => by kernel_rfl⟩) ?_
                  exact rd_end (by kernel_rfl) (hrest _ _ ⟨k65, by kernel_rfl, M⟩) _
                exact AllReady.nil
              exact AllReady.nil
            exact AllReady.nil
          exact AllReady.nil
        exact AllReady.nil
      exact AllReady.nil
    exact AllReady.nil
  rintro _ w15 ⟨gT8, rfl, M⟩
  refine au_then ?_
  refine wp_seq ?_
  refine wp_seq ?_
  refine rg_lit ?_
  refine pl_val (want_no rfl) (some 56) rfl (.bool true) (fun _ => by kernel_rfl) ?_
  refine pl_val (want_no rfl) (some 57) rfl (.bool false) (fun _ => by kernel_rfl) ?_
  refine pl_val (want_no rfl) (some 58) rfl (.bool false) (fun _ => by kernel_rfl) ?_
  refine pl_load M (want_on 2 false rfl 58 rfl (by kernel_rfl)) (some 59) rfl 39 _ rfl 6 gT8 0 (by kernel_rfl) 16 39 r10 rfl 16 r10 (Part.all _ _) (by decide) _ Tryz.underlying39 rfl inz39 ?_
  refine pl_val (want_on 2 false rfl 58 rfl (by kernel_rfl)) (some 60) rfl (.agg (arr 16 (fun _ => 0))) (fun _ => by kernel_rfl) ?_
  refine pl_val (want_on 2 false rfl 58 rfl (by kernel_rfl)) (some 61) rfl (.bool false) (fun w => (run_eq16 r10 (fun _ => 0) _ _ rfl (by kernel_rfl) (by kernel_rfl) (fun _ => by kernel_rfl) w).trans (by rw [he])) ?_
  refine pl_val (want_on 2 false rfl 58 rfl (by kernel_rfl)) (some 62) rfl (.bool false) (fun _ => by kernel_rfl) ?_
  refine pl_skip (want_off 6 true rfl 62 rfl (by kernel_rfl)) (some 63) rfl ?_
  refine pl_val (want_on 2 false rfl 58 rfl (by kernel_rfl)) (some 64) rfl (.bool false) (fun _ => by kernel_rfl) ?_
  refine pl_val (want_no rfl) (some 65) rfl (.bool false) (fun _ => by kernel_rfl) ?_
  refine pl_nil ?_
  refine au_then ?_
  refine wp_cond_false (by kernel_rfl) ?_
  refine wp_skip ?_
  refine au_then ?_
  refine wp_seq ?_
  refine wp_seq ?_
  refine rg_lit ?_
  refine pl_val (want_no rfl) (some 67) rfl (.bool false) (fun _ => by kernel_rfl) ?_
  refine pl_nil ?_
  refine au_then ?_
  refine wp_cond_false (by kernel_rfl) ?_
  refine wp_skip ?_
  refine au_then ?_
  refine wp_seq ?_
  refine rg_lit ?_
  refine pl_load M (want_no rfl) (some 70) rfl 39 _ rfl 6 gT8 0 (by kernel_rfl) 16 39 r10 rfl 16 r10 (Part.all _ _) (by decide) _ Tryz.underlying39 rfl inz39 ?_
  refine pl_load M (want_no rfl) (some 71) rfl 39 _ rfl 2 g3 0 (by kernel_rfl) 16 39 r1 rfl 16 r1 (Part.all _ _) (by decide) _ Tryz.underlying39 rfl inz39 ?_
  refine pl_call M (want_no rfl) (some 72) rfl 47 #[.agg (arr 16 r10), .agg (arr 16 r1)] (.agg (arr 64 r11)) (fun _ => by kernel_rfl) F.h12 ?_
  intro w16 M
  refine pl_put M (want_no rfl) rfl 41 _ _ rfl 0 g1 (by kernel_rfl) 64 41 (fun _ => 0) r11 rfl (by kernel_rfl) inz41 ?_
  intro w17 M
  replace M : Mem w [⟨g1, .cells (arr 64 r11) 41⟩, ⟨g2, Z2⟩, ⟨g3, .cells (arr 16 r1) 39⟩, ⟨g4, .cells (arr 16 r2) 39⟩, ⟨g5, .cells (arr 16 r4) 39⟩, ⟨g6, .cells (arr 16 r7) 39⟩, ⟨gT8, .cells (arr 16 r10) 39⟩] w17 := M
  refine pl_val (want_no rfl) (some 3) rfl (.int .i64 0) (fun _ => by kernel_rfl) ?_
  refine pl_nil ?_
  refine au_then ?_
  refine wp_ret ?_
  exact bodyPost_ret (v := .tuple #[.agg (arr 64 r11), .int .i64 0]) (results_cell_tmp Tryz.results8 _ _ g1 41 (arr 64 r11) (0, 0) _ (.int .i64 0) (by kernel_rfl) (by kernel_rfl) (M.get 0 rfl) Tryz.underlying41 rfl (by rw [arr_size]; exact inz41)) (by kernel_rfl) ⟨rfl, M.old⟩

structure rdecZFF (s : ByteArray) (r1 r2 r3 r4 r5 r6 r7 r8 r9 r10 r11 : Nat → Int) : Prop where
  h1 : ∀ w, Calls Tryz.prog 37 #[.string (bs ((List.range 32).map (upd (bt (s)) 31 (bits .and .u8 ((bt (s)) 31) 127))))] w fun r w' => r = .returned (.bool true) ∧ Below w.heap.size w w'
  h2 : ∀ w, Calls Tryz.prog 38 #[.string (bs ((List.range 32).map (upd (bt (s)) 31 (bits .and .u8 ((bt (s)) 31) 127))))] w fun r w' => r = .returned (.agg (arr 16 r1)) ∧ Below w.heap.size w w'
  h3 : ∀ w, Calls Tryz.prog 39 #[.agg (arr 16 r1), .agg (arr 16 r1)] w fun r w' => r = .returned (.agg (arr 16 r2)) ∧ Below w.heap.size w w'
  h4 : ∀ w, Calls Tryz.prog 41 #[.int .u32 1] w fun r w' => r = .returned (.agg (arr 16 r3)) ∧ Below w.heap.size w w'
  h5 : ∀ w, Calls Tryz.prog 40 #[.agg (arr 16 r2), .agg (arr 16 r3)] w fun r w' => r = .returned (.agg (arr 16 r4)) ∧ Below w.heap.size w w'
  h6 : ∀ w, Calls Tryz.prog 42 #[] w fun r w' => r = .returned (.agg (arr 16 r5)) ∧ Below w.heap.size w w'
  h7 : ∀ w, Calls Tryz.prog 39 #[.agg (arr 16 r5), .agg (arr 16 r2)] w fun r w' => r = .returned (.agg (arr 16 r6)) ∧ Below w.heap.size w w'
  h8 : ∀ w, Calls Tryz.prog 43 #[.agg (arr 16 r6), .agg (arr 16 r3)] w fun r w' => r = .returned (.agg (arr 16 r7)) ∧ Below w.heap.size w w'
  h9 : ∀ w, Calls Tryz.prog 44 #[.agg (arr 16 r7)] w fun r w' => r = .returned (.agg (arr 16 r8)) ∧ Below w.heap.size w w'
  h10 : ∀ w, Calls Tryz.prog 39 #[.agg (arr 16 r4), .agg (arr 16 r8)] w fun r w' => r = .returned (.agg (arr 16 r9)) ∧ Below w.heap.size w w'
  h11 : ∀ w, Calls Tryz.prog 45 #[.agg (arr 16 r9)] w fun r w' => r = .returned (.tuple #[.agg (arr 16 r10), .bool true]) ∧ Below w.heap.size w w'
  h12 : ∀ w, Calls Tryz.prog 47 #[.agg (arr 16 r10), .agg (arr 16 r1)] w fun r w' => r = .returned (.agg (arr 64 r11)) ∧ Below w.heap.size w w'

set_option maxRecDepth 100000 in
set_option maxHeartbeats 4000000 in
theorem rdecZF_gen (s : ByteArray) (r1 r2 r3 r4 r5 r6 r7 r8 r9 r10 r11 : Nat → Int) (w : World) (F : rdecZFF s r1 r2 r3 r4 r5 r6 r7 r8 r9 r10 r11) (hs : s.size = 32) (hf : ∀ i, i < 32 → 0 ≤ (upd (bt s) 31 (bits .and .u8 (bt s 31) 127)) i ∧ (upd (bt s) 31 (bits .and .u8 (bt s 31) 127)) i < 256) (ho : decide (bt s 31 / 128 = 1) = false) (he : eqw r10 (fun _ => 0) 0 16 = true) :
    Calls Tryz.prog 8 #[.string s] w fun r w' => r = .returned (.tuple #[.agg (arr 64 r11), .int .i64 0]) ∧ Below w.heap.size w w' := by
  go_enter Tryz.func8, Tryz.ntmps8
  have M := Mem.start w
  refine wp_seq ?_
  refine rg_lit ?_
  refine pl_new M (want_no rfl) (some 2) rfl (.cells (arr 64 (fun _ => 0)) 41) (fun _ => by kernel_rfl) ?_
  intro g1 w1 M
  replace M : Mem w [⟨g1, .cells (arr 64 (fun _ => 0)) 41⟩] w1 := M
  refine pl_val (want_no rfl) (some 3) rfl (.int .i64 0) (fun _ => by kernel_rfl) ?_
  refine pl_nil ?_
  refine au_then ?_
  refine wp_seq ?_
  refine wp_seq ?_
  refine rg_lit ?_
  refine pl_val (want_no rfl) (some 12) rfl (.string s) (fun _ => by kernel_rfl) ?_
  refine pl_val (want_no rfl) (some 13) rfl (.int .i64 32) (fun w => Eq.trans (b := .ok (.value (.int .i64 (s.size : Int))) w) (by kernel_rfl) (by rw [hs]; rfl)) ?_
  refine pl_val (want_no rfl) (some 14) rfl (.bool false) (fun _ => by kernel_rfl) ?_
  refine pl_nil ?_
  refine au_then ?_
  refine wp_cond_false (by kernel_rfl) ?_
  refine wp_skip ?_
  refine au_then ?_
  refine wp_seq ?_
  refine rg_lit ?_
  refine pl_val (want_no rfl) (some 16) rfl (.string s) (fun _ => by kernel_rfl) ?_
  refine pl_conv M (want_no rfl) (some 17) rfl _ rfl (s) (by kernel_rfl) 32 hs ?_
  intro g2 cg2 Z1 w2 z1 M
  replace M : Mem w [⟨g1, .cells (arr 64 (fun _ => 0)) 41⟩, ⟨g2, Z1⟩] w2 := M
  refine pl_val (want_no rfl) (some 4) rfl (.slice (some ⟨g2, 0, none⟩) 32 cg2) (fun _ => by kernel_rfl) ?_
  refine pl_nil ?_
  refine au_then ?_
  refine wp_seq ?_
  refine rg_lit ?_
  refine pl_val (want_no rfl) (some 18) rfl (.slice (some ⟨g2, 0, none⟩) 32 cg2) (fun _ => by kernel_rfl) ?_
  refine pl_val (want_no rfl) (some 19) rfl (.pointer (some ⟨g2, 31, none⟩)) (fun _ => by kernel_rfl) ?_
  refine pl_loadb M (want_no rfl) (some 20) rfl 5 _ rfl 1 g2 31 (by kernel_rfl) (Z1) rfl 32 (bt (s)) z1 (by decide) (fun _ => by kernel_rfl) ?_
  refine pl_val (want_no rfl) (some 21) rfl (.int .u8 (bt (s) 31 / 128)) (fun w => run_bin .shr 5 _ _ rfl (by kernel_rfl) (by kernel_rfl) (fun _ => by kernel_rfl) (run_shr7 _) w) ?_
  refine pl_val (want_no rfl) (some 22) rfl (.bool false) (fun w => Eq.trans (b := .ok (.value (.bool (decide (bt s 31 / 128 = 1)))) w) (by kernel_rfl) (by rw [ho])) ?_
  refine pl_val (want_no rfl) (some 5) rfl (.bool false) (fun _ => by kernel_rfl) ?_
  refine pl_nil ?_
  refine au_then ?_
  refine wp_seq ?_
  refine rg_lit ?_
  refine pl_val (want_no rfl) (some 23) rfl (.slice (some ⟨g2, 0, none⟩) 32 cg2) (fun _ => by kernel_rfl) ?_
  refine pl_val (want_no rfl) (some 24) rfl (.slice (some ⟨g2, 0, none⟩) 32 cg2) (fun _ => by kernel_rfl) ?_
  refine pl_val (want_no rfl) (some 25) rfl (.pointer (some ⟨g2, 31, none⟩)) (fun _ => by kernel_rfl) ?_
  refine pl_loadb M (want_no rfl) (some 26) rfl 5 _ rfl 1 g2 31 (by kernel_rfl) (Z1) rfl 32 (bt (s)) z1 (by decide) (fun _ => by kernel_rfl) ?_
  refine pl_val (want_no rfl) (some 27) rfl (.int .u8 (bits .and .u8 ((bt (s)) 31) 127)) (fun _ => by kernel_rfl) ?_
  refine pl_val (want_no rfl) (some 28) rfl (.pointer (some ⟨g2, 31, none⟩)) (fun _ => by kernel_rfl) ?_
  refine pl_storeb M (want_no rfl) rfl 5 _ _ rfl 1 g2 31 (by kernel_rfl) (bits .and .u8 ((bt (s)) 31) 127) (by kernel_rfl) (Z1) rfl 32 (bt (s)) z1 (by decide) inzb ?_
  intro Z2 w3 z2 M
  replace M : Mem w [⟨g1, .cells (arr 64 (fun _ => 0)) 41⟩, ⟨g2, Z2⟩] w3 := M
  refine pl_nil ?_
  refine au_then ?_
  refine wp_seq ?_
  refine wp_seq ?_
  refine rg_lit ?_
  refine pl_val (want_no rfl) (some 29) rfl (.slice (some ⟨g2, 0, none⟩) 32 cg2) (fun _ => by kernel_rfl) ?_
  refine pl_back M (want_no rfl) (some 30) rfl _ rfl 1 g2 32 cg2 (by kernel_rfl) (Z2) rfl (upd (bt (s)) 31 (bits .and .u8 ((bt (s)) 31) 127)) z2 hf ?_
  refine pl_call M (want_no rfl) (some 31) rfl 37 #[.string (bs ((List.range 32).map (upd (bt (s)) 31 (bits .and .u8 ((bt (s)) 31) 127))))] (.bool true) (fun _ => by kernel_rfl) F.h1 ?_
  intro w4 M
  refine pl_val (want_no rfl) (some 32) rfl (.bool false) (fun _ => by kernel_rfl) ?_
  refine pl_nil ?_
  refine au_then ?_
  refine wp_cond_false (by kernel_rfl) ?_
  refine wp_skip ?_
  refine au_then ?_
  refine wp_seq ?_
  refine rg_lit ?_
  refine pl_val (want_no rfl) (some 34) rfl (.slice (some ⟨g2, 0, none⟩) 32 cg2) (fun _ => by kernel_rfl) ?_
  refine pl_back M (want_no rfl) (some 35) rfl _ rfl 1 g2 32 cg2 (by kernel_rfl) (Z2) rfl (upd (bt (s)) 31 (bits .and .u8 ((bt (s)) 31) 127)) z2 hf ?_
  refine pl_call M (want_no rfl) (some 36) rfl 38 #[.string (bs ((List.range 32).map (upd (bt (s)) 31 (bits .and .u8 ((bt (s)) 31) 127))))] (.agg (arr 16 r1)) (fun _ => by kernel_rfl) F.h2 ?_
  intro w5 M
  refine pl_new M (want_no rfl) (some 6) rfl (.cells (arr 16 (fun _ => 0)) 39) (fun _ => by kernel_rfl) ?_
  intro g3 w6 M
  replace M : Mem w [⟨g1, .cells (arr 64 (fun _ => 0)) 41⟩, ⟨g2, Z2⟩, ⟨g3, .cells (arr 16 (fun _ => 0)) 39⟩] w6 := M
  refine pl_put M (want_no rfl) rfl 39 _ _ rfl 2 g3 (by kernel_rfl) 16 39 (fun _ => 0) r1 rfl (by kernel_rfl) inz39 ?_
  intro w7 M
  replace M : Mem w [⟨g1, .cells (arr 64 (fun _ => 0)) 41⟩, ⟨g2, Z2⟩, ⟨g3, .cells (arr 16 r1) 39⟩] w7 := M
  refine pl_nil ?_
  refine au_then ?_
  refine wp_seq ?_
  refine rg_lit ?_
  refine pl_load M (want_no rfl) (some 37) rfl 39 _ rfl 2 g3 0 (by kernel_rfl) 16 39 r1 rfl 16 r1 (Part.all _ _) (by decide) _ Tryz.underlying39 rfl inz39 ?_
  refine pl_load M (want_no rfl) (some 38) rfl 39 _ rfl 2 g3 0 (by kernel_rfl) 16 39 r1 rfl 16 r1 (Part.all _ _) (by decide) _ Tryz.underlying39 rfl inz39 ?_
  refine pl_call M (want_no rfl) (some 39) rfl 39 #[.agg (arr 16 r1), .agg (arr 16 r1)] (.agg (arr 16 r2)) (fun _ => by kernel_rfl) F.h3 ?_
  intro w8 M
  refine pl_new M (want_no rfl) (some 7) rfl (.cells (arr 16 (fun _ => 0)) 39) (fun _ => by kernel_rfl) ?_
  intro g4 w9 M
  replace M : Mem w [⟨g1, .cells (arr 64 (fun _ => 0)) 41⟩, ⟨g2, Z2⟩, ⟨g3, .cells (arr 16 r1) 39⟩, ⟨g4, .cells (arr 16 (fun _ => 0)) 39⟩] w9 := M
  refine pl_put M (want_no rfl) rfl 39 _ _ rfl 3 g4 (by kernel_rfl) 16 39 (fun _ => 0) r2 rfl (by kernel_rfl) inz39 ?_
  intro w10 M
  replace M : Mem w [⟨g1, .cells (arr 64 (fun _ => 0)) 41⟩, ⟨g2, Z2⟩, ⟨g3, .cells (arr 16 r1) 39⟩, ⟨g4, .cells (arr 16 r2) 39⟩] w10 := M
  refine pl_nil ?_
  refine au_then ?_
  refine wp_seq ?_
  refine rg_allocs M 3 [(8, 39, 16)] (by kernel_rfl) (by kernel_rfl) ⟨rfl, rfl, fun _ _ => by kernel_rfl, trivial⟩ (by decide) ?_
  simp only [List.take_succ_cons, List.take_zero]
  refine k_load M (want_no rfl) (some 40) rfl 39 _ rfl 3 g4 0 (by kernel_rfl) 16 39 r2 rfl 16 r2 (Part.all _ _) (by decide) _ Tryz.underlying39 rfl inz39 ?_
  refine k_call (want_no rfl) (some 41) rfl 41 #[.int .u32 1] (.agg (arr 16 r3)) (fun _ => by kernel_rfl) F.h4 ?_
  refine k_call (want_no rfl) (some 42) rfl 40 #[.agg (arr 16 r2), .agg (arr 16 r3)] (.agg (arr 16 r4)) (fun _ => by kernel_rfl) F.h5 ?_
  refine kl_nil ?_
  intro w11 g5 M
  replace M : Mem w [⟨g1, .cells (arr 64 (fun _ => 0)) 41⟩, ⟨g2, Z2⟩, ⟨g3, .cells (arr 16 r1) 39⟩, ⟨g4, .cells (arr 16 r2) 39⟩, ⟨g5, .cells (arr 16 (fun _ => 0)) 39⟩] w11 := M
  refine pl_put M (want_no rfl) rfl 39 _ _ rfl 4 g5 (by kernel_rfl) 16 39 (fun _ => 0) r4 rfl (by kernel_rfl) inz39 ?_
  intro w12 M
  replace M : Mem w [⟨g1, .cells (arr 64 (fun _ => 0)) 41⟩, ⟨g2, Z2⟩, ⟨g3, .cells (arr 16 r1) 39⟩, ⟨g4, .cells (arr 16 r2) 39⟩, ⟨g5, .cells (arr 16 r4) 39⟩] w12 := M
  refine pl_nil ?_
  refine au_then ?_
  refine wp_seq ?_
  refine rg_allocs M 5 [(9, 39, 16)] (by kernel_rfl) (by kernel_rfl) ⟨rfl, rfl, fun _ _ => by kernel_rfl, trivial⟩ (by decide) ?_
  simp only [List.take_succ_cons, List.take_zero]
  refine k_call (want_no rfl) (some 43) rfl 42 #[] (.agg (arr 16 r5)) (fun _ => by kernel_rfl) F.h6 ?_
  refine k_load M (want_no rfl) (some 44) rfl 39 _ rfl 3 g4 0 (by kernel_rfl) 16 39 r2 rfl 16 r2 (Part.all _ _) (by decide) _ Tryz.underlying39 rfl inz39 ?_
  refine k_call (want_no rfl) (some 45) rfl 39 #[.agg (arr 16 r5), .agg (arr 16 r2)] (.agg (arr 16 r6)) (fun _ => by kernel_rfl) F.h7 ?_
  refine k_call (want_no rfl) (some 46) rfl 41 #[.int .u32 1] (.agg (arr 16 r3)) (fun _ => by kernel_rfl) F.h4 ?_
  refine k_call (want_no rfl) (some 47) rfl 43 #[.agg (arr 16 r6), .agg (arr 16 r3)] (.agg (arr 16 r7)) (fun _ => by kernel_rfl) F.h8 ?_
  refine kl_nil ?_
  intro w13 g6 M
  replace M : Mem w [⟨g1, .cells (arr 64 (fun _ => 0)) 41⟩, ⟨g2, Z2⟩, ⟨g3, .cells (arr 16 r1) 39⟩, ⟨g4, .cells (arr 16 r2) 39⟩, ⟨g5, .cells (arr 16 r4) 39⟩, ⟨g6, .cells (arr 16 (fun _ => 0)) 39⟩] w13 := M
  refine pl_put M (want_no rfl) rfl 39 _ _ rfl 5 g6 (by kernel_rfl) 16 39 (fun _ => 0) r7 rfl (by kernel_rfl) inz39 ?_
  intro w14 M
  replace M : Mem w [⟨g1, .cells (arr 64 (fun _ => 0)) 41⟩, ⟨g2, Z2⟩, ⟨g3, .cells (arr 16 r1) 39⟩, ⟨g4, .cells (arr 16 r2) 39⟩, ⟨g5, .cells (arr 16 r4) 39⟩, ⟨g6, .cells (arr 16 r7) 39⟩] w14 := M
  refine pl_nil ?_
  refine au_then ?_
  refine wp_seq ?_
  refine region_cut (fun a0 a' w' => ∃ gT8 : Nat, a' = ((((((((((a0.put (some 49) (.agg (arr 16 r4))).put (some 50) (.agg (arr 16 r7))).put (some 51) (.agg (arr 16 r8))).put (some 52) (.agg (arr 16 r9))).put (some 53) (.tuple #[.agg (arr 16 r10), .bool true])).put (some 48) (.tuple #[.agg (arr 16 r10), .bool true])).put (some 54) (.agg (arr 16 r10))).put (some 55) (.bool true)).put (some 10) (.pointer (some ⟨gT8, 0, none⟩))).put (some 11) (.bool true)) ∧ Mem w [⟨g1, .cells (arr 64 (fun _ => 0)) 41⟩, ⟨g2, Z2⟩, ⟨g3, .cells (arr 16 r1) 39⟩, ⟨g4, .cells (arr 16 r2) 39⟩, ⟨g5, .cells (arr 16 r4) 39⟩, ⟨g6, .cells (arr 16 r7) 39⟩, ⟨gT8, .cells (arr 16 r10) 39⟩] w') (by kernel_rfl) ?_ ?_
  rotate_left
  · intro hrest
    replace M := M.drew
    refine wpAny_ready (rs := [0, 1, 8]) (by kernel_rfl) (by simp) ?_
    refine rd_load M rfl rfl (some 49) rfl 39 _ rfl 4 g5 (by kernel_rfl) 16 39 r4 rfl _ Tryz.underlying39 rfl inz39 ?_ ?_
    · skip
      refine wpAny_ready (rs := [1, 8]) (by kernel_rfl) (by simp) ?_
      refine rd_load M rfl rfl (some 50) rfl 39 _ rfl 5 g6 (by kernel_rfl) 16 39 r7 rfl _ Tryz.underlying39 rfl inz39 ?_ ?_
      · skip
        refine wpAny_ready (rs := [2, 8]) (by kernel_rfl) (by simp) ?_
        refine rd_call M rfl rfl (some 51) rfl 44 #[.agg (arr 16 r7)] (.agg (arr 16 r8)) (fun _ => by kernel_rfl) F.h9 ?_ ?_
        · intro u1 M
          refine wpAny_ready (rs := [3, 8]) (by kernel_rfl) (by simp) ?_
          refine rd_call M rfl rfl (some 52) rfl 39 #[.agg (arr 16 r4), .agg (arr 16 r8)] (.agg (arr 16 r9)) (fun _ => by kernel_rfl) F.h10 ?_ ?_
          · intro u2 M
            refine wpAny_ready (rs := [4, 8]) (by kernel_rfl) (by simp) ?_
            refine rd_call M rfl rfl (some 53) rfl 45 #[.agg (arr 16 r9)] (.tuple #[.agg (arr 16 r10), .bool true]) (fun _ => by kernel_rfl) F.h11 ?_ ?_
            · intro u3 M
              refine wpAny_take (i := 5) (v := .tuple #[.agg (arr 16 r10), .bool true]) rfl (by kernel_rfl) (by kernel_rfl) (by kernel_rfl) (fun _ _ _ h => h) (Or.inl ⟨want_no rfl, fun _ => by kernel_rfl⟩) ?_
              refine wpAny_take (i := 6) (v := .agg (arr 16 r10)) rfl (by kernel_rfl) (by kernel_rfl) (by kernel_rfl) (fun _ _ _ h => h) (Or.inl ⟨want_no rfl, fun _ => by kernel_rfl⟩) ?_
              refine wpAny_take (i := 7) (v := .bool true) rfl (by kernel_rfl) (by kernel_rfl) (by kernel_rfl) (fun _ _ _ h => h) (Or.inl ⟨want_no rfl, fun _ => by kernel_rfl⟩) ?_
              refine wpAny_ready (rs := [8]) (by kernel_rfl) (by simp) ?_
              refine rd_new M rfl rfl (some 10) rfl (.cells (arr 16 (fun _ => 0)) 39) (fun _ => by kernel_rfl) ?_ ?_
              · intro k4 u4 M
                replace M : Mem w [⟨g1, .cells (arr 64 (fun _ => 0)) 41⟩, ⟨g2, Z2⟩, ⟨g3, .cells (arr 16 r1) 39⟩, ⟨g4, .cells (arr 16 r2) 39⟩, ⟨g5, .cells (arr 16 r4) 39⟩, ⟨g6, .cells (arr 16 r7) 39⟩, ⟨k4, .cells (arr 16 (fun _ => 0)) 39⟩] u4 := M
                refine wpAny_ready (rs := [9]) (by kernel_rfl) (by simp) ?_
                refine rd_put M rfl rfl rfl 39 _ _ rfl 6 k4 (by kernel_rfl) 16 39 (fun _ => 0) r10 rfl (by kernel_rfl) inz39 ?_ ?_
                · intro u5 M
                  replace M : Mem w [⟨g1, .cells (arr 64 (fun _ => 0)) 41⟩, ⟨g2, Z2⟩, ⟨g3, .cells (arr 16 r1) 39⟩, ⟨g4, .cells (arr 16 r2) 39⟩, ⟨g5, .cells (arr 16 r4) 39⟩, ⟨g6, .cells (arr 16 r7) 39⟩, ⟨k4, .cells (arr 16 r10) 39⟩] u5 := M
                  refine wpAny_take (i := 10) (v := .bool true) rfl (by kernel_rfl) (by kernel_rfl) (by kernel_rfl) (fun _ _ _ h => h) (Or.inl ⟨want_no rfl, fun _ => by kernel_rfl⟩) ?_
                  exact rd_end (by kernel_rfl) (hrest _ _ ⟨k4, by kernel_rfl, M⟩) _
                exact AllReady.nil
              exact AllReady.nil
            refine rd_new M rfl rfl (some 10) rfl (.cells (arr 16 (fun _ => 0)) 39) (fun _ => by kernel_rfl) ?_ ?_
            · intro k6 u6 M
              replace M : Mem w [⟨g1, .cells (arr 64 (fun _ => 0)) 41⟩, ⟨g2, Z2⟩, ⟨g3, .cells (arr 16 r1) 39⟩, ⟨g4, .cells (arr 16 r2) 39⟩, ⟨g5, .cells (arr 16 r4) 39⟩, ⟨g6, .cells (arr 16 r7) 39⟩, ⟨k6, .cells (arr 16 (fun _ => 0)) 39⟩] u6 := M
              refine wpAny_ready (rs := [4]) (by kernel_rfl) (by simp) ?_
              refine rd_call M rfl rfl (some 53) rfl 45 #[.agg (arr 16 r9)] (.tuple #[.agg (arr 16 r10), .bool true]) (fun _ => by kernel_rfl) F.h11 ?_ ?_
              · intro u7 M
                refine wpAny_take (i := 5) (v := .tuple #[.agg (arr 16 r10), .bool true]) rfl (by kernel_rfl) (by kernel_rfl) (by kernel_rfl) (fun _ _ _ h => h) (Or.inl ⟨want_no rfl, fun _ => by kernel_rfl⟩) ?_
                refine wpAny_take (i := 6) (v := .agg (arr 16 r10)) rfl (by kernel_rfl) (by kernel_rfl) (by kernel_rfl) (fun _ _ _ h => h) (Or.inl ⟨want_no rfl, fun _ => by kernel_rfl⟩) ?_
                refine wpAny_take (i := 7) (v := .bool true) rfl (by kernel_rfl) (by kernel_rfl) (by kernel_rfl) (fun _ _ _ h => h) (Or.inl ⟨want_no rfl, fun _ => by kernel_rfl⟩) ?_
                refine wpAny_ready (rs := [9]) (by kernel_rfl) (by simp) ?_
                refine rd_put M rfl rfl rfl 39 _ _ rfl 6 k6 (by kernel_rfl) 16 39 (fun _ => 0) r10 rfl (by kernel_rfl) inz39 ?_ ?_
                · intro u8 M
                  replace M : Mem w [⟨g1, .cells (arr 64 (fun _ => 0)) 41⟩, ⟨g2, Z2⟩, ⟨g3, .cells (arr 16 r1) 39⟩, ⟨g4, .cells (arr 16 r2) 39⟩, ⟨g5, .cells (arr 16 r4) 39⟩, ⟨g6, .cells (arr 16 r7) 39⟩, ⟨k6, .cells (arr 16 r10) 39⟩] u8 := M
                  refine wpAny_take (i := 10) (v := .bool true) rfl (by kernel_rfl) (by kernel_rfl) (by kernel_rfl) (fun _ _ _ h => h) (Or.inl ⟨want_no rfl, fun _ => by kernel_rfl⟩) ?_
                  exact rd_end (by kernel_rfl) (hrest _ _ ⟨k6, by kernel_rfl, M⟩) _
                exact AllReady.nil
              exact AllReady.nil
            exact AllReady.nil
          refine rd_new M rfl rfl (some 10) rfl (.cells (arr 16 (fun _ => 0)) 39) (fun _ => by kernel_rfl) ?_ ?_
          · intro k9 u9 M
            replace M : Mem w [⟨g1, .cells (arr 64 (fun _ => 0)) 41⟩, ⟨g2, Z2⟩, ⟨g3, .cells (arr 16 r1) 39⟩, ⟨g4, .cells (arr 16 r2) 39⟩, ⟨g5, .cells (arr 16 r4) 39⟩, ⟨g6, .cells (arr 16 r7) 39⟩, ⟨k9, .cells (arr 16 (fun _ => 0)) 39⟩] u9 := M
            refine wpAny_ready (rs := [3]) (by kernel_rfl) (by simp) ?_
            refine rd_call M rfl rfl (some 52) rfl 39 #[.agg (arr 16 r4), .agg (arr 16 r8)] (.agg (arr 16 r9)) (fun _ => by kernel_rfl) F.h10 ?_ ?_
            · intro u10 M
              refine wpAny_ready (rs := [4]) (by kernel_rfl) (by simp) ?_
              refine rd_call M rfl rfl (some 53) rfl 45 #[.agg (arr 16 r9)] (.tuple #[.agg (arr 16 r10), .bool true]) (fun _ => by kernel_rfl) F.h11 ?_ ?_
              · intro u11 M
                refine wpAny_take (i := 5) (v := .tuple #[.agg (arr 16 r10), .bool true]) rfl (by kernel_rfl) (by kernel_rfl) (by kernel_rfl) (fun _ _ _ h => h) (Or.inl ⟨want_no rfl, fun _ => by kernel_rfl⟩) ?_
                refine wpAny_take (i := 6) (v := .agg (arr 16 r10)) rfl (by kernel_rfl) (by kernel_rfl) (by kernel_rfl) (fun _ _ _ h => h) (Or.inl ⟨want_no rfl, fun _ => by kernel_rfl⟩) ?_
                refine wpAny_take (i := 7) (v := .bool true) rfl (by kernel_rfl) (by kernel_rfl) (by kernel_rfl) (fun _ _ _ h => h) (Or.inl ⟨want_no rfl, fun _ => by kernel_rfl⟩) ?_
                refine wpAny_ready (rs := [9]) (by kernel_rfl) (by simp) ?_
                refine rd_put M rfl rfl rfl 39 _ _ rfl 6 k9 (by kernel_rfl) 16 39 (fun _ => 0) r10 rfl (by kernel_rfl) inz39 ?_ ?_
                · intro u12 M
                  replace M : Mem w [⟨g1, .cells (arr 64 (fun _ => 0)) 41⟩, ⟨g2, Z2⟩, ⟨g3, .cells (arr 16 r1) 39⟩, ⟨g4, .cells (arr 16 r2) 39⟩, ⟨g5, .cells (arr 16 r4) 39⟩, ⟨g6, .cells (arr 16 r7) 39⟩, ⟨k9, .cells (arr 16 r10) 39⟩] u12 := M
                  refine wpAny_take (i := 10) (v := .bool true) rfl (by kernel_rfl) (by kernel_rfl) (by kernel_rfl) (fun _ _ _ h => h) (Or.inl ⟨want_no rfl, fun _ => by kernel_rfl⟩) ?_
                  exact rd_end (by kernel_rfl) (hrest _ _ ⟨k9, by kernel_rfl, M⟩) _
                exact AllReady.nil
              exact AllReady.nil
            exact AllReady.nil
          exact AllReady.nil
        refine rd_new M rfl rfl (some 10) rfl (.cells (arr 16 (fun _ => 0)) 39) (fun _ => by kernel_rfl) ?_ ?_
        · intro k13 u13 M
          replace M : Mem w [⟨g1, .cells (arr 64 (fun _ => 0)) 41⟩, ⟨g2, Z2⟩, ⟨g3, .cells (arr 16 r1) 39⟩, ⟨g4, .cells (arr 16 r2) 39⟩, ⟨g5, .cells (arr 16 r4) 39⟩, ⟨g6, .cells (arr 16 r7) 39⟩, ⟨k13, .cells (arr 16 (fun _ => 0)) 39⟩] u13 := M
          refine wpAny_ready (rs := [2]) (by kernel_rfl) (by simp) ?_
          refine rd_call M rfl rfl (some 51) rfl 44 #[.agg (arr 16 r7)] (.agg (arr 16 r8)) (fun _ => by kernel_rfl) F.h9 ?_ ?_
          · intro u14 M
            refine wpAny_ready (rs := [3]) (by kernel_rfl) (by simp) ?_
            refine rd_call M rfl rfl (some 52) rfl 39 #[.agg (arr 16 r4), .agg (arr 16 r8)] (.agg (arr 16 r9)) (fun _ => by kernel_rfl) F.h10 ?_ ?_
            · intro u15 M
              refine wpAny_ready (rs := [4]) (by kernel_rfl) (by simp) ?_
              refine rd_call M rfl rfl (some 53) rfl 45 #[.agg (arr 16 r9)] (.tuple #[.agg (arr 16 r10), .bool true]) (fun _ => by kernel_rfl) F.h11 ?_ ?_
              · intro u16 M
                refine wpAny_take (i := 5) (v := .tuple #[.agg (arr 16 r10), .bool true]) rfl (by kernel_rfl) (by kernel_rfl) (by kernel_rfl) (fun _ _ _ h => h) (Or.inl ⟨want_no rfl, fun _ => by kernel_rfl⟩) ?_
                refine wpAny_take (i := 6) (v := .agg (arr 16 r10)) rfl (by kernel_rfl) (by kernel_rfl) (by kernel_rfl) (fun _ _ _ h => h) (Or.inl ⟨want_no rfl, fun _ => by kernel_rfl⟩) ?_
                refine wpAny_take (i := 7) (v := .bool true) rfl (by kernel_rfl) (by kernel_rfl) (by kernel_rfl) (fun _ _ _ h => h) (Or.inl ⟨want_no rfl, fun _ => by kernel_rfl⟩) ?_
                refine wpAny_ready (rs := [9]) (by kernel_rfl) (by simp) ?_
                refine rd_put M rfl rfl rfl 39 _ _ rfl 6 k13 (by kernel_rfl) 16 39 (fun _ => 0) r10 rfl (by kernel_rfl) inz39 ?_ ?_
                · intro u17 M
                  replace M : Mem w [⟨g1, .cells (arr 64 (fun _ => 0)) 41⟩, ⟨g2, Z2⟩, ⟨g3, .cells (arr 16 r1) 39⟩, ⟨g4, .cells (arr 16 r2) 39⟩, ⟨g5, .cells (arr 16 r4) 39⟩, ⟨g6, .cells (arr 16 r7) 39⟩, ⟨k13, .cells (arr 16 r10) 39⟩] u17 := M
                  refine wpAny_take (i := 10) (v := .bool true) rfl (by kernel_rfl) (by kernel_rfl) (by kernel_rfl) (fun _ _ _ h => h) (Or.inl ⟨want_no rfl, fun _ => by kernel_rfl⟩) ?_
                  exact rd_end (by kernel_rfl) (hrest _ _ ⟨k13, by kernel_rfl, M⟩) _
                exact AllReady.nil
              exact AllReady.nil
            exact AllReady.nil
          exact AllReady.nil
        exact AllReady.nil
      refine rd_new M rfl rfl (some 10) rfl (.cells (arr 16 (fun _ => 0)) 39) (fun _ => by kernel_rfl) ?_ ?_
      · intro k18 u18 M
        replace M : Mem w [⟨g1, .cells (arr 64 (fun _ => 0)) 41⟩, ⟨g2, Z2⟩, ⟨g3, .cells (arr 16 r1) 39⟩, ⟨g4, .cells (arr 16 r2) 39⟩, ⟨g5, .cells (arr 16 r4) 39⟩, ⟨g6, .cells (arr 16 r7) 39⟩, ⟨k18, .cells (arr 16 (fun _ => 0)) 39⟩] u18 := M
        refine wpAny_ready (rs := [1]) (by kernel_rfl) (by simp) ?_
        refine rd_load M rfl rfl (some 50) rfl 39 _ rfl 5 g6 (by kernel_rfl) 16 39 r7 rfl _ Tryz.underlying39 rfl inz39 ?_ ?_
        · skip
          refine wpAny_ready (rs := [2]) (by kernel_rfl) (by simp) ?_
          refine rd_call M rfl rfl (some 51) rfl 44 #[.agg (arr 16 r7)] (.agg (arr 16 r8)) (fun _ => by kernel_rfl) F.h9 ?_ ?_
          · intro u19 M
            refine wpAny_ready (rs := [3]) (by kernel_rfl) (by simp) ?_
            refine rd_call M rfl rfl (some 52) rfl 39 #[.agg (arr 16 r4), .agg (arr 16 r8)] (.agg (arr 16 r9)) (fun _ => by kernel_rfl) F.h10 ?_ ?_
            · intro u20 M
              refine wpAny_ready (rs := [4]) (by kernel_rfl) (by simp) ?_
              refine rd_call M rfl rfl (some 53) rfl 45 #[.agg (arr 16 r9)] (.tuple #[.agg (arr 16 r10), .bool true]) (fun _ => by kernel_rfl) F.h11 ?_ ?_
              · intro u21 M
                refine wpAny_take (i := 5) (v := .tuple #[.agg (arr 16 r10), .bool true]) rfl (by kernel_rfl) (by kernel_rfl) (by kernel_rfl) (fun _ _ _ h => h) (Or.inl ⟨want_no rfl, fun _ => by kernel_rfl⟩) ?_
                refine wpAny_take (i := 6) (v := .agg (arr 16 r10)) rfl (by kernel_rfl) (by kernel_rfl) (by kernel_rfl) (fun _ _ _ h => h) (Or.inl ⟨want_no rfl, fun _ => by kernel_rfl⟩) ?_
                refine wpAny_take (i := 7) (v := .bool true) rfl (by kernel_rfl) (by kernel_rfl) (by kernel_rfl) (fun _ _ _ h => h) (Or.inl ⟨want_no rfl, fun _ => by kernel_rfl⟩) ?_
                refine wpAny_ready (rs := [9]) (by kernel_rfl) (by simp) ?_
                refine rd_put M rfl rfl rfl 39 _ _ rfl 6 k18 (by kernel_rfl) 16 39 (fun _ => 0) r10 rfl (by kernel_rfl) inz39 ?_ ?_
                · intro u22 M
                  replace M : Mem w [⟨g1, .cells (arr 64 (fun _ => 0)) 41⟩, ⟨g2, Z2⟩, ⟨g3, .cells (arr 16 r1) 39⟩, ⟨g4, .cells (arr 16 r2) 39⟩, ⟨g5, .cells (arr 16 r4) 39⟩, ⟨g6, .cells (arr 16 r7) 39⟩, ⟨k18, .cells (arr 16 r10) 39⟩] u22 := M
                  refine wpAny_take (i := 10) (v := .bool true) rfl (by kernel_rfl) (by kernel_rfl) (by kernel_rfl) (fun _ _ _ h => h) (Or.inl ⟨want_no rfl, fun _ => by kernel_rfl⟩) ?_
                  exact rd_end (by kernel_rfl) (hrest _ _ ⟨k18, by kernel_rfl, M⟩) _
                exact AllReady.nil
              exact AllReady.nil
            exact AllReady.nil
          exact AllReady.nil
        exact AllReady.nil
      exact AllReady.nil
    refine rd_load M rfl rfl (some 50) rfl 39 _ rfl 5 g6 (by kernel_rfl) 16 39 r7 rfl _ Tryz.underlying39 rfl inz39 ?_ ?_
    · skip
      refine wpAny_ready (rs := [0, 2, 8]) (by kernel_rfl) (by simp) ?_
      refine rd_load M rfl rfl (some 49) rfl 39 _ rfl 4 g5 (by kernel_rfl) 16 39 r4 rfl _ Tryz.underlying39 rfl inz39 ?_ ?_
      · skip
        refine wpAny_ready (rs := [2, 8]) (by kernel_rfl) (by simp) ?_
        refine rd_call M rfl rfl (some 51) rfl 44 #[.agg (arr 16 r7)] (.agg (arr 16 r8)) (fun _ => by kernel_rfl) F.h9 ?_ ?_
        · intro u23 M
          refine wpAny_ready (rs := [3, 8]) (by kernel_rfl) (by simp) ?_
          refine rd_call M rfl rfl (some 52) rfl 39 #[.agg (arr 16 r4), .agg (arr 16 r8)] (.agg (arr 16 r9)) (fun _ => by kernel_rfl) F.h10 ?_ ?_
          · intro u24 M
            refine wpAny_ready (rs := [4, 8]) (by kernel_rfl) (by simp) ?_
            refine rd_call M rfl rfl (some 53) rfl 45 #[.agg (arr 16 r9)] (.tuple #[.agg (arr 16 r10), .bool true]) (fun _ => by kernel_rfl) F.h11 ?_ ?_
            · intro u25 M
              refine wpAny_take (i := 5) (v := .tuple #[.agg (arr 16 r10), .bool true]) rfl (by kernel_rfl) (by kernel_rfl) (by kernel_rfl) (fun _ _ _ h => h) (Or.inl ⟨want_no rfl, fun _ => by kernel_rfl⟩) ?_
              refine wpAny_take (i := 6) (v := .agg (arr 16 r10)) rfl (by kernel_rfl) (by kernel_rfl) (by kernel_rfl) (fun _ _ _ h => h) (Or.inl ⟨want_no rfl, fun _ => by kernel_rfl⟩) ?_
              refine wpAny_take (i := 7) (v := .bool true) rfl (by kernel_rfl) (by kernel_rfl) (by kernel_rfl) (fun _ _ _ h => h) (Or.inl ⟨want_no rfl, fun _ => by kernel_rfl⟩) ?_
              refine wpAny_ready (rs := [8]) (by kernel_rfl) (by simp) ?_
              refine rd_new M rfl rfl (some 10) rfl (.cells (arr 16 (fun _ => 0)) 39) (fun _ => by kernel_rfl) ?_ ?_
              · intro k26 u26 M
                replace M : Mem w [⟨g1, .cells (arr 64 (fun _ => 0)) 41⟩, ⟨g2, Z2⟩, ⟨g3, .cells (arr 16 r1) 39⟩, ⟨g4, .cells (arr 16 r2) 39⟩, ⟨g5, .cells (arr 16 r4) 39⟩, ⟨g6, .cells (arr 16 r7) 39⟩, ⟨k26, .cells (arr 16 (fun _ => 0)) 39⟩] u26 := M
                refine wpAny_ready (rs := [9]) (by kernel_rfl) (by simp) ?_
                refine rd_put M rfl rfl rfl 39 _ _ rfl 6 k26 (by kernel_rfl) 16 39 (fun _ => 0) r10 rfl (by kernel_rfl) inz39 ?_ ?_
                · intro u27 M
                  replace M : Mem w [⟨g1, .cells (arr 64 (fun _ => 0)) 41⟩, ⟨g2, Z2⟩, ⟨g3, .cells (arr 16 r1) 39⟩, ⟨g4, .cells (arr 16 r2) 39⟩, ⟨g5, .cells (arr 16 r4) 39⟩, ⟨g6, .cells (arr 16 r7) 39⟩, ⟨k26, .cells (arr 16 r10) 39⟩] u27 := M
                  refine wpAny_take (i := 10) (v := .bool true) rfl (by kernel_rfl) (by kernel_rfl) (by kernel_rfl) (fun _ _ _ h => h) (Or.inl ⟨want_no rfl, fun _ => by kernel_rfl⟩) ?_
                  exact rd_end (by kernel_rfl) (hrest _ _ ⟨k26, by kernel_rfl, M⟩) _
                exact AllReady.nil
              exact AllReady.nil
            refine rd_new M rfl rfl (some 10) rfl (.cells (arr 16 (fun _ => 0)) 39) (fun _ => by kernel_rfl) ?_ ?_
            · intro k28 u28 M
              replace M : Mem w [⟨g1, .cells (arr 64 (fun _ => 0)) 41⟩, ⟨g2, Z2⟩, ⟨g3, .cells (arr 16 r1) 39⟩, ⟨g4, .cells (arr 16 r2) 39⟩, ⟨g5, .cells (arr 16 r4) 39⟩, ⟨g6, .cells (arr 16 r7) 39⟩, ⟨k28, .cells (arr 16 (fun _ => 0)) 39⟩] u28 := M
              refine wpAny_ready (rs := [4]) (by kernel_rfl) (by simp) ?_
              refine rd_call M rfl rfl (some 53) rfl 45 #[.agg (arr 16 r9)] (.tuple #[.agg (arr 16 r10), .bool true]) (fun _ => by kernel_rfl) F.h11 ?_ ?_
              · intro u29 M
                refine wpAny_take (i := 5) (v := .tuple #[.agg (arr 16 r10), .bool true]) rfl (by kernel_rfl) (by kernel_rfl) (by kernel_rfl) (fun _ _ _ h => h) (Or.inl ⟨want_no rfl, fun _ => by kernel_rfl⟩) ?_
                refine wpAny_take (i := 6) (v := .agg (arr 16 r10)) rfl (by kernel_rfl) (by kernel_rfl) (by kernel_rfl) (fun _ _ _ h => h) (Or.inl ⟨want_no rfl, fun _ => by kernel_rfl⟩) ?_
                refine wpAny_take (i := 7) (v := .bool true) rfl (by kernel_rfl) (by kernel_rfl) (by kernel_rfl) (fun _ _ _ h => h) (Or.inl ⟨want_no rfl, fun _ => by kernel_rfl⟩) ?_
                refine wpAny_ready (rs := [9]) (by kernel_rfl) (by simp) ?_
                refine rd_put M rfl rfl rfl 39 _ _ rfl 6 k28 (by kernel_rfl) 16 39 (fun _ => 0) r10 rfl (by kernel_rfl) inz39 ?_ ?_
                · intro u30 M
                  replace M : Mem w [⟨g1, .cells (arr 64 (fun _ => 0)) 41⟩, ⟨g2, Z2⟩, ⟨g3, .cells (arr 16 r1) 39⟩, ⟨g4, .cells (arr 16 r2) 39⟩, ⟨g5, .cells (arr 16 r4) 39⟩, ⟨g6, .cells (arr 16 r7) 39⟩, ⟨k28, .cells (arr 16 r10) 39⟩] u30 := M
                  refine wpAny_take (i := 10) (v := .bool true) rfl (by kernel_rfl) (by kernel_rfl) (by kernel_rfl) (fun _ _ _ h => h) (Or.inl ⟨want_no rfl, fun _ => by kernel_rfl⟩) ?_
                  exact rd_end (by kernel_rfl) (hrest _ _ ⟨k28, by kernel_rfl, M⟩) _
                exact AllReady.nil
              exact AllReady.nil
            exact AllReady.nil
          refine rd_new M rfl rfl (some 10) rfl (.cells (arr 16 (fun _ => 0)) 39) (fun _ => by kernel_rfl) ?_ ?_
          · intro k31 u31 M
            replace M : Mem w [⟨g1, .cells (arr 64 (fun _ => 0)) 41⟩, ⟨g2, Z2⟩, ⟨g3, .cells (arr 16 r1) 39⟩, ⟨g4, .cells (arr 16 r2) 39⟩, ⟨g5, .cells (arr 16 r4) 39⟩, ⟨g6, .cells (arr 16 r7) 39⟩, ⟨k31, .cells (arr 16 (fun _ => 0)) 39⟩] u31 := M
            refine wpAny_ready (rs := [3]) (by kernel_rfl) (by simp) ?_
            refine rd_call M rfl rfl (some 52) rfl 39 #[.agg (arr 16 r4), .agg (arr 16 r8)] (.agg (arr 16 r9)) (fun _ => by kernel_rfl) F.h10 ?_ ?_
            · intro u32 M
              refine wpAny_ready (rs := [4]) (by kernel_rfl) (by simp) ?_
              refine rd_call M rfl rfl (some 53) rfl 45 #[.agg (arr 16 r9)] (.tuple #[.agg (arr 16 r10), .bool true]) (fun _ => by kernel_rfl) F.h11 ?_ ?_
              · intro u33 M
                refine wpAny_take (i := 5) (v := .tuple #[.agg (arr 16 r10), .bool true]) rfl (by kernel_rfl) (by kernel_rfl) (by kernel_rfl) (fun _ _ _ h => h) (Or.inl ⟨want_no rfl, fun _ => by kernel_rfl⟩) ?_
                refine wpAny_take (i := 6) (v := .agg (arr 16 r10)) rfl (by kernel_rfl) (by kernel_rfl) (by kernel_rfl) (fun _ _ _ h => h) (Or.inl ⟨want_no rfl, fun _ => by kernel_rfl⟩) ?_
                refine wpAny_take (i := 7) (v := .bool true) rfl (by kernel_rfl) (by kernel_rfl) (by kernel_rfl) (fun _ _ _ h => h) (Or.inl ⟨want_no rfl, fun _ => by kernel_rfl⟩) ?_
                refine wpAny_ready (rs := [9]) (by kernel_rfl) (by simp) ?_
                refine rd_put M rfl rfl rfl 39 _ _ rfl 6 k31 (by kernel_rfl) 16 39 (fun _ => 0) r10 rfl (by kernel_rfl) inz39 ?_ ?_
                · intro u34 M
                  replace M : Mem w [⟨g1, .cells (arr 64 (fun _ => 0)) 41⟩, ⟨g2, Z2⟩, ⟨g3, .cells (arr 16 r1) 39⟩, ⟨g4, .cells (arr 16 r2) 39⟩, ⟨g5, .cells (arr 16 r4) 39⟩, ⟨g6, .cells (arr 16 r7) 39⟩, ⟨k31, .cells (arr 16 r10) 39⟩] u34 := M
                  refine wpAny_take (i := 10) (v := .bool true) rfl (by kernel_rfl) (by kernel_rfl) (by kernel_rfl) (fun _ _ _ h => h) (Or.inl ⟨want_no rfl, fun _ => by kernel_rfl⟩) ?_
                  exact rd_end (by kernel_rfl) (hrest _ _ ⟨k31, by kernel_rfl, M⟩) _
                exact AllReady.nil
              exact AllReady.nil
            exact AllReady.nil
          exact AllReady.nil
        refine rd_new M rfl rfl (some 10) rfl (.cells (arr 16 (fun _ => 0)) 39) (fun _ => by kernel_rfl) ?_ ?_
        · intro k35 u35 M
          replace M : Mem w [⟨g1, .cells (arr 64 (fun _ => 0)) 41⟩, ⟨g2, Z2⟩, ⟨g3, .cells (arr 16 r1) 39⟩, ⟨g4, .cells (arr 16 r2) 39⟩, ⟨g5, .cells (arr 16 r4) 39⟩, ⟨g6, .cells (arr 16 r7) 39⟩, ⟨k35, .cells (arr 16 (fun _ => 0)) 39⟩] u35 := M
          refine wpAny_ready (rs := [2]) (by kernel_rfl) (by simp) ?_
          refine rd_call M rfl rfl (some 51) rfl 44 #[.agg (arr 16 r7)] (.agg (arr 16 r8)) (fun _ => by kernel_rfl) F.h9 ?_ ?_
          · intro u36 M
            refine wpAny_ready (rs := [3]) (by kernel_rfl) (by simp) ?_
            refine rd_call M rfl rfl (some 52) rfl 39 #[.agg (arr 16 r4), .agg (arr 16 r8)] (.agg (arr 16 r9)) (fun _ => by kernel_rfl) F.h10 ?_ ?_
            · intro u37 M
              refine wpAny_ready (rs := [4]) (by kernel_rfl) (by simp) ?_
              refine rd_call M rfl rfl (some 53) rfl 45 #[.agg (arr 16 r9)] (.tuple #[.agg (arr 16 r10), .bool true]) (fun _ => by kernel_rfl) F.h11 ?_ ?_
              · intro u38 M
                refine wpAny_take (i := 5) (v := .tuple #[.agg (arr 16 r10), .bool true]) rfl (by kernel_rfl) (by kernel_rfl) (by kernel_rfl) (fun _ _ _ h => h) (Or.inl ⟨want_no rfl, fun _ => by kernel_rfl⟩) ?_
                refine wpAny_take (i := 6) (v := .agg (arr 16 r10)) rfl (by kernel_rfl) (by kernel_rfl) (by kernel_rfl) (fun _ _ _ h => h) (Or.inl ⟨want_no rfl, fun _ => by kernel_rfl⟩) ?_
                refine wpAny_take (i := 7) (v := .bool true) rfl (by kernel_rfl) (by kernel_rfl) (by kernel_rfl) (fun _ _ _ h => h) (Or.inl ⟨want_no rfl, fun _ => by kernel_rfl⟩) ?_
                refine wpAny_ready (rs := [9]) (by kernel_rfl) (by simp) ?_
                refine rd_put M rfl rfl rfl 39 _ _ rfl 6 k35 (by kernel_rfl) 16 39 (fun _ => 0) r10 rfl (by kernel_rfl) inz39 ?_ ?_
                · intro u39 M
                  replace M : Mem w [⟨g1, .cells (arr 64 (fun _ => 0)) 41⟩, ⟨g2, Z2⟩, ⟨g3, .cells (arr 16 r1) 39⟩, ⟨g4, .cells (arr 16 r2) 39⟩, ⟨g5, .cells (arr 16 r4) 39⟩, ⟨g6, .cells (arr 16 r7) 39⟩, ⟨k35, .cells (arr 16 r10) 39⟩] u39 := M
                  refine wpAny_take (i := 10) (v := .bool true) rfl (by kernel_rfl) (by kernel_rfl) (by kernel_rfl) (fun _ _ _ h => h) (Or.inl ⟨want_no rfl, fun _ => by kernel_rfl⟩) ?_
                  exact rd_end (by kernel_rfl) (hrest _ _ ⟨k35, by kernel_rfl, M⟩) _
                exact AllReady.nil
              exact AllReady.nil
            exact AllReady.nil
          exact AllReady.nil
        exact AllReady.nil
      refine rd_call M rfl rfl (some 51) rfl 44 #[.agg (arr 16 r7)] (.agg (arr 16 r8)) (fun _ => by kernel_rfl) F.h9 ?_ ?_
      · intro u40 M
        refine wpAny_ready (rs := [0, 8]) (by kernel_rfl) (by simp) ?_
        refine rd_load M rfl rfl (some 49) rfl 39 _ rfl 4 g5 (by kernel_rfl) 16 39 r4 rfl _ Tryz.underlying39 rfl inz39 ?_ ?_
        · skip
          refine wpAny_ready (rs := [3, 8]) (by kernel_rfl) (by simp) ?_
          refine rd_call M rfl rfl (some 52) rfl 39 #[.agg (arr 16 r4), .agg (arr 16 r8)] (.agg (arr 16 r9)) (fun _ => by kernel_rfl) F.h10 ?_ ?_
          · intro u41 M
            refine wpAny_ready (rs := [4, 8]) (by kernel_rfl) (by simp) ?_
            refine rd_call M rfl rfl (some 53) rfl 45 #[.agg (arr 16 r9)] (.tuple #[.agg (arr 16 r10), .bool true]) (fun _ => by kernel_rfl) F.h11 ?_ ?_
            · intro u42 M
              refine wpAny_take (i := 5) (v := .tuple #[.agg (arr 16 r10), .bool true]) rfl (by kernel_rfl) (by kernel_rfl) (by kernel_rfl) (fun _ _ _ h => h) (Or.inl ⟨want_no rfl, fun _ => by kernel_rfl⟩) ?_
              refine wpAny_take (i := 6) (v := .agg (arr 16 r10)) rfl (by kernel_rfl) (by kernel_rfl) (by kernel_rfl) (fun _ _ _ h => h) (Or.inl ⟨want_no rfl, fun _ => by kernel_rfl⟩) ?_
              refine wpAny_take (i := 7) (v := .bool true) rfl (by kernel_rfl) (by kernel_rfl) (by kernel_rfl) (fun _ _ _ h => h) (Or.inl ⟨want_no rfl, fun _ => by kernel_rfl⟩) ?_
              refine wpAny_ready (rs := [8]) (by kernel_rfl) (by simp) ?_
              refine rd_new M rfl rfl (some 10) rfl (.cells (arr 16 (fun _ => 0)) 39) (fun _ => by kernel_rfl) ?_ ?_
              · intro k43 u43 M
                replace M : Mem w [⟨g1, .cells (arr 64 (fun _ => 0)) 41⟩, ⟨g2, Z2⟩, ⟨g3, .cells (arr 16 r1) 39⟩, ⟨g4, .cells (arr 16 r2) 39⟩, ⟨g5, .cells (arr 16 r4) 39⟩, ⟨g6, .cells (arr 16 r7) 39⟩, ⟨k43, .cells (arr 16 (fun _ => 0)) 39⟩] u43 := M
                refine wpAny_ready (rs := [9]) (by kernel_rfl) (by simp) ?_
                refine rd_put M rfl rfl rfl 39 _ _ rfl 6 k43 (by kernel_rfl) 16 39 (fun _ => 0) r10 rfl (by kernel_rfl) inz39 ?_ ?_
                · intro u44 M
                  replace M : Mem w [⟨g1, .cells (arr 64 (fun _ => 0)) 41⟩, ⟨g2, Z2⟩, ⟨g3, .cells (arr 16 r1) 39⟩, ⟨g4, .cells (arr 16 r2) 39⟩, ⟨g5, .cells (arr 16 r4) 39⟩, ⟨g6, .cells (arr 16 r7) 39⟩, ⟨k43, .cells (arr 16 r10) 39⟩] u44 := M
                  refine wpAny_take (i := 10) (v := .bool true) rfl (by kernel_rfl) (by kernel_rfl) (by kernel_rfl) (fun _ _ _ h => h) (Or.inl ⟨want_no rfl, fun _ => by kernel_rfl⟩) ?_
                  exact rd_end (by kernel_rfl) (hrest _ _ ⟨k43, by kernel_rfl, M⟩) _
                exact AllReady.nil
              exact AllReady.nil
            refine rd_new M rfl rfl (some 10) rfl (.cells (arr 16 (fun _ => 0)) 39) (fun _ => by kernel_rfl) ?_ ?_
            · intro k45 u45 M
              replace M : Mem w [⟨g1, .cells (arr 64 (fun _ => 0)) 41⟩, ⟨g2, Z2⟩, ⟨g3, .cells (arr 16 r1) 39⟩, ⟨g4, .cells (arr 16 r2) 39⟩, ⟨g5, .cells (arr 16 r4) 39⟩, ⟨g6, .cells (arr 16 r7) 39⟩, ⟨k45, .cells (arr 16 (fun _ => 0)) 39⟩] u45 := M
              refine wpAny_ready (rs := [4]) (by kernel_rfl) (by simp) ?_
              refine rd_call M rfl rfl (some 53) rfl 45 #[.agg (arr 16 r9)] (.tuple #[.agg (arr 16 r10), .bool true]) (fun _ => by kernel_rfl) F.h11 ?_ ?_
              · intro u46 M
                refine wpAny_take (i := 5) (v := .tuple #[.agg (arr 16 r10), .bool true]) rfl (by kernel_rfl) (by kernel_rfl) (by kernel_rfl) (fun _ _ _ h => h) (Or.inl ⟨want_no rfl, fun _ => by kernel_rfl⟩) ?_
                refine wpAny_take (i := 6) (v := .agg (arr 16 r10)) rfl (by kernel_rfl) (by kernel_rfl) (by kernel_rfl) (fun _ _ _ h => h) (Or.inl ⟨want_no rfl, fun _ => by kernel_rfl⟩) ?_
                refine wpAny_take (i := 7) (v := .bool true) rfl (by kernel_rfl) (by kernel_rfl) (by kernel_rfl) (fun _ _ _ h => h) (Or.inl ⟨want_no rfl, fun _ => by kernel_rfl⟩) ?_
                refine wpAny_ready (rs := [9]) (by kernel_rfl) (by simp) ?_
                refine rd_put M rfl rfl rfl 39 _ _ rfl 6 k45 (by kernel_rfl) 16 39 (fun _ => 0) r10 rfl (by kernel_rfl) inz39 ?_ ?_
                · intro u47 M
                  replace M : Mem w [⟨g1, .cells (arr 64 (fun _ => 0)) 41⟩, ⟨g2, Z2⟩, ⟨g3, .cells (arr 16 r1) 39⟩, ⟨g4, .cells (arr 16 r2) 39⟩, ⟨g5, .cells (arr 16 r4) 39⟩, ⟨g6, .cells (arr 16 r7) 39⟩, ⟨k45, .cells (arr 16 r10) 39⟩] u47 := M
                  refine wpAny_take (i := 10) (v := .bool true) rfl (by kernel_rfl) (by kernel_rfl) (by kernel_rfl) (fun _ _ _ h => h) (Or.inl ⟨want_no rfl, fun _ => by kernel_rfl⟩) ?_
                  exact rd_end (by kernel_rfl) (hrest _ _ ⟨k45, by kernel_rfl, M⟩) _
                exact AllReady.nil
              exact AllReady.nil
            exact AllReady.nil
          refine rd_new M rfl rfl (some 10) rfl (.cells (arr 16 (fun _ => 0)) 39) (fun _ => by kernel_rfl) ?_ ?_
          · intro k48 u48 M
            replace M : Mem w [⟨g1, .cells (arr 64 (fun _ => 0)) 41⟩, ⟨g2, Z2⟩, ⟨g3, .cells (arr 16 r1) 39⟩, ⟨g4, .cells (arr 16 r2) 39⟩, ⟨g5, .cells (arr 16 r4) 39⟩, ⟨g6, .cells (arr 16 r7) 39⟩, ⟨k48, .cells (arr 16 (fun _ => 0)) 39⟩] u48 := M
            refine wpAny_ready (rs := [3]) (by kernel_rfl) (by simp) ?_
            refine rd_call M rfl rfl (some 52) rfl 39 #[.agg (arr 16 r4), .agg (arr 16 r8)] (.agg (arr 16 r9)) (fun _ => by kernel_rfl) F.h10 ?_ ?_
            · intro u49 M
              refine wpAny_ready (rs := [4]) (by kernel_rfl) (by simp) ?_
              refine rd_call M rfl rfl (some 53) rfl 45 #[.agg (arr 16 r9)] (.tuple #[.agg (arr 16 r10), .bool true]) (fun _ => by kernel_rfl) F.h11 ?_ ?_
              · intro u50 M
                refine wpAny_take (i := 5) (v := .tuple #[.agg (arr 16 r10), .bool true]) rfl (by kernel_rfl) (by kernel_rfl) (by kernel_rfl) (fun _ _ _ h => h) (Or.inl ⟨want_no rfl, fun _ => by kernel_rfl⟩) ?_
                refine wpAny_take (i := 6) (v := .agg (arr 16 r10)) rfl (by kernel_rfl) (by kernel_rfl) (by kernel_rfl) (fun _ _ _ h => h) (Or.inl ⟨want_no rfl, fun _ => by kernel_rfl⟩) ?_
                refine wpAny_take (i := 7) (v := .bool true) rfl (by kernel_rfl) (by kernel_rfl) (by kernel_rfl) (fun _ _ _ h => h) (Or.inl ⟨want_no rfl, fun _ => by kernel_rfl⟩) ?_
                refine wpAny_ready (rs := [9]) (by kernel_rfl) (by simp) ?_
                refine rd_put M rfl rfl rfl 39 _ _ rfl 6 k48 (by kernel_rfl) 16 39 (fun _ => 0) r10 rfl (by kernel_rfl) inz39 ?_ ?_
                · intro u51 M
                  replace M : Mem w [⟨g1, .cells (arr 64 (fun _ => 0)) 41⟩, ⟨g2, Z2⟩, ⟨g3, .cells (arr 16 r1) 39⟩, ⟨g4, .cells (arr 16 r2) 39⟩, ⟨g5, .cells (arr 16 r4) 39⟩, ⟨g6, .cells (arr 16 r7) 39⟩, ⟨k48, .cells (arr 16 r10) 39⟩] u51 := M
                  refine wpAny_take (i := 10) (v := .bool true) rfl (by kernel_rfl) (by kernel_rfl) (by kernel_rfl) (fun _ _ _ h => h) (Or.inl ⟨want_no rfl, fun _ => by kernel_rfl⟩) ?_
                  exact rd_end (by kernel_rfl) (hrest _ _ ⟨k48, by kernel_rfl, M⟩) _
                exact AllReady.nil
              exact AllReady.nil
            exact AllReady.nil
          exact AllReady.nil
        refine rd_new M rfl rfl (some 10) rfl (.cells (arr 16 (fun _ => 0)) 39) (fun _ => by kernel_rfl) ?_ ?_
        · intro k52 u52 M
          replace M : Mem w [⟨g1, .cells (arr 64 (fun _ => 0)) 41⟩, ⟨g2, Z2⟩, ⟨g3, .cells (arr 16 r1) 39⟩, ⟨g4, .cells (arr 16 r2) 39⟩, ⟨g5, .cells (arr 16 r4) 39⟩, ⟨g6, .cells (arr 16 r7) 39⟩, ⟨k52, .cells (arr 16 (fun _ => 0)) 39⟩] u52 := M
          refine wpAny_ready (rs := [0]) (by kernel_rfl) (by simp) ?_
          refine rd_load M rfl rfl (some 49) rfl 39 _ rfl 4 g5 (by kernel_rfl) 16 39 r4 rfl _ Tryz.underlying39 rfl inz39 ?_ ?_
          · skip
            refine wpAny_ready (rs := [3]) (by kernel_rfl) (by simp) ?_
            refine rd_call M rfl rfl (some 52) rfl 39 #[.agg (arr 16 r4), .agg (arr 16 r8)] (.agg (arr 16 r9)) (fun _ => by kernel_rfl) F.h10 ?_ ?_
            · intro u53 M
              refine wpAny_ready (rs := [4]) (by kernel_rfl) (by simp) ?_
              refine rd_call M rfl rfl (some 53) rfl 45 #[.agg (arr 16 r9)] (.tuple #[.agg (arr 16 r10), .bool true]) (fun _ => by kernel_rfl) F.h11 ?_ ?_
              · intro u54 M
                refine wpAny_take (i := 5) (v := .tuple #[.agg (arr 16 r10), .bool true]) rfl (by kernel_rfl) (by kernel_rfl) (by kernel_rfl) (fun _ _ _ h => h) (Or.inl ⟨want_no rfl, fun _ => by kernel_rfl⟩) ?_
                refine wpAny_take (i := 6) (v := .agg (arr 16 r10)) rfl (by kernel_rfl) (by kernel_rfl) (by kernel_rfl) (fun _ _ _ h => h) (Or.inl ⟨want_no rfl, fun _ => by kernel_rfl⟩) ?_
                refine wpAny_take (i := 7) (v := .bool true) rfl (by kernel_rfl) (by kernel_rfl) (by kernel_rfl) (fun _ _ _ h => h) (Or.inl ⟨want_no rfl, fun _ => by kernel_rfl⟩) ?_
                refine wpAny_ready (rs := [9]) (by kernel_rfl) (by simp) ?_
                refine rd_put M rfl rfl rfl 39 _ _ rfl 6 k52 (by kernel_rfl) 16 39 (fun _ => 0) r10 rfl (by kernel_rfl) inz39 ?_ ?_
                · intro u55 M
                  replace M : Mem w [⟨g1, .cells (arr 64 (fun _ => 0)) 41⟩, ⟨g2, Z2⟩, ⟨g3, .cells (arr 16 r1) 39⟩, ⟨g4, .cells (arr 16 r2) 39⟩, ⟨g5, .cells (arr 16 r4) 39⟩, ⟨g6, .cells (arr 16 r7) 39⟩, ⟨k52, .cells (arr 16 r10) 39⟩] u55 := M
                  refine wpAny_take (i := 10) (v := .bool true) rfl (by kernel_rfl) (by kernel_rfl) (by kernel_rfl) (fun _ _ _ h => h) (Or.inl ⟨want_no rfl, fun _ => by kernel_rfl⟩) ?_
                  exact rd_end (by kernel_rfl) (hrest _ _ ⟨k52, by kernel_rfl, M⟩) _
                exact AllReady.nil
              exact AllReady.nil
            exact AllReady.nil
          exact AllReady.nil
        exact AllReady.nil
      refine rd_new M rfl rfl (some 10) rfl (.cells (arr 16 (fun _ => 0)) 39) (fun _ => by kernel_rfl) ?_ ?_
      · intro k56 u56 M
        replace M : Mem w [⟨g1, .cells (arr 64 (fun _ => 0)) 41⟩, ⟨g2, Z2⟩, ⟨g3, .cells (arr 16 r1) 39⟩, ⟨g4, .cells (arr 16 r2) 39⟩, ⟨g5, .cells (arr 16 r4) 39⟩, ⟨g6, .cells (arr 16 r7) 39⟩, ⟨k56, .cells (arr 16 (fun _ => 0)) 39⟩] u56 := M
        refine wpAny_ready (rs := [0, 2]) (by kernel_rfl) (by simp) ?_
        refine rd_load M rfl rfl (some 49) rfl 39 _ rfl 4 g5 (by kernel_rfl) 16 39 r4 rfl _ Tryz.underlying39 rfl inz39 ?_ ?_
        · skip
          refine wpAny_ready (rs := [2]) (by kernel_rfl) (by simp) ?_
          refine rd_call M rfl rfl (some 51) rfl 44 #[.agg (arr 16 r7)] (.agg (arr 16 r8)) (fun _ => by kernel_rfl) F.h9 ?_ ?_
          · intro u57 M
            refine wpAny_ready (rs := [3]) (by kernel_rfl) (by simp) ?_
            refine rd_call M rfl rfl (some 52) rfl 39 #[.agg (arr 16 r4), .agg (arr 16 r8)] (.agg (arr 16 r9)) (fun _ => by kernel_rfl) F.h10 ?_ ?_
            · intro u58 M
              refine wpAny_ready (rs := [4]) (by kernel_rfl) (by simp) ?_
              refine rd_call M rfl rfl (some 53) rfl 45 #[.agg (arr 16 r9)] (.tuple #[.agg (arr 16 r10), .bool true]) (fun _ => by kernel_rfl) F.h11 ?_ ?_
              · intro u59 M
                refine wpAny_take (i := 5) (v := .tuple #[.agg (arr 16 r10), .bool true]) rfl (by kernel_rfl) (by kernel_rfl) (by kernel_rfl) (fun _ _ _ h => h) (Or.inl ⟨want_no rfl, fun _ => by kernel_rfl⟩) ?_
                refine wpAny_take (i := 6) (v := .agg (arr 16 r10)) rfl (by kernel_rfl) (by kernel_rfl) (by kernel_rfl) (fun _ _ _ h => h) (Or.inl ⟨want_no rfl, fun _ => by kernel_rfl⟩) ?_
                refine wpAny_take (i := 7) (v := .bool true) rfl (by kernel_rfl) (by kernel_rfl) (by kernel_rfl) (fun _ _ _ h => h) (Or.inl ⟨want_no rfl, fun _ => by kernel_rfl⟩) ?_
                refine wpAny_ready (rs := [9]) (by kernel_rfl) (by simp) ?_
                refine rd_put M rfl rfl rfl 39 _ _ rfl 6 k56 (by kernel_rfl) 16 39 (fun _ => 0) r10 rfl (by kernel_rfl) inz39 ?_ ?_
                · intro u60 M
                  replace M : Mem w [⟨g1, .cells (arr 64 (fun _ => 0)) 41⟩, ⟨g2, Z2⟩, ⟨g3, .cells (arr 16 r1) 39⟩, ⟨g4, .cells (arr 16 r2) 39⟩, ⟨g5, .cells (arr 16 r4) 39⟩, ⟨g6, .cells (arr 16 r7) 39⟩, ⟨k56, .cells (arr 16 r10) 39⟩] u60 := M
                  refine wpAny_take (i := 10) (v := .bool true) rfl (by kernel_rfl) (by kernel_rfl) (by kernel_rfl) (fun _ _ _ h => h) (Or.inl ⟨want_no rfl, fun _ => by kernel_rfl⟩) ?_
                  exact rd_end (by kernel_rfl) (hrest _ _ ⟨k56, by kernel_rfl, M⟩) _
                exact AllReady.nil
              exact AllReady.nil
            exact AllReady.nil
          exact AllReady.nil
        refine rd_call M rfl rfl (some 51) rfl 44 #[.agg (arr 16 r7)] (.agg (arr 16 r8)) (fun _ => by kernel_rfl) F.h9 ?_ ?_
        · intro u61 M
          refine wpAny_ready (rs := [0]) (by kernel_rfl) (by simp) ?_
          refine rd_load M rfl rfl (some 49) rfl 39 _ rfl 4 g5 (by kernel_rfl) 16 39 r4 rfl _ Tryz.underlying39 rfl inz39 ?_ ?_
          · skip
            refine wpAny_ready (rs := [3]) (by kernel_rfl) (by simp) ?_
            refine rd_call M rfl rfl (some 52) rfl 39 #[.agg (arr 16 r4), .agg (arr 16 r8)] (.agg (arr 16 r9)) (fun _ => by kernel_rfl) F.h10 ?_ ?_
            · intro u62 M
              refine wpAny_ready (rs := [4]) (by kernel_rfl) (by simp) ?_
              refine rd_call M rfl rfl (some 53) rfl 45 #[.agg (arr 16 r9)] (.tuple #[.agg (arr 16 r10), .bool true]) (fun _ => by kernel_rfl) F.h11 ?_ ?_
              · intro u63 M
                refine wpAny_take (i := 5) (v := .tuple #[.agg (arr 16 r10), .bool true]) rfl (by kernel_rfl) (by kernel_rfl) (by kernel_rfl) (fun _ _ _ h => h) (Or.inl ⟨want_no rfl, fun _ => by kernel_rfl⟩) ?_
                refine wpAny_take (i := 6) (v := .agg (arr 16 r10)) rfl (by kernel_rfl) (by kernel_rfl) (by kernel_rfl) (fun _ _ _ h => h) (Or.inl ⟨want_no rfl, fun _ => by kernel_rfl⟩) ?_
                refine wpAny_take (i := 7) (v := .bool true) rfl (by kernel_rfl) (by kernel_rfl) (by kernel_rfl) (fun _ _ _ h => h) (Or.inl ⟨want_no rfl, fun _ => by kernel_rfl⟩) ?_
                refine wpAny_ready (rs := [9]) (by kernel_rfl) (by simp) ?_
                refine rd_put M rfl rfl rfl 39 _ _ rfl 6 k56 (by kernel_rfl) 16 39 (fun _ => 0) r10 rfl (by kernel_rfl) inz39 ?_ ?_
                · intro u64 M
                  replace M : Mem w [⟨g1, .cells (arr 64 (fun _ => 0)) 41⟩, ⟨g2, Z2⟩, ⟨g3, .cells (arr 16 r1) 39⟩, ⟨g4, .cells (arr 16 r2) 39⟩, ⟨g5, .cells (arr 16 r4) 39⟩, ⟨g6, .cells (arr 16 r7) 39⟩, ⟨k56, .cells (arr 16 r10) 39⟩] u64 := M
                  refine wpAny_take (i := 10) (v := .bool true) rfl (by kernel_rfl) (by kernel_rfl) (by kernel_rfl) (fun _ _ _ h => h) (Or.inl ⟨want_no rfl, fun _ => by kernel_rfl⟩) ?_
                  exact rd_end (by kernel_rfl) (hrest _ _ ⟨k56, by kernel_rfl, M⟩) _
                exact AllReady.nil
              exact AllReady.nil
            exact AllReady.nil
          exact AllReady.nil
        exact AllReady.nil
      exact AllReady.nil
    refine rd_new M rfl rfl (some 10) rfl (.cells (arr 16 (fun _ => 0)) 39) (fun _ => by kernel_rfl) ?_ ?_
    · intro k65 u65 M
      replace M : Mem w [⟨g1, .cells (arr 64 (fun _ => 0)) 41⟩, ⟨g2, Z2⟩, ⟨g3, .cells (arr 16 r1) 39⟩, ⟨g4, .cells (arr 16 r2) 39⟩, ⟨g5, .cells (arr 16 r4) 39⟩, ⟨g6, .cells (arr 16 r7) 39⟩, ⟨k65, .cells (arr 16 (fun _ => 0)) 39⟩] u65 := M
      refine wpAny_ready (rs := [0, 1]) (by kernel_rfl) (by simp) ?_
      refine rd_load M rfl rfl (some 49) rfl 39 _ rfl 4 g5 (by kernel_rfl) 16 39 r4 rfl _ Tryz.underlying39 rfl inz39 ?_ ?_
      · skip
        refine wpAny_ready (rs := [1]) (by kernel_rfl) (by simp) ?_
        refine rd_load M rfl rfl (some 50) rfl 39 _ rfl 5 g6 (by kernel_rfl) 16 39 r7 rfl _ Tryz.underlying39 rfl inz39 ?_ ?_
        · skip
          refine wpAny_ready (rs := [2]) (by kernel_rfl) (by simp) ?_
          refine rd_call M rfl rfl (some 51) rfl 44 #[.agg (arr 16 r7)] (.agg (arr 16 r8)) (fun _ => by kernel_rfl) F.h9 ?_ ?_
          · intro u66 M
            refine wpAny_ready (rs := [3]) (by kernel_rfl) (by simp) ?_
            refine rd_call M rfl rfl (some 52) rfl 39 #[.agg (arr 16 r4), .agg (arr 16 r8)] (.agg (arr 16 r9)) (fun _ => by kernel_rfl) F.h10 ?_ ?_
            · intro u67 M
              refine wpAny_ready (rs := [4]) (by kernel_rfl) (by simp) ?_
              refine rd_call M rfl rfl (some 53) rfl 45 #[.agg (arr 16 r9)] (.tuple #[.agg (arr 16 r10), .bool true]) (fun _ => by kernel_rfl) F.h11 ?_ ?_
              · intro u68 M
                refine wpAny_take (i := 5) (v := .tuple #[.agg (arr 16 r10), .bool true]) rfl (by kernel_rfl) (by kernel_rfl) (by kernel_rfl) (fun _ _ _ h => h) (Or.inl ⟨want_no rfl, fun _ => by kernel_rfl⟩) ?_
                refine wpAny_take (i := 6) (v := .agg (arr 16 r10)) rfl (by kernel_rfl) (by kernel_rfl) (by kernel_rfl) (fun _ _ _ h => h) (Or.inl ⟨want_no rfl, fun _ => by kernel_rfl⟩) ?_
                refine wpAny_take (i := 7) (v := .bool true) rfl (by kernel_rfl) (by kernel_rfl) (by kernel_rfl) (fun _ _ _ h => h) (Or.inl ⟨want_no rfl, fun _ => by kernel_rfl⟩) ?_
                refine wpAny_ready (rs := [9]) (by kernel_rfl) (by simp) ?_
                refine rd_put M rfl rfl rfl 39 _ _ rfl 6 k65 (by kernel_rfl) 16 39 (fun _ => 0) r10 rfl (by kernel_rfl) inz39 ?_ ?_
                · intro u69 M
                  replace M : Mem w [⟨g1, .cells (arr 64 (fun _ => 0)) 41⟩, ⟨g2, Z2⟩, ⟨g3, .cells (arr 16 r1) 39⟩, ⟨g4, .cells (arr 16 r2) 39⟩, ⟨g5, .cells (arr 16 r4) 39⟩, ⟨g6, .cells (arr 16 r7) 39⟩, ⟨k65, .cells (arr 16 r10) 39⟩] u69 := M
                  refine wpAny_take (i := 10) (v := .bool true) rfl (by kernel_rfl) (by kernel_rfl) (by kernel_rfl) (fun _ _ _ h => h) (Or.inl ⟨want_no rfl, fun _ => by kernel_rfl⟩) ?_
                  exact rd_end (by kernel_rfl) (hrest _ _ ⟨k65, by kernel_rfl, M⟩) _
                exact AllReady.nil
              exact AllReady.nil
            exact AllReady.nil
          exact AllReady.nil
        exact AllReady.nil
      refine rd_load M rfl rfl (some 50) rfl 39 _ rfl 5 g6 (by kernel_rfl) 16 39 r7 rfl _ Tryz.underlying39 rfl inz39 ?_ ?_
      · skip
        refine wpAny_ready (rs := [0, 2]) (by kernel_rfl) (by simp) ?_
        refine rd_load M rfl rfl (some 49) rfl 39 _ rfl 4 g5 (by kernel_rfl) 16 39 r4 rfl _ Tryz.underlying39 rfl inz39 ?_ ?_
        · skip
          refine wpAny_ready (rs := [2]) (by kernel_rfl) (by simp) ?_
          refine rd_call M rfl rfl (some 51) rfl 44 #[.agg (arr 16 r7)] (.agg (arr 16 r8)) (fun _ => by kernel_rfl) F.h9 ?_ ?_
          · intro u70 M
            refine wpAny_ready (rs := [3]) (by kernel_rfl) (by simp) ?_
            refine rd_call M rfl rfl (some 52) rfl 39 #[.agg (arr 16 r4), .agg (arr 16 r8)] (.agg (arr 16 r9)) (fun _ => by kernel_rfl) F.h10 ?_ ?_
            · intro u71 M
              refine wpAny_ready (rs := [4]) (by kernel_rfl) (by simp) ?_
              refine rd_call M rfl rfl (some 53) rfl 45 #[.agg (arr 16 r9)] (.tuple #[.agg (arr 16 r10), .bool true]) (fun _ => by kernel_rfl) F.h11 ?_ ?_
              · intro u72 M
                refine wpAny_take (i := 5) (v := .tuple #[.agg (arr 16 r10), .bool true]) rfl (by kernel_rfl) (by kernel_rfl) (by kernel_rfl) (fun _ _ _ h => h) (Or.inl ⟨want_no rfl, fun _ => by kernel_rfl⟩) ?_
                refine wpAny_take (i := 6) (v := .agg (arr 16 r10)) rfl (by kernel_rfl) (by kernel_rfl) (by kernel_rfl) (fun _ _ _ h => h) (Or.inl ⟨want_no rfl, fun _ => by kernel_rfl⟩) ?_
                refine wpAny_take (i := 7) (v := .bool true) rfl (by kernel_rfl) (by kernel_rfl) (by kernel_rfl) (fun _ _ _ h => h) (Or.inl ⟨want_no rfl, fun _ => by kernel_rfl⟩) ?_
                refine wpAny_ready (rs := [9]) (by kernel_rfl) (by simp) ?_
                refine rd_put M rfl rfl rfl 39 _ _ rfl 6 k65 (by kernel_rfl) 16 39 (fun _ => 0) r10 rfl (by kernel_rfl) inz39 ?_ ?_
                · intro u73 M
                  replace M : Mem w [⟨g1, .cells (arr 64 (fun _ => 0)) 41⟩, ⟨g2, Z2⟩, ⟨g3, .cells (arr 16 r1) 39⟩, ⟨g4, .cells (arr 16 r2) 39⟩, ⟨g5, .cells (arr 16 r4) 39⟩, ⟨g6, .cells (arr 16 r7) 39⟩, ⟨k65, .cells (arr 16 r10) 39⟩] u73 := M
                  refine wpAny_take (i := 10) (v := .bool true) rfl (by kernel_rfl) (by kernel_rfl) (by kernel_rfl) (fun _ _ _ h => h) (Or.inl ⟨want_no rfl, fun _ => by kernel_rfl⟩) ?_
                  exact rd_end (by kernel_rfl) (hrest _ _ ⟨k65, by kernel_rfl, M⟩) _
                exact AllReady.nil
              exact AllReady.nil
            exact AllReady.nil
          exact AllReady.nil
        refine rd_call M rfl rfl (some 51) rfl 44 #[.agg (arr 16 r7)] (.agg (arr 16 r8)) (fun _ => by kernel_rfl) F.h9 ?_ ?_
        · intro u74 M
          refine wpAny_ready (rs := [0]) (by kernel_rfl) (by simp) ?_
          refine rd_load M rfl rfl (some 49) rfl 39 _ rfl 4 g5 (by kernel_rfl) 16 39 r4 rfl _ Tryz.underlying39 rfl inz39 ?_ ?_
          · skip
            refine wpAny_ready (rs := [3]) (by kernel_rfl) (by simp) ?_
            refine rd_call M rfl rfl (some 52) rfl 39 #[.agg (arr 16 r4), .agg (arr 16 r8)] (.agg (arr 16 r9)) (fun _ => by kernel_rfl) F.h10 ?_ ?_
            · intro u75 M
              refine wpAny_ready (rs := [4]) (by kernel_rfl) (by simp) ?_
              refine rd_call M rfl rfl (some 53) rfl 45 #[.agg (arr 16 r9)] (.tuple #[.agg (arr 16 r10), .bool true]) (fun _ => by kernel_rfl) F.h11 ?_ ?_
              · intro u76 M
                refine wpAny_take (i := 5) (v := .tuple #[.agg (arr 16 r10), .bool true]) rfl (by kernel_rfl) (by kernel_rfl) (by kernel_rfl) (fun _ _ _ h => h) (Or.inl ⟨want_no rfl, fun _ => by kernel_rfl⟩) ?_
                refine wpAny_take (i := 6) (v := .agg (arr 16 r10)) rfl (by kernel_rfl) (by kernel_rfl) (by kernel_rfl) (fun _ _ _ h => h) (Or.inl ⟨want_no rfl, fun _ => by kernel_rfl⟩) ?_
                refine wpAny_take (i := 7) (v := .bool true) rfl (by kernel_rfl) (by kernel_rfl) (by kernel_rfl) (fun _ _ _ h => h) (Or.inl ⟨want_no rfl, fun _ => by kernel_rfl⟩) ?_
                refine wpAny_ready (rs := [9]) (by kernel_rfl) (by simp) ?_
                refine rd_put M rfl rfl rfl 39 _ _ rfl 6 k65 (by kernel_rfl) 16 39 (fun _ => 0) r10 rfl (by kernel_rfl) inz39 ?_ ?_
                · intro u77 M
                  replace M : Mem w [⟨g1, .cells (arr 64 (fun _ => 0)) 41⟩, ⟨g2, Z2⟩, ⟨g3, .cells (arr 16 r1) 39⟩, ⟨g4, .cells (arr 16 r2) 39⟩, ⟨g5, .cells (arr 16 r4) 39⟩, ⟨g6, .cells (arr 16 r7) 39⟩, ⟨k65, .cells (arr 16 r10) 39⟩] u77 := M
                  refine wpAny_take (i := 10) (v := .bool true) rfl (by kernel_rfl) (by kernel_rfl) (by kernel_rfl) (fun _ _ _ h => h) (Or.inl ⟨want_no rfl, fun _ => by kernel_rfl⟩) ?_
                  exact rd_end (by kernel_rfl) (hrest _ _ ⟨k65, by kernel_rfl, M⟩) _
                exact AllReady.nil
              exact AllReady.nil
            exact AllReady.nil
          exact AllReady.nil
        exact AllReady.nil
      exact AllReady.nil
    exact AllReady.nil
  rintro _ w15 ⟨gT8, rfl, M⟩
  refine au_then ?_
  refine wp_seq ?_
  refine wp_seq ?_
  refine rg_lit ?_
  refine pl_val (want_no rfl) (some 56) rfl (.bool true) (fun _ => by kernel_rfl) ?_
  refine pl_val (want_no rfl) (some 57) rfl (.bool false) (fun _ => by kernel_rfl) ?_
  refine pl_val (want_no rfl) (some 58) rfl (.bool false) (fun _ => by kernel_rfl) ?_
  refine pl_load M (want_on 2 false rfl 58 rfl (by kernel_rfl)) (some 59) rfl 39 _ rfl 6 gT8 0 (by kernel_rfl) 16 39 r10 rfl 16 r10 (Part.all _ _) (by decide) _ Tryz.underlying39 rfl inz39 ?_
  refine pl_val (want_on 2 false rfl 58 rfl (by kernel_rfl)) (some 60) rfl (.agg (arr 16 (fun _ => 0))) (fun _ => by kernel_rfl) ?_
  refine pl_val (want_on 2 false rfl 58 rfl (by kernel_rfl)) (some 61) rfl (.bool true) (fun w => (run_eq16 r10 (fun _ => 0) _ _ rfl (by kernel_rfl) (by kernel_rfl) (fun _ => by kernel_rfl) w).trans (by rw [he])) ?_
  refine pl_val (want_on 2 false rfl 58 rfl (by kernel_rfl)) (some 62) rfl (.bool true) (fun _ => by kernel_rfl) ?_
  refine pl_val (want_on 6 true rfl 62 rfl (by kernel_rfl)) (some 63) rfl (.bool false) (fun _ => by kernel_rfl) ?_
  refine pl_val (want_on 2 false rfl 58 rfl (by kernel_rfl)) (some 64) rfl (.bool false) (fun _ => by kernel_rfl) ?_
  refine pl_val (want_no rfl) (some 65) rfl (.bool false) (fun _ => by kernel_rfl) ?_
  refine pl_nil ?_
  refine au_then ?_
  refine wp_cond_false (by kernel_rfl) ?_
  refine wp_skip ?_
  refine au_then ?_
  refine wp_seq ?_
  refine wp_seq ?_
  refine rg_lit ?_
  refine pl_val (want_no rfl) (some 67) rfl (.bool false) (fun _ => by kernel_rfl) ?_
  refine pl_nil ?_
  refine au_then ?_
  refine wp_cond_false (by kernel_rfl) ?_
  refine wp_skip ?_
  refine au_then ?_
  refine wp_seq ?_
  refine rg_lit ?_
  refine pl_load M (want_no rfl) (some 70) rfl 39 _ rfl 6 gT8 0 (by kernel_rfl) 16 39 r10 rfl 16 r10 (Part.all _ _) (by decide) _ Tryz.underlying39 rfl inz39 ?_
  refine pl_load M (want_no rfl) (some 71) rfl 39 _ rfl 2 g3 0 (by kernel_rfl) 16 39 r1 rfl 16 r1 (Part.all _ _) (by decide) _ Tryz.underlying39 rfl inz39 ?_
  refine pl_call M (want_no rfl) (some 72) rfl 47 #[.agg (arr 16 r10), .agg (arr 16 r1)] (.agg (arr 64 r11)) (fun _ => by kernel_rfl) F.h12 ?_
  intro w16 M
  refine pl_put M (want_no rfl) rfl 41 _ _ rfl 0 g1 (by kernel_rfl) 64 41 (fun _ => 0) r11 rfl (by kernel_rfl) inz41 ?_
  intro w17 M
  replace M : Mem w [⟨g1, .cells (arr 64 r11) 41⟩, ⟨g2, Z2⟩, ⟨g3, .cells (arr 16 r1) 39⟩, ⟨g4, .cells (arr 16 r2) 39⟩, ⟨g5, .cells (arr 16 r4) 39⟩, ⟨g6, .cells (arr 16 r7) 39⟩, ⟨gT8, .cells (arr 16 r10) 39⟩] w17 := M
  refine pl_val (want_no rfl) (some 3) rfl (.int .i64 0) (fun _ => by kernel_rfl) ?_
  refine pl_nil ?_
  refine au_then ?_
  refine wp_ret ?_
  exact bodyPost_ret (v := .tuple #[.agg (arr 64 r11), .int .i64 0]) (results_cell_tmp Tryz.results8 _ _ g1 41 (arr 64 r11) (0, 0) _ (.int .i64 0) (by kernel_rfl) (by kernel_rfl) (M.get 0 rfl) Tryz.underlying41 rfl (by rw [arr_size]; exact inz41)) (by kernel_rfl) ⟨rfl, M.old⟩


end Go.Proofs.YtkeocdebfgcnnaaGreat
