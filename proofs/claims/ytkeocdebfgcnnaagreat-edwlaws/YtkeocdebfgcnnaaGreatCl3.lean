/- Part 3 of the walks and facts behind edwLaws_holds. -/
import Derived.Test.YtkeocdebfgcnnaaGreatCl2
/- The document's Decode, told by what its callees hand back. -/
namespace Go.Proofs.YtkeocdebfgcnnaaGreat
open Go.RowKit

structure rdecRF (s : ByteArray) (r1 r2 r3 r4 r5 r6 r7 r8 r9 r10 : Nat → Int) : Prop where
  h1 : ∀ w, Calls Tryz.prog 37 #[.string (bs ((List.range 32).map (upd (bt (s)) 31 (bits .and .u8 ((bt (s)) 31) 127))))] w fun r w' => r = .returned (.bool true) ∧ Below w.heap.size w w'
  h2 : ∀ w, Calls Tryz.prog 38 #[.string (bs ((List.range 32).map (upd (bt (s)) 31 (bits .and .u8 ((bt (s)) 31) 127))))] w fun r w' => r = .returned (.agg (arr 16 r1)) ∧ Below w.heap.size w w'
  h3 : ∀ w, Calls Tryz.prog 39 #[.agg (arr 16 r1), .agg (arr 16 r1)] w fun r w' => r = .returned (.agg (arr 16 r2)) ∧ Below w.heap.size w w'
  h4 : ∀ w, Calls Tryz.prog 41 #[.int .u32 1] w fun r w' => r = .returned (.agg (arr 16 r3)) ∧ Below w.heap.size w w'
  h5 : ∀ w, Calls Tryz.prog 40 #[.agg (arr 16 r2), .agg (arr 16 r3)] w fun r w' => r = .returned (.agg (arr 16 r4)) ∧ Below w.heap.size w w'
  h6 : ∀ w, Calls Tryz.prog 42 #[] w fun r w' => r = .returned (.agg (arr 16 r5)) ∧ Below w.heap.size w w'
  h7 : ∀ w, Calls Tryz.prog 39 #[.agg (arr 16 r5), .agg (arr 16 r2)] w fun r w' => r = .returned (.agg (arr 16 r6)) ∧ Below w.heap.size w w'
  h8 : ∀ w, Calls Tryz.prog 43 #[.agg (arr 16 r6), .agg (arr 16 r3)] w fun r w' => r = .returned (.agg (arr 16 r7)) ∧ Below w.heap.size w w'
  h9 : ∀ w, Calls Tryz.prog 44 #[.agg (arr 16 r7)] w fun r w' => r = .returned (.agg (arr 16 r8)) ∧ Below w.heap.size w w'
  h10 : ∀ w, Calls Tryz.prog 39 #[.agg (arr 16 r4), .agg (arr 16 r8)] w fun r w' => r = .returned (.agg (arr 16 r9)) ∧ Below w.heap.size w w'
  h11 : ∀ w, Calls Tryz.prog 45 #[.agg (arr 16 r9)] w fun r w' => r = .returned (.tuple #[.agg (arr 16 r10), .bool false]) ∧ Below w.heap.size w w'

set_option maxRecDepth 100000 in
set_option maxHeartbeats 4000000 in
theorem rdecR_gen (s : ByteArray) (r1 r2 r3 r4 r5 r6 r7 r8 r9 r10 : Nat → Int) (w : World) (F : rdecRF s r1 r2 r3 r4 r5 r6 r7 r8 r9 r10) (hs : s.size = 32) (hf : ∀ i, i < 32 → 0 ≤ (upd (bt s) 31 (bits .and .u8 (bt s 31) 127)) i ∧ (upd (bt s) 31 (bits .and .u8 (bt s 31) 127)) i < 256) :
    Calls Tryz.prog 8 #[.string s] w fun r w' => r = .returned (.tuple #[.agg (arr 64 (fun _ => 0)), .int .i64 40]) ∧ Below w.heap.size w w' := by
  go_enter Tryz.func8, Tryz.ntmps8
  have M := Mem.start w
  refine sr ?_
  refine pl_new M (want_no rfl) (some 2) rfl (.cells (arr 64 (fun _ => 0)) 41) (fun _ => by kernel_rfl) ?_
  intro g1 w1 M
  replace M : Mem w [⟨g1, .cells (arr 64 (fun _ => 0)) 41⟩] w1 := M
  refine pv 3 (.int .i64 0) ?_
  refine nt ?_
  refine wp_seq ?_
  refine sr ?_
  refine pv 12 (.string s) ?_
  refine pl_val (want_no rfl) (some 13) rfl (.int .i64 32) (fun w => Eq.trans (b := .ok (.value (.int .i64 (s.size : Int))) w) (by kernel_rfl) (by rw [hs]; rfl)) ?_
  refine pv 14 (.bool false) ?_
  refine nt ?_
  refine wp_cond_false (by kernel_rfl) ?_
  refine wp_skip ?_
  refine au_then ?_
  refine sr ?_
  refine pv 16 (.string s) ?_
  refine pl_conv M (want_no rfl) (some 17) rfl _ rfl (s) (by kernel_rfl) 32 hs ?_
  intro g2 cg2 Z1 w2 z1 M
  replace M : Mem w [⟨g1, .cells (arr 64 (fun _ => 0)) 41⟩, ⟨g2, Z1⟩] w2 := M
  refine pv 4 (.slice (some ⟨g2, 0, none⟩) 32 cg2) ?_
  refine nt ?_
  refine sr ?_
  refine pv 18 (.slice (some ⟨g2, 0, none⟩) 32 cg2) ?_
  refine pv 19 (.pointer (some ⟨g2, 31, none⟩)) ?_
  refine pl_loadb M (want_no rfl) (some 20) rfl 5 _ rfl 1 g2 31 (by kernel_rfl) (Z1) rfl 32 (bt (s)) z1 (by decide) (fun _ => by kernel_rfl) ?_
  refine pl_val (want_no rfl) (some 21) rfl (.int .u8 (bt (s) 31 / 128)) (fun w => run_bin .shr 5 _ _ rfl (by kernel_rfl) (by kernel_rfl) (fun _ => by kernel_rfl) (run_shr7 _) w) ?_
  refine pv 22 (.bool (decide (bt (s) 31 / 128 = 1))) ?_
  refine pv 5 (.bool (decide (bt (s) 31 / 128 = 1))) ?_
  refine nt ?_
  refine sr ?_
  refine pv 23 (.slice (some ⟨g2, 0, none⟩) 32 cg2) ?_
  refine pv 24 (.slice (some ⟨g2, 0, none⟩) 32 cg2) ?_
  refine pv 25 (.pointer (some ⟨g2, 31, none⟩)) ?_
  refine pl_loadb M (want_no rfl) (some 26) rfl 5 _ rfl 1 g2 31 (by kernel_rfl) (Z1) rfl 32 (bt (s)) z1 (by decide) (fun _ => by kernel_rfl) ?_
  refine pv 27 (.int .u8 (bits .and .u8 ((bt (s)) 31) 127)) ?_
  refine pv 28 (.pointer (some ⟨g2, 31, none⟩)) ?_
  refine pl_storeb M (want_no rfl) rfl 5 _ _ rfl 1 g2 31 (by kernel_rfl) (bits .and .u8 ((bt (s)) 31) 127) (by kernel_rfl) (Z1) rfl 32 (bt (s)) z1 (by decide) inzb ?_
  intro Z2 w3 z2 M
  replace M : Mem w [⟨g1, .cells (arr 64 (fun _ => 0)) 41⟩, ⟨g2, Z2⟩] w3 := M
  refine nt ?_
  refine wp_seq ?_
  refine sr ?_
  refine pv 29 (.slice (some ⟨g2, 0, none⟩) 32 cg2) ?_
  refine pl_back M (want_no rfl) (some 30) rfl _ rfl 1 g2 32 cg2 (by kernel_rfl) (Z2) rfl (upd (bt (s)) 31 (bits .and .u8 ((bt (s)) 31) 127)) z2 hf ?_
  refine pl_call M (want_no rfl) (some 31) rfl 37 #[.string (bs ((List.range 32).map (upd (bt (s)) 31 (bits .and .u8 ((bt (s)) 31) 127))))] (.bool true) (fun _ => by kernel_rfl) F.h1 ?_
  intro w4 M
  refine pv 32 (.bool false) ?_
  refine nt ?_
  refine wp_cond_false (by kernel_rfl) ?_
  refine wp_skip ?_
  refine au_then ?_
  refine sr ?_
  refine pv 34 (.slice (some ⟨g2, 0, none⟩) 32 cg2) ?_
  refine pl_back M (want_no rfl) (some 35) rfl _ rfl 1 g2 32 cg2 (by kernel_rfl) (Z2) rfl (upd (bt (s)) 31 (bits .and .u8 ((bt (s)) 31) 127)) z2 hf ?_
  refine pl_call M (want_no rfl) (some 36) rfl 38 #[.string (bs ((List.range 32).map (upd (bt (s)) 31 (bits .and .u8 ((bt (s)) 31) 127))))] (.agg (arr 16 r1)) (fun _ => by kernel_rfl) F.h2 ?_
  intro w5 M
  refine pl_new M (want_no rfl) (some 6) rfl (.cells (arr 16 (fun _ => 0)) 39) (fun _ => by kernel_rfl) ?_
  intro g3 w6 M
  replace M : Mem w [⟨g1, .cells (arr 64 (fun _ => 0)) 41⟩, ⟨g2, Z2⟩, ⟨g3, .cells (arr 16 (fun _ => 0)) 39⟩] w6 := M
  refine pl_put M (want_no rfl) rfl 39 _ _ rfl 2 g3 (by kernel_rfl) 16 39 (fun _ => 0) r1 rfl (by kernel_rfl) inz39 ?_
  intro w7 M
  replace M : Mem w [⟨g1, .cells (arr 64 (fun _ => 0)) 41⟩, ⟨g2, Z2⟩, ⟨g3, .cells (arr 16 r1) 39⟩] w7 := M
  refine nt ?_
  refine sr ?_
  refine pl_load M (want_no rfl) (some 37) rfl 39 _ rfl 2 g3 0 (by kernel_rfl) 16 39 r1 rfl 16 r1 (Part.all _ _) (by decide) _ Tryz.underlying39 rfl inz39 ?_
  refine pl_load M (want_no rfl) (some 38) rfl 39 _ rfl 2 g3 0 (by kernel_rfl) 16 39 r1 rfl 16 r1 (Part.all _ _) (by decide) _ Tryz.underlying39 rfl inz39 ?_
  refine pl_call M (want_no rfl) (some 39) rfl 39 #[.agg (arr 16 r1), .agg (arr 16 r1)] (.agg (arr 16 r2)) (fun _ => by kernel_rfl) F.h3 ?_
  intro w8 M
  refine pl_new M (want_no rfl) (some 7) rfl (.cells (arr 16 (fun _ => 0)) 39) (fun _ => by kernel_rfl) ?_
  intro g4 w9 M
  replace M : Mem w [⟨g1, .cells (arr 64 (fun _ => 0)) 41⟩, ⟨g2, Z2⟩, ⟨g3, .cells (arr 16 r1) 39⟩, ⟨g4, .cells (arr 16 (fun _ => 0)) 39⟩] w9 := M
  refine pl_put M (want_no rfl) rfl 39 _ _ rfl 3 g4 (by kernel_rfl) 16 39 (fun _ => 0) r2 rfl (by kernel_rfl) inz39 ?_
  intro w10 M
  replace M : Mem w [⟨g1, .cells (arr 64 (fun _ => 0)) 41⟩, ⟨g2, Z2⟩, ⟨g3, .cells (arr 16 r1) 39⟩, ⟨g4, .cells (arr 16 r2) 39⟩] w10 := M
  refine nt ?_
  refine wp_seq ?_
  refine rg_allocs M 3 [(8, 39, 16)] (by kernel_rfl) (by kernel_rfl) ⟨rfl, rfl, fun _ _ => by kernel_rfl, trivial⟩ (by decide) ?_
  simp only [List.take_succ_cons, List.take_zero]
  refine k_load M (want_no rfl) (some 40) rfl 39 _ rfl 3 g4 0 (by kernel_rfl) 16 39 r2 rfl 16 r2 (Part.all _ _) (by decide) _ Tryz.underlying39 rfl inz39 ?_
  refine k_call (want_no rfl) (some 41) rfl 41 #[.int .u32 1] (.agg (arr 16 r3)) (fun _ => by kernel_rfl) F.h4 ?_
  refine k_call (want_no rfl) (some 42) rfl 40 #[.agg (arr 16 r2), .agg (arr 16 r3)] (.agg (arr 16 r4)) (fun _ => by kernel_rfl) F.h5 ?_
  refine kl_nil ?_
  intro w11 g5 M
  replace M : Mem w [⟨g1, .cells (arr 64 (fun _ => 0)) 41⟩, ⟨g2, Z2⟩, ⟨g3, .cells (arr 16 r1) 39⟩, ⟨g4, .cells (arr 16 r2) 39⟩, ⟨g5, .cells (arr 16 (fun _ => 0)) 39⟩] w11 := M
  refine pl_put M (want_no rfl) rfl 39 _ _ rfl 4 g5 (by kernel_rfl) 16 39 (fun _ => 0) r4 rfl (by kernel_rfl) inz39 ?_
  intro w12 M
  replace M : Mem w [⟨g1, .cells (arr 64 (fun _ => 0)) 41⟩, ⟨g2, Z2⟩, ⟨g3, .cells (arr 16 r1) 39⟩, ⟨g4, .cells (arr 16 r2) 39⟩, ⟨g5, .cells (arr 16 r4) 39⟩] w12 := M
  refine nt ?_
  refine wp_seq ?_
  refine rg_allocs M 5 [(9, 39, 16)] (by kernel_rfl) (by kernel_rfl) ⟨rfl, rfl, fun _ _ => by kernel_rfl, trivial⟩ (by decide) ?_
  simp only [List.take_succ_cons, List.take_zero]
  refine k_call (want_no rfl) (some 43) rfl 42 #[] (.agg (arr 16 r5)) (fun _ => by kernel_rfl) F.h6 ?_
  refine k_load M (want_no rfl) (some 44) rfl 39 _ rfl 3 g4 0 (by kernel_rfl) 16 39 r2 rfl 16 r2 (Part.all _ _) (by decide) _ Tryz.underlying39 rfl inz39 ?_
  refine k_call (want_no rfl) (some 45) rfl 39 #[.agg (arr 16 r5), .agg (arr 16 r2)] (.agg (arr 16 r6)) (fun _ => by kernel_rfl) F.h7 ?_
  refine k_call (want_no rfl) (some 46) rfl 41 #[.int .u32 1] (.agg (arr 16 r3)) (fun _ => by kernel_rfl) F.h4 ?_
  refine k_call (want_no rfl) (some 47) rfl 43 #[.agg (arr 16 r6), .agg (arr 16 r3)] (.agg (arr 16 r7)) (fun _ => by kernel_rfl) F.h8 ?_
  refine kl_nil ?_
  intro w13 g6 M
  replace M : Mem w [⟨g1, .cells (arr 64 (fun _ => 0)) 41⟩, ⟨g2, Z2⟩, ⟨g3, .cells (arr 16 r1) 39⟩, ⟨g4, .cells (arr 16 r2) 39⟩, ⟨g5, .cells (arr 16 r4) 39⟩, ⟨g6, .cells (arr 16 (fun _ => 0)) 39⟩] w13 := M
  refine pl_put M (want_no rfl) rfl 39 _ _ rfl 5 g6 (by kernel_rfl) 16 39 (fun _ => 0) r7 rfl (by kernel_rfl) inz39 ?_
  intro w14 M
  replace M : Mem w [⟨g1, .cells (arr 64 (fun _ => 0)) 41⟩, ⟨g2, Z2⟩, ⟨g3, .cells (arr 16 r1) 39⟩, ⟨g4, .cells (arr 16 r2) 39⟩, ⟨g5, .cells (arr 16 r4) 39⟩, ⟨g6, .cells (arr 16 r7) 39⟩] w14 := M
  refine nt ?_
  refine wp_seq ?_
  refine region_cut (fun a0 a' w' => ∃ gT8 : Nat, a' = ((((((((((a0.put (some 49) (.agg (arr 16 r4))).put (some 50) (.agg (arr 16 r7))).put (some 51) (.agg (arr 16 r8))).put (some 52) (.agg (arr 16 r9))).put (some 53) (.tuple #[.agg (arr 16 r10), .bool false])).put (some 48) (.tuple #[.agg (arr 16 r10), .bool false])).put (some 54) (.agg (arr 16 r10))).put (some 55) (.bool false)).put (some 10) (.pointer (some ⟨gT8, 0, none⟩))).put (some 11) (.bool false)) ∧ Mem w [⟨g1, .cells (arr 64 (fun _ => 0)) 41⟩, ⟨g2, Z2⟩, ⟨g3, .cells (arr 16 r1) 39⟩, ⟨g4, .cells (arr 16 r2) 39⟩, ⟨g5, .cells (arr 16 r4) 39⟩, ⟨g6, .cells (arr 16 r7) 39⟩, ⟨gT8, .cells (arr 16 r10) 39⟩] w') (by kernel_rfl) ?_ ?_
  rotate_left
  · intro hrest
    replace M := M.drew
    refine rdy [0, 1, 8] ?_
    refine rd_load M rfl rfl (some 49) rfl 39 _ rfl 4 g5 (by kernel_rfl) 16 39 r4 rfl _ Tryz.underlying39 rfl inz39 ?_ ?_
    · skip
      refine rdy [1, 8] ?_
      refine rd_load M rfl rfl (some 50) rfl 39 _ rfl 5 g6 (by kernel_rfl) 16 39 r7 rfl _ Tryz.underlying39 rfl inz39 ?_ ?_
      · skip
        refine rdy [2, 8] ?_
        refine rd_call M rfl rfl (some 51) rfl 44 #[.agg (arr 16 r7)] (.agg (arr 16 r8)) (fun _ => by kernel_rfl) F.h9 ?_ ?_
        · intro u1 M
          refine rdy [3, 8] ?_
          refine rd_call M rfl rfl (some 52) rfl 39 #[.agg (arr 16 r4), .agg (arr 16 r8)] (.agg (arr 16 r9)) (fun _ => by kernel_rfl) F.h10 ?_ ?_
          · intro u2 M
            refine rdy [4, 8] ?_
            refine rd_call M rfl rfl (some 53) rfl 45 #[.agg (arr 16 r9)] (.tuple #[.agg (arr 16 r10), .bool false]) (fun _ => by kernel_rfl) F.h11 ?_ ?_
            · intro u3 M
              refine tk 5 (.tuple #[.agg (arr 16 r10), .bool false]) ?_
              refine tk 6 (.agg (arr 16 r10)) ?_
              refine tk 7 (.bool false) ?_
              refine rdy [8] ?_
              refine rd_new M rfl rfl (some 10) rfl (.cells (arr 16 (fun _ => 0)) 39) (fun _ => by kernel_rfl) ?_ ?_
              · intro k4 u4 M
                refine rdy [9] ?_
                refine rd_put M rfl rfl rfl 39 _ _ rfl 6 k4 (by kernel_rfl) 16 39 (fun _ => 0) r10 rfl (by kernel_rfl) inz39 ?_ ?_
                · intro u5 M
                  refine tk 10 (.bool false) ?_
                  exact rd_end (by kernel_rfl) (hrest _ _ ⟨k4, by kernel_rfl, M⟩) _
                exact AllReady.nil
              exact AllReady.nil
            refine rd_new M rfl rfl (some 10) rfl (.cells (arr 16 (fun _ => 0)) 39) (fun _ => by kernel_rfl) ?_ ?_
            · intro k6 u6 M
              refine rdy [4] ?_
              refine rd_call M rfl rfl (some 53) rfl 45 #[.agg (arr 16 r9)] (.tuple #[.agg (arr 16 r10), .bool false]) (fun _ => by kernel_rfl) F.h11 ?_ ?_
              · intro u7 M
                refine tk 5 (.tuple #[.agg (arr 16 r10), .bool false]) ?_
                refine tk 6 (.agg (arr 16 r10)) ?_
                refine tk 7 (.bool false) ?_
                refine rdy [9] ?_
                refine rd_put M rfl rfl rfl 39 _ _ rfl 6 k6 (by kernel_rfl) 16 39 (fun _ => 0) r10 rfl (by kernel_rfl) inz39 ?_ ?_
                · intro u8 M
                  refine tk 10 (.bool false) ?_
                  exact rd_end (by kernel_rfl) (hrest _ _ ⟨k6, by kernel_rfl, M⟩) _
                exact AllReady.nil
              exact AllReady.nil
            exact AllReady.nil
          refine rd_new M rfl rfl (some 10) rfl (.cells (arr 16 (fun _ => 0)) 39) (fun _ => by kernel_rfl) ?_ ?_
          · intro k9 u9 M
            refine rdy [3] ?_
            refine rd_call M rfl rfl (some 52) rfl 39 #[.agg (arr 16 r4), .agg (arr 16 r8)] (.agg (arr 16 r9)) (fun _ => by kernel_rfl) F.h10 ?_ ?_
            · intro u10 M
              refine rdy [4] ?_
              refine rd_call M rfl rfl (some 53) rfl 45 #[.agg (arr 16 r9)] (.tuple #[.agg (arr 16 r10), .bool false]) (fun _ => by kernel_rfl) F.h11 ?_ ?_
              · intro u11 M
                refine tk 5 (.tuple #[.agg (arr 16 r10), .bool false]) ?_
                refine tk 6 (.agg (arr 16 r10)) ?_
                refine tk 7 (.bool false) ?_
                refine rdy [9] ?_
                refine rd_put M rfl rfl rfl 39 _ _ rfl 6 k9 (by kernel_rfl) 16 39 (fun _ => 0) r10 rfl (by kernel_rfl) inz39 ?_ ?_
                · intro u12 M
                  refine tk 10 (.bool false) ?_
                  exact rd_end (by kernel_rfl) (hrest _ _ ⟨k9, by kernel_rfl, M⟩) _
                exact AllReady.nil
              exact AllReady.nil
            exact AllReady.nil
          exact AllReady.nil
        refine rd_new M rfl rfl (some 10) rfl (.cells (arr 16 (fun _ => 0)) 39) (fun _ => by kernel_rfl) ?_ ?_
        · intro k13 u13 M
          refine rdy [2] ?_
          refine rd_call M rfl rfl (some 51) rfl 44 #[.agg (arr 16 r7)] (.agg (arr 16 r8)) (fun _ => by kernel_rfl) F.h9 ?_ ?_
          · intro u14 M
            refine rdy [3] ?_
            refine rd_call M rfl rfl (some 52) rfl 39 #[.agg (arr 16 r4), .agg (arr 16 r8)] (.agg (arr 16 r9)) (fun _ => by kernel_rfl) F.h10 ?_ ?_
            · intro u15 M
              refine rdy [4] ?_
              refine rd_call M rfl rfl (some 53) rfl 45 #[.agg (arr 16 r9)] (.tuple #[.agg (arr 16 r10), .bool false]) (fun _ => by kernel_rfl) F.h11 ?_ ?_
              · intro u16 M
                refine tk 5 (.tuple #[.agg (arr 16 r10), .bool false]) ?_
                refine tk 6 (.agg (arr 16 r10)) ?_
                refine tk 7 (.bool false) ?_
                refine rdy [9] ?_
                refine rd_put M rfl rfl rfl 39 _ _ rfl 6 k13 (by kernel_rfl) 16 39 (fun _ => 0) r10 rfl (by kernel_rfl) inz39 ?_ ?_
                · intro u17 M
                  refine tk 10 (.bool false) ?_
                  exact rd_end (by kernel_rfl) (hrest _ _ ⟨k13, by kernel_rfl, M⟩) _
                exact AllReady.nil
              exact AllReady.nil
            exact AllReady.nil
          exact AllReady.nil
        exact AllReady.nil
      refine rd_new M rfl rfl (some 10) rfl (.cells (arr 16 (fun _ => 0)) 39) (fun _ => by kernel_rfl) ?_ ?_
      · intro k18 u18 M
        refine rdy [1] ?_
        refine rd_load M rfl rfl (some 50) rfl 39 _ rfl 5 g6 (by kernel_rfl) 16 39 r7 rfl _ Tryz.underlying39 rfl inz39 ?_ ?_
        · skip
          refine rdy [2] ?_
          refine rd_call M rfl rfl (some 51) rfl 44 #[.agg (arr 16 r7)] (.agg (arr 16 r8)) (fun _ => by kernel_rfl) F.h9 ?_ ?_
          · intro u19 M
            refine rdy [3] ?_
            refine rd_call M rfl rfl (some 52) rfl 39 #[.agg (arr 16 r4), .agg (arr 16 r8)] (.agg (arr 16 r9)) (fun _ => by kernel_rfl) F.h10 ?_ ?_
            · intro u20 M
              refine rdy [4] ?_
              refine rd_call M rfl rfl (some 53) rfl 45 #[.agg (arr 16 r9)] (.tuple #[.agg (arr 16 r10), .bool false]) (fun _ => by kernel_rfl) F.h11 ?_ ?_
              · intro u21 M
                refine tk 5 (.tuple #[.agg (arr 16 r10), .bool false]) ?_
                refine tk 6 (.agg (arr 16 r10)) ?_
                refine tk 7 (.bool false) ?_
                refine rdy [9] ?_
                refine rd_put M rfl rfl rfl 39 _ _ rfl 6 k18 (by kernel_rfl) 16 39 (fun _ => 0) r10 rfl (by kernel_rfl) inz39 ?_ ?_
                · intro u22 M
                  refine tk 10 (.bool false) ?_
                  exact rd_end (by kernel_rfl) (hrest _ _ ⟨k18, by kernel_rfl, M⟩) _
                exact AllReady.nil
              exact AllReady.nil
            exact AllReady.nil
          exact AllReady.nil
        exact AllReady.nil
      exact AllReady.nil
    refine rd_load M rfl rfl (some 50) rfl 39 _ rfl 5 g6 (by kernel_rfl) 16 39 r7 rfl _ Tryz.underlying39 rfl inz39 ?_ ?_
    · skip
      refine rdy [0, 2, 8] ?_
      refine rd_load M rfl rfl (some 49) rfl 39 _ rfl 4 g5 (by kernel_rfl) 16 39 r4 rfl _ Tryz.underlying39 rfl inz39 ?_ ?_
      · skip
        refine rdy [2, 8] ?_
        refine rd_call M rfl rfl (some 51) rfl 44 #[.agg (arr 16 r7)] (.agg (arr 16 r8)) (fun _ => by kernel_rfl) F.h9 ?_ ?_
        · intro u23 M
          refine rdy [3, 8] ?_
          refine rd_call M rfl rfl (some 52) rfl 39 #[.agg (arr 16 r4), .agg (arr 16 r8)] (.agg (arr 16 r9)) (fun _ => by kernel_rfl) F.h10 ?_ ?_
          · intro u24 M
            refine rdy [4, 8] ?_
            refine rd_call M rfl rfl (some 53) rfl 45 #[.agg (arr 16 r9)] (.tuple #[.agg (arr 16 r10), .bool false]) (fun _ => by kernel_rfl) F.h11 ?_ ?_
            · intro u25 M
              refine tk 5 (.tuple #[.agg (arr 16 r10), .bool false]) ?_
              refine tk 6 (.agg (arr 16 r10)) ?_
              refine tk 7 (.bool false) ?_
              refine rdy [8] ?_
              refine rd_new M rfl rfl (some 10) rfl (.cells (arr 16 (fun _ => 0)) 39) (fun _ => by kernel_rfl) ?_ ?_
              · intro k26 u26 M
                refine rdy [9] ?_
                refine rd_put M rfl rfl rfl 39 _ _ rfl 6 k26 (by kernel_rfl) 16 39 (fun _ => 0) r10 rfl (by kernel_rfl) inz39 ?_ ?_
                · intro u27 M
                  refine tk 10 (.bool false) ?_
                  exact rd_end (by kernel_rfl) (hrest _ _ ⟨k26, by kernel_rfl, M⟩) _
                exact AllReady.nil
              exact AllReady.nil
            refine rd_new M rfl rfl (some 10) rfl (.cells (arr 16 (fun _ => 0)) 39) (fun _ => by kernel_rfl) ?_ ?_
            · intro k28 u28 M
              refine rdy [4] ?_
              refine rd_call M rfl rfl (some 53) rfl 45 #[.agg (arr 16 r9)] (.tuple #[.agg (arr 16 r10), .bool false]) (fun _ => by kernel_rfl) F.h11 ?_ ?_
              · intro u29 M
                refine tk 5 (.tuple #[.agg (arr 16 r10), .bool false]) ?_
                refine tk 6 (.agg (arr 16 r10)) ?_
                refine tk 7 (.bool false) ?_
                refine rdy [9] ?_
                refine rd_put M rfl rfl rfl 39 _ _ rfl 6 k28 (by kernel_rfl) 16 39 (fun _ => 0) r10 rfl (by kernel_rfl) inz39 ?_ ?_
                · intro u30 M
                  refine tk 10 (.bool false) ?_
                  exact rd_end (by kernel_rfl) (hrest _ _ ⟨k28, by kernel_rfl, M⟩) _
                exact AllReady.nil
              exact AllReady.nil
            exact AllReady.nil
          refine rd_new M rfl rfl (some 10) rfl (.cells (arr 16 (fun _ => 0)) 39) (fun _ => by kernel_rfl) ?_ ?_
          · intro k31 u31 M
            refine rdy [3] ?_
            refine rd_call M rfl rfl (some 52) rfl 39 #[.agg (arr 16 r4), .agg (arr 16 r8)] (.agg (arr 16 r9)) (fun _ => by kernel_rfl) F.h10 ?_ ?_
            · intro u32 M
              refine rdy [4] ?_
              refine rd_call M rfl rfl (some 53) rfl 45 #[.agg (arr 16 r9)] (.tuple #[.agg (arr 16 r10), .bool false]) (fun _ => by kernel_rfl) F.h11 ?_ ?_
              · intro u33 M
                refine tk 5 (.tuple #[.agg (arr 16 r10), .bool false]) ?_
                refine tk 6 (.agg (arr 16 r10)) ?_
                refine tk 7 (.bool false) ?_
                refine rdy [9] ?_
                refine rd_put M rfl rfl rfl 39 _ _ rfl 6 k31 (by kernel_rfl) 16 39 (fun _ => 0) r10 rfl (by kernel_rfl) inz39 ?_ ?_
                · intro u34 M
                  refine tk 10 (.bool false) ?_
                  exact rd_end (by kernel_rfl) (hrest _ _ ⟨k31, by kernel_rfl, M⟩) _
                exact AllReady.nil
              exact AllReady.nil
            exact AllReady.nil
          exact AllReady.nil
        refine rd_new M rfl rfl (some 10) rfl (.cells (arr 16 (fun _ => 0)) 39) (fun _ => by kernel_rfl) ?_ ?_
        · intro k35 u35 M
          refine rdy [2] ?_
          refine rd_call M rfl rfl (some 51) rfl 44 #[.agg (arr 16 r7)] (.agg (arr 16 r8)) (fun _ => by kernel_rfl) F.h9 ?_ ?_
          · intro u36 M
            refine rdy [3] ?_
            refine rd_call M rfl rfl (some 52) rfl 39 #[.agg (arr 16 r4), .agg (arr 16 r8)] (.agg (arr 16 r9)) (fun _ => by kernel_rfl) F.h10 ?_ ?_
            · intro u37 M
              refine rdy [4] ?_
              refine rd_call M rfl rfl (some 53) rfl 45 #[.agg (arr 16 r9)] (.tuple #[.agg (arr 16 r10), .bool false]) (fun _ => by kernel_rfl) F.h11 ?_ ?_
              · intro u38 M
                refine tk 5 (.tuple #[.agg (arr 16 r10), .bool false]) ?_
                refine tk 6 (.agg (arr 16 r10)) ?_
                refine tk 7 (.bool false) ?_
                refine rdy [9] ?_
                refine rd_put M rfl rfl rfl 39 _ _ rfl 6 k35 (by kernel_rfl) 16 39 (fun _ => 0) r10 rfl (by kernel_rfl) inz39 ?_ ?_
                · intro u39 M
                  refine tk 10 (.bool false) ?_
                  exact rd_end (by kernel_rfl) (hrest _ _ ⟨k35, by kernel_rfl, M⟩) _
                exact AllReady.nil
              exact AllReady.nil
            exact AllReady.nil
          exact AllReady.nil
        exact AllReady.nil
      refine rd_call M rfl rfl (some 51) rfl 44 #[.agg (arr 16 r7)] (.agg (arr 16 r8)) (fun _ => by kernel_rfl) F.h9 ?_ ?_
      · intro u40 M
        refine rdy [0, 8] ?_
        refine rd_load M rfl rfl (some 49) rfl 39 _ rfl 4 g5 (by kernel_rfl) 16 39 r4 rfl _ Tryz.underlying39 rfl inz39 ?_ ?_
        · skip
          refine rdy [3, 8] ?_
          refine rd_call M rfl rfl (some 52) rfl 39 #[.agg (arr 16 r4), .agg (arr 16 r8)] (.agg (arr 16 r9)) (fun _ => by kernel_rfl) F.h10 ?_ ?_
          · intro u41 M
            refine rdy [4, 8] ?_
            refine rd_call M rfl rfl (some 53) rfl 45 #[.agg (arr 16 r9)] (.tuple #[.agg (arr 16 r10), .bool false]) (fun _ => by kernel_rfl) F.h11 ?_ ?_
            · intro u42 M
              refine tk 5 (.tuple #[.agg (arr 16 r10), .bool false]) ?_
              refine tk 6 (.agg (arr 16 r10)) ?_
              refine tk 7 (.bool false) ?_
              refine rdy [8] ?_
              refine rd_new M rfl rfl (some 10) rfl (.cells (arr 16 (fun _ => 0)) 39) (fun _ => by kernel_rfl) ?_ ?_
              · intro k43 u43 M
                refine rdy [9] ?_
                refine rd_put M rfl rfl rfl 39 _ _ rfl 6 k43 (by kernel_rfl) 16 39 (fun _ => 0) r10 rfl (by kernel_rfl) inz39 ?_ ?_
                · intro u44 M
                  refine tk 10 (.bool false) ?_
                  exact rd_end (by kernel_rfl) (hrest _ _ ⟨k43, by kernel_rfl, M⟩) _
                exact AllReady.nil
              exact AllReady.nil
            refine rd_new M rfl rfl (some 10) rfl (.cells (arr 16 (fun _ => 0)) 39) (fun _ => by kernel_rfl) ?_ ?_
            · intro k45 u45 M
              refine rdy [4] ?_
              refine rd_call M rfl rfl (some 53) rfl 45 #[.agg (arr 16 r9)] (.tuple #[.agg (arr 16 r10), .bool false]) (fun _ => by kernel_rfl) F.h11 ?_ ?_
              · intro u46 M
                refine tk 5 (.tuple #[.agg (arr 16 r10), .bool false]) ?_
                refine tk 6 (.agg (arr 16 r10)) ?_
                refine tk 7 (.bool false) ?_
                refine rdy [9] ?_
                refine rd_put M rfl rfl rfl 39 _ _ rfl 6 k45 (by kernel_rfl) 16 39 (fun _ => 0) r10 rfl (by kernel_rfl) inz39 ?_ ?_
                · intro u47 M
                  refine tk 10 (.bool false) ?_
                  exact rd_end (by kernel_rfl) (hrest _ _ ⟨k45, by kernel_rfl, M⟩) _
                exact AllReady.nil
              exact AllReady.nil
            exact AllReady.nil
          refine rd_new M rfl rfl (some 10) rfl (.cells (arr 16 (fun _ => 0)) 39) (fun _ => by kernel_rfl) ?_ ?_
          · intro k48 u48 M
            refine rdy [3] ?_
            refine rd_call M rfl rfl (some 52) rfl 39 #[.agg (arr 16 r4), .agg (arr 16 r8)] (.agg (arr 16 r9)) (fun _ => by kernel_rfl) F.h10 ?_ ?_
            · intro u49 M
              refine rdy [4] ?_
              refine rd_call M rfl rfl (some 53) rfl 45 #[.agg (arr 16 r9)] (.tuple #[.agg (arr 16 r10), .bool false]) (fun _ => by kernel_rfl) F.h11 ?_ ?_
              · intro u50 M
                refine tk 5 (.tuple #[.agg (arr 16 r10), .bool false]) ?_
                refine tk 6 (.agg (arr 16 r10)) ?_
                refine tk 7 (.bool false) ?_
                refine rdy [9] ?_
                refine rd_put M rfl rfl rfl 39 _ _ rfl 6 k48 (by kernel_rfl) 16 39 (fun _ => 0) r10 rfl (by kernel_rfl) inz39 ?_ ?_
                · intro u51 M
                  refine tk 10 (.bool false) ?_
                  exact rd_end (by kernel_rfl) (hrest _ _ ⟨k48, by kernel_rfl, M⟩) _
                exact AllReady.nil
              exact AllReady.nil
            exact AllReady.nil
          exact AllReady.nil
        refine rd_new M rfl rfl (some 10) rfl (.cells (arr 16 (fun _ => 0)) 39) (fun _ => by kernel_rfl) ?_ ?_
        · intro k52 u52 M
          refine rdy [0] ?_
          refine rd_load M rfl rfl (some 49) rfl 39 _ rfl 4 g5 (by kernel_rfl) 16 39 r4 rfl _ Tryz.underlying39 rfl inz39 ?_ ?_
          · skip
            refine rdy [3] ?_
            refine rd_call M rfl rfl (some 52) rfl 39 #[.agg (arr 16 r4), .agg (arr 16 r8)] (.agg (arr 16 r9)) (fun _ => by kernel_rfl) F.h10 ?_ ?_
            · intro u53 M
              refine rdy [4] ?_
              refine rd_call M rfl rfl (some 53) rfl 45 #[.agg (arr 16 r9)] (.tuple #[.agg (arr 16 r10), .bool false]) (fun _ => by kernel_rfl) F.h11 ?_ ?_
              · intro u54 M
                refine tk 5 (.tuple #[.agg (arr 16 r10), .bool false]) ?_
                refine tk 6 (.agg (arr 16 r10)) ?_
                refine tk 7 (.bool false) ?_
                refine rdy [9] ?_
                refine rd_put M rfl rfl rfl 39 _ _ rfl 6 k52 (by kernel_rfl) 16 39 (fun _ => 0) r10 rfl (by kernel_rfl) inz39 ?_ ?_
                · intro u55 M
                  refine tk 10 (.bool false) ?_
                  exact rd_end (by kernel_rfl) (hrest _ _ ⟨k52, by kernel_rfl, M⟩) _
                exact AllReady.nil
              exact AllReady.nil
            exact AllReady.nil
          exact AllReady.nil
        exact AllReady.nil
      refine rd_new M rfl rfl (some 10) rfl (.cells (arr 16 (fun _ => 0)) 39) (fun _ => by kernel_rfl) ?_ ?_
      · intro k56 u56 M
        refine rdy [0, 2] ?_
        refine rd_load M rfl rfl (some 49) rfl 39 _ rfl 4 g5 (by kernel_rfl) 16 39 r4 rfl _ Tryz.underlying39 rfl inz39 ?_ ?_
        · skip
          refine rdy [2] ?_
          refine rd_call M rfl rfl (some 51) rfl 44 #[.agg (arr 16 r7)] (.agg (arr 16 r8)) (fun _ => by kernel_rfl) F.h9 ?_ ?_
          · intro u57 M
            refine rdy [3] ?_
            refine rd_call M rfl rfl (some 52) rfl 39 #[.agg (arr 16 r4), .agg (arr 16 r8)] (.agg (arr 16 r9)) (fun _ => by kernel_rfl) F.h10 ?_ ?_
            · intro u58 M
              refine rdy [4] ?_
              refine rd_call M rfl rfl (some 53) rfl 45 #[.agg (arr 16 r9)] (.tuple #[.agg (arr 16 r10), .bool false]) (fun _ => by kernel_rfl) F.h11 ?_ ?_
              · intro u59 M
                refine tk 5 (.tuple #[.agg (arr 16 r10), .bool false]) ?_
                refine tk 6 (.agg (arr 16 r10)) ?_
                refine tk 7 (.bool false) ?_
                refine rdy [9] ?_
                refine rd_put M rfl rfl rfl 39 _ _ rfl 6 k56 (by kernel_rfl) 16 39 (fun _ => 0) r10 rfl (by kernel_rfl) inz39 ?_ ?_
                · intro u60 M
                  refine tk 10 (.bool false) ?_
                  exact rd_end (by kernel_rfl) (hrest _ _ ⟨k56, by kernel_rfl, M⟩) _
                exact AllReady.nil
              exact AllReady.nil
            exact AllReady.nil
          exact AllReady.nil
        refine rd_call M rfl rfl (some 51) rfl 44 #[.agg (arr 16 r7)] (.agg (arr 16 r8)) (fun _ => by kernel_rfl) F.h9 ?_ ?_
        · intro u61 M
          refine rdy [0] ?_
          refine rd_load M rfl rfl (some 49) rfl 39 _ rfl 4 g5 (by kernel_rfl) 16 39 r4 rfl _ Tryz.underlying39 rfl inz39 ?_ ?_
          · skip
            refine rdy [3] ?_
            refine rd_call M rfl rfl (some 52) rfl 39 #[.agg (arr 16 r4), .agg (arr 16 r8)] (.agg (arr 16 r9)) (fun _ => by kernel_rfl) F.h10 ?_ ?_
            · intro u62 M
              refine rdy [4] ?_
              refine rd_call M rfl rfl (some 53) rfl 45 #[.agg (arr 16 r9)] (.tuple #[.agg (arr 16 r10), .bool false]) (fun _ => by kernel_rfl) F.h11 ?_ ?_
              · intro u63 M
                refine tk 5 (.tuple #[.agg (arr 16 r10), .bool false]) ?_
                refine tk 6 (.agg (arr 16 r10)) ?_
                refine tk 7 (.bool false) ?_
                refine rdy [9] ?_
                refine rd_put M rfl rfl rfl 39 _ _ rfl 6 k56 (by kernel_rfl) 16 39 (fun _ => 0) r10 rfl (by kernel_rfl) inz39 ?_ ?_
                · intro u64 M
                  refine tk 10 (.bool false) ?_
                  exact rd_end (by kernel_rfl) (hrest _ _ ⟨k56, by kernel_rfl, M⟩) _
                exact AllReady.nil
              exact AllReady.nil
            exact AllReady.nil
          exact AllReady.nil
        exact AllReady.nil
      exact AllReady.nil
    refine rd_new M rfl rfl (some 10) rfl (.cells (arr 16 (fun _ => 0)) 39) (fun _ => by kernel_rfl) ?_ ?_
    · intro k65 u65 M
      refine rdy [0, 1] ?_
      refine rd_load M rfl rfl (some 49) rfl 39 _ rfl 4 g5 (by kernel_rfl) 16 39 r4 rfl _ Tryz.underlying39 rfl inz39 ?_ ?_
      · skip
        refine rdy [1] ?_
        refine rd_load M rfl rfl (some 50) rfl 39 _ rfl 5 g6 (by kernel_rfl) 16 39 r7 rfl _ Tryz.underlying39 rfl inz39 ?_ ?_
        · skip
          refine rdy [2] ?_
          refine rd_call M rfl rfl (some 51) rfl 44 #[.agg (arr 16 r7)] (.agg (arr 16 r8)) (fun _ => by kernel_rfl) F.h9 ?_ ?_
          · intro u66 M
            refine rdy [3] ?_
            refine rd_call M rfl rfl (some 52) rfl 39 #[.agg (arr 16 r4), .agg (arr 16 r8)] (.agg (arr 16 r9)) (fun _ => by kernel_rfl) F.h10 ?_ ?_
            · intro u67 M
              refine rdy [4] ?_
              refine rd_call M rfl rfl (some 53) rfl 45 #[.agg (arr 16 r9)] (.tuple #[.agg (arr 16 r10), .bool false]) (fun _ => by kernel_rfl) F.h11 ?_ ?_
              · intro u68 M
                refine tk 5 (.tuple #[.agg (arr 16 r10), .bool false]) ?_
                refine tk 6 (.agg (arr 16 r10)) ?_
                refine tk 7 (.bool false) ?_
                refine rdy [9] ?_
                refine rd_put M rfl rfl rfl 39 _ _ rfl 6 k65 (by kernel_rfl) 16 39 (fun _ => 0) r10 rfl (by kernel_rfl) inz39 ?_ ?_
                · intro u69 M
                  refine tk 10 (.bool false) ?_
                  exact rd_end (by kernel_rfl) (hrest _ _ ⟨k65, by kernel_rfl, M⟩) _
                exact AllReady.nil
              exact AllReady.nil
            exact AllReady.nil
          exact AllReady.nil
        exact AllReady.nil
      refine rd_load M rfl rfl (some 50) rfl 39 _ rfl 5 g6 (by kernel_rfl) 16 39 r7 rfl _ Tryz.underlying39 rfl inz39 ?_ ?_
      · skip
        refine rdy [0, 2] ?_
        refine rd_load M rfl rfl (some 49) rfl 39 _ rfl 4 g5 (by kernel_rfl) 16 39 r4 rfl _ Tryz.underlying39 rfl inz39 ?_ ?_
        · skip
          refine rdy [2] ?_
          refine rd_call M rfl rfl (some 51) rfl 44 #[.agg (arr 16 r7)] (.agg (arr 16 r8)) (fun _ => by kernel_rfl) F.h9 ?_ ?_
          · intro u70 M
            refine rdy [3] ?_
            refine rd_call M rfl rfl (some 52) rfl 39 #[.agg (arr 16 r4), .agg (arr 16 r8)] (.agg (arr 16 r9)) (fun _ => by kernel_rfl) F.h10 ?_ ?_
            · intro u71 M
              refine rdy [4] ?_
              refine rd_call M rfl rfl (some 53) rfl 45 #[.agg (arr 16 r9)] (.tuple #[.agg (arr 16 r10), .bool false]) (fun _ => by kernel_rfl) F.h11 ?_ ?_
              · intro u72 M
                refine tk 5 (.tuple #[.agg (arr 16 r10), .bool false]) ?_
                refine tk 6 (.agg (arr 16 r10)) ?_
                refine tk 7 (.bool false) ?_
                refine rdy [9] ?_
                refine rd_put M rfl rfl rfl 39 _ _ rfl 6 k65 (by kernel_rfl) 16 39 (fun _ => 0) r10 rfl (by kernel_rfl) inz39 ?_ ?_
                · intro u73 M
                  refine tk 10 (.bool false) ?_
                  exact rd_end (by kernel_rfl) (hrest _ _ ⟨k65, by kernel_rfl, M⟩) _
                exact AllReady.nil
              exact AllReady.nil
            exact AllReady.nil
          exact AllReady.nil
        refine rd_call M rfl rfl (some 51) rfl 44 #[.agg (arr 16 r7)] (.agg (arr 16 r8)) (fun _ => by kernel_rfl) F.h9 ?_ ?_
        · intro u74 M
          refine rdy [0] ?_
          refine rd_load M rfl rfl (some 49) rfl 39 _ rfl 4 g5 (by kernel_rfl) 16 39 r4 rfl _ Tryz.underlying39 rfl inz39 ?_ ?_
          · skip
            refine rdy [3] ?_
            refine rd_call M rfl rfl (some 52) rfl 39 #[.agg (arr 16 r4), .agg (arr 16 r8)] (.agg (arr 16 r9)) (fun _ => by kernel_rfl) F.h10 ?_ ?_
            · intro u75 M
              refine rdy [4] ?_
              refine rd_call M rfl rfl (some 53) rfl 45 #[.agg (arr 16 r9)] (.tuple #[.agg (arr 16 r10), .bool false]) (fun _ => by kernel_rfl) F.h11 ?_ ?_
              · intro u76 M
                refine tk 5 (.tuple #[.agg (arr 16 r10), .bool false]) ?_
                refine tk 6 (.agg (arr 16 r10)) ?_
                refine tk 7 (.bool false) ?_
                refine rdy [9] ?_
                refine rd_put M rfl rfl rfl 39 _ _ rfl 6 k65 (by kernel_rfl) 16 39 (fun _ => 0) r10 rfl (by kernel_rfl) inz39 ?_ ?_
                · intro u77 M
                  refine tk 10 (.bool false) ?_
                  exact rd_end (by kernel_rfl) (hrest _ _ ⟨k65, by kernel_rfl, M⟩) _
                exact AllReady.nil
              exact AllReady.nil
            exact AllReady.nil
          exact AllReady.nil
        exact AllReady.nil
      exact AllReady.nil
    exact AllReady.nil
  rintro _ w15 ⟨gT8, rfl, M⟩
  refine au_then ?_
  refine wp_seq ?_
  refine sr ?_
  refine pv 56 (.bool false) ?_
  refine pv 57 (.bool true) ?_
  refine pv 58 (.bool true) ?_
  refine pl_skip (want_off 2 false rfl 58 rfl (by kernel_rfl)) (some 59) rfl ?_
  refine pl_skip (want_off 2 false rfl 58 rfl (by kernel_rfl)) (some 60) rfl ?_
  refine pl_skip (want_off 2 false rfl 58 rfl (by kernel_rfl)) (some 61) rfl ?_
  refine pl_skip (want_off 2 false rfl 58 rfl (by kernel_rfl)) (some 62) rfl ?_
  refine pl_skip (want_und 6 true rfl 62 rfl (by kernel_rfl)) (some 63) rfl ?_
  refine pl_skip (want_off 2 false rfl 58 rfl (by kernel_rfl)) (some 64) rfl ?_
  refine pv 65 (.bool true) ?_
  refine nt ?_
  refine wp_cond_true (by kernel_rfl) ?_
  refine sr ?_
  refine pv 66 (.agg (arr 64 (fun _ => 0))) ?_
  refine pl_put M (want_no rfl) rfl 41 _ _ rfl 0 g1 (by kernel_rfl) 64 41 (fun _ => 0) (fun _ => 0) rfl (by kernel_rfl) inz41 ?_
  intro w16 M
  replace M : Mem w [⟨g1, .cells (arr 64 (fun _ => 0)) 41⟩, ⟨g2, Z2⟩, ⟨g3, .cells (arr 16 r1) 39⟩, ⟨g4, .cells (arr 16 r2) 39⟩, ⟨g5, .cells (arr 16 r4) 39⟩, ⟨g6, .cells (arr 16 r7) 39⟩, ⟨gT8, .cells (arr 16 r10) 39⟩] w16 := M
  refine pv 3 (.int .i64 40) ?_
  refine nt ?_
  refine wp_ret ?_
  refine au_then_ret ?_
  exact bodyPost_ret (v := .tuple #[.agg (arr 64 (fun _ => 0)), .int .i64 40]) (results_cell_tmp Tryz.results8 _ _ g1 41 (arr 64 (fun _ => 0)) (0, 0) _ (.int .i64 40) (by kernel_rfl) (by kernel_rfl) (M.get 0 rfl) Tryz.underlying41 rfl (by rw [arr_size]; exact inz41)) (by kernel_rfl) ⟨rfl, M.old⟩

structure rdecYFF (s : ByteArray) (r1 r2 r3 r4 r5 r6 r7 r8 r9 r10 r11 : Nat → Int) : Prop where
  h1 : ∀ w, Calls Tryz.prog 37 #[.string (bs ((List.range 32).map (upd (bt (s)) 31 (bits .and .u8 ((bt (s)) 31) 127))))] w fun r w' => r = .returned (.bool true) ∧ Below w.heap.size w w'
  h2 : ∀ w, Calls Tryz.prog 38 #[.string (bs ((List.range 32).map (upd (bt (s)) 31 (bits .and .u8 ((bt (s)) 31) 127))))] w fun r w' => r = .returned (.agg (arr 16 r1)) ∧ Below w.heap.size w w'
  h3 : ∀ w, Calls Tryz.prog 39 #[.agg (arr 16 r1), .agg (arr 16 r1)] w fun r w' => r = .returned (.agg (arr 16 r2)) ∧ Below w.heap.size w w'
  h4 : ∀ w, Calls Tryz.prog 41 #[.int .u32 1] w fun r w' => r = .returned (.agg (arr 16 r3)) ∧ Below w.heap.size w w'
  h5 : ∀ w, Calls Tryz.prog 40 #[.agg (arr 16 r2), .agg (arr 16 r3)] w fun r w' => r = .returned (.agg (arr 16 r4)) ∧ Below w.heap.size w w'
  h6 : ∀ w, Calls Tryz.prog 42 #[] w fun r w' => r = .returned (.agg (arr 16 r5)) ∧ Below w.heap.size w w'
  h7 : ∀ w, Calls Tryz.prog 39 #[.agg (arr 16 r5), .agg (arr 16 r2)] w fun r w' => r = .returned (.agg (arr 16 r6)) ∧ Below w.heap.size w w'
  h8 : ∀ w, Calls Tryz.prog 43 #[.agg (arr 16 r6), .agg (arr 16 r3)] w fun r w' => r = .returned (.agg (arr 16 r7)) ∧ Below w.heap.size w w'
  h9 : ∀ w, Calls Tryz.prog 44 #[.agg (arr 16 r7)] w fun r w' => r = .returned (.agg (arr 16 r8)) ∧ Below w.heap.size w w'
  h10 : ∀ w, Calls Tryz.prog 39 #[.agg (arr 16 r4), .agg (arr 16 r8)] w fun r w' => r = .returned (.agg (arr 16 r9)) ∧ Below w.heap.size w w'
  h11 : ∀ w, Calls Tryz.prog 45 #[.agg (arr 16 r9)] w fun r w' => r = .returned (.tuple #[.agg (arr 16 r10), .bool true]) ∧ Below w.heap.size w w'
  h12 : ∀ w, Calls Tryz.prog 47 #[.agg (arr 16 r10), .agg (arr 16 r1)] w fun r w' => r = .returned (.agg (arr 64 r11)) ∧ Below w.heap.size w w'

set_option maxRecDepth 100000 in
set_option maxHeartbeats 4000000 in
theorem rdecYF_gen (s : ByteArray) (r1 r2 r3 r4 r5 r6 r7 r8 r9 r10 r11 : Nat → Int) (w : World) (F : rdecYFF s r1 r2 r3 r4 r5 r6 r7 r8 r9 r10 r11) (hs : s.size = 32) (hf : ∀ i, i < 32 → 0 ≤ (upd (bt s) 31 (bits .and .u8 (bt s 31) 127)) i ∧ (upd (bt s) 31 (bits .and .u8 (bt s 31) 127)) i < 256) (ho : decide (bt s 31 / 128 = 1) = false) (he : eqw r10 (fun _ => 0) 0 16 = false) :
    Calls Tryz.prog 8 #[.string s] w fun r w' => r = .returned (.tuple #[.agg (arr 64 r11), .int .i64 0]) ∧ Below w.heap.size w w' := by
  go_enter Tryz.func8, Tryz.ntmps8
  have M := Mem.start w
  refine sr ?_
  refine pl_new M (want_no rfl) (some 2) rfl (.cells (arr 64 (fun _ => 0)) 41) (fun _ => by kernel_rfl) ?_
  intro g1 w1 M
  replace M : Mem w [⟨g1, .cells (arr 64 (fun _ => 0)) 41⟩] w1 := M
  refine pv 3 (.int .i64 0) ?_
  refine nt ?_
  refine wp_seq ?_
  refine sr ?_
  refine pv 12 (.string s) ?_
  refine pl_val (want_no rfl) (some 13) rfl (.int .i64 32) (fun w => Eq.trans (b := .ok (.value (.int .i64 (s.size : Int))) w) (by kernel_rfl) (by rw [hs]; rfl)) ?_
  refine pv 14 (.bool false) ?_
  refine nt ?_
  refine wp_cond_false (by kernel_rfl) ?_
  refine wp_skip ?_
  refine au_then ?_
  refine sr ?_
  refine pv 16 (.string s) ?_
  refine pl_conv M (want_no rfl) (some 17) rfl _ rfl (s) (by kernel_rfl) 32 hs ?_
  intro g2 cg2 Z1 w2 z1 M
  replace M : Mem w [⟨g1, .cells (arr 64 (fun _ => 0)) 41⟩, ⟨g2, Z1⟩] w2 := M
  refine pv 4 (.slice (some ⟨g2, 0, none⟩) 32 cg2) ?_
  refine nt ?_
  refine sr ?_
  refine pv 18 (.slice (some ⟨g2, 0, none⟩) 32 cg2) ?_
  refine pv 19 (.pointer (some ⟨g2, 31, none⟩)) ?_
  refine pl_loadb M (want_no rfl) (some 20) rfl 5 _ rfl 1 g2 31 (by kernel_rfl) (Z1) rfl 32 (bt (s)) z1 (by decide) (fun _ => by kernel_rfl) ?_
  refine pl_val (want_no rfl) (some 21) rfl (.int .u8 (bt (s) 31 / 128)) (fun w => run_bin .shr 5 _ _ rfl (by kernel_rfl) (by kernel_rfl) (fun _ => by kernel_rfl) (run_shr7 _) w) ?_
  refine pl_val (want_no rfl) (some 22) rfl (.bool false) (fun w => Eq.trans (b := .ok (.value (.bool (decide (bt s 31 / 128 = 1)))) w) (by kernel_rfl) (by rw [ho])) ?_
  refine pv 5 (.bool false) ?_
  refine nt ?_
  refine sr ?_
  refine pv 23 (.slice (some ⟨g2, 0, none⟩) 32 cg2) ?_
  refine pv 24 (.slice (some ⟨g2, 0, none⟩) 32 cg2) ?_
  refine pv 25 (.pointer (some ⟨g2, 31, none⟩)) ?_
  refine pl_loadb M (want_no rfl) (some 26) rfl 5 _ rfl 1 g2 31 (by kernel_rfl) (Z1) rfl 32 (bt (s)) z1 (by decide) (fun _ => by kernel_rfl) ?_
  refine pv 27 (.int .u8 (bits .and .u8 ((bt (s)) 31) 127)) ?_
  refine pv 28 (.pointer (some ⟨g2, 31, none⟩)) ?_
  refine pl_storeb M (want_no rfl) rfl 5 _ _ rfl 1 g2 31 (by kernel_rfl) (bits .and .u8 ((bt (s)) 31) 127) (by kernel_rfl) (Z1) rfl 32 (bt (s)) z1 (by decide) inzb ?_
  intro Z2 w3 z2 M
  replace M : Mem w [⟨g1, .cells (arr 64 (fun _ => 0)) 41⟩, ⟨g2, Z2⟩] w3 := M
  refine nt ?_
  refine wp_seq ?_
  refine sr ?_
  refine pv 29 (.slice (some ⟨g2, 0, none⟩) 32 cg2) ?_
  refine pl_back M (want_no rfl) (some 30) rfl _ rfl 1 g2 32 cg2 (by kernel_rfl) (Z2) rfl (upd (bt (s)) 31 (bits .and .u8 ((bt (s)) 31) 127)) z2 hf ?_
  refine pl_call M (want_no rfl) (some 31) rfl 37 #[.string (bs ((List.range 32).map (upd (bt (s)) 31 (bits .and .u8 ((bt (s)) 31) 127))))] (.bool true) (fun _ => by kernel_rfl) F.h1 ?_
  intro w4 M
  refine pv 32 (.bool false) ?_
  refine nt ?_
  refine wp_cond_false (by kernel_rfl) ?_
  refine wp_skip ?_
  refine au_then ?_
  refine sr ?_
  refine pv 34 (.slice (some ⟨g2, 0, none⟩) 32 cg2) ?_
  refine pl_back M (want_no rfl) (some 35) rfl _ rfl 1 g2 32 cg2 (by kernel_rfl) (Z2) rfl (upd (bt (s)) 31 (bits .and .u8 ((bt (s)) 31) 127)) z2 hf ?_
  refine pl_call M (want_no rfl) (some 36) rfl 38 #[.string (bs ((List.range 32).map (upd (bt (s)) 31 (bits .and .u8 ((bt (s)) 31) 127))))] (.agg (arr 16 r1)) (fun _ => by kernel_rfl) F.h2 ?_
  intro w5 M
  refine pl_new M (want_no rfl) (some 6) rfl (.cells (arr 16 (fun _ => 0)) 39) (fun _ => by kernel_rfl) ?_
  intro g3 w6 M
  replace M : Mem w [⟨g1, .cells (arr 64 (fun _ => 0)) 41⟩, ⟨g2, Z2⟩, ⟨g3, .cells (arr 16 (fun _ => 0)) 39⟩] w6 := M
  refine pl_put M (want_no rfl) rfl 39 _ _ rfl 2 g3 (by kernel_rfl) 16 39 (fun _ => 0) r1 rfl (by kernel_rfl) inz39 ?_
  intro w7 M
  replace M : Mem w [⟨g1, .cells (arr 64 (fun _ => 0)) 41⟩, ⟨g2, Z2⟩, ⟨g3, .cells (arr 16 r1) 39⟩] w7 := M
  refine nt ?_
  refine sr ?_
  refine pl_load M (want_no rfl) (some 37) rfl 39 _ rfl 2 g3 0 (by kernel_rfl) 16 39 r1 rfl 16 r1 (Part.all _ _) (by decide) _ Tryz.underlying39 rfl inz39 ?_
  refine pl_load M (want_no rfl) (some 38) rfl 39 _ rfl 2 g3 0 (by kernel_rfl) 16 39 r1 rfl 16 r1 (Part.all _ _) (by decide) _ Tryz.underlying39 rfl inz39 ?_
  refine pl_call M (want_no rfl) (some 39) rfl 39 #[.agg (arr 16 r1), .agg (arr 16 r1)] (.agg (arr 16 r2)) (fun _ => by kernel_rfl) F.h3 ?_
  intro w8 M
  refine pl_new M (want_no rfl) (some 7) rfl (.cells (arr 16 (fun _ => 0)) 39) (fun _ => by kernel_rfl) ?_
  intro g4 w9 M
  replace M : Mem w [⟨g1, .cells (arr 64 (fun _ => 0)) 41⟩, ⟨g2, Z2⟩, ⟨g3, .cells (arr 16 r1) 39⟩, ⟨g4, .cells (arr 16 (fun _ => 0)) 39⟩] w9 := M
  refine pl_put M (want_no rfl) rfl 39 _ _ rfl 3 g4 (by kernel_rfl) 16 39 (fun _ => 0) r2 rfl (by kernel_rfl) inz39 ?_
  intro w10 M
  replace M : Mem w [⟨g1, .cells (arr 64 (fun _ => 0)) 41⟩, ⟨g2, Z2⟩, ⟨g3, .cells (arr 16 r1) 39⟩, ⟨g4, .cells (arr 16 r2) 39⟩] w10 := M
  refine nt ?_
  refine wp_seq ?_
  refine rg_allocs M 3 [(8, 39, 16)] (by kernel_rfl) (by kernel_rfl) ⟨rfl, rfl, fun _ _ => by kernel_rfl, trivial⟩ (by decide) ?_
  simp only [List.take_succ_cons, List.take_zero]
  refine k_load M (want_no rfl) (some 40) rfl 39 _ rfl 3 g4 0 (by kernel_rfl) 16 39 r2 rfl 16 r2 (Part.all _ _) (by decide) _ Tryz.underlying39 rfl inz39 ?_
  refine k_call (want_no rfl) (some 41) rfl 41 #[.int .u32 1] (.agg (arr 16 r3)) (fun _ => by kernel_rfl) F.h4 ?_
  refine k_call (want_no rfl) (some 42) rfl 40 #[.agg (arr 16 r2), .agg (arr 16 r3)] (.agg (arr 16 r4)) (fun _ => by kernel_rfl) F.h5 ?_
  refine kl_nil ?_
  intro w11 g5 M
  replace M : Mem w [⟨g1, .cells (arr 64 (fun _ => 0)) 41⟩, ⟨g2, Z2⟩, ⟨g3, .cells (arr 16 r1) 39⟩, ⟨g4, .cells (arr 16 r2) 39⟩, ⟨g5, .cells (arr 16 (fun _ => 0)) 39⟩] w11 := M
  refine pl_put M (want_no rfl) rfl 39 _ _ rfl 4 g5 (by kernel_rfl) 16 39 (fun _ => 0) r4 rfl (by kernel_rfl) inz39 ?_
  intro w12 M
  replace M : Mem w [⟨g1, .cells (arr 64 (fun _ => 0)) 41⟩, ⟨g2, Z2⟩, ⟨g3, .cells (arr 16 r1) 39⟩, ⟨g4, .cells (arr 16 r2) 39⟩, ⟨g5, .cells (arr 16 r4) 39⟩] w12 := M
  refine nt ?_
  refine wp_seq ?_
  refine rg_allocs M 5 [(9, 39, 16)] (by kernel_rfl) (by kernel_rfl) ⟨rfl, rfl, fun _ _ => by kernel_rfl, trivial⟩ (by decide) ?_
  simp only [List.take_succ_cons, List.take_zero]
  refine k_call (want_no rfl) (some 43) rfl 42 #[] (.agg (arr 16 r5)) (fun _ => by kernel_rfl) F.h6 ?_
  refine k_load M (want_no rfl) (some 44) rfl 39 _ rfl 3 g4 0 (by kernel_rfl) 16 39 r2 rfl 16 r2 (Part.all _ _) (by decide) _ Tryz.underlying39 rfl inz39 ?_
  refine k_call (want_no rfl) (some 45) rfl 39 #[.agg (arr 16 r5), .agg (arr 16 r2)] (.agg (arr 16 r6)) (fun _ => by kernel_rfl) F.h7 ?_
  refine k_call (want_no rfl) (some 46) rfl 41 #[.int .u32 1] (.agg (arr 16 r3)) (fun _ => by kernel_rfl) F.h4 ?_
  refine k_call (want_no rfl) (some 47) rfl 43 #[.agg (arr 16 r6), .agg (arr 16 r3)] (.agg (arr 16 r7)) (fun _ => by kernel_rfl) F.h8 ?_
  refine kl_nil ?_
  intro w13 g6 M
  replace M : Mem w [⟨g1, .cells (arr 64 (fun _ => 0)) 41⟩, ⟨g2, Z2⟩, ⟨g3, .cells (arr 16 r1) 39⟩, ⟨g4, .cells (arr 16 r2) 39⟩, ⟨g5, .cells (arr 16 r4) 39⟩, ⟨g6, .cells (arr 16 (fun _ => 0)) 39⟩] w13 := M
  refine pl_put M (want_no rfl) rfl 39 _ _ rfl 5 g6 (by kernel_rfl) 16 39 (fun _ => 0) r7 rfl (by kernel_rfl) inz39 ?_
  intro w14 M
  replace M : Mem w [⟨g1, .cells (arr 64 (fun _ => 0)) 41⟩, ⟨g2, Z2⟩, ⟨g3, .cells (arr 16 r1) 39⟩, ⟨g4, .cells (arr 16 r2) 39⟩, ⟨g5, .cells (arr 16 r4) 39⟩, ⟨g6, .cells (arr 16 r7) 39⟩] w14 := M
  refine nt ?_
  refine wp_seq ?_
  refine region_cut (fun a0 a' w' => ∃ gT8 : Nat, a' = ((((((((((a0.put (some 49) (.agg (arr 16 r4))).put (some 50) (.agg (arr 16 r7))).put (some 51) (.agg (arr 16 r8))).put (some 52) (.agg (arr 16 r9))).put (some 53) (.tuple #[.agg (arr 16 r10), .bool true])).put (some 48) (.tuple #[.agg (arr 16 r10), .bool true])).put (some 54) (.agg (arr 16 r10))).put (some 55) (.bool true)).put (some 10) (.pointer (some ⟨gT8, 0, none⟩))).put (some 11) (.bool true)) ∧ Mem w [⟨g1, .cells (arr 64 (fun _ => 0)) 41⟩, ⟨g2, Z2⟩, ⟨g3, .cells (arr 16 r1) 39⟩, ⟨g4, .cells (arr 16 r2) 39⟩, ⟨g5, .cells (arr 16 r4) 39⟩, ⟨g6, .cells (arr 16 r7) 39⟩, ⟨gT8, .cells (arr 16 r10) 39⟩] w') (by kernel_rfl) ?_ ?_
  rotate_left
  · intro hrest
    replace M := M.drew
    refine rdy [0, 1, 8] ?_
    refine rd_load M rfl rfl (some 49) rfl 39 _ rfl 4 g5 (by kernel_rfl) 16 39 r4 rfl _ Tryz.underlying39 rfl inz39 ?_ ?_
    · skip
      refine rdy [1, 8] ?_
      refine rd_load M rfl rfl (some 50) rfl 39 _ rfl 5 g6 (by kernel_rfl) 16 39 r7 rfl _ Tryz.underlying39 rfl inz39 ?_ ?_
      · skip
        refine rdy [2, 8] ?_
        refine rd_call M rfl rfl (some 51) rfl 44 #[.agg (arr 16 r7)] (.agg (arr 16 r8)) (fun _ => by kernel_rfl) F.h9 ?_ ?_
        · intro u1 M
          refine rdy [3, 8] ?_
          refine rd_call M rfl rfl (some 52) rfl 39 #[.agg (arr 16 r4), .agg (arr 16 r8)] (.agg (arr 16 r9)) (fun _ => by kernel_rfl) F.h10 ?_ ?_
          · intro u2 M
            refine rdy [4, 8] ?_
            refine rd_call M rfl rfl (some 53) rfl 45 #[.agg (arr 16 r9)] (.tuple #[.agg (arr 16 r10), .bool true]) (fun _ => by kernel_rfl) F.h11 ?_ ?_
            · intro u3 M
              refine tk 5 (.tuple #[.agg (arr 16 r10), .bool true]) ?_
              refine tk 6 (.agg (arr 16 r10)) ?_
              refine tk 7 (.bool true) ?_
              refine rdy [8] ?_
              refine rd_new M rfl rfl (some 10) rfl (.cells (arr 16 (fun _ => 0)) 39) (fun _ => by kernel_rfl) ?_ ?_
              · intro k4 u4 M
                refine rdy [9] ?_
                refine rd_put M rfl rfl rfl 39 _ _ rfl 6 k4 (by kernel_rfl) 16 39 (fun _ => 0) r10 rfl (by kernel_rfl) inz39 ?_ ?_
                · intro u5 M
                  refine tk 10 (.bool true) ?_
                  exact rd_end (by kernel_rfl) (hrest _ _ ⟨k4, by kernel_rfl, M⟩) _
                exact AllReady.nil
              exact AllReady.nil
            refine rd_new M rfl rfl (some 10) rfl (.cells (arr 16 (fun _ => 0)) 39) (fun _ => by kernel_rfl) ?_ ?_
            · intro k6 u6 M
              refine rdy [4] ?_
              refine rd_call M rfl rfl (some 53) rfl 45 #[.agg (arr 16 r9)] (.tuple #[.agg (arr 16 r10), .bool true]) (fun _ => by kernel_rfl) F.h11 ?_ ?_
              · intro u7 M
                refine tk 5 (.tuple #[.agg (arr 16 r10), .bool true]) ?_
                refine tk 6 (.agg (arr 16 r10)) ?_
                refine tk 7 (.bool true) ?_
                refine rdy [9] ?_
                refine rd_put M rfl rfl rfl 39 _ _ rfl 6 k6 (by kernel_rfl) 16 39 (fun _ => 0) r10 rfl (by kernel_rfl) inz39 ?_ ?_
                · intro u8 M
                  refine tk 10 (.bool true) ?_
                  exact rd_end (by kernel_rfl) (hrest _ _ ⟨k6, by kernel_rfl, M⟩) _
                exact AllReady.nil
              exact AllReady.nil
            exact AllReady.nil
          refine rd_new M rfl rfl (some 10) rfl (.cells (arr 16 (fun _ => 0)) 39) (fun _ => by kernel_rfl) ?_ ?_
          · intro k9 u9 M
            refine rdy [3] ?_
            refine rd_call M rfl rfl (some 52) rfl 39 #[.agg (arr 16 r4), .agg (arr 16 r8)] (.agg (arr 16 r9)) (fun _ => by kernel_rfl) F.h10 ?_ ?_
            · intro u10 M
              refine rdy [4] ?_
              refine rd_call M rfl rfl (some 53) rfl 45 #[.agg (arr 16 r9)] (.tuple #[.agg (arr 16 r10), .bool true]) (fun _ => by kernel_rfl) F.h11 ?_ ?_
              · intro u11 M
                refine tk 5 (.tuple #[.agg (arr 16 r10), .bool true]) ?_
                refine tk 6 (.agg (arr 16 r10)) ?_
                refine tk 7 (.bool true) ?_
                refine rdy [9] ?_
                refine rd_put M rfl rfl rfl 39 _ _ rfl 6 k9 (by kernel_rfl) 16 39 (fun _ => 0) r10 rfl (by kernel_rfl) inz39 ?_ ?_
                · intro u12 M
                  refine tk 10 (.bool true) ?_
                  exact rd_end (by kernel_rfl) (hrest _ _ ⟨k9, by kernel_rfl, M⟩) _
                exact AllReady.nil
              exact AllReady.nil
            exact AllReady.nil
          exact AllReady.nil
        refine rd_new M rfl rfl (some 10) rfl (.cells (arr 16 (fun _ => 0)) 39) (fun _ => by kernel_rfl) ?_ ?_
        · intro k13 u13 M
          refine rdy [2] ?_
          refine rd_call M rfl rfl (some 51) rfl 44 #[.agg (arr 16 r7)] (.agg (arr 16 r8)) (fun _ => by kernel_rfl) F.h9 ?_ ?_
          · intro u14 M
            refine rdy [3] ?_
            refine rd_call M rfl rfl (some 52) rfl 39 #[.agg (arr 16 r4), .agg (arr 16 r8)] (.agg (arr 16 r9)) (fun _ => by kernel_rfl) F.h10 ?_ ?_
            · intro u15 M
              refine rdy [4] ?_
              refine rd_call M rfl rfl (some 53) rfl 45 #[.agg (arr 16 r9)] (.tuple #[.agg (arr 16 r10), .bool true]) (fun _ => by kernel_rfl) F.h11 ?_ ?_
              · intro u16 M
                refine tk 5 (.tuple #[.agg (arr 16 r10), .bool true]) ?_
                refine tk 6 (.agg (arr 16 r10)) ?_
                refine tk 7 (.bool true) ?_
                refine rdy [9] ?_
                refine rd_put M rfl rfl rfl 39 _ _ rfl 6 k13 (by kernel_rfl) 16 39 (fun _ => 0) r10 rfl (by kernel_rfl) inz39 ?_ ?_
                · intro u17 M
                  refine tk 10 (.bool true) ?_
                  exact rd_end (by kernel_rfl) (hrest _ _ ⟨k13, by kernel_rfl, M⟩) _
                exact AllReady.nil
              exact AllReady.nil
            exact AllReady.nil
          exact AllReady.nil
        exact AllReady.nil
      refine rd_new M rfl rfl (some 10) rfl (.cells (arr 16 (fun _ => 0)) 39) (fun _ => by kernel_rfl) ?_ ?_
      · intro k18 u18 M
        refine rdy [1] ?_
        refine rd_load M rfl rfl (some 50) rfl 39 _ rfl 5 g6 (by kernel_rfl) 16 39 r7 rfl _ Tryz.underlying39 rfl inz39 ?_ ?_
        · skip
          refine rdy [2] ?_
          refine rd_call M rfl rfl (some 51) rfl 44 #[.agg (arr 16 r7)] (.agg (arr 16 r8)) (fun _ => by kernel_rfl) F.h9 ?_ ?_
          · intro u19 M
            refine rdy [3] ?_
            refine rd_call M rfl rfl (some 52) rfl 39 #[.agg (arr 16 r4), .agg (arr 16 r8)] (.agg (arr 16 r9)) (fun _ => by kernel_rfl) F.h10 ?_ ?_
            · intro u20 M
              refine rdy [4] ?_
              refine rd_call M rfl rfl (some 53) rfl 45 #[.agg (arr 16 r9)] (.tuple #[.agg (arr 16 r10), .bool true]) (fun _ => by kernel_rfl) F.h11 ?_ ?_
              · intro u21 M
                refine tk 5 (.tuple #[.agg (arr 16 r10), .bool true]) ?_
                refine tk 6 (.agg (arr 16 r10)) ?_
                refine tk 7 (.bool true) ?_
                refine rdy [9] ?_
                refine rd_put M rfl rfl rfl 39 _ _ rfl 6 k18 (by kernel_rfl) 16 39 (fun _ => 0) r10 rfl (by kernel_rfl) inz39 ?_ ?_
                · intro u22 M
                  refine tk 10 (.bool true) ?_
                  exact rd_end (by kernel_rfl) (hrest _ _ ⟨k18, by kernel_rfl, M⟩) _
                exact AllReady.nil
              exact AllReady.nil
            exact AllReady.nil
          exact AllReady.nil
        exact AllReady.nil
      exact AllReady.nil
    refine rd_load M rfl rfl (some 50) rfl 39 _ rfl 5 g6 (by kernel_rfl) 16 39 r7 rfl _ Tryz.underlying39 rfl inz39 ?_ ?_
    · skip
      refine rdy [0, 2, 8] ?_
      refine rd_load M rfl rfl (some 49) rfl 39 _ rfl 4 g5 (by kernel_rfl) 16 39 r4 rfl _ Tryz.underlying39 rfl inz39 ?_ ?_
      · skip
        refine rdy [2, 8] ?_
        refine rd_call M rfl rfl (some 51) rfl 44 #[.agg (arr 16 r7)] (.agg (arr 16 r8)) (fun _ => by kernel_rfl) F.h9 ?_ ?_
        · intro u23 M
          refine rdy [3, 8] ?_
          refine rd_call M rfl rfl (some 52) rfl 39 #[.agg (arr 16 r4), .agg (arr 16 r8)] (.agg (arr 16 r9)) (fun _ => by kernel_rfl) F.h10 ?_ ?_
          · intro u24 M
            refine rdy [4, 8] ?_
            refine rd_call M rfl rfl (some 53) rfl 45 #[.agg (arr 16 r9)] (.tuple #[.agg (arr 16 r10), .bool true]) (fun _ => by kernel_rfl) F.h11 ?_ ?_
            · intro u25 M
              refine tk 5 (.tuple #[.agg (arr 16 r10), .bool true]) ?_
              refine tk 6 (.agg (arr 16 r10)) ?_
              refine tk 7 (.bool true) ?_
              refine rdy [8] ?_
              refine rd_new M rfl rfl (some 10) rfl (.cells (arr 16 (fun _ => 0)) 39) (fun _ => by kernel_rfl) ?_ ?_
              · intro k26 u26 M
                refine rdy [9] ?_
                refine rd_put M rfl rfl rfl 39 _ _ rfl 6 k26 (by kernel_rfl) 16 39 (fun _ => 0) r10 rfl (by kernel_rfl) inz39 ?_ ?_
                · intro u27 M
                  refine tk 10 (.bool true) ?_
                  exact rd_end (by kernel_rfl) (hrest _ _ ⟨k26, by kernel_rfl, M⟩) _
                exact AllReady.nil
              exact AllReady.nil
            refine rd_new M rfl rfl (some 10) rfl (.cells (arr 16 (fun _ => 0)) 39) (fun _ => by kernel_rfl) ?_ ?_
            · intro k28 u28 M
              refine rdy [4] ?_
              refine rd_call M rfl rfl (some 53) rfl 45 #[.agg (arr 16 r9)] (.tuple #[.agg (arr 16 r10), .bool true]) (fun _ => by kernel_rfl) F.h11 ?_ ?_
              · intro u29 M
                refine tk 5 (.tuple #[.agg (arr 16 r10), .bool true]) ?_
                refine tk 6 (.agg (arr 16 r10)) ?_
                refine tk 7 (.bool true) ?_
                refine rdy [9] ?_
                refine rd_put M rfl rfl rfl 39 _ _ rfl 6 k28 (by kernel_rfl) 16 39 (fun _ => 0) r10 rfl (by kernel_rfl) inz39 ?_ ?_
                · intro u30 M
                  refine tk 10 (.bool true) ?_
                  exact rd_end (by kernel_rfl) (hrest _ _ ⟨k28, by kernel_rfl, M⟩) _
                exact AllReady.nil
              exact AllReady.nil
            exact AllReady.nil
          refine rd_new M rfl rfl (some 10) rfl (.cells (arr 16 (fun _ => 0)) 39) (fun _ => by kernel_rfl) ?_ ?_
          · intro k31 u31 M
            refine rdy [3] ?_
            refine rd_call M rfl rfl (some 52) rfl 39 #[.agg (arr 16 r4), .agg (arr 16 r8)] (.agg (arr 16 r9)) (fun _ => by kernel_rfl) F.h10 ?_ ?_
            · intro u32 M
              refine rdy [4] ?_
              refine rd_call M rfl rfl (some 53) rfl 45 #[.agg (arr 16 r9)] (.tuple #[.agg (arr 16 r10), .bool true]) (fun _ => by kernel_rfl) F.h11 ?_ ?_
              · intro u33 M
                refine tk 5 (.tuple #[.agg (arr 16 r10), .bool true]) ?_
                refine tk 6 (.agg (arr 16 r10)) ?_
                refine tk 7 (.bool true) ?_
                refine rdy [9] ?_
                refine rd_put M rfl rfl rfl 39 _ _ rfl 6 k31 (by kernel_rfl) 16 39 (fun _ => 0) r10 rfl (by kernel_rfl) inz39 ?_ ?_
                · intro u34 M
                  refine tk 10 (.bool true) ?_
                  exact rd_end (by kernel_rfl) (hrest _ _ ⟨k31, by kernel_rfl, M⟩) _
                exact AllReady.nil
              exact AllReady.nil
            exact AllReady.nil
          exact AllReady.nil
        refine rd_new M rfl rfl (some 10) rfl (.cells (arr 16 (fun _ => 0)) 39) (fun _ => by kernel_rfl) ?_ ?_
        · intro k35 u35 M
          refine rdy [2] ?_
          refine rd_call M rfl rfl (some 51) rfl 44 #[.agg (arr 16 r7)] (.agg (arr 16 r8)) (fun _ => by kernel_rfl) F.h9 ?_ ?_
          · intro u36 M
            refine rdy [3] ?_
            refine rd_call M rfl rfl (some 52) rfl 39 #[.agg (arr 16 r4), .agg (arr 16 r8)] (.agg (arr 16 r9)) (fun _ => by kernel_rfl) F.h10 ?_ ?_
            · intro u37 M
              refine rdy [4] ?_
              refine rd_call M rfl rfl (some 53) rfl 45 #[.agg (arr 16 r9)] (.tuple #[.agg (arr 16 r10), .bool true]) (fun _ => by kernel_rfl) F.h11 ?_ ?_
              · intro u38 M
                refine tk 5 (.tuple #[.agg (arr 16 r10), .bool true]) ?_
                refine tk 6 (.agg (arr 16 r10)) ?_
                refine tk 7 (.bool true) ?_
                refine rdy [9] ?_
                refine rd_put M rfl rfl rfl 39 _ _ rfl 6 k35 (by kernel_rfl) 16 39 (fun _ => 0) r10 rfl (by kernel_rfl) inz39 ?_ ?_
                · intro u39 M
                  refine tk 10 (.bool true) ?_
                  exact rd_end (by kernel_rfl) (hrest _ _ ⟨k35, by kernel_rfl, M⟩) _
                exact AllReady.nil
              exact AllReady.nil
            exact AllReady.nil
          exact AllReady.nil
        exact AllReady.nil
      refine rd_call M rfl rfl (some 51) rfl 44 #[.agg (arr 16 r7)] (.agg (arr 16 r8)) (fun _ => by kernel_rfl) F.h9 ?_ ?_
      · intro u40 M
        refine rdy [0, 8] ?_
        refine rd_load M rfl rfl (some 49) rfl 39 _ rfl 4 g5 (by kernel_rfl) 16 39 r4 rfl _ Tryz.underlying39 rfl inz39 ?_ ?_
        · skip
          refine rdy [3, 8] ?_
          refine rd_call M rfl rfl (some 52) rfl 39 #[.agg (arr 16 r4), .agg (arr 16 r8)] (.agg (arr 16 r9)) (fun _ => by kernel_rfl) F.h10 ?_ ?_
          · intro u41 M
            refine rdy [4, 8] ?_
            refine rd_call M rfl rfl (some 53) rfl 45 #[.agg (arr 16 r9)] (.tuple #[.agg (arr 16 r10), .bool true]) (fun _ => by kernel_rfl) F.h11 ?_ ?_
            · intro u42 M
              refine tk 5 (.tuple #[.agg (arr 16 r10), .bool true]) ?_
              refine tk 6 (.agg (arr 16 r10)) ?_
              refine tk 7 (.bool true) ?_
              refine rdy [8] ?_
              refine rd_new M rfl rfl (some 10) rfl (.cells (arr 16 (fun _ => 0)) 39) (fun _ => by kernel_rfl) ?_ ?_
              · intro k43 u43 M
                refine rdy [9] ?_
                refine rd_put M rfl rfl rfl 39 _ _ rfl 6 k43 (by kernel_rfl) 16 39 (fun _ => 0) r10 rfl (by kernel_rfl) inz39 ?_ ?_
                · intro u44 M
                  refine tk 10 (.bool true) ?_
                  exact rd_end (by kernel_rfl) (hrest _ _ ⟨k43, by kernel_rfl, M⟩) _
                exact AllReady.nil
              exact AllReady.nil
            refine rd_new M rfl rfl (some 10) rfl (.cells (arr 16 (fun _ => 0)) 39) (fun _ => by kernel_rfl) ?_ ?_
            · intro k45 u45 M
              refine rdy [4] ?_
              refine rd_call M rfl rfl (some 53) rfl 45 #[.agg (arr 16 r9)] (.tuple #[.agg (arr 16 r10), .bool true]) (fun _ => by kernel_rfl) F.h11 ?_ ?_
              · intro u46 M
                refine tk 5 (.tuple #[.agg (arr 16 r10), .bool true]) ?_
                refine tk 6 (.agg (arr 16 r10)) ?_
                refine tk 7 (.bool true) ?_
                refine rdy [9] ?_
                refine rd_put M rfl rfl rfl 39 _ _ rfl 6 k45 (by kernel_rfl) 16 39 (fun _ => 0) r10 rfl (by kernel_rfl) inz39 ?_ ?_
                · intro u47 M
                  refine tk 10 (.bool true) ?_
                  exact rd_end (by kernel_rfl) (hrest _ _ ⟨k45, by kernel_rfl, M⟩) _
                exact AllReady.nil
              exact AllReady.nil
            exact AllReady.nil
          refine rd_new M rfl rfl (some 10) rfl (.cells (arr 16 (fun _ => 0)) 39) (fun _ => by kernel_rfl) ?_ ?_
          · intro k48 u48 M
            refine rdy [3] ?_
            refine rd_call M rfl rfl (some 52) rfl 39 #[.agg (arr 16 r4), .agg (arr 16 r8)] (.agg (arr 16 r9)) (fun _ => by kernel_rfl) F.h10 ?_ ?_
            · intro u49 M
              refine rdy [4] ?_
              refine rd_call M rfl rfl (some 53) rfl 45 #[.agg (arr 16 r9)] (.tuple #[.agg (arr 16 r10), .bool true]) (fun _ => by kernel_rfl) F.h11 ?_ ?_
              · intro u50 M
                refine tk 5 (.tuple #[.agg (arr 16 r10), .bool true]) ?_
                refine tk 6 (.agg (arr 16 r10)) ?_
                refine tk 7 (.bool true) ?_
                refine rdy [9] ?_
                refine rd_put M rfl rfl rfl 39 _ _ rfl 6 k48 (by kernel_rfl) 16 39 (fun _ => 0) r10 rfl (by kernel_rfl) inz39 ?_ ?_
                · intro u51 M
                  refine tk 10 (.bool true) ?_
                  exact rd_end (by kernel_rfl) (hrest _ _ ⟨k48, by kernel_rfl, M⟩) _
                exact AllReady.nil
              exact AllReady.nil
            exact AllReady.nil
          exact AllReady.nil
        refine rd_new M rfl rfl (some 10) rfl (.cells (arr 16 (fun _ => 0)) 39) (fun _ => by kernel_rfl) ?_ ?_
        · intro k52 u52 M
          refine rdy [0] ?_
          refine rd_load M rfl rfl (some 49) rfl 39 _ rfl 4 g5 (by kernel_rfl) 16 39 r4 rfl _ Tryz.underlying39 rfl inz39 ?_ ?_
          · skip
            refine rdy [3] ?_
            refine rd_call M rfl rfl (some 52) rfl 39 #[.agg (arr 16 r4), .agg (arr 16 r8)] (.agg (arr 16 r9)) (fun _ => by kernel_rfl) F.h10 ?_ ?_
            · intro u53 M
              refine rdy [4] ?_
              refine rd_call M rfl rfl (some 53) rfl 45 #[.agg (arr 16 r9)] (.tuple #[.agg (arr 16 r10), .bool true]) (fun _ => by kernel_rfl) F.h11 ?_ ?_
              · intro u54 M
                refine tk 5 (.tuple #[.agg (arr 16 r10), .bool true]) ?_
                refine tk 6 (.agg (arr 16 r10)) ?_
                refine tk 7 (.bool true) ?_
                refine rdy [9] ?_
                refine rd_put M rfl rfl rfl 39 _ _ rfl 6 k52 (by kernel_rfl) 16 39 (fun _ => 0) r10 rfl (by kernel_rfl) inz39 ?_ ?_
                · intro u55 M
                  refine tk 10 (.bool true) ?_
                  exact rd_end (by kernel_rfl) (hrest _ _ ⟨k52, by kernel_rfl, M⟩) _
                exact AllReady.nil
              exact AllReady.nil
            exact AllReady.nil
          exact AllReady.nil
        exact AllReady.nil
      refine rd_new M rfl rfl (some 10) rfl (.cells (arr 16 (fun _ => 0)) 39) (fun _ => by kernel_rfl) ?_ ?_
      · intro k56 u56 M
        refine rdy [0, 2] ?_
        refine rd_load M rfl rfl (some 49) rfl 39 _ rfl 4 g5 (by kernel_rfl) 16 39 r4 rfl _ Tryz.underlying39 rfl inz39 ?_ ?_
        · skip
          refine rdy [2] ?_
          refine rd_call M rfl rfl (some 51) rfl 44 #[.agg (arr 16 r7)] (.agg (arr 16 r8)) (fun _ => by kernel_rfl) F.h9 ?_ ?_
          · intro u57 M
            refine rdy [3] ?_
            refine rd_call M rfl rfl (some 52) rfl 39 #[.agg (arr 16 r4), .agg (arr 16 r8)] (.agg (arr 16 r9)) (fun _ => by kernel_rfl) F.h10 ?_ ?_
            · intro u58 M
              refine rdy [4] ?_
              refine rd_call M rfl rfl (some 53) rfl 45 #[.agg (arr 16 r9)] (.tuple #[.agg (arr 16 r10), .bool true]) (fun _ => by kernel_rfl) F.h11 ?_ ?_
              · intro u59 M
                refine tk 5 (.tuple #[.agg (arr 16 r10), .bool true]) ?_
                refine tk 6 (.agg (arr 16 r10)) ?_
                refine tk 7 (.bool true) ?_
                refine rdy [9] ?_
                refine rd_put M rfl rfl rfl 39 _ _ rfl 6 k56 (by kernel_rfl) 16 39 (fun _ => 0) r10 rfl (by kernel_rfl) inz39 ?_ ?_
                · intro u60 M
                  refine tk 10 (.bool true) ?_
                  exact rd_end (by kernel_rfl) (hrest _ _ ⟨k56, by kernel_rfl, M⟩) _
                exact AllReady.nil
              exact AllReady.nil
            exact AllReady.nil
          exact AllReady.nil
        refine rd_call M rfl rfl (some 51) rfl 44 #[.agg (arr 16 r7)] (.agg (arr 16 r8)) (fun _ => by kernel_rfl) F.h9 ?_ ?_
        · intro u61 M
          refine rdy [0] ?_
          refine rd_load M rfl rfl (some 49) rfl 39 _ rfl 4 g5 (by kernel_rfl) 16 39 r4 rfl _ Tryz.underlying39 rfl inz39 ?_ ?_
          · skip
            refine rdy [3] ?_
            refine rd_call M rfl rfl (some 52) rfl 39 #[.agg (arr 16 r4), .agg (arr 16 r8)] (.agg (arr 16 r9)) (fun _ => by kernel_rfl) F.h10 ?_ ?_
            · intro u62 M
              refine rdy [4] ?_
              refine rd_call M rfl rfl (some 53) rfl 45 #[.agg (arr 16 r9)] (.tuple #[.agg (arr 16 r10), .bool true]) (fun _ => by kernel_rfl) F.h11 ?_ ?_
              · intro u63 M
                refine tk 5 (.tuple #[.agg (arr 16 r10), .bool true]) ?_
                refine tk 6 (.agg (arr 16 r10)) ?_
                refine tk 7 (.bool true) ?_
                refine rdy [9] ?_
                refine rd_put M rfl rfl rfl 39 _ _ rfl 6 k56 (by kernel_rfl) 16 39 (fun _ => 0) r10 rfl (by kernel_rfl) inz39 ?_ ?_
                · intro u64 M
                  refine tk 10 (.bool true) ?_
                  exact rd_end (by kernel_rfl) (hrest _ _ ⟨k56, by kernel_rfl, M⟩) _
                exact AllReady.nil
              exact AllReady.nil
            exact AllReady.nil
          exact AllReady.nil
        exact AllReady.nil
      exact AllReady.nil
    refine rd_new M rfl rfl (some 10) rfl (.cells (arr 16 (fun _ => 0)) 39) (fun _ => by kernel_rfl) ?_ ?_
    · intro k65 u65 M
      refine rdy [0, 1] ?_
      refine rd_load M rfl rfl (some 49) rfl 39 _ rfl 4 g5 (by kernel_rfl) 16 39 r4 rfl _ Tryz.underlying39 rfl inz39 ?_ ?_
      · skip
        refine rdy [1] ?_
        refine rd_load M rfl rfl (some 50) rfl 39 _ rfl 5 g6 (by kernel_rfl) 16 39 r7 rfl _ Tryz.underlying39 rfl inz39 ?_ ?_
        · skip
          refine rdy [2] ?_
          refine rd_call M rfl rfl (some 51) rfl 44 #[.agg (arr 16 r7)] (.agg (arr 16 r8)) (fun _ => by kernel_rfl) F.h9 ?_ ?_
          · intro u66 M
            refine rdy [3] ?_
            refine rd_call M rfl rfl (some 52) rfl 39 #[.agg (arr 16 r4), .agg (arr 16 r8)] (.agg (arr 16 r9)) (fun _ => by kernel_rfl) F.h10 ?_ ?_
            · intro u67 M
              refine rdy [4] ?_
              refine rd_call M rfl rfl (some 53) rfl 45 #[.agg (arr 16 r9)] (.tuple #[.agg (arr 16 r10), .bool true]) (fun _ => by kernel_rfl) F.h11 ?_ ?_
              · intro u68 M
                refine tk 5 (.tuple #[.agg (arr 16 r10), .bool true]) ?_
                refine tk 6 (.agg (arr 16 r10)) ?_
                refine tk 7 (.bool true) ?_
                refine rdy [9] ?_
                refine rd_put M rfl rfl rfl 39 _ _ rfl 6 k65 (by kernel_rfl) 16 39 (fun _ => 0) r10 rfl (by kernel_rfl) inz39 ?_ ?_
                · intro u69 M
                  refine tk 10 (.bool true) ?_
                  exact rd_end (by kernel_rfl) (hrest _ _ ⟨k65, by kernel_rfl, M⟩) _
                exact AllReady.nil
              exact AllReady.nil
            exact AllReady.nil
          exact AllReady.nil
        exact AllReady.nil
      refine rd_load M rfl rfl (some 50) rfl 39 _ rfl 5 g6 (by kernel_rfl) 16 39 r7 rfl _ Tryz.underlying39 rfl inz39 ?_ ?_
      · skip
        refine rdy [0, 2] ?_
        refine rd_load M rfl rfl (some 49) rfl 39 _ rfl 4 g5 (by kernel_rfl) 16 39 r4 rfl _ Tryz.underlying39 rfl inz39 ?_ ?_
        · skip
          refine rdy [2] ?_
          refine rd_call M rfl rfl (some 51) rfl 44 #[.agg (arr 16 r7)] (.agg (arr 16 r8)) (fun _ => by kernel_rfl) F.h9 ?_ ?_
          · intro u70 M
            refine rdy [3] ?_
            refine rd_call M rfl rfl (some 52) rfl 39 #[.agg (arr 16 r4), .agg (arr 16 r8)] (.agg (arr 16 r9)) (fun _ => by kernel_rfl) F.h10 ?_ ?_
            · intro u71 M
              refine rdy [4] ?_
              refine rd_call M rfl rfl (some 53) rfl 45 #[.agg (arr 16 r9)] (.tuple #[.agg (arr 16 r10), .bool true]) (fun _ => by kernel_rfl) F.h11 ?_ ?_
              · intro u72 M
                refine tk 5 (.tuple #[.agg (arr 16 r10), .bool true]) ?_
                refine tk 6 (.agg (arr 16 r10)) ?_
                refine tk 7 (.bool true) ?_
                refine rdy [9] ?_
                refine rd_put M rfl rfl rfl 39 _ _ rfl 6 k65 (by kernel_rfl) 16 39 (fun _ => 0) r10 rfl (by kernel_rfl) inz39 ?_ ?_
                · intro u73 M
                  refine tk 10 (.bool true) ?_
                  exact rd_end (by kernel_rfl) (hrest _ _ ⟨k65, by kernel_rfl, M⟩) _
                exact AllReady.nil
              exact AllReady.nil
            exact AllReady.nil
          exact AllReady.nil
        refine rd_call M rfl rfl (some 51) rfl 44 #[.agg (arr 16 r7)] (.agg (arr 16 r8)) (fun _ => by kernel_rfl) F.h9 ?_ ?_
        · intro u74 M
          refine rdy [0] ?_
          refine rd_load M rfl rfl (some 49) rfl 39 _ rfl 4 g5 (by kernel_rfl) 16 39 r4 rfl _ Tryz.underlying39 rfl inz39 ?_ ?_
          · skip
            refine rdy [3] ?_
            refine rd_call M rfl rfl (some 52) rfl 39 #[.agg (arr 16 r4), .agg (arr 16 r8)] (.agg (arr 16 r9)) (fun _ => by kernel_rfl) F.h10 ?_ ?_
            · intro u75 M
              refine rdy [4] ?_
              refine rd_call M rfl rfl (some 53) rfl 45 #[.agg (arr 16 r9)] (.tuple #[.agg (arr 16 r10), .bool true]) (fun _ => by kernel_rfl) F.h11 ?_ ?_
              · intro u76 M
                refine tk 5 (.tuple #[.agg (arr 16 r10), .bool true]) ?_
                refine tk 6 (.agg (arr 16 r10)) ?_
                refine tk 7 (.bool true) ?_
                refine rdy [9] ?_
                refine rd_put M rfl rfl rfl 39 _ _ rfl 6 k65 (by kernel_rfl) 16 39 (fun _ => 0) r10 rfl (by kernel_rfl) inz39 ?_ ?_
                · intro u77 M
                  refine tk 10 (.bool true) ?_
                  exact rd_end (by kernel_rfl) (hrest _ _ ⟨k65, by kernel_rfl, M⟩) _
                exact AllReady.nil
              exact AllReady.nil
            exact AllReady.nil
          exact AllReady.nil
        exact AllReady.nil
      exact AllReady.nil
    exact AllReady.nil
  rintro _ w15 ⟨gT8, rfl, M⟩
  refine au_then ?_
  refine wp_seq ?_
  refine sr ?_
  refine pv 56 (.bool true) ?_
  refine pv 57 (.bool false) ?_
  refine pv 58 (.bool false) ?_
  refine pl_load M (want_on 2 false rfl 58 rfl (by kernel_rfl)) (some 59) rfl 39 _ rfl 6 gT8 0 (by kernel_rfl) 16 39 r10 rfl 16 r10 (Part.all _ _) (by decide) _ Tryz.underlying39 rfl inz39 ?_
  refine pl_val (want_on 2 false rfl 58 rfl (by kernel_rfl)) (some 60) rfl (.agg (arr 16 (fun _ => 0))) (fun _ => by kernel_rfl) ?_
  refine pl_val (want_on 2 false rfl 58 rfl (by kernel_rfl)) (some 61) rfl (.bool false) (fun w => (run_eq16 r10 (fun _ => 0) _ _ rfl (by kernel_rfl) (by kernel_rfl) (fun _ => by kernel_rfl) w).trans (by rw [he])) ?_
  refine pl_val (want_on 2 false rfl 58 rfl (by kernel_rfl)) (some 62) rfl (.bool false) (fun _ => by kernel_rfl) ?_
  refine pl_skip (want_off 6 true rfl 62 rfl (by kernel_rfl)) (some 63) rfl ?_
  refine pl_val (want_on 2 false rfl 58 rfl (by kernel_rfl)) (some 64) rfl (.bool false) (fun _ => by kernel_rfl) ?_
  refine pv 65 (.bool false) ?_
  refine nt ?_
  refine wp_cond_false (by kernel_rfl) ?_
  refine wp_skip ?_
  refine au_then ?_
  refine wp_seq ?_
  refine sr ?_
  refine pv 67 (.bool false) ?_
  refine nt ?_
  refine wp_cond_false (by kernel_rfl) ?_
  refine wp_skip ?_
  refine au_then ?_
  refine sr ?_
  refine pl_load M (want_no rfl) (some 70) rfl 39 _ rfl 6 gT8 0 (by kernel_rfl) 16 39 r10 rfl 16 r10 (Part.all _ _) (by decide) _ Tryz.underlying39 rfl inz39 ?_
  refine pl_load M (want_no rfl) (some 71) rfl 39 _ rfl 2 g3 0 (by kernel_rfl) 16 39 r1 rfl 16 r1 (Part.all _ _) (by decide) _ Tryz.underlying39 rfl inz39 ?_
  refine pl_call M (want_no rfl) (some 72) rfl 47 #[.agg (arr 16 r10), .agg (arr 16 r1)] (.agg (arr 64 r11)) (fun _ => by kernel_rfl) F.h12 ?_
  intro w16 M
  refine pl_put M (want_no rfl) rfl 41 _ _ rfl 0 g1 (by kernel_rfl) 64 41 (fun _ => 0) r11 rfl (by kernel_rfl) inz41 ?_
  intro w17 M
  replace M : Mem w [⟨g1, .cells (arr 64 r11) 41⟩, ⟨g2, Z2⟩, ⟨g3, .cells (arr 16 r1) 39⟩, ⟨g4, .cells (arr 16 r2) 39⟩, ⟨g5, .cells (arr 16 r4) 39⟩, ⟨g6, .cells (arr 16 r7) 39⟩, ⟨gT8, .cells (arr 16 r10) 39⟩] w17 := M
  refine pv 3 (.int .i64 0) ?_
  refine nt ?_
  refine wp_ret ?_
  exact bodyPost_ret (v := .tuple #[.agg (arr 64 r11), .int .i64 0]) (results_cell_tmp Tryz.results8 _ _ g1 41 (arr 64 r11) (0, 0) _ (.int .i64 0) (by kernel_rfl) (by kernel_rfl) (M.get 0 rfl) Tryz.underlying41 rfl (by rw [arr_size]; exact inz41)) (by kernel_rfl) ⟨rfl, M.old⟩

structure rdecZFF (s : ByteArray) (r1 r2 r3 r4 r5 r6 r7 r8 r9 r10 r11 : Nat → Int) : Prop where
  h1 : ∀ w, Calls Tryz.prog 37 #[.string (bs ((List.range 32).map (upd (bt (s)) 31 (bits .and .u8 ((bt (s)) 31) 127))))] w fun r w' => r = .returned (.bool true) ∧ Below w.heap.size w w'
  h2 : ∀ w, Calls Tryz.prog 38 #[.string (bs ((List.range 32).map (upd (bt (s)) 31 (bits .and .u8 ((bt (s)) 31) 127))))] w fun r w' => r = .returned (.agg (arr 16 r1)) ∧ Below w.heap.size w w'
  h3 : ∀ w, Calls Tryz.prog 39 #[.agg (arr 16 r1), .agg (arr 16 r1)] w fun r w' => r = .returned (.agg (arr 16 r2)) ∧ Below w.heap.size w w'
  h4 : ∀ w, Calls Tryz.prog 41 #[.int .u32 1] w fun r w' => r = .returned (.agg (arr 16 r3)) ∧ Below w.heap.size w w'
  h5 : ∀ w, Calls Tryz.prog 40 #[.agg (arr 16 r2), .agg (arr 16 r3)] w fun r w' => r = .returned (.agg (arr 16 r4)) ∧ Below w.heap.size w w'
  h6 : ∀ w, Calls Tryz.prog 42 #[] w fun r w' => r = .returned (.agg (arr 16 r5)) ∧ Below w.heap.size w w'
  h7 : ∀ w, Calls Tryz.prog 39 #[.agg (arr 16 r5), .agg (arr 16 r2)] w fun r w' => r = .returned (.agg (arr 16 r6)) ∧ Below w.heap.size w w'
  h8 : ∀ w, Calls Tryz.prog 43 #[.agg (arr 16 r6), .agg (arr 16 r3)] w fun r w' => r = .returned (.agg (arr 16 r7)) ∧ Below w.heap.size w w'
  h9 : ∀ w, Calls Tryz.prog 44 #[.agg (arr 16 r7)] w fun r w' => r = .returned (.agg (arr 16 r8)) ∧ Below w.heap.size w w'
  h10 : ∀ w, Calls Tryz.prog 39 #[.agg (arr 16 r4), .agg (arr 16 r8)] w fun r w' => r = .returned (.agg (arr 16 r9)) ∧ Below w.heap.size w w'
  h11 : ∀ w, Calls Tryz.prog 45 #[.agg (arr 16 r9)] w fun r w' => r = .returned (.tuple #[.agg (arr 16 r10), .bool true]) ∧ Below w.heap.size w w'
  h12 : ∀ w, Calls Tryz.prog 47 #[.agg (arr 16 r10), .agg (arr 16 r1)] w fun r w' => r = .returned (.agg (arr 64 r11)) ∧ Below w.heap.size w w'

set_option maxRecDepth 100000 in
set_option maxHeartbeats 4000000 in
theorem rdecZF_gen (s : ByteArray) (r1 r2 r3 r4 r5 r6 r7 r8 r9 r10 r11 : Nat → Int) (w : World) (F : rdecZFF s r1 r2 r3 r4 r5 r6 r7 r8 r9 r10 r11) (hs : s.size = 32) (hf : ∀ i, i < 32 → 0 ≤ (upd (bt s) 31 (bits .and .u8 (bt s 31) 127)) i ∧ (upd (bt s) 31 (bits .and .u8 (bt s 31) 127)) i < 256) (ho : decide (bt s 31 / 128 = 1) = false) (he : eqw r10 (fun _ => 0) 0 16 = true) :
    Calls Tryz.prog 8 #[.string s] w fun r w' => r = .returned (.tuple #[.agg (arr 64 r11), .int .i64 0]) ∧ Below w.heap.size w w' := by
  go_enter Tryz.func8, Tryz.ntmps8
  have M := Mem.start w
  refine sr ?_
  refine pl_new M (want_no rfl) (some 2) rfl (.cells (arr 64 (fun _ => 0)) 41) (fun _ => by kernel_rfl) ?_
  intro g1 w1 M
  replace M : Mem w [⟨g1, .cells (arr 64 (fun _ => 0)) 41⟩] w1 := M
  refine pv 3 (.int .i64 0) ?_
  refine nt ?_
  refine wp_seq ?_
  refine sr ?_
  refine pv 12 (.string s) ?_
  refine pl_val (want_no rfl) (some 13) rfl (.int .i64 32) (fun w => Eq.trans (b := .ok (.value (.int .i64 (s.size : Int))) w) (by kernel_rfl) (by rw [hs]; rfl)) ?_
  refine pv 14 (.bool false) ?_
  refine nt ?_
  refine wp_cond_false (by kernel_rfl) ?_
  refine wp_skip ?_
  refine au_then ?_
  refine sr ?_
  refine pv 16 (.string s) ?_
  refine pl_conv M (want_no rfl) (some 17) rfl _ rfl (s) (by kernel_rfl) 32 hs ?_
  intro g2 cg2 Z1 w2 z1 M
  replace M : Mem w [⟨g1, .cells (arr 64 (fun _ => 0)) 41⟩, ⟨g2, Z1⟩] w2 := M
  refine pv 4 (.slice (some ⟨g2, 0, none⟩) 32 cg2) ?_
  refine nt ?_
  refine sr ?_
  refine pv 18 (.slice (some ⟨g2, 0, none⟩) 32 cg2) ?_
  refine pv 19 (.pointer (some ⟨g2, 31, none⟩)) ?_
  refine pl_loadb M (want_no rfl) (some 20) rfl 5 _ rfl 1 g2 31 (by kernel_rfl) (Z1) rfl 32 (bt (s)) z1 (by decide) (fun _ => by kernel_rfl) ?_
  refine pl_val (want_no rfl) (some 21) rfl (.int .u8 (bt (s) 31 / 128)) (fun w => run_bin .shr 5 _ _ rfl (by kernel_rfl) (by kernel_rfl) (fun _ => by kernel_rfl) (run_shr7 _) w) ?_
  refine pl_val (want_no rfl) (some 22) rfl (.bool false) (fun w => Eq.trans (b := .ok (.value (.bool (decide (bt s 31 / 128 = 1)))) w) (by kernel_rfl) (by rw [ho])) ?_
  refine pv 5 (.bool false) ?_
  refine nt ?_
  refine sr ?_
  refine pv 23 (.slice (some ⟨g2, 0, none⟩) 32 cg2) ?_
  refine pv 24 (.slice (some ⟨g2, 0, none⟩) 32 cg2) ?_
  refine pv 25 (.pointer (some ⟨g2, 31, none⟩)) ?_
  refine pl_loadb M (want_no rfl) (some 26) rfl 5 _ rfl 1 g2 31 (by kernel_rfl) (Z1) rfl 32 (bt (s)) z1 (by decide) (fun _ => by kernel_rfl) ?_
  refine pv 27 (.int .u8 (bits .and .u8 ((bt (s)) 31) 127)) ?_
  refine pv 28 (.pointer (some ⟨g2, 31, none⟩)) ?_
  refine pl_storeb M (want_no rfl) rfl 5 _ _ rfl 1 g2 31 (by kernel_rfl) (bits .and .u8 ((bt (s)) 31) 127) (by kernel_rfl) (Z1) rfl 32 (bt (s)) z1 (by decide) inzb ?_
  intro Z2 w3 z2 M
  replace M : Mem w [⟨g1, .cells (arr 64 (fun _ => 0)) 41⟩, ⟨g2, Z2⟩] w3 := M
  refine nt ?_
  refine wp_seq ?_
  refine sr ?_
  refine pv 29 (.slice (some ⟨g2, 0, none⟩) 32 cg2) ?_
  refine pl_back M (want_no rfl) (some 30) rfl _ rfl 1 g2 32 cg2 (by kernel_rfl) (Z2) rfl (upd (bt (s)) 31 (bits .and .u8 ((bt (s)) 31) 127)) z2 hf ?_
  refine pl_call M (want_no rfl) (some 31) rfl 37 #[.string (bs ((List.range 32).map (upd (bt (s)) 31 (bits .and .u8 ((bt (s)) 31) 127))))] (.bool true) (fun _ => by kernel_rfl) F.h1 ?_
  intro w4 M
  refine pv 32 (.bool false) ?_
  refine nt ?_
  refine wp_cond_false (by kernel_rfl) ?_
  refine wp_skip ?_
  refine au_then ?_
  refine sr ?_
  refine pv 34 (.slice (some ⟨g2, 0, none⟩) 32 cg2) ?_
  refine pl_back M (want_no rfl) (some 35) rfl _ rfl 1 g2 32 cg2 (by kernel_rfl) (Z2) rfl (upd (bt (s)) 31 (bits .and .u8 ((bt (s)) 31) 127)) z2 hf ?_
  refine pl_call M (want_no rfl) (some 36) rfl 38 #[.string (bs ((List.range 32).map (upd (bt (s)) 31 (bits .and .u8 ((bt (s)) 31) 127))))] (.agg (arr 16 r1)) (fun _ => by kernel_rfl) F.h2 ?_
  intro w5 M
  refine pl_new M (want_no rfl) (some 6) rfl (.cells (arr 16 (fun _ => 0)) 39) (fun _ => by kernel_rfl) ?_
  intro g3 w6 M
  replace M : Mem w [⟨g1, .cells (arr 64 (fun _ => 0)) 41⟩, ⟨g2, Z2⟩, ⟨g3, .cells (arr 16 (fun _ => 0)) 39⟩] w6 := M
  refine pl_put M (want_no rfl) rfl 39 _ _ rfl 2 g3 (by kernel_rfl) 16 39 (fun _ => 0) r1 rfl (by kernel_rfl) inz39 ?_
  intro w7 M
  replace M : Mem w [⟨g1, .cells (arr 64 (fun _ => 0)) 41⟩, ⟨g2, Z2⟩, ⟨g3, .cells (arr 16 r1) 39⟩] w7 := M
  refine nt ?_
  refine sr ?_
  refine pl_load M (want_no rfl) (some 37) rfl 39 _ rfl 2 g3 0 (by kernel_rfl) 16 39 r1 rfl 16 r1 (Part.all _ _) (by decide) _ Tryz.underlying39 rfl inz39 ?_
  refine pl_load M (want_no rfl) (some 38) rfl 39 _ rfl 2 g3 0 (by kernel_rfl) 16 39 r1 rfl 16 r1 (Part.all _ _) (by decide) _ Tryz.underlying39 rfl inz39 ?_
  refine pl_call M (want_no rfl) (some 39) rfl 39 #[.agg (arr 16 r1), .agg (arr 16 r1)] (.agg (arr 16 r2)) (fun _ => by kernel_rfl) F.h3 ?_
  intro w8 M
  refine pl_new M (want_no rfl) (some 7) rfl (.cells (arr 16 (fun _ => 0)) 39) (fun _ => by kernel_rfl) ?_
  intro g4 w9 M
  replace M : Mem w [⟨g1, .cells (arr 64 (fun _ => 0)) 41⟩, ⟨g2, Z2⟩, ⟨g3, .cells (arr 16 r1) 39⟩, ⟨g4, .cells (arr 16 (fun _ => 0)) 39⟩] w9 := M
  refine pl_put M (want_no rfl) rfl 39 _ _ rfl 3 g4 (by kernel_rfl) 16 39 (fun _ => 0) r2 rfl (by kernel_rfl) inz39 ?_
  intro w10 M
  replace M : Mem w [⟨g1, .cells (arr 64 (fun _ => 0)) 41⟩, ⟨g2, Z2⟩, ⟨g3, .cells (arr 16 r1) 39⟩, ⟨g4, .cells (arr 16 r2) 39⟩] w10 := M
  refine nt ?_
  refine wp_seq ?_
  refine rg_allocs M 3 [(8, 39, 16)] (by kernel_rfl) (by kernel_rfl) ⟨rfl, rfl, fun _ _ => by kernel_rfl, trivial⟩ (by decide) ?_
  simp only [List.take_succ_cons, List.take_zero]
  refine k_load M (want_no rfl) (some 40) rfl 39 _ rfl 3 g4 0 (by kernel_rfl) 16 39 r2 rfl 16 r2 (Part.all _ _) (by decide) _ Tryz.underlying39 rfl inz39 ?_
  refine k_call (want_no rfl) (some 41) rfl 41 #[.int .u32 1] (.agg (arr 16 r3)) (fun _ => by kernel_rfl) F.h4 ?_
  refine k_call (want_no rfl) (some 42) rfl 40 #[.agg (arr 16 r2), .agg (arr 16 r3)] (.agg (arr 16 r4)) (fun _ => by kernel_rfl) F.h5 ?_
  refine kl_nil ?_
  intro w11 g5 M
  replace M : Mem w [⟨g1, .cells (arr 64 (fun _ => 0)) 41⟩, ⟨g2, Z2⟩, ⟨g3, .cells (arr 16 r1) 39⟩, ⟨g4, .cells (arr 16 r2) 39⟩, ⟨g5, .cells (arr 16 (fun _ => 0)) 39⟩] w11 := M
  refine pl_put M (want_no rfl) rfl 39 _ _ rfl 4 g5 (by kernel_rfl) 16 39 (fun _ => 0) r4 rfl (by kernel_rfl) inz39 ?_
  intro w12 M
  replace M : Mem w [⟨g1, .cells (arr 64 (fun _ => 0)) 41⟩, ⟨g2, Z2⟩, ⟨g3, .cells (arr 16 r1) 39⟩, ⟨g4, .cells (arr 16 r2) 39⟩, ⟨g5, .cells (arr 16 r4) 39⟩] w12 := M
  refine nt ?_
  refine wp_seq ?_
  refine rg_allocs M 5 [(9, 39, 16)] (by kernel_rfl) (by kernel_rfl) ⟨rfl, rfl, fun _ _ => by kernel_rfl, trivial⟩ (by decide) ?_
  simp only [List.take_succ_cons, List.take_zero]
  refine k_call (want_no rfl) (some 43) rfl 42 #[] (.agg (arr 16 r5)) (fun _ => by kernel_rfl) F.h6 ?_
  refine k_load M (want_no rfl) (some 44) rfl 39 _ rfl 3 g4 0 (by kernel_rfl) 16 39 r2 rfl 16 r2 (Part.all _ _) (by decide) _ Tryz.underlying39 rfl inz39 ?_
  refine k_call (want_no rfl) (some 45) rfl 39 #[.agg (arr 16 r5), .agg (arr 16 r2)] (.agg (arr 16 r6)) (fun _ => by kernel_rfl) F.h7 ?_
  refine k_call (want_no rfl) (some 46) rfl 41 #[.int .u32 1] (.agg (arr 16 r3)) (fun _ => by kernel_rfl) F.h4 ?_
  refine k_call (want_no rfl) (some 47) rfl 43 #[.agg (arr 16 r6), .agg (arr 16 r3)] (.agg (arr 16 r7)) (fun _ => by kernel_rfl) F.h8 ?_
  refine kl_nil ?_
  intro w13 g6 M
  replace M : Mem w [⟨g1, .cells (arr 64 (fun _ => 0)) 41⟩, ⟨g2, Z2⟩, ⟨g3, .cells (arr 16 r1) 39⟩, ⟨g4, .cells (arr 16 r2) 39⟩, ⟨g5, .cells (arr 16 r4) 39⟩, ⟨g6, .cells (arr 16 (fun _ => 0)) 39⟩] w13 := M
  refine pl_put M (want_no rfl) rfl 39 _ _ rfl 5 g6 (by kernel_rfl) 16 39 (fun _ => 0) r7 rfl (by kernel_rfl) inz39 ?_
  intro w14 M
  replace M : Mem w [⟨g1, .cells (arr 64 (fun _ => 0)) 41⟩, ⟨g2, Z2⟩, ⟨g3, .cells (arr 16 r1) 39⟩, ⟨g4, .cells (arr 16 r2) 39⟩, ⟨g5, .cells (arr 16 r4) 39⟩, ⟨g6, .cells (arr 16 r7) 39⟩] w14 := M
  refine nt ?_
  refine wp_seq ?_
  refine region_cut (fun a0 a' w' => ∃ gT8 : Nat, a' = ((((((((((a0.put (some 49) (.agg (arr 16 r4))).put (some 50) (.agg (arr 16 r7))).put (some 51) (.agg (arr 16 r8))).put (some 52) (.agg (arr 16 r9))).put (some 53) (.tuple #[.agg (arr 16 r10), .bool true])).put (some 48) (.tuple #[.agg (arr 16 r10), .bool true])).put (some 54) (.agg (arr 16 r10))).put (some 55) (.bool true)).put (some 10) (.pointer (some ⟨gT8, 0, none⟩))).put (some 11) (.bool true)) ∧ Mem w [⟨g1, .cells (arr 64 (fun _ => 0)) 41⟩, ⟨g2, Z2⟩, ⟨g3, .cells (arr 16 r1) 39⟩, ⟨g4, .cells (arr 16 r2) 39⟩, ⟨g5, .cells (arr 16 r4) 39⟩, ⟨g6, .cells (arr 16 r7) 39⟩, ⟨gT8, .cells (arr 16 r10) 39⟩] w') (by kernel_rfl) ?_ ?_
  rotate_left
  · intro hrest
    replace M := M.drew
    refine rdy [0, 1, 8] ?_
    refine rd_load M rfl rfl (some 49) rfl 39 _ rfl 4 g5 (by kernel_rfl) 16 39 r4 rfl _ Tryz.underlying39 rfl inz39 ?_ ?_
    · skip
      refine rdy [1, 8] ?_
      refine rd_load M rfl rfl (some 50) rfl 39 _ rfl 5 g6 (by kernel_rfl) 16 39 r7 rfl _ Tryz.underlying39 rfl inz39 ?_ ?_
      · skip
        refine rdy [2, 8] ?_
        refine rd_call M rfl rfl (some 51) rfl 44 #[.agg (arr 16 r7)] (.agg (arr 16 r8)) (fun _ => by kernel_rfl) F.h9 ?_ ?_
        · intro u1 M
          refine rdy [3, 8] ?_
          refine rd_call M rfl rfl (some 52) rfl 39 #[.agg (arr 16 r4), .agg (arr 16 r8)] (.agg (arr 16 r9)) (fun _ => by kernel_rfl) F.h10 ?_ ?_
          · intro u2 M
            refine rdy [4, 8] ?_
            refine rd_call M rfl rfl (some 53) rfl 45 #[.agg (arr 16 r9)] (.tuple #[.agg (arr 16 r10), .bool true]) (fun _ => by kernel_rfl) F.h11 ?_ ?_
            · intro u3 M
              refine tk 5 (.tuple #[.agg (arr 16 r10), .bool true]) ?_
              refine tk 6 (.agg (arr 16 r10)) ?_
              refine tk 7 (.bool true) ?_
              refine rdy [8] ?_
              refine rd_new M rfl rfl (some 10) rfl (.cells (arr 16 (fun _ => 0)) 39) (fun _ => by kernel_rfl) ?_ ?_
              · intro k4 u4 M
                refine rdy [9] ?_
                refine rd_put M rfl rfl rfl 39 _ _ rfl 6 k4 (by kernel_rfl) 16 39 (fun _ => 0) r10 rfl (by kernel_rfl) inz39 ?_ ?_
                · intro u5 M
                  refine tk 10 (.bool true) ?_
                  exact rd_end (by kernel_rfl) (hrest _ _ ⟨k4, by kernel_rfl, M⟩) _
                exact AllReady.nil
              exact AllReady.nil
            refine rd_new M rfl rfl (some 10) rfl (.cells (arr 16 (fun _ => 0)) 39) (fun _ => by kernel_rfl) ?_ ?_
            · intro k6 u6 M
              refine rdy [4] ?_
              refine rd_call M rfl rfl (some 53) rfl 45 #[.agg (arr 16 r9)] (.tuple #[.agg (arr 16 r10), .bool true]) (fun _ => by kernel_rfl) F.h11 ?_ ?_
              · intro u7 M
                refine tk 5 (.tuple #[.agg (arr 16 r10), .bool true]) ?_
                refine tk 6 (.agg (arr 16 r10)) ?_
                refine tk 7 (.bool true) ?_
                refine rdy [9] ?_
                refine rd_put M rfl rfl rfl 39 _ _ rfl 6 k6 (by kernel_rfl) 16 39 (fun _ => 0) r10 rfl (by kernel_rfl) inz39 ?_ ?_
                · intro u8 M
                  refine tk 10 (.bool true) ?_
                  exact rd_end (by kernel_rfl) (hrest _ _ ⟨k6, by kernel_rfl, M⟩) _
                exact AllReady.nil
              exact AllReady.nil
            exact AllReady.nil
          refine rd_new M rfl rfl (some 10) rfl (.cells (arr 16 (fun _ => 0)) 39) (fun _ => by kernel_rfl) ?_ ?_
          · intro k9 u9 M
            refine rdy [3] ?_
            refine rd_call M rfl rfl (some 52) rfl 39 #[.agg (arr 16 r4), .agg (arr 16 r8)] (.agg (arr 16 r9)) (fun _ => by kernel_rfl) F.h10 ?_ ?_
            · intro u10 M
              refine rdy [4] ?_
              refine rd_call M rfl rfl (some 53) rfl 45 #[.agg (arr 16 r9)] (.tuple #[.agg (arr 16 r10), .bool true]) (fun _ => by kernel_rfl) F.h11 ?_ ?_
              · intro u11 M
                refine tk 5 (.tuple #[.agg (arr 16 r10), .bool true]) ?_
                refine tk 6 (.agg (arr 16 r10)) ?_
                refine tk 7 (.bool true) ?_
                refine rdy [9] ?_
                refine rd_put M rfl rfl rfl 39 _ _ rfl 6 k9 (by kernel_rfl) 16 39 (fun _ => 0) r10 rfl (by kernel_rfl) inz39 ?_ ?_
                · intro u12 M
                  refine tk 10 (.bool true) ?_
                  exact rd_end (by kernel_rfl) (hrest _ _ ⟨k9, by kernel_rfl, M⟩) _
                exact AllReady.nil
              exact AllReady.nil
            exact AllReady.nil
          exact AllReady.nil
        refine rd_new M rfl rfl (some 10) rfl (.cells (arr 16 (fun _ => 0)) 39) (fun _ => by kernel_rfl) ?_ ?_
        · intro k13 u13 M
          refine rdy [2] ?_
          refine rd_call M rfl rfl (some 51) rfl 44 #[.agg (arr 16 r7)] (.agg (arr 16 r8)) (fun _ => by kernel_rfl) F.h9 ?_ ?_
          · intro u14 M
            refine rdy [3] ?_
            refine rd_call M rfl rfl (some 52) rfl 39 #[.agg (arr 16 r4), .agg (arr 16 r8)] (.agg (arr 16 r9)) (fun _ => by kernel_rfl) F.h10 ?_ ?_
            · intro u15 M
              refine rdy [4] ?_
              refine rd_call M rfl rfl (some 53) rfl 45 #[.agg (arr 16 r9)] (.tuple #[.agg (arr 16 r10), .bool true]) (fun _ => by kernel_rfl) F.h11 ?_ ?_
              · intro u16 M
                refine tk 5 (.tuple #[.agg (arr 16 r10), .bool true]) ?_
                refine tk 6 (.agg (arr 16 r10)) ?_
                refine tk 7 (.bool true) ?_
                refine rdy [9] ?_
                refine rd_put M rfl rfl rfl 39 _ _ rfl 6 k13 (by kernel_rfl) 16 39 (fun _ => 0) r10 rfl (by kernel_rfl) inz39 ?_ ?_
                · intro u17 M
                  refine tk 10 (.bool true) ?_
                  exact rd_end (by kernel_rfl) (hrest _ _ ⟨k13, by kernel_rfl, M⟩) _
                exact AllReady.nil
              exact AllReady.nil
            exact AllReady.nil
          exact AllReady.nil
        exact AllReady.nil
      refine rd_new M rfl rfl (some 10) rfl (.cells (arr 16 (fun _ => 0)) 39) (fun _ => by kernel_rfl) ?_ ?_
      · intro k18 u18 M
        refine rdy [1] ?_
        refine rd_load M rfl rfl (some 50) rfl 39 _ rfl 5 g6 (by kernel_rfl) 16 39 r7 rfl _ Tryz.underlying39 rfl inz39 ?_ ?_
        · skip
          refine rdy [2] ?_
          refine rd_call M rfl rfl (some 51) rfl 44 #[.agg (arr 16 r7)] (.agg (arr 16 r8)) (fun _ => by kernel_rfl) F.h9 ?_ ?_
          · intro u19 M
            refine rdy [3] ?_
            refine rd_call M rfl rfl (some 52) rfl 39 #[.agg (arr 16 r4), .agg (arr 16 r8)] (.agg (arr 16 r9)) (fun _ => by kernel_rfl) F.h10 ?_ ?_
            · intro u20 M
              refine rdy [4] ?_
              refine rd_call M rfl rfl (some 53) rfl 45 #[.agg (arr 16 r9)] (.tuple #[.agg (arr 16 r10), .bool true]) (fun _ => by kernel_rfl) F.h11 ?_ ?_
              · intro u21 M
                refine tk 5 (.tuple #[.agg (arr 16 r10), .bool true]) ?_
                refine tk 6 (.agg (arr 16 r10)) ?_
                refine tk 7 (.bool true) ?_
                refine rdy [9] ?_
                refine rd_put M rfl rfl rfl 39 _ _ rfl 6 k18 (by kernel_rfl) 16 39 (fun _ => 0) r10 rfl (by kernel_rfl) inz39 ?_ ?_
                · intro u22 M
                  refine tk 10 (.bool true) ?_
                  exact rd_end (by kernel_rfl) (hrest _ _ ⟨k18, by kernel_rfl, M⟩) _
                exact AllReady.nil
              exact AllReady.nil
            exact AllReady.nil
          exact AllReady.nil
        exact AllReady.nil
      exact AllReady.nil
    refine rd_load M rfl rfl (some 50) rfl 39 _ rfl 5 g6 (by kernel_rfl) 16 39 r7 rfl _ Tryz.underlying39 rfl inz39 ?_ ?_
    · skip
      refine rdy [0, 2, 8] ?_
      refine rd_load M rfl rfl (some 49) rfl 39 _ rfl 4 g5 (by kernel_rfl) 16 39 r4 rfl _ Tryz.underlying39 rfl inz39 ?_ ?_
      · skip
        refine rdy [2, 8] ?_
        refine rd_call M rfl rfl (some 51) rfl 44 #[.agg (arr 16 r7)] (.agg (arr 16 r8)) (fun _ => by kernel_rfl) F.h9 ?_ ?_
        · intro u23 M
          refine rdy [3, 8] ?_
          refine rd_call M rfl rfl (some 52) rfl 39 #[.agg (arr 16 r4), .agg (arr 16 r8)] (.agg (arr 16 r9)) (fun _ => by kernel_rfl) F.h10 ?_ ?_
          · intro u24 M
            refine rdy [4, 8] ?_
            refine rd_call M rfl rfl (some 53) rfl 45 #[.agg (arr 16 r9)] (.tuple #[.agg (arr 16 r10), .bool true]) (fun _ => by kernel_rfl) F.h11 ?_ ?_
            · intro u25 M
              refine tk 5 (.tuple #[.agg (arr 16 r10), .bool true]) ?_
              refine tk 6 (.agg (arr 16 r10)) ?_
              refine tk 7 (.bool true) ?_
              refine rdy [8] ?_
              refine rd_new M rfl rfl (some 10) rfl (.cells (arr 16 (fun _ => 0)) 39) (fun _ => by kernel_rfl) ?_ ?_
              · intro k26 u26 M
                refine rdy [9] ?_
                refine rd_put M rfl rfl rfl 39 _ _ rfl 6 k26 (by kernel_rfl) 16 39 (fun _ => 0) r10 rfl (by kernel_rfl) inz39 ?_ ?_
                · intro u27 M
                  refine tk 10 (.bool true) ?_
                  exact rd_end (by kernel_rfl) (hrest _ _ ⟨k26, by kernel_rfl, M⟩) _
                exact AllReady.nil
              exact AllReady.nil
            refine rd_new M rfl rfl (some 10) rfl (.cells (arr 16 (fun _ => 0)) 39) (fun _ => by kernel_rfl) ?_ ?_
            · intro k28 u28 M
              refine rdy [4] ?_
              refine rd_call M rfl rfl (some 53) rfl 45 #[.agg (arr 16 r9)] (.tuple #[.agg (arr 16 r10), .bool true]) (fun _ => by kernel_rfl) F.h11 ?_ ?_
              · intro u29 M
                refine tk 5 (.tuple #[.agg (arr 16 r10), .bool true]) ?_
                refine tk 6 (.agg (arr 16 r10)) ?_
                refine tk 7 (.bool true) ?_
                refine rdy [9] ?_
                refine rd_put M rfl rfl rfl 39 _ _ rfl 6 k28 (by kernel_rfl) 16 39 (fun _ => 0) r10 rfl (by kernel_rfl) inz39 ?_ ?_
                · intro u30 M
                  refine tk 10 (.bool true) ?_
                  exact rd_end (by kernel_rfl) (hrest _ _ ⟨k28, by kernel_rfl, M⟩) _
                exact AllReady.nil
              exact AllReady.nil
            exact AllReady.nil
          refine rd_new M rfl rfl (some 10) rfl (.cells (arr 16 (fun _ => 0)) 39) (fun _ => by kernel_rfl) ?_ ?_
          · intro k31 u31 M
            refine rdy [3] ?_
            refine rd_call M rfl rfl (some 52) rfl 39 #[.agg (arr 16 r4), .agg (arr 16 r8)] (.agg (arr 16 r9)) (fun _ => by kernel_rfl) F.h10 ?_ ?_
            · intro u32 M
              refine rdy [4] ?_
              refine rd_call M rfl rfl (some 53) rfl 45 #[.agg (arr 16 r9)] (.tuple #[.agg (arr 16 r10), .bool true]) (fun _ => by kernel_rfl) F.h11 ?_ ?_
              · intro u33 M
                refine tk 5 (.tuple #[.agg (arr 16 r10), .bool true]) ?_
                refine tk 6 (.agg (arr 16 r10)) ?_
                refine tk 7 (.bool true) ?_
                refine rdy [9] ?_
                refine rd_put M rfl rfl rfl 39 _ _ rfl 6 k31 (by kernel_rfl) 16 39 (fun _ => 0) r10 rfl (by kernel_rfl) inz39 ?_ ?_
                · intro u34 M
                  refine tk 10 (.bool true) ?_
                  exact rd_end (by kernel_rfl) (hrest _ _ ⟨k31, by kernel_rfl, M⟩) _
                exact AllReady.nil
              exact AllReady.nil
            exact AllReady.nil
          exact AllReady.nil
        refine rd_new M rfl rfl (some 10) rfl (.cells (arr 16 (fun _ => 0)) 39) (fun _ => by kernel_rfl) ?_ ?_
        · intro k35 u35 M
          refine rdy [2] ?_
          refine rd_call M rfl rfl (some 51) rfl 44 #[.agg (arr 16 r7)] (.agg (arr 16 r8)) (fun _ => by kernel_rfl) F.h9 ?_ ?_
          · intro u36 M
            refine rdy [3] ?_
            refine rd_call M rfl rfl (some 52) rfl 39 #[.agg (arr 16 r4), .agg (arr 16 r8)] (.agg (arr 16 r9)) (fun _ => by kernel_rfl) F.h10 ?_ ?_
            · intro u37 M
              refine rdy [4] ?_
              refine rd_call M rfl rfl (some 53) rfl 45 #[.agg (arr 16 r9)] (.tuple #[.agg (arr 16 r10), .bool true]) (fun _ => by kernel_rfl) F.h11 ?_ ?_
              · intro u38 M
                refine tk 5 (.tuple #[.agg (arr 16 r10), .bool true]) ?_
                refine tk 6 (.agg (arr 16 r10)) ?_
                refine tk 7 (.bool true) ?_
                refine rdy [9] ?_
                refine rd_put M rfl rfl rfl 39 _ _ rfl 6 k35 (by kernel_rfl) 16 39 (fun _ => 0) r10 rfl (by kernel_rfl) inz39 ?_ ?_
                · intro u39 M
                  refine tk 10 (.bool true) ?_
                  exact rd_end (by kernel_rfl) (hrest _ _ ⟨k35, by kernel_rfl, M⟩) _
                exact AllReady.nil
              exact AllReady.nil
            exact AllReady.nil
          exact AllReady.nil
        exact AllReady.nil
      refine rd_call M rfl rfl (some 51) rfl 44 #[.agg (arr 16 r7)] (.agg (arr 16 r8)) (fun _ => by kernel_rfl) F.h9 ?_ ?_
      · intro u40 M
        refine rdy [0, 8] ?_
        refine rd_load M rfl rfl (some 49) rfl 39 _ rfl 4 g5 (by kernel_rfl) 16 39 r4 rfl _ Tryz.underlying39 rfl inz39 ?_ ?_
        · skip
          refine rdy [3, 8] ?_
          refine rd_call M rfl rfl (some 52) rfl 39 #[.agg (arr 16 r4), .agg (arr 16 r8)] (.agg (arr 16 r9)) (fun _ => by kernel_rfl) F.h10 ?_ ?_
          · intro u41 M
            refine rdy [4, 8] ?_
            refine rd_call M rfl rfl (some 53) rfl 45 #[.agg (arr 16 r9)] (.tuple #[.agg (arr 16 r10), .bool true]) (fun _ => by kernel_rfl) F.h11 ?_ ?_
            · intro u42 M
              refine tk 5 (.tuple #[.agg (arr 16 r10), .bool true]) ?_
              refine tk 6 (.agg (arr 16 r10)) ?_
              refine tk 7 (.bool true) ?_
              refine rdy [8] ?_
              refine rd_new M rfl rfl (some 10) rfl (.cells (arr 16 (fun _ => 0)) 39) (fun _ => by kernel_rfl) ?_ ?_
              · intro k43 u43 M
                refine rdy [9] ?_
                refine rd_put M rfl rfl rfl 39 _ _ rfl 6 k43 (by kernel_rfl) 16 39 (fun _ => 0) r10 rfl (by kernel_rfl) inz39 ?_ ?_
                · intro u44 M
                  refine tk 10 (.bool true) ?_
                  exact rd_end (by kernel_rfl) (hrest _ _ ⟨k43, by kernel_rfl, M⟩) _
                exact AllReady.nil
              exact AllReady.nil
            refine rd_new M rfl rfl (some 10) rfl (.cells (arr 16 (fun _ => 0)) 39) (fun _ => by kernel_rfl) ?_ ?_
            · intro k45 u45 M
              refine rdy [4] ?_
              refine rd_call M rfl rfl (some 53) rfl 45 #[.agg (arr 16 r9)] (.tuple #[.agg (arr 16 r10), .bool true]) (fun _ => by kernel_rfl) F.h11 ?_ ?_
              · intro u46 M
                refine tk 5 (.tuple #[.agg (arr 16 r10), .bool true]) ?_
                refine tk 6 (.agg (arr 16 r10)) ?_
                refine tk 7 (.bool true) ?_
                refine rdy [9] ?_
                refine rd_put M rfl rfl rfl 39 _ _ rfl 6 k45 (by kernel_rfl) 16 39 (fun _ => 0) r10 rfl (by kernel_rfl) inz39 ?_ ?_
                · intro u47 M
                  refine tk 10 (.bool true) ?_
                  exact rd_end (by kernel_rfl) (hrest _ _ ⟨k45, by kernel_rfl, M⟩) _
                exact AllReady.nil
              exact AllReady.nil
            exact AllReady.nil
          refine rd_new M rfl rfl (some 10) rfl (.cells (arr 16 (fun _ => 0)) 39) (fun _ => by kernel_rfl) ?_ ?_
          · intro k48 u48 M
            refine rdy [3] ?_
            refine rd_call M rfl rfl (some 52) rfl 39 #[.agg (arr 16 r4), .agg (arr 16 r8)] (.agg (arr 16 r9)) (fun _ => by kernel_rfl) F.h10 ?_ ?_
            · intro u49 M
              refine rdy [4] ?_
              refine rd_call M rfl rfl (some 53) rfl 45 #[.agg (arr 16 r9)] (.tuple #[.agg (arr 16 r10), .bool true]) (fun _ => by kernel_rfl) F.h11 ?_ ?_
              · intro u50 M
                refine tk 5 (.tuple #[.agg (arr 16 r10), .bool true]) ?_
                refine tk 6 (.agg (arr 16 r10)) ?_
                refine tk 7 (.bool true) ?_
                refine rdy [9] ?_
                refine rd_put M rfl rfl rfl 39 _ _ rfl 6 k48 (by kernel_rfl) 16 39 (fun _ => 0) r10 rfl (by kernel_rfl) inz39 ?_ ?_
                · intro u51 M
                  refine tk 10 (.bool true) ?_
                  exact rd_end (by kernel_rfl) (hrest _ _ ⟨k48, by kernel_rfl, M⟩) _
                exact AllReady.nil
              exact AllReady.nil
            exact AllReady.nil
          exact AllReady.nil
        refine rd_new M rfl rfl (some 10) rfl (.cells (arr 16 (fun _ => 0)) 39) (fun _ => by kernel_rfl) ?_ ?_
        · intro k52 u52 M
          refine rdy [0] ?_
          refine rd_load M rfl rfl (some 49) rfl 39 _ rfl 4 g5 (by kernel_rfl) 16 39 r4 rfl _ Tryz.underlying39 rfl inz39 ?_ ?_
          · skip
            refine rdy [3] ?_
            refine rd_call M rfl rfl (some 52) rfl 39 #[.agg (arr 16 r4), .agg (arr 16 r8)] (.agg (arr 16 r9)) (fun _ => by kernel_rfl) F.h10 ?_ ?_
            · intro u53 M
              refine rdy [4] ?_
              refine rd_call M rfl rfl (some 53) rfl 45 #[.agg (arr 16 r9)] (.tuple #[.agg (arr 16 r10), .bool true]) (fun _ => by kernel_rfl) F.h11 ?_ ?_
              · intro u54 M
                refine tk 5 (.tuple #[.agg (arr 16 r10), .bool true]) ?_
                refine tk 6 (.agg (arr 16 r10)) ?_
                refine tk 7 (.bool true) ?_
                refine rdy [9] ?_
                refine rd_put M rfl rfl rfl 39 _ _ rfl 6 k52 (by kernel_rfl) 16 39 (fun _ => 0) r10 rfl (by kernel_rfl) inz39 ?_ ?_
                · intro u55 M
                  refine tk 10 (.bool true) ?_
                  exact rd_end (by kernel_rfl) (hrest _ _ ⟨k52, by kernel_rfl, M⟩) _
                exact AllReady.nil
              exact AllReady.nil
            exact AllReady.nil
          exact AllReady.nil
        exact AllReady.nil
      refine rd_new M rfl rfl (some 10) rfl (.cells (arr 16 (fun _ => 0)) 39) (fun _ => by kernel_rfl) ?_ ?_
      · intro k56 u56 M
        refine rdy [0, 2] ?_
        refine rd_load M rfl rfl (some 49) rfl 39 _ rfl 4 g5 (by kernel_rfl) 16 39 r4 rfl _ Tryz.underlying39 rfl inz39 ?_ ?_
        · skip
          refine rdy [2] ?_
          refine rd_call M rfl rfl (some 51) rfl 44 #[.agg (arr 16 r7)] (.agg (arr 16 r8)) (fun _ => by kernel_rfl) F.h9 ?_ ?_
          · intro u57 M
            refine rdy [3] ?_
            refine rd_call M rfl rfl (some 52) rfl 39 #[.agg (arr 16 r4), .agg (arr 16 r8)] (.agg (arr 16 r9)) (fun _ => by kernel_rfl) F.h10 ?_ ?_
            · intro u58 M
              refine rdy [4] ?_
              refine rd_call M rfl rfl (some 53) rfl 45 #[.agg (arr 16 r9)] (.tuple #[.agg (arr 16 r10), .bool true]) (fun _ => by kernel_rfl) F.h11 ?_ ?_
              · intro u59 M
                refine tk 5 (.tuple #[.agg (arr 16 r10), .bool true]) ?_
                refine tk 6 (.agg (arr 16 r10)) ?_
                refine tk 7 (.bool true) ?_
                refine rdy [9] ?_
                refine rd_put M rfl rfl rfl 39 _ _ rfl 6 k56 (by kernel_rfl) 16 39 (fun _ => 0) r10 rfl (by kernel_rfl) inz39 ?_ ?_
                · intro u60 M
                  refine tk 10 (.bool true) ?_
                  exact rd_end (by kernel_rfl) (hrest _ _ ⟨k56, by kernel_rfl, M⟩) _
                exact AllReady.nil
              exact AllReady.nil
            exact AllReady.nil
          exact AllReady.nil
        refine rd_call M rfl rfl (some 51) rfl 44 #[.agg (arr 16 r7)] (.agg (arr 16 r8)) (fun _ => by kernel_rfl) F.h9 ?_ ?_
        · intro u61 M
          refine rdy [0] ?_
          refine rd_load M rfl rfl (some 49) rfl 39 _ rfl 4 g5 (by kernel_rfl) 16 39 r4 rfl _ Tryz.underlying39 rfl inz39 ?_ ?_
          · skip
            refine rdy [3] ?_
            refine rd_call M rfl rfl (some 52) rfl 39 #[.agg (arr 16 r4), .agg (arr 16 r8)] (.agg (arr 16 r9)) (fun _ => by kernel_rfl) F.h10 ?_ ?_
            · intro u62 M
              refine rdy [4] ?_
              refine rd_call M rfl rfl (some 53) rfl 45 #[.agg (arr 16 r9)] (.tuple #[.agg (arr 16 r10), .bool true]) (fun _ => by kernel_rfl) F.h11 ?_ ?_
              · intro u63 M
                refine tk 5 (.tuple #[.agg (arr 16 r10), .bool true]) ?_
                refine tk 6 (.agg (arr 16 r10)) ?_
                refine tk 7 (.bool true) ?_
                refine rdy [9] ?_
                refine rd_put M rfl rfl rfl 39 _ _ rfl 6 k56 (by kernel_rfl) 16 39 (fun _ => 0) r10 rfl (by kernel_rfl) inz39 ?_ ?_
                · intro u64 M
                  refine tk 10 (.bool true) ?_
                  exact rd_end (by kernel_rfl) (hrest _ _ ⟨k56, by kernel_rfl, M⟩) _
                exact AllReady.nil
              exact AllReady.nil
            exact AllReady.nil
          exact AllReady.nil
        exact AllReady.nil
      exact AllReady.nil
    refine rd_new M rfl rfl (some 10) rfl (.cells (arr 16 (fun _ => 0)) 39) (fun _ => by kernel_rfl) ?_ ?_
    · intro k65 u65 M
      refine rdy [0, 1] ?_
      refine rd_load M rfl rfl (some 49) rfl 39 _ rfl 4 g5 (by kernel_rfl) 16 39 r4 rfl _ Tryz.underlying39 rfl inz39 ?_ ?_
      · skip
        refine rdy [1] ?_
        refine rd_load M rfl rfl (some 50) rfl 39 _ rfl 5 g6 (by kernel_rfl) 16 39 r7 rfl _ Tryz.underlying39 rfl inz39 ?_ ?_
        · skip
          refine rdy [2] ?_
          refine rd_call M rfl rfl (some 51) rfl 44 #[.agg (arr 16 r7)] (.agg (arr 16 r8)) (fun _ => by kernel_rfl) F.h9 ?_ ?_
          · intro u66 M
            refine rdy [3] ?_
            refine rd_call M rfl rfl (some 52) rfl 39 #[.agg (arr 16 r4), .agg (arr 16 r8)] (.agg (arr 16 r9)) (fun _ => by kernel_rfl) F.h10 ?_ ?_
            · intro u67 M
              refine rdy [4] ?_
              refine rd_call M rfl rfl (some 53) rfl 45 #[.agg (arr 16 r9)] (.tuple #[.agg (arr 16 r10), .bool true]) (fun _ => by kernel_rfl) F.h11 ?_ ?_
              · intro u68 M
                refine tk 5 (.tuple #[.agg (arr 16 r10), .bool true]) ?_
                refine tk 6 (.agg (arr 16 r10)) ?_
                refine tk 7 (.bool true) ?_
                refine rdy [9] ?_
                refine rd_put M rfl rfl rfl 39 _ _ rfl 6 k65 (by kernel_rfl) 16 39 (fun _ => 0) r10 rfl (by kernel_rfl) inz39 ?_ ?_
                · intro u69 M
                  refine tk 10 (.bool true) ?_
                  exact rd_end (by kernel_rfl) (hrest _ _ ⟨k65, by kernel_rfl, M⟩) _
                exact AllReady.nil
              exact AllReady.nil
            exact AllReady.nil
          exact AllReady.nil
        exact AllReady.nil
      refine rd_load M rfl rfl (some 50) rfl 39 _ rfl 5 g6 (by kernel_rfl) 16 39 r7 rfl _ Tryz.underlying39 rfl inz39 ?_ ?_
      · skip
        refine rdy [0, 2] ?_
        refine rd_load M rfl rfl (some 49) rfl 39 _ rfl 4 g5 (by kernel_rfl) 16 39 r4 rfl _ Tryz.underlying39 rfl inz39 ?_ ?_
        · skip
          refine rdy [2] ?_
          refine rd_call M rfl rfl (some 51) rfl 44 #[.agg (arr 16 r7)] (.agg (arr 16 r8)) (fun _ => by kernel_rfl) F.h9 ?_ ?_
          · intro u70 M
            refine rdy [3] ?_
            refine rd_call M rfl rfl (some 52) rfl 39 #[.agg (arr 16 r4), .agg (arr 16 r8)] (.agg (arr 16 r9)) (fun _ => by kernel_rfl) F.h10 ?_ ?_
            · intro u71 M
              refine rdy [4] ?_
              refine rd_call M rfl rfl (some 53) rfl 45 #[.agg (arr 16 r9)] (.tuple #[.agg (arr 16 r10), .bool true]) (fun _ => by kernel_rfl) F.h11 ?_ ?_
              · intro u72 M
                refine tk 5 (.tuple #[.agg (arr 16 r10), .bool true]) ?_
                refine tk 6 (.agg (arr 16 r10)) ?_
                refine tk 7 (.bool true) ?_
                refine rdy [9] ?_
                refine rd_put M rfl rfl rfl 39 _ _ rfl 6 k65 (by kernel_rfl) 16 39 (fun _ => 0) r10 rfl (by kernel_rfl) inz39 ?_ ?_
                · intro u73 M
                  refine tk 10 (.bool true) ?_
                  exact rd_end (by kernel_rfl) (hrest _ _ ⟨k65, by kernel_rfl, M⟩) _
                exact AllReady.nil
              exact AllReady.nil
            exact AllReady.nil
          exact AllReady.nil
        refine rd_call M rfl rfl (some 51) rfl 44 #[.agg (arr 16 r7)] (.agg (arr 16 r8)) (fun _ => by kernel_rfl) F.h9 ?_ ?_
        · intro u74 M
          refine rdy [0] ?_
          refine rd_load M rfl rfl (some 49) rfl 39 _ rfl 4 g5 (by kernel_rfl) 16 39 r4 rfl _ Tryz.underlying39 rfl inz39 ?_ ?_
          · skip
            refine rdy [3] ?_
            refine rd_call M rfl rfl (some 52) rfl 39 #[.agg (arr 16 r4), .agg (arr 16 r8)] (.agg (arr 16 r9)) (fun _ => by kernel_rfl) F.h10 ?_ ?_
            · intro u75 M
              refine rdy [4] ?_
              refine rd_call M rfl rfl (some 53) rfl 45 #[.agg (arr 16 r9)] (.tuple #[.agg (arr 16 r10), .bool true]) (fun _ => by kernel_rfl) F.h11 ?_ ?_
              · intro u76 M
                refine tk 5 (.tuple #[.agg (arr 16 r10), .bool true]) ?_
                refine tk 6 (.agg (arr 16 r10)) ?_
                refine tk 7 (.bool true) ?_
                refine rdy [9] ?_
                refine rd_put M rfl rfl rfl 39 _ _ rfl 6 k65 (by kernel_rfl) 16 39 (fun _ => 0) r10 rfl (by kernel_rfl) inz39 ?_ ?_
                · intro u77 M
                  refine tk 10 (.bool true) ?_
                  exact rd_end (by kernel_rfl) (hrest _ _ ⟨k65, by kernel_rfl, M⟩) _
                exact AllReady.nil
              exact AllReady.nil
            exact AllReady.nil
          exact AllReady.nil
        exact AllReady.nil
      exact AllReady.nil
    exact AllReady.nil
  rintro _ w15 ⟨gT8, rfl, M⟩
  refine au_then ?_
  refine wp_seq ?_
  refine sr ?_
  refine pv 56 (.bool true) ?_
  refine pv 57 (.bool false) ?_
  refine pv 58 (.bool false) ?_
  refine pl_load M (want_on 2 false rfl 58 rfl (by kernel_rfl)) (some 59) rfl 39 _ rfl 6 gT8 0 (by kernel_rfl) 16 39 r10 rfl 16 r10 (Part.all _ _) (by decide) _ Tryz.underlying39 rfl inz39 ?_
  refine pl_val (want_on 2 false rfl 58 rfl (by kernel_rfl)) (some 60) rfl (.agg (arr 16 (fun _ => 0))) (fun _ => by kernel_rfl) ?_
  refine pl_val (want_on 2 false rfl 58 rfl (by kernel_rfl)) (some 61) rfl (.bool true) (fun w => (run_eq16 r10 (fun _ => 0) _ _ rfl (by kernel_rfl) (by kernel_rfl) (fun _ => by kernel_rfl) w).trans (by rw [he])) ?_
  refine pl_val (want_on 2 false rfl 58 rfl (by kernel_rfl)) (some 62) rfl (.bool true) (fun _ => by kernel_rfl) ?_
  refine pl_val (want_on 6 true rfl 62 rfl (by kernel_rfl)) (some 63) rfl (.bool false) (fun _ => by kernel_rfl) ?_
  refine pl_val (want_on 2 false rfl 58 rfl (by kernel_rfl)) (some 64) rfl (.bool false) (fun _ => by kernel_rfl) ?_
  refine pv 65 (.bool false) ?_
  refine nt ?_
  refine wp_cond_false (by kernel_rfl) ?_
  refine wp_skip ?_
  refine au_then ?_
  refine wp_seq ?_
  refine sr ?_
  refine pv 67 (.bool false) ?_
  refine nt ?_
  refine wp_cond_false (by kernel_rfl) ?_
  refine wp_skip ?_
  refine au_then ?_
  refine sr ?_
  refine pl_load M (want_no rfl) (some 70) rfl 39 _ rfl 6 gT8 0 (by kernel_rfl) 16 39 r10 rfl 16 r10 (Part.all _ _) (by decide) _ Tryz.underlying39 rfl inz39 ?_
  refine pl_load M (want_no rfl) (some 71) rfl 39 _ rfl 2 g3 0 (by kernel_rfl) 16 39 r1 rfl 16 r1 (Part.all _ _) (by decide) _ Tryz.underlying39 rfl inz39 ?_
  refine pl_call M (want_no rfl) (some 72) rfl 47 #[.agg (arr 16 r10), .agg (arr 16 r1)] (.agg (arr 64 r11)) (fun _ => by kernel_rfl) F.h12 ?_
  intro w16 M
  refine pl_put M (want_no rfl) rfl 41 _ _ rfl 0 g1 (by kernel_rfl) 64 41 (fun _ => 0) r11 rfl (by kernel_rfl) inz41 ?_
  intro w17 M
  replace M : Mem w [⟨g1, .cells (arr 64 r11) 41⟩, ⟨g2, Z2⟩, ⟨g3, .cells (arr 16 r1) 39⟩, ⟨g4, .cells (arr 16 r2) 39⟩, ⟨g5, .cells (arr 16 r4) 39⟩, ⟨g6, .cells (arr 16 r7) 39⟩, ⟨gT8, .cells (arr 16 r10) 39⟩] w17 := M
  refine pv 3 (.int .i64 0) ?_
  refine nt ?_
  refine wp_ret ?_
  exact bodyPost_ret (v := .tuple #[.agg (arr 64 r11), .int .i64 0]) (results_cell_tmp Tryz.results8 _ _ g1 41 (arr 64 r11) (0, 0) _ (.int .i64 0) (by kernel_rfl) (by kernel_rfl) (M.get 0 rfl) Tryz.underlying41 rfl (by rw [arr_size]; exact inz41)) (by kernel_rfl) ⟨rfl, M.old⟩


end Go.Proofs.YtkeocdebfgcnnaaGreat

/- The document's Decode, the highest bit set, told by what its callees hand back. -/
namespace Go.Proofs.YtkeocdebfgcnnaaGreat
open Go.RowKit

structure rdecYTF (s : ByteArray) (r1 r2 r3 r4 r5 r6 r7 r8 r9 r10 r11 r12 : Nat → Int) : Prop where
  h1 : ∀ w, Calls Tryz.prog 37 #[.string (bs ((List.range 32).map (upd (bt (s)) 31 (bits .and .u8 ((bt (s)) 31) 127))))] w fun r w' => r = .returned (.bool true) ∧ Below w.heap.size w w'
  h2 : ∀ w, Calls Tryz.prog 38 #[.string (bs ((List.range 32).map (upd (bt (s)) 31 (bits .and .u8 ((bt (s)) 31) 127))))] w fun r w' => r = .returned (.agg (arr 16 r1)) ∧ Below w.heap.size w w'
  h3 : ∀ w, Calls Tryz.prog 39 #[.agg (arr 16 r1), .agg (arr 16 r1)] w fun r w' => r = .returned (.agg (arr 16 r2)) ∧ Below w.heap.size w w'
  h4 : ∀ w, Calls Tryz.prog 41 #[.int .u32 1] w fun r w' => r = .returned (.agg (arr 16 r3)) ∧ Below w.heap.size w w'
  h5 : ∀ w, Calls Tryz.prog 40 #[.agg (arr 16 r2), .agg (arr 16 r3)] w fun r w' => r = .returned (.agg (arr 16 r4)) ∧ Below w.heap.size w w'
  h6 : ∀ w, Calls Tryz.prog 42 #[] w fun r w' => r = .returned (.agg (arr 16 r5)) ∧ Below w.heap.size w w'
  h7 : ∀ w, Calls Tryz.prog 39 #[.agg (arr 16 r5), .agg (arr 16 r2)] w fun r w' => r = .returned (.agg (arr 16 r6)) ∧ Below w.heap.size w w'
  h8 : ∀ w, Calls Tryz.prog 43 #[.agg (arr 16 r6), .agg (arr 16 r3)] w fun r w' => r = .returned (.agg (arr 16 r7)) ∧ Below w.heap.size w w'
  h9 : ∀ w, Calls Tryz.prog 44 #[.agg (arr 16 r7)] w fun r w' => r = .returned (.agg (arr 16 r8)) ∧ Below w.heap.size w w'
  h10 : ∀ w, Calls Tryz.prog 39 #[.agg (arr 16 r4), .agg (arr 16 r8)] w fun r w' => r = .returned (.agg (arr 16 r9)) ∧ Below w.heap.size w w'
  h11 : ∀ w, Calls Tryz.prog 45 #[.agg (arr 16 r9)] w fun r w' => r = .returned (.tuple #[.agg (arr 16 r10), .bool true]) ∧ Below w.heap.size w w'
  h12 : ∀ w, Calls Tryz.prog 46 #[.agg (arr 16 r10)] w fun r w' => r = .returned (.agg (arr 16 r11)) ∧ Below w.heap.size w w'
  h13 : ∀ w, Calls Tryz.prog 47 #[.agg (arr 16 r11), .agg (arr 16 r1)] w fun r w' => r = .returned (.agg (arr 64 r12)) ∧ Below w.heap.size w w'

set_option maxRecDepth 100000 in
set_option maxHeartbeats 4000000 in
theorem rdecYT_gen (s : ByteArray) (r1 r2 r3 r4 r5 r6 r7 r8 r9 r10 r11 r12 : Nat → Int) (w : World) (F : rdecYTF s r1 r2 r3 r4 r5 r6 r7 r8 r9 r10 r11 r12) (hs : s.size = 32) (hf : ∀ i, i < 32 → 0 ≤ (upd (bt s) 31 (bits .and .u8 (bt s 31) 127)) i ∧ (upd (bt s) 31 (bits .and .u8 (bt s 31) 127)) i < 256) (ho : decide (bt s 31 / 128 = 1) = true) (he : eqw r10 (fun _ => 0) 0 16 = false) :
    Calls Tryz.prog 8 #[.string s] w fun r w' => r = .returned (.tuple #[.agg (arr 64 r12), .int .i64 0]) ∧ Below w.heap.size w w' := by
  go_enter Tryz.func8, Tryz.ntmps8
  have M := Mem.start w
  refine sr ?_
  refine pl_new M (want_no rfl) (some 2) rfl (.cells (arr 64 (fun _ => 0)) 41) (fun _ => by kernel_rfl) ?_
  intro g1 w1 M
  replace M : Mem w [⟨g1, .cells (arr 64 (fun _ => 0)) 41⟩] w1 := M
  refine pv 3 (.int .i64 0) ?_
  refine nt ?_
  refine wp_seq ?_
  refine sr ?_
  refine pv 12 (.string s) ?_
  refine pl_val (want_no rfl) (some 13) rfl (.int .i64 32) (fun w => Eq.trans (b := .ok (.value (.int .i64 (s.size : Int))) w) (by kernel_rfl) (by rw [hs]; rfl)) ?_
  refine pv 14 (.bool false) ?_
  refine nt ?_
  refine wp_cond_false (by kernel_rfl) ?_
  refine wp_skip ?_
  refine au_then ?_
  refine sr ?_
  refine pv 16 (.string s) ?_
  refine pl_conv M (want_no rfl) (some 17) rfl _ rfl (s) (by kernel_rfl) 32 hs ?_
  intro g2 cg2 Z1 w2 z1 M
  replace M : Mem w [⟨g1, .cells (arr 64 (fun _ => 0)) 41⟩, ⟨g2, Z1⟩] w2 := M
  refine pv 4 (.slice (some ⟨g2, 0, none⟩) 32 cg2) ?_
  refine nt ?_
  refine sr ?_
  refine pv 18 (.slice (some ⟨g2, 0, none⟩) 32 cg2) ?_
  refine pv 19 (.pointer (some ⟨g2, 31, none⟩)) ?_
  refine pl_loadb M (want_no rfl) (some 20) rfl 5 _ rfl 1 g2 31 (by kernel_rfl) (Z1) rfl 32 (bt (s)) z1 (by decide) (fun _ => by kernel_rfl) ?_
  refine pl_val (want_no rfl) (some 21) rfl (.int .u8 (bt (s) 31 / 128)) (fun w => run_bin .shr 5 _ _ rfl (by kernel_rfl) (by kernel_rfl) (fun _ => by kernel_rfl) (run_shr7 _) w) ?_
  refine pl_val (want_no rfl) (some 22) rfl (.bool true) (fun w => Eq.trans (b := .ok (.value (.bool (decide (bt s 31 / 128 = 1)))) w) (by kernel_rfl) (by rw [ho])) ?_
  refine pv 5 (.bool true) ?_
  refine nt ?_
  refine sr ?_
  refine pv 23 (.slice (some ⟨g2, 0, none⟩) 32 cg2) ?_
  refine pv 24 (.slice (some ⟨g2, 0, none⟩) 32 cg2) ?_
  refine pv 25 (.pointer (some ⟨g2, 31, none⟩)) ?_
  refine pl_loadb M (want_no rfl) (some 26) rfl 5 _ rfl 1 g2 31 (by kernel_rfl) (Z1) rfl 32 (bt (s)) z1 (by decide) (fun _ => by kernel_rfl) ?_
  refine pv 27 (.int .u8 (bits .and .u8 ((bt (s)) 31) 127)) ?_
  refine pv 28 (.pointer (some ⟨g2, 31, none⟩)) ?_
  refine pl_storeb M (want_no rfl) rfl 5 _ _ rfl 1 g2 31 (by kernel_rfl) (bits .and .u8 ((bt (s)) 31) 127) (by kernel_rfl) (Z1) rfl 32 (bt (s)) z1 (by decide) inzb ?_
  intro Z2 w3 z2 M
  replace M : Mem w [⟨g1, .cells (arr 64 (fun _ => 0)) 41⟩, ⟨g2, Z2⟩] w3 := M
  refine nt ?_
  refine wp_seq ?_
  refine sr ?_
  refine pv 29 (.slice (some ⟨g2, 0, none⟩) 32 cg2) ?_
  refine pl_back M (want_no rfl) (some 30) rfl _ rfl 1 g2 32 cg2 (by kernel_rfl) (Z2) rfl (upd (bt (s)) 31 (bits .and .u8 ((bt (s)) 31) 127)) z2 hf ?_
  refine pl_call M (want_no rfl) (some 31) rfl 37 #[.string (bs ((List.range 32).map (upd (bt (s)) 31 (bits .and .u8 ((bt (s)) 31) 127))))] (.bool true) (fun _ => by kernel_rfl) F.h1 ?_
  intro w4 M
  refine pv 32 (.bool false) ?_
  refine nt ?_
  refine wp_cond_false (by kernel_rfl) ?_
  refine wp_skip ?_
  refine au_then ?_
  refine sr ?_
  refine pv 34 (.slice (some ⟨g2, 0, none⟩) 32 cg2) ?_
  refine pl_back M (want_no rfl) (some 35) rfl _ rfl 1 g2 32 cg2 (by kernel_rfl) (Z2) rfl (upd (bt (s)) 31 (bits .and .u8 ((bt (s)) 31) 127)) z2 hf ?_
  refine pl_call M (want_no rfl) (some 36) rfl 38 #[.string (bs ((List.range 32).map (upd (bt (s)) 31 (bits .and .u8 ((bt (s)) 31) 127))))] (.agg (arr 16 r1)) (fun _ => by kernel_rfl) F.h2 ?_
  intro w5 M
  refine pl_new M (want_no rfl) (some 6) rfl (.cells (arr 16 (fun _ => 0)) 39) (fun _ => by kernel_rfl) ?_
  intro g3 w6 M
  replace M : Mem w [⟨g1, .cells (arr 64 (fun _ => 0)) 41⟩, ⟨g2, Z2⟩, ⟨g3, .cells (arr 16 (fun _ => 0)) 39⟩] w6 := M
  refine pl_put M (want_no rfl) rfl 39 _ _ rfl 2 g3 (by kernel_rfl) 16 39 (fun _ => 0) r1 rfl (by kernel_rfl) inz39 ?_
  intro w7 M
  replace M : Mem w [⟨g1, .cells (arr 64 (fun _ => 0)) 41⟩, ⟨g2, Z2⟩, ⟨g3, .cells (arr 16 r1) 39⟩] w7 := M
  refine nt ?_
  refine sr ?_
  refine pl_load M (want_no rfl) (some 37) rfl 39 _ rfl 2 g3 0 (by kernel_rfl) 16 39 r1 rfl 16 r1 (Part.all _ _) (by decide) _ Tryz.underlying39 rfl inz39 ?_
  refine pl_load M (want_no rfl) (some 38) rfl 39 _ rfl 2 g3 0 (by kernel_rfl) 16 39 r1 rfl 16 r1 (Part.all _ _) (by decide) _ Tryz.underlying39 rfl inz39 ?_
  refine pl_call M (want_no rfl) (some 39) rfl 39 #[.agg (arr 16 r1), .agg (arr 16 r1)] (.agg (arr 16 r2)) (fun _ => by kernel_rfl) F.h3 ?_
  intro w8 M
  refine pl_new M (want_no rfl) (some 7) rfl (.cells (arr 16 (fun _ => 0)) 39) (fun _ => by kernel_rfl) ?_
  intro g4 w9 M
  replace M : Mem w [⟨g1, .cells (arr 64 (fun _ => 0)) 41⟩, ⟨g2, Z2⟩, ⟨g3, .cells (arr 16 r1) 39⟩, ⟨g4, .cells (arr 16 (fun _ => 0)) 39⟩] w9 := M
  refine pl_put M (want_no rfl) rfl 39 _ _ rfl 3 g4 (by kernel_rfl) 16 39 (fun _ => 0) r2 rfl (by kernel_rfl) inz39 ?_
  intro w10 M
  replace M : Mem w [⟨g1, .cells (arr 64 (fun _ => 0)) 41⟩, ⟨g2, Z2⟩, ⟨g3, .cells (arr 16 r1) 39⟩, ⟨g4, .cells (arr 16 r2) 39⟩] w10 := M
  refine nt ?_
  refine wp_seq ?_
  refine rg_allocs M 3 [(8, 39, 16)] (by kernel_rfl) (by kernel_rfl) ⟨rfl, rfl, fun _ _ => by kernel_rfl, trivial⟩ (by decide) ?_
  simp only [List.take_succ_cons, List.take_zero]
  refine k_load M (want_no rfl) (some 40) rfl 39 _ rfl 3 g4 0 (by kernel_rfl) 16 39 r2 rfl 16 r2 (Part.all _ _) (by decide) _ Tryz.underlying39 rfl inz39 ?_
  refine k_call (want_no rfl) (some 41) rfl 41 #[.int .u32 1] (.agg (arr 16 r3)) (fun _ => by kernel_rfl) F.h4 ?_
  refine k_call (want_no rfl) (some 42) rfl 40 #[.agg (arr 16 r2), .agg (arr 16 r3)] (.agg (arr 16 r4)) (fun _ => by kernel_rfl) F.h5 ?_
  refine kl_nil ?_
  intro w11 g5 M
  replace M : Mem w [⟨g1, .cells (arr 64 (fun _ => 0)) 41⟩, ⟨g2, Z2⟩, ⟨g3, .cells (arr 16 r1) 39⟩, ⟨g4, .cells (arr 16 r2) 39⟩, ⟨g5, .cells (arr 16 (fun _ => 0)) 39⟩] w11 := M
  refine pl_put M (want_no rfl) rfl 39 _ _ rfl 4 g5 (by kernel_rfl) 16 39 (fun _ => 0) r4 rfl (by kernel_rfl) inz39 ?_
  intro w12 M
  replace M : Mem w [⟨g1, .cells (arr 64 (fun _ => 0)) 41⟩, ⟨g2, Z2⟩, ⟨g3, .cells (arr 16 r1) 39⟩, ⟨g4, .cells (arr 16 r2) 39⟩, ⟨g5, .cells (arr 16 r4) 39⟩] w12 := M
  refine nt ?_
  refine wp_seq ?_
  refine rg_allocs M 5 [(9, 39, 16)] (by kernel_rfl) (by kernel_rfl) ⟨rfl, rfl, fun _ _ => by kernel_rfl, trivial⟩ (by decide) ?_
  simp only [List.take_succ_cons, List.take_zero]
  refine k_call (want_no rfl) (some 43) rfl 42 #[] (.agg (arr 16 r5)) (fun _ => by kernel_rfl) F.h6 ?_
  refine k_load M (want_no rfl) (some 44) rfl 39 _ rfl 3 g4 0 (by kernel_rfl) 16 39 r2 rfl 16 r2 (Part.all _ _) (by decide) _ Tryz.underlying39 rfl inz39 ?_
  refine k_call (want_no rfl) (some 45) rfl 39 #[.agg (arr 16 r5), .agg (arr 16 r2)] (.agg (arr 16 r6)) (fun _ => by kernel_rfl) F.h7 ?_
  refine k_call (want_no rfl) (some 46) rfl 41 #[.int .u32 1] (.agg (arr 16 r3)) (fun _ => by kernel_rfl) F.h4 ?_
  refine k_call (want_no rfl) (some 47) rfl 43 #[.agg (arr 16 r6), .agg (arr 16 r3)] (.agg (arr 16 r7)) (fun _ => by kernel_rfl) F.h8 ?_
  refine kl_nil ?_
  intro w13 g6 M
  replace M : Mem w [⟨g1, .cells (arr 64 (fun _ => 0)) 41⟩, ⟨g2, Z2⟩, ⟨g3, .cells (arr 16 r1) 39⟩, ⟨g4, .cells (arr 16 r2) 39⟩, ⟨g5, .cells (arr 16 r4) 39⟩, ⟨g6, .cells (arr 16 (fun _ => 0)) 39⟩] w13 := M
  refine pl_put M (want_no rfl) rfl 39 _ _ rfl 5 g6 (by kernel_rfl) 16 39 (fun _ => 0) r7 rfl (by kernel_rfl) inz39 ?_
  intro w14 M
  replace M : Mem w [⟨g1, .cells (arr 64 (fun _ => 0)) 41⟩, ⟨g2, Z2⟩, ⟨g3, .cells (arr 16 r1) 39⟩, ⟨g4, .cells (arr 16 r2) 39⟩, ⟨g5, .cells (arr 16 r4) 39⟩, ⟨g6, .cells (arr 16 r7) 39⟩] w14 := M
  refine nt ?_
  refine wp_seq ?_
  refine region_cut (fun a0 a' w' => ∃ gT8 : Nat, a' = ((((((((((a0.put (some 49) (.agg (arr 16 r4))).put (some 50) (.agg (arr 16 r7))).put (some 51) (.agg (arr 16 r8))).put (some 52) (.agg (arr 16 r9))).put (some 53) (.tuple #[.agg (arr 16 r10), .bool true])).put (some 48) (.tuple #[.agg (arr 16 r10), .bool true])).put (some 54) (.agg (arr 16 r10))).put (some 55) (.bool true)).put (some 10) (.pointer (some ⟨gT8, 0, none⟩))).put (some 11) (.bool true)) ∧ Mem w [⟨g1, .cells (arr 64 (fun _ => 0)) 41⟩, ⟨g2, Z2⟩, ⟨g3, .cells (arr 16 r1) 39⟩, ⟨g4, .cells (arr 16 r2) 39⟩, ⟨g5, .cells (arr 16 r4) 39⟩, ⟨g6, .cells (arr 16 r7) 39⟩, ⟨gT8, .cells (arr 16 r10) 39⟩] w') (by kernel_rfl) ?_ ?_
  rotate_left
  · intro hrest
    replace M := M.drew
    refine rdy [0, 1, 8] ?_
    refine rd_load M rfl rfl (some 49) rfl 39 _ rfl 4 g5 (by kernel_rfl) 16 39 r4 rfl _ Tryz.underlying39 rfl inz39 ?_ ?_
    · skip
      refine rdy [1, 8] ?_
      refine rd_load M rfl rfl (some 50) rfl 39 _ rfl 5 g6 (by kernel_rfl) 16 39 r7 rfl _ Tryz.underlying39 rfl inz39 ?_ ?_
      · skip
        refine rdy [2, 8] ?_
        refine rd_call M rfl rfl (some 51) rfl 44 #[.agg (arr 16 r7)] (.agg (arr 16 r8)) (fun _ => by kernel_rfl) F.h9 ?_ ?_
        · intro u1 M
          refine rdy [3, 8] ?_
          refine rd_call M rfl rfl (some 52) rfl 39 #[.agg (arr 16 r4), .agg (arr 16 r8)] (.agg (arr 16 r9)) (fun _ => by kernel_rfl) F.h10 ?_ ?_
          · intro u2 M
            refine rdy [4, 8] ?_
            refine rd_call M rfl rfl (some 53) rfl 45 #[.agg (arr 16 r9)] (.tuple #[.agg (arr 16 r10), .bool true]) (fun _ => by kernel_rfl) F.h11 ?_ ?_
            · intro u3 M
              refine tk 5 (.tuple #[.agg (arr 16 r10), .bool true]) ?_
              refine tk 6 (.agg (arr 16 r10)) ?_
              refine tk 7 (.bool true) ?_
              refine rdy [8] ?_
              refine rd_new M rfl rfl (some 10) rfl (.cells (arr 16 (fun _ => 0)) 39) (fun _ => by kernel_rfl) ?_ ?_
              · intro k4 u4 M
                refine rdy [9] ?_
                refine rd_put M rfl rfl rfl 39 _ _ rfl 6 k4 (by kernel_rfl) 16 39 (fun _ => 0) r10 rfl (by kernel_rfl) inz39 ?_ ?_
                · intro u5 M
                  refine tk 10 (.bool true) ?_
                  exact rd_end (by kernel_rfl) (hrest _ _ ⟨k4, by kernel_rfl, M⟩) _
                exact AllReady.nil
              exact AllReady.nil
            refine rd_new M rfl rfl (some 10) rfl (.cells (arr 16 (fun _ => 0)) 39) (fun _ => by kernel_rfl) ?_ ?_
            · intro k6 u6 M
              refine rdy [4] ?_
              refine rd_call M rfl rfl (some 53) rfl 45 #[.agg (arr 16 r9)] (.tuple #[.agg (arr 16 r10), .bool true]) (fun _ => by kernel_rfl) F.h11 ?_ ?_
              · intro u7 M
                refine tk 5 (.tuple #[.agg (arr 16 r10), .bool true]) ?_
                refine tk 6 (.agg (arr 16 r10)) ?_
                refine tk 7 (.bool true) ?_
                refine rdy [9] ?_
                refine rd_put M rfl rfl rfl 39 _ _ rfl 6 k6 (by kernel_rfl) 16 39 (fun _ => 0) r10 rfl (by kernel_rfl) inz39 ?_ ?_
                · intro u8 M
                  refine tk 10 (.bool true) ?_
                  exact rd_end (by kernel_rfl) (hrest _ _ ⟨k6, by kernel_rfl, M⟩) _
                exact AllReady.nil
              exact AllReady.nil
            exact AllReady.nil
          refine rd_new M rfl rfl (some 10) rfl (.cells (arr 16 (fun _ => 0)) 39) (fun _ => by kernel_rfl) ?_ ?_
          · intro k9 u9 M
            refine rdy [3] ?_
            refine rd_call M rfl rfl (some 52) rfl 39 #[.agg (arr 16 r4), .agg (arr 16 r8)] (.agg (arr 16 r9)) (fun _ => by kernel_rfl) F.h10 ?_ ?_
            · intro u10 M
              refine rdy [4] ?_
              refine rd_call M rfl rfl (some 53) rfl 45 #[.agg (arr 16 r9)] (.tuple #[.agg (arr 16 r10), .bool true]) (fun _ => by kernel_rfl) F.h11 ?_ ?_
              · intro u11 M
                refine tk 5 (.tuple #[.agg (arr 16 r10), .bool true]) ?_
                refine tk 6 (.agg (arr 16 r10)) ?_
                refine tk 7 (.bool true) ?_
                refine rdy [9] ?_
                refine rd_put M rfl rfl rfl 39 _ _ rfl 6 k9 (by kernel_rfl) 16 39 (fun _ => 0) r10 rfl (by kernel_rfl) inz39 ?_ ?_
                · intro u12 M
                  refine tk 10 (.bool true) ?_
                  exact rd_end (by kernel_rfl) (hrest _ _ ⟨k9, by kernel_rfl, M⟩) _
                exact AllReady.nil
              exact AllReady.nil
            exact AllReady.nil
          exact AllReady.nil
        refine rd_new M rfl rfl (some 10) rfl (.cells (arr 16 (fun _ => 0)) 39) (fun _ => by kernel_rfl) ?_ ?_
        · intro k13 u13 M
          refine rdy [2] ?_
          refine rd_call M rfl rfl (some 51) rfl 44 #[.agg (arr 16 r7)] (.agg (arr 16 r8)) (fun _ => by kernel_rfl) F.h9 ?_ ?_
          · intro u14 M
            refine rdy [3] ?_
            refine rd_call M rfl rfl (some 52) rfl 39 #[.agg (arr 16 r4), .agg (arr 16 r8)] (.agg (arr 16 r9)) (fun _ => by kernel_rfl) F.h10 ?_ ?_
            · intro u15 M
              refine rdy [4] ?_
              refine rd_call M rfl rfl (some 53) rfl 45 #[.agg (arr 16 r9)] (.tuple #[.agg (arr 16 r10), .bool true]) (fun _ => by kernel_rfl) F.h11 ?_ ?_
              · intro u16 M
                refine tk 5 (.tuple #[.agg (arr 16 r10), .bool true]) ?_
                refine tk 6 (.agg (arr 16 r10)) ?_
                refine tk 7 (.bool true) ?_
                refine rdy [9] ?_
                refine rd_put M rfl rfl rfl 39 _ _ rfl 6 k13 (by kernel_rfl) 16 39 (fun _ => 0) r10 rfl (by kernel_rfl) inz39 ?_ ?_
                · intro u17 M
                  refine tk 10 (.bool true) ?_
                  exact rd_end (by kernel_rfl) (hrest _ _ ⟨k13, by kernel_rfl, M⟩) _
                exact AllReady.nil
              exact AllReady.nil
            exact AllReady.nil
          exact AllReady.nil
        exact AllReady.nil
      refine rd_new M rfl rfl (some 10) rfl (.cells (arr 16 (fun _ => 0)) 39) (fun _ => by kernel_rfl) ?_ ?_
      · intro k18 u18 M
        refine rdy [1] ?_
        refine rd_load M rfl rfl (some 50) rfl 39 _ rfl 5 g6 (by kernel_rfl) 16 39 r7 rfl _ Tryz.underlying39 rfl inz39 ?_ ?_
        · skip
          refine rdy [2] ?_
          refine rd_call M rfl rfl (some 51) rfl 44 #[.agg (arr 16 r7)] (.agg (arr 16 r8)) (fun _ => by kernel_rfl) F.h9 ?_ ?_
          · intro u19 M
            refine rdy [3] ?_
            refine rd_call M rfl rfl (some 52) rfl 39 #[.agg (arr 16 r4), .agg (arr 16 r8)] (.agg (arr 16 r9)) (fun _ => by kernel_rfl) F.h10 ?_ ?_
            · intro u20 M
              refine rdy [4] ?_
              refine rd_call M rfl rfl (some 53) rfl 45 #[.agg (arr 16 r9)] (.tuple #[.agg (arr 16 r10), .bool true]) (fun _ => by kernel_rfl) F.h11 ?_ ?_
              · intro u21 M
                refine tk 5 (.tuple #[.agg (arr 16 r10), .bool true]) ?_
                refine tk 6 (.agg (arr 16 r10)) ?_
                refine tk 7 (.bool true) ?_
                refine rdy [9] ?_
                refine rd_put M rfl rfl rfl 39 _ _ rfl 6 k18 (by kernel_rfl) 16 39 (fun _ => 0) r10 rfl (by kernel_rfl) inz39 ?_ ?_
                · intro u22 M
                  refine tk 10 (.bool true) ?_
                  exact rd_end (by kernel_rfl) (hrest _ _ ⟨k18, by kernel_rfl, M⟩) _
                exact AllReady.nil
              exact AllReady.nil
            exact AllReady.nil
          exact AllReady.nil
        exact AllReady.nil
      exact AllReady.nil
    refine rd_load M rfl rfl (some 50) rfl 39 _ rfl 5 g6 (by kernel_rfl) 16 39 r7 rfl _ Tryz.underlying39 rfl inz39 ?_ ?_
    · skip
      refine rdy [0, 2, 8] ?_
      refine rd_load M rfl rfl (some 49) rfl 39 _ rfl 4 g5 (by kernel_rfl) 16 39 r4 rfl _ Tryz.underlying39 rfl inz39 ?_ ?_
      · skip
        refine rdy [2, 8] ?_
        refine rd_call M rfl rfl (some 51) rfl 44 #[.agg (arr 16 r7)] (.agg (arr 16 r8)) (fun _ => by kernel_rfl) F.h9 ?_ ?_
        · intro u23 M
          refine rdy [3, 8] ?_
          refine rd_call M rfl rfl (some 52) rfl 39 #[.agg (arr 16 r4), .agg (arr 16 r8)] (.agg (arr 16 r9)) (fun _ => by kernel_rfl) F.h10 ?_ ?_
          · intro u24 M
            refine rdy [4, 8] ?_
            refine rd_call M rfl rfl (some 53) rfl 45 #[.agg (arr 16 r9)] (.tuple #[.agg (arr 16 r10), .bool true]) (fun _ => by kernel_rfl) F.h11 ?_ ?_
            · intro u25 M
              refine tk 5 (.tuple #[.agg (arr 16 r10), .bool true]) ?_
              refine tk 6 (.agg (arr 16 r10)) ?_
              refine tk 7 (.bool true) ?_
              refine rdy [8] ?_
              refine rd_new M rfl rfl (some 10) rfl (.cells (arr 16 (fun _ => 0)) 39) (fun _ => by kernel_rfl) ?_ ?_
              · intro k26 u26 M
                refine rdy [9] ?_
                refine rd_put M rfl rfl rfl 39 _ _ rfl 6 k26 (by kernel_rfl) 16 39 (fun _ => 0) r10 rfl (by kernel_rfl) inz39 ?_ ?_
                · intro u27 M
                  refine tk 10 (.bool true) ?_
                  exact rd_end (by kernel_rfl) (hrest _ _ ⟨k26, by kernel_rfl, M⟩) _
                exact AllReady.nil
              exact AllReady.nil
            refine rd_new M rfl rfl (some 10) rfl (.cells (arr 16 (fun _ => 0)) 39) (fun _ => by kernel_rfl) ?_ ?_
            · intro k28 u28 M
              refine rdy [4] ?_
              refine rd_call M rfl rfl (some 53) rfl 45 #[.agg (arr 16 r9)] (.tuple #[.agg (arr 16 r10), .bool true]) (fun _ => by kernel_rfl) F.h11 ?_ ?_
              · intro u29 M
                refine tk 5 (.tuple #[.agg (arr 16 r10), .bool true]) ?_
                refine tk 6 (.agg (arr 16 r10)) ?_
                refine tk 7 (.bool true) ?_
                refine rdy [9] ?_
                refine rd_put M rfl rfl rfl 39 _ _ rfl 6 k28 (by kernel_rfl) 16 39 (fun _ => 0) r10 rfl (by kernel_rfl) inz39 ?_ ?_
                · intro u30 M
                  refine tk 10 (.bool true) ?_
                  exact rd_end (by kernel_rfl) (hrest _ _ ⟨k28, by kernel_rfl, M⟩) _
                exact AllReady.nil
              exact AllReady.nil
            exact AllReady.nil
          refine rd_new M rfl rfl (some 10) rfl (.cells (arr 16 (fun _ => 0)) 39) (fun _ => by kernel_rfl) ?_ ?_
          · intro k31 u31 M
            refine rdy [3] ?_
            refine rd_call M rfl rfl (some 52) rfl 39 #[.agg (arr 16 r4), .agg (arr 16 r8)] (.agg (arr 16 r9)) (fun _ => by kernel_rfl) F.h10 ?_ ?_
            · intro u32 M
              refine rdy [4] ?_
              refine rd_call M rfl rfl (some 53) rfl 45 #[.agg (arr 16 r9)] (.tuple #[.agg (arr 16 r10), .bool true]) (fun _ => by kernel_rfl) F.h11 ?_ ?_
              · intro u33 M
                refine tk 5 (.tuple #[.agg (arr 16 r10), .bool true]) ?_
                refine tk 6 (.agg (arr 16 r10)) ?_
                refine tk 7 (.bool true) ?_
                refine rdy [9] ?_
                refine rd_put M rfl rfl rfl 39 _ _ rfl 6 k31 (by kernel_rfl) 16 39 (fun _ => 0) r10 rfl (by kernel_rfl) inz39 ?_ ?_
                · intro u34 M
                  refine tk 10 (.bool true) ?_
                  exact rd_end (by kernel_rfl) (hrest _ _ ⟨k31, by kernel_rfl, M⟩) _
                exact AllReady.nil
              exact AllReady.nil
            exact AllReady.nil
          exact AllReady.nil
        refine rd_new M rfl rfl (some 10) rfl (.cells (arr 16 (fun _ => 0)) 39) (fun _ => by kernel_rfl) ?_ ?_
        · intro k35 u35 M
          refine rdy [2] ?_
          refine rd_call M rfl rfl (some 51) rfl 44 #[.agg (arr 16 r7)] (.agg (arr 16 r8)) (fun _ => by kernel_rfl) F.h9 ?_ ?_
          · intro u36 M
            refine rdy [3] ?_
            refine rd_call M rfl rfl (some 52) rfl 39 #[.agg (arr 16 r4), .agg (arr 16 r8)] (.agg (arr 16 r9)) (fun _ => by kernel_rfl) F.h10 ?_ ?_
            · intro u37 M
              refine rdy [4] ?_
              refine rd_call M rfl rfl (some 53) rfl 45 #[.agg (arr 16 r9)] (.tuple #[.agg (arr 16 r10), .bool true]) (fun _ => by kernel_rfl) F.h11 ?_ ?_
              · intro u38 M
                refine tk 5 (.tuple #[.agg (arr 16 r10), .bool true]) ?_
                refine tk 6 (.agg (arr 16 r10)) ?_
                refine tk 7 (.bool true) ?_
                refine rdy [9] ?_
                refine rd_put M rfl rfl rfl 39 _ _ rfl 6 k35 (by kernel_rfl) 16 39 (fun _ => 0) r10 rfl (by kernel_rfl) inz39 ?_ ?_
                · intro u39 M
                  refine tk 10 (.bool true) ?_
                  exact rd_end (by kernel_rfl) (hrest _ _ ⟨k35, by kernel_rfl, M⟩) _
                exact AllReady.nil
              exact AllReady.nil
            exact AllReady.nil
          exact AllReady.nil
        exact AllReady.nil
      refine rd_call M rfl rfl (some 51) rfl 44 #[.agg (arr 16 r7)] (.agg (arr 16 r8)) (fun _ => by kernel_rfl) F.h9 ?_ ?_
      · intro u40 M
        refine rdy [0, 8] ?_
        refine rd_load M rfl rfl (some 49) rfl 39 _ rfl 4 g5 (by kernel_rfl) 16 39 r4 rfl _ Tryz.underlying39 rfl inz39 ?_ ?_
        · skip
          refine rdy [3, 8] ?_
          refine rd_call M rfl rfl (some 52) rfl 39 #[.agg (arr 16 r4), .agg (arr 16 r8)] (.agg (arr 16 r9)) (fun _ => by kernel_rfl) F.h10 ?_ ?_
          · intro u41 M
            refine rdy [4, 8] ?_
            refine rd_call M rfl rfl (some 53) rfl 45 #[.agg (arr 16 r9)] (.tuple #[.agg (arr 16 r10), .bool true]) (fun _ => by kernel_rfl) F.h11 ?_ ?_
            · intro u42 M
              refine tk 5 (.tuple #[.agg (arr 16 r10), .bool true]) ?_
              refine tk 6 (.agg (arr 16 r10)) ?_
              refine tk 7 (.bool true) ?_
              refine rdy [8] ?_
              refine rd_new M rfl rfl (some 10) rfl (.cells (arr 16 (fun _ => 0)) 39) (fun _ => by kernel_rfl) ?_ ?_
              · intro k43 u43 M
                refine rdy [9] ?_
                refine rd_put M rfl rfl rfl 39 _ _ rfl 6 k43 (by kernel_rfl) 16 39 (fun _ => 0) r10 rfl (by kernel_rfl) inz39 ?_ ?_
                · intro u44 M
                  refine tk 10 (.bool true) ?_
                  exact rd_end (by kernel_rfl) (hrest _ _ ⟨k43, by kernel_rfl, M⟩) _
                exact AllReady.nil
              exact AllReady.nil
            refine rd_new M rfl rfl (some 10) rfl (.cells (arr 16 (fun _ => 0)) 39) (fun _ => by kernel_rfl) ?_ ?_
            · intro k45 u45 M
              refine rdy [4] ?_
              refine rd_call M rfl rfl (some 53) rfl 45 #[.agg (arr 16 r9)] (.tuple #[.agg (arr 16 r10), .bool true]) (fun _ => by kernel_rfl) F.h11 ?_ ?_
              · intro u46 M
                refine tk 5 (.tuple #[.agg (arr 16 r10), .bool true]) ?_
                refine tk 6 (.agg (arr 16 r10)) ?_
                refine tk 7 (.bool true) ?_
                refine rdy [9] ?_
                refine rd_put M rfl rfl rfl 39 _ _ rfl 6 k45 (by kernel_rfl) 16 39 (fun _ => 0) r10 rfl (by kernel_rfl) inz39 ?_ ?_
                · intro u47 M
                  refine tk 10 (.bool true) ?_
                  exact rd_end (by kernel_rfl) (hrest _ _ ⟨k45, by kernel_rfl, M⟩) _
                exact AllReady.nil
              exact AllReady.nil
            exact AllReady.nil
          refine rd_new M rfl rfl (some 10) rfl (.cells (arr 16 (fun _ => 0)) 39) (fun _ => by kernel_rfl) ?_ ?_
          · intro k48 u48 M
            refine rdy [3] ?_
            refine rd_call M rfl rfl (some 52) rfl 39 #[.agg (arr 16 r4), .agg (arr 16 r8)] (.agg (arr 16 r9)) (fun _ => by kernel_rfl) F.h10 ?_ ?_
            · intro u49 M
              refine rdy [4] ?_
              refine rd_call M rfl rfl (some 53) rfl 45 #[.agg (arr 16 r9)] (.tuple #[.agg (arr 16 r10), .bool true]) (fun _ => by kernel_rfl) F.h11 ?_ ?_
              · intro u50 M
                refine tk 5 (.tuple #[.agg (arr 16 r10), .bool true]) ?_
                refine tk 6 (.agg (arr 16 r10)) ?_
                refine tk 7 (.bool true) ?_
                refine rdy [9] ?_
                refine rd_put M rfl rfl rfl 39 _ _ rfl 6 k48 (by kernel_rfl) 16 39 (fun _ => 0) r10 rfl (by kernel_rfl) inz39 ?_ ?_
                · intro u51 M
                  refine tk 10 (.bool true) ?_
                  exact rd_end (by kernel_rfl) (hrest _ _ ⟨k48, by kernel_rfl, M⟩) _
                exact AllReady.nil
              exact AllReady.nil
            exact AllReady.nil
          exact AllReady.nil
        refine rd_new M rfl rfl (some 10) rfl (.cells (arr 16 (fun _ => 0)) 39) (fun _ => by kernel_rfl) ?_ ?_
        · intro k52 u52 M
          refine rdy [0] ?_
          refine rd_load M rfl rfl (some 49) rfl 39 _ rfl 4 g5 (by kernel_rfl) 16 39 r4 rfl _ Tryz.underlying39 rfl inz39 ?_ ?_
          · skip
            refine rdy [3] ?_
            refine rd_call M rfl rfl (some 52) rfl 39 #[.agg (arr 16 r4), .agg (arr 16 r8)] (.agg (arr 16 r9)) (fun _ => by kernel_rfl) F.h10 ?_ ?_
            · intro u53 M
              refine rdy [4] ?_
              refine rd_call M rfl rfl (some 53) rfl 45 #[.agg (arr 16 r9)] (.tuple #[.agg (arr 16 r10), .bool true]) (fun _ => by kernel_rfl) F.h11 ?_ ?_
              · intro u54 M
                refine tk 5 (.tuple #[.agg (arr 16 r10), .bool true]) ?_
                refine tk 6 (.agg (arr 16 r10)) ?_
                refine tk 7 (.bool true) ?_
                refine rdy [9] ?_
                refine rd_put M rfl rfl rfl 39 _ _ rfl 6 k52 (by kernel_rfl) 16 39 (fun _ => 0) r10 rfl (by kernel_rfl) inz39 ?_ ?_
                · intro u55 M
                  refine tk 10 (.bool true) ?_
                  exact rd_end (by kernel_rfl) (hrest _ _ ⟨k52, by kernel_rfl, M⟩) _
                exact AllReady.nil
              exact AllReady.nil
            exact AllReady.nil
          exact AllReady.nil
        exact AllReady.nil
      refine rd_new M rfl rfl (some 10) rfl (.cells (arr 16 (fun _ => 0)) 39) (fun _ => by kernel_rfl) ?_ ?_
      · intro k56 u56 M
        refine rdy [0, 2] ?_
        refine rd_load M rfl rfl (some 49) rfl 39 _ rfl 4 g5 (by kernel_rfl) 16 39 r4 rfl _ Tryz.underlying39 rfl inz39 ?_ ?_
        · skip
          refine rdy [2] ?_
          refine rd_call M rfl rfl (some 51) rfl 44 #[.agg (arr 16 r7)] (.agg (arr 16 r8)) (fun _ => by kernel_rfl) F.h9 ?_ ?_
          · intro u57 M
            refine rdy [3] ?_
            refine rd_call M rfl rfl (some 52) rfl 39 #[.agg (arr 16 r4), .agg (arr 16 r8)] (.agg (arr 16 r9)) (fun _ => by kernel_rfl) F.h10 ?_ ?_
            · intro u58 M
              refine rdy [4] ?_
              refine rd_call M rfl rfl (some 53) rfl 45 #[.agg (arr 16 r9)] (.tuple #[.agg (arr 16 r10), .bool true]) (fun _ => by kernel_rfl) F.h11 ?_ ?_
              · intro u59 M
                refine tk 5 (.tuple #[.agg (arr 16 r10), .bool true]) ?_
                refine tk 6 (.agg (arr 16 r10)) ?_
                refine tk 7 (.bool true) ?_
                refine rdy [9] ?_
                refine rd_put M rfl rfl rfl 39 _ _ rfl 6 k56 (by kernel_rfl) 16 39 (fun _ => 0) r10 rfl (by kernel_rfl) inz39 ?_ ?_
                · intro u60 M
                  refine tk 10 (.bool true) ?_
                  exact rd_end (by kernel_rfl) (hrest _ _ ⟨k56, by kernel_rfl, M⟩) _
                exact AllReady.nil
              exact AllReady.nil
            exact AllReady.nil
          exact AllReady.nil
        refine rd_call M rfl rfl (some 51) rfl 44 #[.agg (arr 16 r7)] (.agg (arr 16 r8)) (fun _ => by kernel_rfl) F.h9 ?_ ?_
        · intro u61 M
          refine rdy [0] ?_
          refine rd_load M rfl rfl (some 49) rfl 39 _ rfl 4 g5 (by kernel_rfl) 16 39 r4 rfl _ Tryz.underlying39 rfl inz39 ?_ ?_
          · skip
            refine rdy [3] ?_
            refine rd_call M rfl rfl (some 52) rfl 39 #[.agg (arr 16 r4), .agg (arr 16 r8)] (.agg (arr 16 r9)) (fun _ => by kernel_rfl) F.h10 ?_ ?_
            · intro u62 M
              refine rdy [4] ?_
              refine rd_call M rfl rfl (some 53) rfl 45 #[.agg (arr 16 r9)] (.tuple #[.agg (arr 16 r10), .bool true]) (fun _ => by kernel_rfl) F.h11 ?_ ?_
              · intro u63 M
                refine tk 5 (.tuple #[.agg (arr 16 r10), .bool true]) ?_
                refine tk 6 (.agg (arr 16 r10)) ?_
                refine tk 7 (.bool true) ?_
                refine rdy [9] ?_
                refine rd_put M rfl rfl rfl 39 _ _ rfl 6 k56 (by kernel_rfl) 16 39 (fun _ => 0) r10 rfl (by kernel_rfl) inz39 ?_ ?_
                · intro u64 M
                  refine tk 10 (.bool true) ?_
                  exact rd_end (by kernel_rfl) (hrest _ _ ⟨k56, by kernel_rfl, M⟩) _
                exact AllReady.nil
              exact AllReady.nil
            exact AllReady.nil
          exact AllReady.nil
        exact AllReady.nil
      exact AllReady.nil
    refine rd_new M rfl rfl (some 10) rfl (.cells (arr 16 (fun _ => 0)) 39) (fun _ => by kernel_rfl) ?_ ?_
    · intro k65 u65 M
      refine rdy [0, 1] ?_
      refine rd_load M rfl rfl (some 49) rfl 39 _ rfl 4 g5 (by kernel_rfl) 16 39 r4 rfl _ Tryz.underlying39 rfl inz39 ?_ ?_
      · skip
        refine rdy [1] ?_
        refine rd_load M rfl rfl (some 50) rfl 39 _ rfl 5 g6 (by kernel_rfl) 16 39 r7 rfl _ Tryz.underlying39 rfl inz39 ?_ ?_
        · skip
          refine rdy [2] ?_
          refine rd_call M rfl rfl (some 51) rfl 44 #[.agg (arr 16 r7)] (.agg (arr 16 r8)) (fun _ => by kernel_rfl) F.h9 ?_ ?_
          · intro u66 M
            refine rdy [3] ?_
            refine rd_call M rfl rfl (some 52) rfl 39 #[.agg (arr 16 r4), .agg (arr 16 r8)] (.agg (arr 16 r9)) (fun _ => by kernel_rfl) F.h10 ?_ ?_
            · intro u67 M
              refine rdy [4] ?_
              refine rd_call M rfl rfl (some 53) rfl 45 #[.agg (arr 16 r9)] (.tuple #[.agg (arr 16 r10), .bool true]) (fun _ => by kernel_rfl) F.h11 ?_ ?_
              · intro u68 M
                refine tk 5 (.tuple #[.agg (arr 16 r10), .bool true]) ?_
                refine tk 6 (.agg (arr 16 r10)) ?_
                refine tk 7 (.bool true) ?_
                refine rdy [9] ?_
                refine rd_put M rfl rfl rfl 39 _ _ rfl 6 k65 (by kernel_rfl) 16 39 (fun _ => 0) r10 rfl (by kernel_rfl) inz39 ?_ ?_
                · intro u69 M
                  refine tk 10 (.bool true) ?_
                  exact rd_end (by kernel_rfl) (hrest _ _ ⟨k65, by kernel_rfl, M⟩) _
                exact AllReady.nil
              exact AllReady.nil
            exact AllReady.nil
          exact AllReady.nil
        exact AllReady.nil
      refine rd_load M rfl rfl (some 50) rfl 39 _ rfl 5 g6 (by kernel_rfl) 16 39 r7 rfl _ Tryz.underlying39 rfl inz39 ?_ ?_
      · skip
        refine rdy [0, 2] ?_
        refine rd_load M rfl rfl (some 49) rfl 39 _ rfl 4 g5 (by kernel_rfl) 16 39 r4 rfl _ Tryz.underlying39 rfl inz39 ?_ ?_
        · skip
          refine rdy [2] ?_
          refine rd_call M rfl rfl (some 51) rfl 44 #[.agg (arr 16 r7)] (.agg (arr 16 r8)) (fun _ => by kernel_rfl) F.h9 ?_ ?_
          · intro u70 M
            refine rdy [3] ?_
            refine rd_call M rfl rfl (some 52) rfl 39 #[.agg (arr 16 r4), .agg (arr 16 r8)] (.agg (arr 16 r9)) (fun _ => by kernel_rfl) F.h10 ?_ ?_
            · intro u71 M
              refine rdy [4] ?_
              refine rd_call M rfl rfl (some 53) rfl 45 #[.agg (arr 16 r9)] (.tuple #[.agg (arr 16 r10), .bool true]) (fun _ => by kernel_rfl) F.h11 ?_ ?_
              · intro u72 M
                refine tk 5 (.tuple #[.agg (arr 16 r10), .bool true]) ?_
                refine tk 6 (.agg (arr 16 r10)) ?_
                refine tk 7 (.bool true) ?_
                refine rdy [9] ?_
                refine rd_put M rfl rfl rfl 39 _ _ rfl 6 k65 (by kernel_rfl) 16 39 (fun _ => 0) r10 rfl (by kernel_rfl) inz39 ?_ ?_
                · intro u73 M
                  refine tk 10 (.bool true) ?_
                  exact rd_end (by kernel_rfl) (hrest _ _ ⟨k65, by kernel_rfl, M⟩) _
                exact AllReady.nil
              exact AllReady.nil
            exact AllReady.nil
          exact AllReady.nil
        refine rd_call M rfl rfl (some 51) rfl 44 #[.agg (arr 16 r7)] (.agg (arr 16 r8)) (fun _ => by kernel_rfl) F.h9 ?_ ?_
        · intro u74 M
          refine rdy [0] ?_
          refine rd_load M rfl rfl (some 49) rfl 39 _ rfl 4 g5 (by kernel_rfl) 16 39 r4 rfl _ Tryz.underlying39 rfl inz39 ?_ ?_
          · skip
            refine rdy [3] ?_
            refine rd_call M rfl rfl (some 52) rfl 39 #[.agg (arr 16 r4), .agg (arr 16 r8)] (.agg (arr 16 r9)) (fun _ => by kernel_rfl) F.h10 ?_ ?_
            · intro u75 M
              refine rdy [4] ?_
              refine rd_call M rfl rfl (some 53) rfl 45 #[.agg (arr 16 r9)] (.tuple #[.agg (arr 16 r10), .bool true]) (fun _ => by kernel_rfl) F.h11 ?_ ?_
              · intro u76 M
                refine tk 5 (.tuple #[.agg (arr 16 r10), .bool true]) ?_
                refine tk 6 (.agg (arr 16 r10)) ?_
                refine tk 7 (.bool true) ?_
                refine rdy [9] ?_
                refine rd_put M rfl rfl rfl 39 _ _ rfl 6 k65 (by kernel_rfl) 16 39 (fun _ => 0) r10 rfl (by kernel_rfl) inz39 ?_ ?_
                · intro u77 M
                  refine tk 10 (.bool true) ?_
                  exact rd_end (by kernel_rfl) (hrest _ _ ⟨k65, by kernel_rfl, M⟩) _
                exact AllReady.nil
              exact AllReady.nil
            exact AllReady.nil
          exact AllReady.nil
        exact AllReady.nil
      exact AllReady.nil
    exact AllReady.nil
  rintro _ w15 ⟨gT8, rfl, M⟩
  refine au_then ?_
  refine wp_seq ?_
  refine sr ?_
  refine pv 56 (.bool true) ?_
  refine pv 57 (.bool false) ?_
  refine pv 58 (.bool false) ?_
  refine pl_load M (want_on 2 false rfl 58 rfl (by kernel_rfl)) (some 59) rfl 39 _ rfl 6 gT8 0 (by kernel_rfl) 16 39 r10 rfl 16 r10 (Part.all _ _) (by decide) _ Tryz.underlying39 rfl inz39 ?_
  refine pl_val (want_on 2 false rfl 58 rfl (by kernel_rfl)) (some 60) rfl (.agg (arr 16 (fun _ => 0))) (fun _ => by kernel_rfl) ?_
  refine pl_val (want_on 2 false rfl 58 rfl (by kernel_rfl)) (some 61) rfl (.bool false) (fun w => (run_eq16 r10 (fun _ => 0) _ _ rfl (by kernel_rfl) (by kernel_rfl) (fun _ => by kernel_rfl) w).trans (by rw [he])) ?_
  refine pl_val (want_on 2 false rfl 58 rfl (by kernel_rfl)) (some 62) rfl (.bool false) (fun _ => by kernel_rfl) ?_
  refine pl_skip (want_off 6 true rfl 62 rfl (by kernel_rfl)) (some 63) rfl ?_
  refine pl_val (want_on 2 false rfl 58 rfl (by kernel_rfl)) (some 64) rfl (.bool false) (fun _ => by kernel_rfl) ?_
  refine pv 65 (.bool false) ?_
  refine nt ?_
  refine wp_cond_false (by kernel_rfl) ?_
  refine wp_skip ?_
  refine au_then ?_
  refine wp_seq ?_
  refine sr ?_
  refine pv 67 (.bool true) ?_
  refine nt ?_
  refine wp_cond_true (by kernel_rfl) ?_
  refine rg_lit ?_
  refine pl_load M (want_no rfl) (some 68) rfl 39 _ rfl 6 gT8 0 (by kernel_rfl) 16 39 r10 rfl 16 r10 (Part.all _ _) (by decide) _ Tryz.underlying39 rfl inz39 ?_
  refine pl_call M (want_no rfl) (some 69) rfl 46 #[.agg (arr 16 r10)] (.agg (arr 16 r11)) (fun _ => by kernel_rfl) F.h12 ?_
  intro w16 M
  refine pl_put M (want_no rfl) rfl 39 _ _ rfl 6 gT8 (by kernel_rfl) 16 39 r10 r11 rfl (by kernel_rfl) inz39 ?_
  intro w17 M
  replace M : Mem w [⟨g1, .cells (arr 64 (fun _ => 0)) 41⟩, ⟨g2, Z2⟩, ⟨g3, .cells (arr 16 r1) 39⟩, ⟨g4, .cells (arr 16 r2) 39⟩, ⟨g5, .cells (arr 16 r4) 39⟩, ⟨g6, .cells (arr 16 r7) 39⟩, ⟨gT8, .cells (arr 16 r11) 39⟩] w17 := M
  refine nt ?_
  refine sr ?_
  refine pl_load M (want_no rfl) (some 70) rfl 39 _ rfl 6 gT8 0 (by kernel_rfl) 16 39 r11 rfl 16 r11 (Part.all _ _) (by decide) _ Tryz.underlying39 rfl inz39 ?_
  refine pl_load M (want_no rfl) (some 71) rfl 39 _ rfl 2 g3 0 (by kernel_rfl) 16 39 r1 rfl 16 r1 (Part.all _ _) (by decide) _ Tryz.underlying39 rfl inz39 ?_
  refine pl_call M (want_no rfl) (some 72) rfl 47 #[.agg (arr 16 r11), .agg (arr 16 r1)] (.agg (arr 64 r12)) (fun _ => by kernel_rfl) F.h13 ?_
  intro w18 M
  refine pl_put M (want_no rfl) rfl 41 _ _ rfl 0 g1 (by kernel_rfl) 64 41 (fun _ => 0) r12 rfl (by kernel_rfl) inz41 ?_
  intro w19 M
  replace M : Mem w [⟨g1, .cells (arr 64 r12) 41⟩, ⟨g2, Z2⟩, ⟨g3, .cells (arr 16 r1) 39⟩, ⟨g4, .cells (arr 16 r2) 39⟩, ⟨g5, .cells (arr 16 r4) 39⟩, ⟨g6, .cells (arr 16 r7) 39⟩, ⟨gT8, .cells (arr 16 r11) 39⟩] w19 := M
  refine pv 3 (.int .i64 0) ?_
  refine nt ?_
  refine wp_ret ?_
  exact bodyPost_ret (v := .tuple #[.agg (arr 64 r12), .int .i64 0]) (results_cell_tmp Tryz.results8 _ _ g1 41 (arr 64 r12) (0, 0) _ (.int .i64 0) (by kernel_rfl) (by kernel_rfl) (M.get 0 rfl) Tryz.underlying41 rfl (by rw [arr_size]; exact inz41)) (by kernel_rfl) ⟨rfl, M.old⟩

structure rdecZTF (s : ByteArray) (r1 r2 r3 r4 r5 r6 r7 r8 r9 r10 : Nat → Int) : Prop where
  h1 : ∀ w, Calls Tryz.prog 37 #[.string (bs ((List.range 32).map (upd (bt (s)) 31 (bits .and .u8 ((bt (s)) 31) 127))))] w fun r w' => r = .returned (.bool true) ∧ Below w.heap.size w w'
  h2 : ∀ w, Calls Tryz.prog 38 #[.string (bs ((List.range 32).map (upd (bt (s)) 31 (bits .and .u8 ((bt (s)) 31) 127))))] w fun r w' => r = .returned (.agg (arr 16 r1)) ∧ Below w.heap.size w w'
  h3 : ∀ w, Calls Tryz.prog 39 #[.agg (arr 16 r1), .agg (arr 16 r1)] w fun r w' => r = .returned (.agg (arr 16 r2)) ∧ Below w.heap.size w w'
  h4 : ∀ w, Calls Tryz.prog 41 #[.int .u32 1] w fun r w' => r = .returned (.agg (arr 16 r3)) ∧ Below w.heap.size w w'
  h5 : ∀ w, Calls Tryz.prog 40 #[.agg (arr 16 r2), .agg (arr 16 r3)] w fun r w' => r = .returned (.agg (arr 16 r4)) ∧ Below w.heap.size w w'
  h6 : ∀ w, Calls Tryz.prog 42 #[] w fun r w' => r = .returned (.agg (arr 16 r5)) ∧ Below w.heap.size w w'
  h7 : ∀ w, Calls Tryz.prog 39 #[.agg (arr 16 r5), .agg (arr 16 r2)] w fun r w' => r = .returned (.agg (arr 16 r6)) ∧ Below w.heap.size w w'
  h8 : ∀ w, Calls Tryz.prog 43 #[.agg (arr 16 r6), .agg (arr 16 r3)] w fun r w' => r = .returned (.agg (arr 16 r7)) ∧ Below w.heap.size w w'
  h9 : ∀ w, Calls Tryz.prog 44 #[.agg (arr 16 r7)] w fun r w' => r = .returned (.agg (arr 16 r8)) ∧ Below w.heap.size w w'
  h10 : ∀ w, Calls Tryz.prog 39 #[.agg (arr 16 r4), .agg (arr 16 r8)] w fun r w' => r = .returned (.agg (arr 16 r9)) ∧ Below w.heap.size w w'
  h11 : ∀ w, Calls Tryz.prog 45 #[.agg (arr 16 r9)] w fun r w' => r = .returned (.tuple #[.agg (arr 16 r10), .bool true]) ∧ Below w.heap.size w w'

set_option maxRecDepth 100000 in
set_option maxHeartbeats 4000000 in
theorem rdecZT_gen (s : ByteArray) (r1 r2 r3 r4 r5 r6 r7 r8 r9 r10 : Nat → Int) (w : World) (F : rdecZTF s r1 r2 r3 r4 r5 r6 r7 r8 r9 r10) (hs : s.size = 32) (hf : ∀ i, i < 32 → 0 ≤ (upd (bt s) 31 (bits .and .u8 (bt s 31) 127)) i ∧ (upd (bt s) 31 (bits .and .u8 (bt s 31) 127)) i < 256) (ho : decide (bt s 31 / 128 = 1) = true) (he : eqw r10 (fun _ => 0) 0 16 = true) :
    Calls Tryz.prog 8 #[.string s] w fun r w' => r = .returned (.tuple #[.agg (arr 64 (fun _ => 0)), .int .i64 40]) ∧ Below w.heap.size w w' := by
  go_enter Tryz.func8, Tryz.ntmps8
  have M := Mem.start w
  refine sr ?_
  refine pl_new M (want_no rfl) (some 2) rfl (.cells (arr 64 (fun _ => 0)) 41) (fun _ => by kernel_rfl) ?_
  intro g1 w1 M
  replace M : Mem w [⟨g1, .cells (arr 64 (fun _ => 0)) 41⟩] w1 := M
  refine pv 3 (.int .i64 0) ?_
  refine nt ?_
  refine wp_seq ?_
  refine sr ?_
  refine pv 12 (.string s) ?_
  refine pl_val (want_no rfl) (some 13) rfl (.int .i64 32) (fun w => Eq.trans (b := .ok (.value (.int .i64 (s.size : Int))) w) (by kernel_rfl) (by rw [hs]; rfl)) ?_
  refine pv 14 (.bool false) ?_
  refine nt ?_
  refine wp_cond_false (by kernel_rfl) ?_
  refine wp_skip ?_
  refine au_then ?_
  refine sr ?_
  refine pv 16 (.string s) ?_
  refine pl_conv M (want_no rfl) (some 17) rfl _ rfl (s) (by kernel_rfl) 32 hs ?_
  intro g2 cg2 Z1 w2 z1 M
  replace M : Mem w [⟨g1, .cells (arr 64 (fun _ => 0)) 41⟩, ⟨g2, Z1⟩] w2 := M
  refine pv 4 (.slice (some ⟨g2, 0, none⟩) 32 cg2) ?_
  refine nt ?_
  refine sr ?_
  refine pv 18 (.slice (some ⟨g2, 0, none⟩) 32 cg2) ?_
  refine pv 19 (.pointer (some ⟨g2, 31, none⟩)) ?_
  refine pl_loadb M (want_no rfl) (some 20) rfl 5 _ rfl 1 g2 31 (by kernel_rfl) (Z1) rfl 32 (bt (s)) z1 (by decide) (fun _ => by kernel_rfl) ?_
  refine pl_val (want_no rfl) (some 21) rfl (.int .u8 (bt (s) 31 / 128)) (fun w => run_bin .shr 5 _ _ rfl (by kernel_rfl) (by kernel_rfl) (fun _ => by kernel_rfl) (run_shr7 _) w) ?_
  refine pl_val (want_no rfl) (some 22) rfl (.bool true) (fun w => Eq.trans (b := .ok (.value (.bool (decide (bt s 31 / 128 = 1)))) w) (by kernel_rfl) (by rw [ho])) ?_
  refine pv 5 (.bool true) ?_
  refine nt ?_
  refine sr ?_
  refine pv 23 (.slice (some ⟨g2, 0, none⟩) 32 cg2) ?_
  refine pv 24 (.slice (some ⟨g2, 0, none⟩) 32 cg2) ?_
  refine pv 25 (.pointer (some ⟨g2, 31, none⟩)) ?_
  refine pl_loadb M (want_no rfl) (some 26) rfl 5 _ rfl 1 g2 31 (by kernel_rfl) (Z1) rfl 32 (bt (s)) z1 (by decide) (fun _ => by kernel_rfl) ?_
  refine pv 27 (.int .u8 (bits .and .u8 ((bt (s)) 31) 127)) ?_
  refine pv 28 (.pointer (some ⟨g2, 31, none⟩)) ?_
  refine pl_storeb M (want_no rfl) rfl 5 _ _ rfl 1 g2 31 (by kernel_rfl) (bits .and .u8 ((bt (s)) 31) 127) (by kernel_rfl) (Z1) rfl 32 (bt (s)) z1 (by decide) inzb ?_
  intro Z2 w3 z2 M
  replace M : Mem w [⟨g1, .cells (arr 64 (fun _ => 0)) 41⟩, ⟨g2, Z2⟩] w3 := M
  refine nt ?_
  refine wp_seq ?_
  refine sr ?_
  refine pv 29 (.slice (some ⟨g2, 0, none⟩) 32 cg2) ?_
  refine pl_back M (want_no rfl) (some 30) rfl _ rfl 1 g2 32 cg2 (by kernel_rfl) (Z2) rfl (upd (bt (s)) 31 (bits .and .u8 ((bt (s)) 31) 127)) z2 hf ?_
  refine pl_call M (want_no rfl) (some 31) rfl 37 #[.string (bs ((List.range 32).map (upd (bt (s)) 31 (bits .and .u8 ((bt (s)) 31) 127))))] (.bool true) (fun _ => by kernel_rfl) F.h1 ?_
  intro w4 M
  refine pv 32 (.bool false) ?_
  refine nt ?_
  refine wp_cond_false (by kernel_rfl) ?_
  refine wp_skip ?_
  refine au_then ?_
  refine sr ?_
  refine pv 34 (.slice (some ⟨g2, 0, none⟩) 32 cg2) ?_
  refine pl_back M (want_no rfl) (some 35) rfl _ rfl 1 g2 32 cg2 (by kernel_rfl) (Z2) rfl (upd (bt (s)) 31 (bits .and .u8 ((bt (s)) 31) 127)) z2 hf ?_
  refine pl_call M (want_no rfl) (some 36) rfl 38 #[.string (bs ((List.range 32).map (upd (bt (s)) 31 (bits .and .u8 ((bt (s)) 31) 127))))] (.agg (arr 16 r1)) (fun _ => by kernel_rfl) F.h2 ?_
  intro w5 M
  refine pl_new M (want_no rfl) (some 6) rfl (.cells (arr 16 (fun _ => 0)) 39) (fun _ => by kernel_rfl) ?_
  intro g3 w6 M
  replace M : Mem w [⟨g1, .cells (arr 64 (fun _ => 0)) 41⟩, ⟨g2, Z2⟩, ⟨g3, .cells (arr 16 (fun _ => 0)) 39⟩] w6 := M
  refine pl_put M (want_no rfl) rfl 39 _ _ rfl 2 g3 (by kernel_rfl) 16 39 (fun _ => 0) r1 rfl (by kernel_rfl) inz39 ?_
  intro w7 M
  replace M : Mem w [⟨g1, .cells (arr 64 (fun _ => 0)) 41⟩, ⟨g2, Z2⟩, ⟨g3, .cells (arr 16 r1) 39⟩] w7 := M
  refine nt ?_
  refine sr ?_
  refine pl_load M (want_no rfl) (some 37) rfl 39 _ rfl 2 g3 0 (by kernel_rfl) 16 39 r1 rfl 16 r1 (Part.all _ _) (by decide) _ Tryz.underlying39 rfl inz39 ?_
  refine pl_load M (want_no rfl) (some 38) rfl 39 _ rfl 2 g3 0 (by kernel_rfl) 16 39 r1 rfl 16 r1 (Part.all _ _) (by decide) _ Tryz.underlying39 rfl inz39 ?_
  refine pl_call M (want_no rfl) (some 39) rfl 39 #[.agg (arr 16 r1), .agg (arr 16 r1)] (.agg (arr 16 r2)) (fun _ => by kernel_rfl) F.h3 ?_
  intro w8 M
  refine pl_new M (want_no rfl) (some 7) rfl (.cells (arr 16 (fun _ => 0)) 39) (fun _ => by kernel_rfl) ?_
  intro g4 w9 M
  replace M : Mem w [⟨g1, .cells (arr 64 (fun _ => 0)) 41⟩, ⟨g2, Z2⟩, ⟨g3, .cells (arr 16 r1) 39⟩, ⟨g4, .cells (arr 16 (fun _ => 0)) 39⟩] w9 := M
  refine pl_put M (want_no rfl) rfl 39 _ _ rfl 3 g4 (by kernel_rfl) 16 39 (fun _ => 0) r2 rfl (by kernel_rfl) inz39 ?_
  intro w10 M
  replace M : Mem w [⟨g1, .cells (arr 64 (fun _ => 0)) 41⟩, ⟨g2, Z2⟩, ⟨g3, .cells (arr 16 r1) 39⟩, ⟨g4, .cells (arr 16 r2) 39⟩] w10 := M
  refine nt ?_
  refine wp_seq ?_
  refine rg_allocs M 3 [(8, 39, 16)] (by kernel_rfl) (by kernel_rfl) ⟨rfl, rfl, fun _ _ => by kernel_rfl, trivial⟩ (by decide) ?_
  simp only [List.take_succ_cons, List.take_zero]
  refine k_load M (want_no rfl) (some 40) rfl 39 _ rfl 3 g4 0 (by kernel_rfl) 16 39 r2 rfl 16 r2 (Part.all _ _) (by decide) _ Tryz.underlying39 rfl inz39 ?_
  refine k_call (want_no rfl) (some 41) rfl 41 #[.int .u32 1] (.agg (arr 16 r3)) (fun _ => by kernel_rfl) F.h4 ?_
  refine k_call (want_no rfl) (some 42) rfl 40 #[.agg (arr 16 r2), .agg (arr 16 r3)] (.agg (arr 16 r4)) (fun _ => by kernel_rfl) F.h5 ?_
  refine kl_nil ?_
  intro w11 g5 M
  replace M : Mem w [⟨g1, .cells (arr 64 (fun _ => 0)) 41⟩, ⟨g2, Z2⟩, ⟨g3, .cells (arr 16 r1) 39⟩, ⟨g4, .cells (arr 16 r2) 39⟩, ⟨g5, .cells (arr 16 (fun _ => 0)) 39⟩] w11 := M
  refine pl_put M (want_no rfl) rfl 39 _ _ rfl 4 g5 (by kernel_rfl) 16 39 (fun _ => 0) r4 rfl (by kernel_rfl) inz39 ?_
  intro w12 M
  replace M : Mem w [⟨g1, .cells (arr 64 (fun _ => 0)) 41⟩, ⟨g2, Z2⟩, ⟨g3, .cells (arr 16 r1) 39⟩, ⟨g4, .cells (arr 16 r2) 39⟩, ⟨g5, .cells (arr 16 r4) 39⟩] w12 := M
  refine nt ?_
  refine wp_seq ?_
  refine rg_allocs M 5 [(9, 39, 16)] (by kernel_rfl) (by kernel_rfl) ⟨rfl, rfl, fun _ _ => by kernel_rfl, trivial⟩ (by decide) ?_
  simp only [List.take_succ_cons, List.take_zero]
  refine k_call (want_no rfl) (some 43) rfl 42 #[] (.agg (arr 16 r5)) (fun _ => by kernel_rfl) F.h6 ?_
  refine k_load M (want_no rfl) (some 44) rfl 39 _ rfl 3 g4 0 (by kernel_rfl) 16 39 r2 rfl 16 r2 (Part.all _ _) (by decide) _ Tryz.underlying39 rfl inz39 ?_
  refine k_call (want_no rfl) (some 45) rfl 39 #[.agg (arr 16 r5), .agg (arr 16 r2)] (.agg (arr 16 r6)) (fun _ => by kernel_rfl) F.h7 ?_
  refine k_call (want_no rfl) (some 46) rfl 41 #[.int .u32 1] (.agg (arr 16 r3)) (fun _ => by kernel_rfl) F.h4 ?_
  refine k_call (want_no rfl) (some 47) rfl 43 #[.agg (arr 16 r6), .agg (arr 16 r3)] (.agg (arr 16 r7)) (fun _ => by kernel_rfl) F.h8 ?_
  refine kl_nil ?_
  intro w13 g6 M
  replace M : Mem w [⟨g1, .cells (arr 64 (fun _ => 0)) 41⟩, ⟨g2, Z2⟩, ⟨g3, .cells (arr 16 r1) 39⟩, ⟨g4, .cells (arr 16 r2) 39⟩, ⟨g5, .cells (arr 16 r4) 39⟩, ⟨g6, .cells (arr 16 (fun _ => 0)) 39⟩] w13 := M
  refine pl_put M (want_no rfl) rfl 39 _ _ rfl 5 g6 (by kernel_rfl) 16 39 (fun _ => 0) r7 rfl (by kernel_rfl) inz39 ?_
  intro w14 M
  replace M : Mem w [⟨g1, .cells (arr 64 (fun _ => 0)) 41⟩, ⟨g2, Z2⟩, ⟨g3, .cells (arr 16 r1) 39⟩, ⟨g4, .cells (arr 16 r2) 39⟩, ⟨g5, .cells (arr 16 r4) 39⟩, ⟨g6, .cells (arr 16 r7) 39⟩] w14 := M
  refine nt ?_
  refine wp_seq ?_
  refine region_cut (fun a0 a' w' => ∃ gT8 : Nat, a' = ((((((((((a0.put (some 49) (.agg (arr 16 r4))).put (some 50) (.agg (arr 16 r7))).put (some 51) (.agg (arr 16 r8))).put (some 52) (.agg (arr 16 r9))).put (some 53) (.tuple #[.agg (arr 16 r10), .bool true])).put (some 48) (.tuple #[.agg (arr 16 r10), .bool true])).put (some 54) (.agg (arr 16 r10))).put (some 55) (.bool true)).put (some 10) (.pointer (some ⟨gT8, 0, none⟩))).put (some 11) (.bool true)) ∧ Mem w [⟨g1, .cells (arr 64 (fun _ => 0)) 41⟩, ⟨g2, Z2⟩, ⟨g3, .cells (arr 16 r1) 39⟩, ⟨g4, .cells (arr 16 r2) 39⟩, ⟨g5, .cells (arr 16 r4) 39⟩, ⟨g6, .cells (arr 16 r7) 39⟩, ⟨gT8, .cells (arr 16 r10) 39⟩] w') (by kernel_rfl) ?_ ?_
  rotate_left
  · intro hrest
    replace M := M.drew
    refine rdy [0, 1, 8] ?_
    refine rd_load M rfl rfl (some 49) rfl 39 _ rfl 4 g5 (by kernel_rfl) 16 39 r4 rfl _ Tryz.underlying39 rfl inz39 ?_ ?_
    · skip
      refine rdy [1, 8] ?_
      refine rd_load M rfl rfl (some 50) rfl 39 _ rfl 5 g6 (by kernel_rfl) 16 39 r7 rfl _ Tryz.underlying39 rfl inz39 ?_ ?_
      · skip
        refine rdy [2, 8] ?_
        refine rd_call M rfl rfl (some 51) rfl 44 #[.agg (arr 16 r7)] (.agg (arr 16 r8)) (fun _ => by kernel_rfl) F.h9 ?_ ?_
        · intro u1 M
          refine rdy [3, 8] ?_
          refine rd_call M rfl rfl (some 52) rfl 39 #[.agg (arr 16 r4), .agg (arr 16 r8)] (.agg (arr 16 r9)) (fun _ => by kernel_rfl) F.h10 ?_ ?_
          · intro u2 M
            refine rdy [4, 8] ?_
            refine rd_call M rfl rfl (some 53) rfl 45 #[.agg (arr 16 r9)] (.tuple #[.agg (arr 16 r10), .bool true]) (fun _ => by kernel_rfl) F.h11 ?_ ?_
            · intro u3 M
              refine tk 5 (.tuple #[.agg (arr 16 r10), .bool true]) ?_
              refine tk 6 (.agg (arr 16 r10)) ?_
              refine tk 7 (.bool true) ?_
              refine rdy [8] ?_
              refine rd_new M rfl rfl (some 10) rfl (.cells (arr 16 (fun _ => 0)) 39) (fun _ => by kernel_rfl) ?_ ?_
              · intro k4 u4 M
                refine rdy [9] ?_
                refine rd_put M rfl rfl rfl 39 _ _ rfl 6 k4 (by kernel_rfl) 16 39 (fun _ => 0) r10 rfl (by kernel_rfl) inz39 ?_ ?_
                · intro u5 M
                  refine tk 10 (.bool true) ?_
                  exact rd_end (by kernel_rfl) (hrest _ _ ⟨k4, by kernel_rfl, M⟩) _
                exact AllReady.nil
              exact AllReady.nil
            refine rd_new M rfl rfl (some 10) rfl (.cells (arr 16 (fun _ => 0)) 39) (fun _ => by kernel_rfl) ?_ ?_
            · intro k6 u6 M
              refine rdy [4] ?_
              refine rd_call M rfl rfl (some 53) rfl 45 #[.agg (arr 16 r9)] (.tuple #[.agg (arr 16 r10), .bool true]) (fun _ => by kernel_rfl) F.h11 ?_ ?_
              · intro u7 M
                refine tk 5 (.tuple #[.agg (arr 16 r10), .bool true]) ?_
                refine tk 6 (.agg (arr 16 r10)) ?_
                refine tk 7 (.bool true) ?_
                refine rdy [9] ?_
                refine rd_put M rfl rfl rfl 39 _ _ rfl 6 k6 (by kernel_rfl) 16 39 (fun _ => 0) r10 rfl (by kernel_rfl) inz39 ?_ ?_
                · intro u8 M
                  refine tk 10 (.bool true) ?_
                  exact rd_end (by kernel_rfl) (hrest _ _ ⟨k6, by kernel_rfl, M⟩) _
                exact AllReady.nil
              exact AllReady.nil
            exact AllReady.nil
          refine rd_new M rfl rfl (some 10) rfl (.cells (arr 16 (fun _ => 0)) 39) (fun _ => by kernel_rfl) ?_ ?_
          · intro k9 u9 M
            refine rdy [3] ?_
            refine rd_call M rfl rfl (some 52) rfl 39 #[.agg (arr 16 r4), .agg (arr 16 r8)] (.agg (arr 16 r9)) (fun _ => by kernel_rfl) F.h10 ?_ ?_
            · intro u10 M
              refine rdy [4] ?_
              refine rd_call M rfl rfl (some 53) rfl 45 #[.agg (arr 16 r9)] (.tuple #[.agg (arr 16 r10), .bool true]) (fun _ => by kernel_rfl) F.h11 ?_ ?_
              · intro u11 M
                refine tk 5 (.tuple #[.agg (arr 16 r10), .bool true]) ?_
                refine tk 6 (.agg (arr 16 r10)) ?_
                refine tk 7 (.bool true) ?_
                refine rdy [9] ?_
                refine rd_put M rfl rfl rfl 39 _ _ rfl 6 k9 (by kernel_rfl) 16 39 (fun _ => 0) r10 rfl (by kernel_rfl) inz39 ?_ ?_
                · intro u12 M
                  refine tk 10 (.bool true) ?_
                  exact rd_end (by kernel_rfl) (hrest _ _ ⟨k9, by kernel_rfl, M⟩) _
                exact AllReady.nil
              exact AllReady.nil
            exact AllReady.nil
          exact AllReady.nil
        refine rd_new M rfl rfl (some 10) rfl (.cells (arr 16 (fun _ => 0)) 39) (fun _ => by kernel_rfl) ?_ ?_
        · intro k13 u13 M
          refine rdy [2] ?_
          refine rd_call M rfl rfl (some 51) rfl 44 #[.agg (arr 16 r7)] (.agg (arr 16 r8)) (fun _ => by kernel_rfl) F.h9 ?_ ?_
          · intro u14 M
            refine rdy [3] ?_
            refine rd_call M rfl rfl (some 52) rfl 39 #[.agg (arr 16 r4), .agg (arr 16 r8)] (.agg (arr 16 r9)) (fun _ => by kernel_rfl) F.h10 ?_ ?_
            · intro u15 M
              refine rdy [4] ?_
              refine rd_call M rfl rfl (some 53) rfl 45 #[.agg (arr 16 r9)] (.tuple #[.agg (arr 16 r10), .bool true]) (fun _ => by kernel_rfl) F.h11 ?_ ?_
              · intro u16 M
                refine tk 5 (.tuple #[.agg (arr 16 r10), .bool true]) ?_
                refine tk 6 (.agg (arr 16 r10)) ?_
                refine tk 7 (.bool true) ?_
                refine rdy [9] ?_
                refine rd_put M rfl rfl rfl 39 _ _ rfl 6 k13 (by kernel_rfl) 16 39 (fun _ => 0) r10 rfl (by kernel_rfl) inz39 ?_ ?_
                · intro u17 M
                  refine tk 10 (.bool true) ?_
                  exact rd_end (by kernel_rfl) (hrest _ _ ⟨k13, by kernel_rfl, M⟩) _
                exact AllReady.nil
              exact AllReady.nil
            exact AllReady.nil
          exact AllReady.nil
        exact AllReady.nil
      refine rd_new M rfl rfl (some 10) rfl (.cells (arr 16 (fun _ => 0)) 39) (fun _ => by kernel_rfl) ?_ ?_
      · intro k18 u18 M
        refine rdy [1] ?_
        refine rd_load M rfl rfl (some 50) rfl 39 _ rfl 5 g6 (by kernel_rfl) 16 39 r7 rfl _ Tryz.underlying39 rfl inz39 ?_ ?_
        · skip
          refine rdy [2] ?_
          refine rd_call M rfl rfl (some 51) rfl 44 #[.agg (arr 16 r7)] (.agg (arr 16 r8)) (fun _ => by kernel_rfl) F.h9 ?_ ?_
          · intro u19 M
            refine rdy [3] ?_
            refine rd_call M rfl rfl (some 52) rfl 39 #[.agg (arr 16 r4), .agg (arr 16 r8)] (.agg (arr 16 r9)) (fun _ => by kernel_rfl) F.h10 ?_ ?_
            · intro u20 M
              refine rdy [4] ?_
              refine rd_call M rfl rfl (some 53) rfl 45 #[.agg (arr 16 r9)] (.tuple #[.agg (arr 16 r10), .bool true]) (fun _ => by kernel_rfl) F.h11 ?_ ?_
              · intro u21 M
                refine tk 5 (.tuple #[.agg (arr 16 r10), .bool true]) ?_
                refine tk 6 (.agg (arr 16 r10)) ?_
                refine tk 7 (.bool true) ?_
                refine rdy [9] ?_
                refine rd_put M rfl rfl rfl 39 _ _ rfl 6 k18 (by kernel_rfl) 16 39 (fun _ => 0) r10 rfl (by kernel_rfl) inz39 ?_ ?_
                · intro u22 M
                  refine tk 10 (.bool true) ?_
                  exact rd_end (by kernel_rfl) (hrest _ _ ⟨k18, by kernel_rfl, M⟩) _
                exact AllReady.nil
              exact AllReady.nil
            exact AllReady.nil
          exact AllReady.nil
        exact AllReady.nil
      exact AllReady.nil
    refine rd_load M rfl rfl (some 50) rfl 39 _ rfl 5 g6 (by kernel_rfl) 16 39 r7 rfl _ Tryz.underlying39 rfl inz39 ?_ ?_
    · skip
      refine rdy [0, 2, 8] ?_
      refine rd_load M rfl rfl (some 49) rfl 39 _ rfl 4 g5 (by kernel_rfl) 16 39 r4 rfl _ Tryz.underlying39 rfl inz39 ?_ ?_
      · skip
        refine rdy [2, 8] ?_
        refine rd_call M rfl rfl (some 51) rfl 44 #[.agg (arr 16 r7)] (.agg (arr 16 r8)) (fun _ => by kernel_rfl) F.h9 ?_ ?_
        · intro u23 M
          refine rdy [3, 8] ?_
          refine rd_call M rfl rfl (some 52) rfl 39 #[.agg (arr 16 r4), .agg (arr 16 r8)] (.agg (arr 16 r9)) (fun _ => by kernel_rfl) F.h10 ?_ ?_
          · intro u24 M
            refine rdy [4, 8] ?_
            refine rd_call M rfl rfl (some 53) rfl 45 #[.agg (arr 16 r9)] (.tuple #[.agg (arr 16 r10), .bool true]) (fun _ => by kernel_rfl) F.h11 ?_ ?_
            · intro u25 M
              refine tk 5 (.tuple #[.agg (arr 16 r10), .bool true]) ?_
              refine tk 6 (.agg (arr 16 r10)) ?_
              refine tk 7 (.bool true) ?_
              refine rdy [8] ?_
              refine rd_new M rfl rfl (some 10) rfl (.cells (arr 16 (fun _ => 0)) 39) (fun _ => by kernel_rfl) ?_ ?_
              · intro k26 u26 M
                refine rdy [9] ?_
                refine rd_put M rfl rfl rfl 39 _ _ rfl 6 k26 (by kernel_rfl) 16 39 (fun _ => 0) r10 rfl (by kernel_rfl) inz39 ?_ ?_
                · intro u27 M
                  refine tk 10 (.bool true) ?_
                  exact rd_end (by kernel_rfl) (hrest _ _ ⟨k26, by kernel_rfl, M⟩) _
                exact AllReady.nil
              exact AllReady.nil
            refine rd_new M rfl rfl (some 10) rfl (.cells (arr 16 (fun _ => 0)) 39) (fun _ => by kernel_rfl) ?_ ?_
            · intro k28 u28 M
              refine rdy [4] ?_
              refine rd_call M rfl rfl (some 53) rfl 45 #[.agg (arr 16 r9)] (.tuple #[.agg (arr 16 r10), .bool true]) (fun _ => by kernel_rfl) F.h11 ?_ ?_
              · intro u29 M
                refine tk 5 (.tuple #[.agg (arr 16 r10), .bool true]) ?_
                refine tk 6 (.agg (arr 16 r10)) ?_
                refine tk 7 (.bool true) ?_
                refine rdy [9] ?_
                refine rd_put M rfl rfl rfl 39 _ _ rfl 6 k28 (by kernel_rfl) 16 39 (fun _ => 0) r10 rfl (by kernel_rfl) inz39 ?_ ?_
                · intro u30 M
                  refine tk 10 (.bool true) ?_
                  exact rd_end (by kernel_rfl) (hrest _ _ ⟨k28, by kernel_rfl, M⟩) _
                exact AllReady.nil
              exact AllReady.nil
            exact AllReady.nil
          refine rd_new M rfl rfl (some 10) rfl (.cells (arr 16 (fun _ => 0)) 39) (fun _ => by kernel_rfl) ?_ ?_
          · intro k31 u31 M
            refine rdy [3] ?_
            refine rd_call M rfl rfl (some 52) rfl 39 #[.agg (arr 16 r4), .agg (arr 16 r8)] (.agg (arr 16 r9)) (fun _ => by kernel_rfl) F.h10 ?_ ?_
            · intro u32 M
              refine rdy [4] ?_
              refine rd_call M rfl rfl (some 53) rfl 45 #[.agg (arr 16 r9)] (.tuple #[.agg (arr 16 r10), .bool true]) (fun _ => by kernel_rfl) F.h11 ?_ ?_
              · intro u33 M
                refine tk 5 (.tuple #[.agg (arr 16 r10), .bool true]) ?_
                refine tk 6 (.agg (arr 16 r10)) ?_
                refine tk 7 (.bool true) ?_
                refine rdy [9] ?_
                refine rd_put M rfl rfl rfl 39 _ _ rfl 6 k31 (by kernel_rfl) 16 39 (fun _ => 0) r10 rfl (by kernel_rfl) inz39 ?_ ?_
                · intro u34 M
                  refine tk 10 (.bool true) ?_
                  exact rd_end (by kernel_rfl) (hrest _ _ ⟨k31, by kernel_rfl, M⟩) _
                exact AllReady.nil
              exact AllReady.nil
            exact AllReady.nil
          exact AllReady.nil
        refine rd_new M rfl rfl (some 10) rfl (.cells (arr 16 (fun _ => 0)) 39) (fun _ => by kernel_rfl) ?_ ?_
        · intro k35 u35 M
          refine rdy [2] ?_
          refine rd_call M rfl rfl (some 51) rfl 44 #[.agg (arr 16 r7)] (.agg (arr 16 r8)) (fun _ => by kernel_rfl) F.h9 ?_ ?_
          · intro u36 M
            refine rdy [3] ?_
            refine rd_call M rfl rfl (some 52) rfl 39 #[.agg (arr 16 r4), .agg (arr 16 r8)] (.agg (arr 16 r9)) (fun _ => by kernel_rfl) F.h10 ?_ ?_
            · intro u37 M
              refine rdy [4] ?_
              refine rd_call M rfl rfl (some 53) rfl 45 #[.agg (arr 16 r9)] (.tuple #[.agg (arr 16 r10), .bool true]) (fun _ => by kernel_rfl) F.h11 ?_ ?_
              · intro u38 M
                refine tk 5 (.tuple #[.agg (arr 16 r10), .bool true]) ?_
                refine tk 6 (.agg (arr 16 r10)) ?_
                refine tk 7 (.bool true) ?_
                refine rdy [9] ?_
                refine rd_put M rfl rfl rfl 39 _ _ rfl 6 k35 (by kernel_rfl) 16 39 (fun _ => 0) r10 rfl (by kernel_rfl) inz39 ?_ ?_
                · intro u39 M
                  refine tk 10 (.bool true) ?_
                  exact rd_end (by kernel_rfl) (hrest _ _ ⟨k35, by kernel_rfl, M⟩) _
                exact AllReady.nil
              exact AllReady.nil
            exact AllReady.nil
          exact AllReady.nil
        exact AllReady.nil
      refine rd_call M rfl rfl (some 51) rfl 44 #[.agg (arr 16 r7)] (.agg (arr 16 r8)) (fun _ => by kernel_rfl) F.h9 ?_ ?_
      · intro u40 M
        refine rdy [0, 8] ?_
        refine rd_load M rfl rfl (some 49) rfl 39 _ rfl 4 g5 (by kernel_rfl) 16 39 r4 rfl _ Tryz.underlying39 rfl inz39 ?_ ?_
        · skip
          refine rdy [3, 8] ?_
          refine rd_call M rfl rfl (some 52) rfl 39 #[.agg (arr 16 r4), .agg (arr 16 r8)] (.agg (arr 16 r9)) (fun _ => by kernel_rfl) F.h10 ?_ ?_
          · intro u41 M
            refine rdy [4, 8] ?_
            refine rd_call M rfl rfl (some 53) rfl 45 #[.agg (arr 16 r9)] (.tuple #[.agg (arr 16 r10), .bool true]) (fun _ => by kernel_rfl) F.h11 ?_ ?_
            · intro u42 M
              refine tk 5 (.tuple #[.agg (arr 16 r10), .bool true]) ?_
              refine tk 6 (.agg (arr 16 r10)) ?_
              refine tk 7 (.bool true) ?_
              refine rdy [8] ?_
              refine rd_new M rfl rfl (some 10) rfl (.cells (arr 16 (fun _ => 0)) 39) (fun _ => by kernel_rfl) ?_ ?_
              · intro k43 u43 M
                refine rdy [9] ?_
                refine rd_put M rfl rfl rfl 39 _ _ rfl 6 k43 (by kernel_rfl) 16 39 (fun _ => 0) r10 rfl (by kernel_rfl) inz39 ?_ ?_
                · intro u44 M
                  refine tk 10 (.bool true) ?_
                  exact rd_end (by kernel_rfl) (hrest _ _ ⟨k43, by kernel_rfl, M⟩) _
                exact AllReady.nil
              exact AllReady.nil
            refine rd_new M rfl rfl (some 10) rfl (.cells (arr 16 (fun _ => 0)) 39) (fun _ => by kernel_rfl) ?_ ?_
            · intro k45 u45 M
              refine rdy [4] ?_
              refine rd_call M rfl rfl (some 53) rfl 45 #[.agg (arr 16 r9)] (.tuple #[.agg (arr 16 r10), .bool true]) (fun _ => by kernel_rfl) F.h11 ?_ ?_
              · intro u46 M
                refine tk 5 (.tuple #[.agg (arr 16 r10), .bool true]) ?_
                refine tk 6 (.agg (arr 16 r10)) ?_
                refine tk 7 (.bool true) ?_
                refine rdy [9] ?_
                refine rd_put M rfl rfl rfl 39 _ _ rfl 6 k45 (by kernel_rfl) 16 39 (fun _ => 0) r10 rfl (by kernel_rfl) inz39 ?_ ?_
                · intro u47 M
                  refine tk 10 (.bool true) ?_
                  exact rd_end (by kernel_rfl) (hrest _ _ ⟨k45, by kernel_rfl, M⟩) _
                exact AllReady.nil
              exact AllReady.nil
            exact AllReady.nil
          refine rd_new M rfl rfl (some 10) rfl (.cells (arr 16 (fun _ => 0)) 39) (fun _ => by kernel_rfl) ?_ ?_
          · intro k48 u48 M
            refine rdy [3] ?_
            refine rd_call M rfl rfl (some 52) rfl 39 #[.agg (arr 16 r4), .agg (arr 16 r8)] (.agg (arr 16 r9)) (fun _ => by kernel_rfl) F.h10 ?_ ?_
            · intro u49 M
              refine rdy [4] ?_
              refine rd_call M rfl rfl (some 53) rfl 45 #[.agg (arr 16 r9)] (.tuple #[.agg (arr 16 r10), .bool true]) (fun _ => by kernel_rfl) F.h11 ?_ ?_
              · intro u50 M
                refine tk 5 (.tuple #[.agg (arr 16 r10), .bool true]) ?_
                refine tk 6 (.agg (arr 16 r10)) ?_
                refine tk 7 (.bool true) ?_
                refine rdy [9] ?_
                refine rd_put M rfl rfl rfl 39 _ _ rfl 6 k48 (by kernel_rfl) 16 39 (fun _ => 0) r10 rfl (by kernel_rfl) inz39 ?_ ?_
                · intro u51 M
                  refine tk 10 (.bool true) ?_
                  exact rd_end (by kernel_rfl) (hrest _ _ ⟨k48, by kernel_rfl, M⟩) _
                exact AllReady.nil
              exact AllReady.nil
            exact AllReady.nil
          exact AllReady.nil
        refine rd_new M rfl rfl (some 10) rfl (.cells (arr 16 (fun _ => 0)) 39) (fun _ => by kernel_rfl) ?_ ?_
        · intro k52 u52 M
          refine rdy [0] ?_
          refine rd_load M rfl rfl (some 49) rfl 39 _ rfl 4 g5 (by kernel_rfl) 16 39 r4 rfl _ Tryz.underlying39 rfl inz39 ?_ ?_
          · skip
            refine rdy [3] ?_
            refine rd_call M rfl rfl (some 52) rfl 39 #[.agg (arr 16 r4), .agg (arr 16 r8)] (.agg (arr 16 r9)) (fun _ => by kernel_rfl) F.h10 ?_ ?_
            · intro u53 M
              refine rdy [4] ?_
              refine rd_call M rfl rfl (some 53) rfl 45 #[.agg (arr 16 r9)] (.tuple #[.agg (arr 16 r10), .bool true]) (fun _ => by kernel_rfl) F.h11 ?_ ?_
              · intro u54 M
                refine tk 5 (.tuple #[.agg (arr 16 r10), .bool true]) ?_
                refine tk 6 (.agg (arr 16 r10)) ?_
                refine tk 7 (.bool true) ?_
                refine rdy [9] ?_
                refine rd_put M rfl rfl rfl 39 _ _ rfl 6 k52 (by kernel_rfl) 16 39 (fun _ => 0) r10 rfl (by kernel_rfl) inz39 ?_ ?_
                · intro u55 M
                  refine tk 10 (.bool true) ?_
                  exact rd_end (by kernel_rfl) (hrest _ _ ⟨k52, by kernel_rfl, M⟩) _
                exact AllReady.nil
              exact AllReady.nil
            exact AllReady.nil
          exact AllReady.nil
        exact AllReady.nil
      refine rd_new M rfl rfl (some 10) rfl (.cells (arr 16 (fun _ => 0)) 39) (fun _ => by kernel_rfl) ?_ ?_
      · intro k56 u56 M
        refine rdy [0, 2] ?_
        refine rd_load M rfl rfl (some 49) rfl 39 _ rfl 4 g5 (by kernel_rfl) 16 39 r4 rfl _ Tryz.underlying39 rfl inz39 ?_ ?_
        · skip
          refine rdy [2] ?_
          refine rd_call M rfl rfl (some 51) rfl 44 #[.agg (arr 16 r7)] (.agg (arr 16 r8)) (fun _ => by kernel_rfl) F.h9 ?_ ?_
          · intro u57 M
            refine rdy [3] ?_
            refine rd_call M rfl rfl (some 52) rfl 39 #[.agg (arr 16 r4), .agg (arr 16 r8)] (.agg (arr 16 r9)) (fun _ => by kernel_rfl) F.h10 ?_ ?_
            · intro u58 M
              refine rdy [4] ?_
              refine rd_call M rfl rfl (some 53) rfl 45 #[.agg (arr 16 r9)] (.tuple #[.agg (arr 16 r10), .bool true]) (fun _ => by kernel_rfl) F.h11 ?_ ?_
              · intro u59 M
                refine tk 5 (.tuple #[.agg (arr 16 r10), .bool true]) ?_
                refine tk 6 (.agg (arr 16 r10)) ?_
                refine tk 7 (.bool true) ?_
                refine rdy [9] ?_
                refine rd_put M rfl rfl rfl 39 _ _ rfl 6 k56 (by kernel_rfl) 16 39 (fun _ => 0) r10 rfl (by kernel_rfl) inz39 ?_ ?_
                · intro u60 M
                  refine tk 10 (.bool true) ?_
                  exact rd_end (by kernel_rfl) (hrest _ _ ⟨k56, by kernel_rfl, M⟩) _
                exact AllReady.nil
              exact AllReady.nil
            exact AllReady.nil
          exact AllReady.nil
        refine rd_call M rfl rfl (some 51) rfl 44 #[.agg (arr 16 r7)] (.agg (arr 16 r8)) (fun _ => by kernel_rfl) F.h9 ?_ ?_
        · intro u61 M
          refine rdy [0] ?_
          refine rd_load M rfl rfl (some 49) rfl 39 _ rfl 4 g5 (by kernel_rfl) 16 39 r4 rfl _ Tryz.underlying39 rfl inz39 ?_ ?_
          · skip
            refine rdy [3] ?_
            refine rd_call M rfl rfl (some 52) rfl 39 #[.agg (arr 16 r4), .agg (arr 16 r8)] (.agg (arr 16 r9)) (fun _ => by kernel_rfl) F.h10 ?_ ?_
            · intro u62 M
              refine rdy [4] ?_
              refine rd_call M rfl rfl (some 53) rfl 45 #[.agg (arr 16 r9)] (.tuple #[.agg (arr 16 r10), .bool true]) (fun _ => by kernel_rfl) F.h11 ?_ ?_
              · intro u63 M
                refine tk 5 (.tuple #[.agg (arr 16 r10), .bool true]) ?_
                refine tk 6 (.agg (arr 16 r10)) ?_
                refine tk 7 (.bool true) ?_
                refine rdy [9] ?_
                refine rd_put M rfl rfl rfl 39 _ _ rfl 6 k56 (by kernel_rfl) 16 39 (fun _ => 0) r10 rfl (by kernel_rfl) inz39 ?_ ?_
                · intro u64 M
                  refine tk 10 (.bool true) ?_
                  exact rd_end (by kernel_rfl) (hrest _ _ ⟨k56, by kernel_rfl, M⟩) _
                exact AllReady.nil
              exact AllReady.nil
            exact AllReady.nil
          exact AllReady.nil
        exact AllReady.nil
      exact AllReady.nil
    refine rd_new M rfl rfl (some 10) rfl (.cells (arr 16 (fun _ => 0)) 39) (fun _ => by kernel_rfl) ?_ ?_
    · intro k65 u65 M
      refine rdy [0, 1] ?_
      refine rd_load M rfl rfl (some 49) rfl 39 _ rfl 4 g5 (by kernel_rfl) 16 39 r4 rfl _ Tryz.underlying39 rfl inz39 ?_ ?_
      · skip
        refine rdy [1] ?_
        refine rd_load M rfl rfl (some 50) rfl 39 _ rfl 5 g6 (by kernel_rfl) 16 39 r7 rfl _ Tryz.underlying39 rfl inz39 ?_ ?_
        · skip
          refine rdy [2] ?_
          refine rd_call M rfl rfl (some 51) rfl 44 #[.agg (arr 16 r7)] (.agg (arr 16 r8)) (fun _ => by kernel_rfl) F.h9 ?_ ?_
          · intro u66 M
            refine rdy [3] ?_
            refine rd_call M rfl rfl (some 52) rfl 39 #[.agg (arr 16 r4), .agg (arr 16 r8)] (.agg (arr 16 r9)) (fun _ => by kernel_rfl) F.h10 ?_ ?_
            · intro u67 M
              refine rdy [4] ?_
              refine rd_call M rfl rfl (some 53) rfl 45 #[.agg (arr 16 r9)] (.tuple #[.agg (arr 16 r10), .bool true]) (fun _ => by kernel_rfl) F.h11 ?_ ?_
              · intro u68 M
                refine tk 5 (.tuple #[.agg (arr 16 r10), .bool true]) ?_
                refine tk 6 (.agg (arr 16 r10)) ?_
                refine tk 7 (.bool true) ?_
                refine rdy [9] ?_
                refine rd_put M rfl rfl rfl 39 _ _ rfl 6 k65 (by kernel_rfl) 16 39 (fun _ => 0) r10 rfl (by kernel_rfl) inz39 ?_ ?_
                · intro u69 M
                  refine tk 10 (.bool true) ?_
                  exact rd_end (by kernel_rfl) (hrest _ _ ⟨k65, by kernel_rfl, M⟩) _
                exact AllReady.nil
              exact AllReady.nil
            exact AllReady.nil
          exact AllReady.nil
        exact AllReady.nil
      refine rd_load M rfl rfl (some 50) rfl 39 _ rfl 5 g6 (by kernel_rfl) 16 39 r7 rfl _ Tryz.underlying39 rfl inz39 ?_ ?_
      · skip
        refine rdy [0, 2] ?_
        refine rd_load M rfl rfl (some 49) rfl 39 _ rfl 4 g5 (by kernel_rfl) 16 39 r4 rfl _ Tryz.underlying39 rfl inz39 ?_ ?_
        · skip
          refine rdy [2] ?_
          refine rd_call M rfl rfl (some 51) rfl 44 #[.agg (arr 16 r7)] (.agg (arr 16 r8)) (fun _ => by kernel_rfl) F.h9 ?_ ?_
          · intro u70 M
            refine rdy [3] ?_
            refine rd_call M rfl rfl (some 52) rfl 39 #[.agg (arr 16 r4), .agg (arr 16 r8)] (.agg (arr 16 r9)) (fun _ => by kernel_rfl) F.h10 ?_ ?_
            · intro u71 M
              refine rdy [4] ?_
              refine rd_call M rfl rfl (some 53) rfl 45 #[.agg (arr 16 r9)] (.tuple #[.agg (arr 16 r10), .bool true]) (fun _ => by kernel_rfl) F.h11 ?_ ?_
              · intro u72 M
                refine tk 5 (.tuple #[.agg (arr 16 r10), .bool true]) ?_
                refine tk 6 (.agg (arr 16 r10)) ?_
                refine tk 7 (.bool true) ?_
                refine rdy [9] ?_
                refine rd_put M rfl rfl rfl 39 _ _ rfl 6 k65 (by kernel_rfl) 16 39 (fun _ => 0) r10 rfl (by kernel_rfl) inz39 ?_ ?_
                · intro u73 M
                  refine tk 10 (.bool true) ?_
                  exact rd_end (by kernel_rfl) (hrest _ _ ⟨k65, by kernel_rfl, M⟩) _
                exact AllReady.nil
              exact AllReady.nil
            exact AllReady.nil
          exact AllReady.nil
        refine rd_call M rfl rfl (some 51) rfl 44 #[.agg (arr 16 r7)] (.agg (arr 16 r8)) (fun _ => by kernel_rfl) F.h9 ?_ ?_
        · intro u74 M
          refine rdy [0] ?_
          refine rd_load M rfl rfl (some 49) rfl 39 _ rfl 4 g5 (by kernel_rfl) 16 39 r4 rfl _ Tryz.underlying39 rfl inz39 ?_ ?_
          · skip
            refine rdy [3] ?_
            refine rd_call M rfl rfl (some 52) rfl 39 #[.agg (arr 16 r4), .agg (arr 16 r8)] (.agg (arr 16 r9)) (fun _ => by kernel_rfl) F.h10 ?_ ?_
            · intro u75 M
              refine rdy [4] ?_
              refine rd_call M rfl rfl (some 53) rfl 45 #[.agg (arr 16 r9)] (.tuple #[.agg (arr 16 r10), .bool true]) (fun _ => by kernel_rfl) F.h11 ?_ ?_
              · intro u76 M
                refine tk 5 (.tuple #[.agg (arr 16 r10), .bool true]) ?_
                refine tk 6 (.agg (arr 16 r10)) ?_
                refine tk 7 (.bool true) ?_
                refine rdy [9] ?_
                refine rd_put M rfl rfl rfl 39 _ _ rfl 6 k65 (by kernel_rfl) 16 39 (fun _ => 0) r10 rfl (by kernel_rfl) inz39 ?_ ?_
                · intro u77 M
                  refine tk 10 (.bool true) ?_
                  exact rd_end (by kernel_rfl) (hrest _ _ ⟨k65, by kernel_rfl, M⟩) _
                exact AllReady.nil
              exact AllReady.nil
            exact AllReady.nil
          exact AllReady.nil
        exact AllReady.nil
      exact AllReady.nil
    exact AllReady.nil
  rintro _ w15 ⟨gT8, rfl, M⟩
  refine au_then ?_
  refine wp_seq ?_
  refine sr ?_
  refine pv 56 (.bool true) ?_
  refine pv 57 (.bool false) ?_
  refine pv 58 (.bool false) ?_
  refine pl_load M (want_on 2 false rfl 58 rfl (by kernel_rfl)) (some 59) rfl 39 _ rfl 6 gT8 0 (by kernel_rfl) 16 39 r10 rfl 16 r10 (Part.all _ _) (by decide) _ Tryz.underlying39 rfl inz39 ?_
  refine pl_val (want_on 2 false rfl 58 rfl (by kernel_rfl)) (some 60) rfl (.agg (arr 16 (fun _ => 0))) (fun _ => by kernel_rfl) ?_
  refine pl_val (want_on 2 false rfl 58 rfl (by kernel_rfl)) (some 61) rfl (.bool true) (fun w => (run_eq16 r10 (fun _ => 0) _ _ rfl (by kernel_rfl) (by kernel_rfl) (fun _ => by kernel_rfl) w).trans (by rw [he])) ?_
  refine pl_val (want_on 2 false rfl 58 rfl (by kernel_rfl)) (some 62) rfl (.bool true) (fun _ => by kernel_rfl) ?_
  refine pl_val (want_on 6 true rfl 62 rfl (by kernel_rfl)) (some 63) rfl (.bool true) (fun _ => by kernel_rfl) ?_
  refine pl_val (want_on 2 false rfl 58 rfl (by kernel_rfl)) (some 64) rfl (.bool true) (fun _ => by kernel_rfl) ?_
  refine pv 65 (.bool true) ?_
  refine nt ?_
  refine wp_cond_true (by kernel_rfl) ?_
  refine sr ?_
  refine pv 66 (.agg (arr 64 (fun _ => 0))) ?_
  refine pl_put M (want_no rfl) rfl 41 _ _ rfl 0 g1 (by kernel_rfl) 64 41 (fun _ => 0) (fun _ => 0) rfl (by kernel_rfl) inz41 ?_
  intro w16 M
  replace M : Mem w [⟨g1, .cells (arr 64 (fun _ => 0)) 41⟩, ⟨g2, Z2⟩, ⟨g3, .cells (arr 16 r1) 39⟩, ⟨g4, .cells (arr 16 r2) 39⟩, ⟨g5, .cells (arr 16 r4) 39⟩, ⟨g6, .cells (arr 16 r7) 39⟩, ⟨gT8, .cells (arr 16 r10) 39⟩] w16 := M
  refine pv 3 (.int .i64 40) ?_
  refine nt ?_
  refine wp_ret ?_
  refine au_then_ret ?_
  exact bodyPost_ret (v := .tuple #[.agg (arr 64 (fun _ => 0)), .int .i64 40]) (results_cell_tmp Tryz.results8 _ _ g1 41 (arr 64 (fun _ => 0)) (0, 0) _ (.int .i64 40) (by kernel_rfl) (by kernel_rfl) (M.get 0 rfl) Tryz.underlying41 rfl (by rw [arr_size]; exact inz41)) (by kernel_rfl) ⟨rfl, M.old⟩


end Go.Proofs.YtkeocdebfgcnnaaGreat

/- The walks of Decode, Base and what they call, told by what their callees hand back. -/
namespace Go.Proofs.YtkeocdebfgcnnaaGreat
open Go.RowKit

/-- The bytes of the curve's number. -/
def dBy : ByteArray := ⟨#[163, 120, 89, 19, 202, 77, 235, 117, 171, 216, 65, 65, 77, 10, 112, 0, 152, 232, 121, 119, 121, 64, 199, 140, 115, 254, 111, 43, 238, 108, 3, 82]⟩
def s102 : ByteArray := ⟨#[102]⟩
def f31S : ByteArray := ⟨#[102, 102, 102, 102, 102, 102, 102, 102, 102, 102, 102, 102, 102, 102, 102, 102, 102, 102, 102, 102, 102, 102, 102, 102, 102, 102, 102, 102, 102, 102, 102]⟩
/-- The bytes of the base point. -/
def baseS : ByteArray := ⟨#[88, 102, 102, 102, 102, 102, 102, 102, 102, 102, 102, 102, 102, 102, 102, 102, 102, 102, 102, 102, 102, 102, 102, 102, 102, 102, 102, 102, 102, 102, 102, 102]⟩

structure factorF (r1 : Nat → Int) : Prop where
  h1 : ∀ w, Calls Tryz.prog 26 #[.string dBy] w fun r w' => r = .returned (.tuple #[.agg (arr 5 r1), .int .i64 0]) ∧ Below w.heap.size w w'

set_option maxRecDepth 100000 in
set_option maxHeartbeats 4000000 in
theorem factor_gen (r1 : Nat → Int) (w : World) (F : factorF r1)  :
    Calls Tryz.prog 71 #[] w fun r w' => r = .returned (.agg (arr 5 r1)) ∧ Below w.heap.size w w' := by
  go_enter Tryz.func71, Tryz.ntmps71
  have M := Mem.start w
  refine sr ?_
  refine pl_new M (want_no rfl) (some 0) rfl (.cells (arr 5 (fun _ => 0)) 25) (fun _ => by kernel_rfl) ?_
  intro g1 w1 M
  replace M : Mem w [⟨g1, .cells (arr 5 (fun _ => 0)) 25⟩] w1 := M
  refine nt ?_
  refine sr ?_
  refine pl_call M (want_no rfl) (some 4) rfl 26 #[.string dBy] (.tuple #[.agg (arr 5 r1), .int .i64 0]) (fun _ => by kernel_rfl) F.h1 ?_
  intro w2 M
  refine pv 3 (.tuple #[.agg (arr 5 r1), .int .i64 0]) ?_
  refine pv 5 (.agg (arr 5 r1)) ?_
  refine pv 6 (.int .i64 0) ?_
  refine pl_new M (want_no rfl) (some 1) rfl (.cells (arr 5 (fun _ => 0)) 25) (fun _ => by kernel_rfl) ?_
  intro g2 w3 M
  replace M : Mem w [⟨g1, .cells (arr 5 (fun _ => 0)) 25⟩, ⟨g2, .cells (arr 5 (fun _ => 0)) 25⟩] w3 := M
  refine pl_put M (want_no rfl) rfl 25 _ _ rfl 1 g2 (by kernel_rfl) 5 25 (fun _ => 0) r1 rfl (by kernel_rfl) inz25 ?_
  intro w4 M
  replace M : Mem w [⟨g1, .cells (arr 5 (fun _ => 0)) 25⟩, ⟨g2, .cells (arr 5 r1) 25⟩] w4 := M
  refine pv 2 (.int .i64 0) ?_
  refine nt ?_
  refine sr ?_
  refine pl_load M (want_no rfl) (some 7) rfl 25 _ rfl 1 g2 0 (by kernel_rfl) 5 25 r1 rfl 5 r1 (Part.all _ _) (by decide) _ Tryz.underlying25 rfl inz25 ?_
  refine pl_put M (want_no rfl) rfl 25 _ _ rfl 0 g1 (by kernel_rfl) 5 25 (fun _ => 0) r1 rfl (by kernel_rfl) inz25 ?_
  intro w5 M
  replace M : Mem w [⟨g1, .cells (arr 5 r1) 25⟩, ⟨g2, .cells (arr 5 r1) 25⟩] w5 := M
  refine nt ?_
  refine wp_ret ?_
  exact bodyPost_ret (v := .agg (arr 5 r1)) (results_cell_row Tryz.results71 _ _ g1 25 (arr 5 r1) (0, 0) _ (by kernel_rfl) (M.get 0 rfl) Tryz.underlying25 rfl (by rw [arr_size]; exact inz25)) (by kernel_rfl) ⟨rfl, M.old⟩

structure besidesF (y r1 r2 r3 r4 r5 r6 r7 r8 r9 : Nat → Int) (b10 : Bool) : Prop where
  h1 : ∀ w, Calls Tryz.prog 61 #[.int .u32 1] w fun r w' => r = .returned (.agg (arr 5 r1)) ∧ Below w.heap.size w w'
  h2 : ∀ w, Calls Tryz.prog 59 #[.agg (arr 5 y), .agg (arr 5 y)] w fun r w' => r = .returned (.agg (arr 5 r2)) ∧ Below w.heap.size w w'
  h3 : ∀ w, Calls Tryz.prog 70 #[.agg (arr 5 r2), .agg (arr 5 r1)] w fun r w' => r = .returned (.agg (arr 5 r3)) ∧ Below w.heap.size w w'
  h4 : ∀ w, Calls Tryz.prog 71 #[] w fun r w' => r = .returned (.agg (arr 5 r4)) ∧ Below w.heap.size w w'
  h5 : ∀ w, Calls Tryz.prog 59 #[.agg (arr 5 r4), .agg (arr 5 r2)] w fun r w' => r = .returned (.agg (arr 5 r5)) ∧ Below w.heap.size w w'
  h6 : ∀ w, Calls Tryz.prog 72 #[.agg (arr 5 r5), .agg (arr 5 r1)] w fun r w' => r = .returned (.agg (arr 5 r6)) ∧ Below w.heap.size w w'
  h7 : ∀ w, Calls Tryz.prog 73 #[.agg (arr 5 r6)] w fun r w' => r = .returned (.agg (arr 5 r7)) ∧ Below w.heap.size w w'
  h8 : ∀ w, Calls Tryz.prog 59 #[.agg (arr 5 r3), .agg (arr 5 r7)] w fun r w' => r = .returned (.agg (arr 5 r8)) ∧ Below w.heap.size w w'
  h9 : ∀ w, Calls Tryz.prog 74 #[.agg (arr 5 r8)] w fun r w' => r = .returned (.tuple #[.agg (arr 5 r9), .bool b10]) ∧ Below w.heap.size w w'

set_option maxRecDepth 100000 in
set_option maxHeartbeats 4000000 in
theorem besides_gen (y r1 r2 r3 r4 r5 r6 r7 r8 r9 : Nat → Int) (b10 : Bool) (w : World) (F : besidesF y r1 r2 r3 r4 r5 r6 r7 r8 r9 b10)  :
    Calls Tryz.prog 27 #[.agg (arr 5 y)] w fun r w' => r = .returned (.tuple #[.agg (arr 5 r9), .bool b10]) ∧ Below w.heap.size w w' := by
  go_enter Tryz.func27, Tryz.ntmps27
  have M := Mem.start w
  refine sr ?_
  refine pl_new M (want_no rfl) (some 1) rfl (.cells (arr 5 y) 25) (fun _ => by kernel_rfl) ?_
  intro g1 w1 M
  replace M : Mem w [⟨g1, .cells (arr 5 y) 25⟩] w1 := M
  refine pl_new M (want_no rfl) (some 2) rfl (.cells (arr 5 (fun _ => 0)) 25) (fun _ => by kernel_rfl) ?_
  intro g2 w2 M
  replace M : Mem w [⟨g1, .cells (arr 5 y) 25⟩, ⟨g2, .cells (arr 5 (fun _ => 0)) 25⟩] w2 := M
  refine pv 3 (.bool false) ?_
  refine nt ?_
  refine wp_seq ?_
  refine rg_allocs M 4 [(4, 25, 5), (5, 25, 5)] (by kernel_rfl) (by kernel_rfl) ⟨rfl, rfl, fun _ _ => by kernel_rfl, rfl, rfl, fun _ _ => by kernel_rfl, trivial⟩ (by decide) ?_
  simp only [List.take_succ_cons, List.take_zero]
  refine k_call (want_no rfl) (some 6) rfl 61 #[.int .u32 1] (.agg (arr 5 r1)) (fun _ => by kernel_rfl) F.h1 ?_
  refine k_load M (want_no rfl) (some 7) rfl 25 _ rfl 0 g1 0 (by kernel_rfl) 5 25 y rfl 5 y (Part.all _ _) (by decide) _ Tryz.underlying25 rfl inz25 ?_
  refine k_load M (want_no rfl) (some 8) rfl 25 _ rfl 0 g1 0 (by kernel_rfl) 5 25 y rfl 5 y (Part.all _ _) (by decide) _ Tryz.underlying25 rfl inz25 ?_
  refine k_call (want_no rfl) (some 9) rfl 59 #[.agg (arr 5 y), .agg (arr 5 y)] (.agg (arr 5 r2)) (fun _ => by kernel_rfl) F.h2 ?_
  refine kl_nil ?_
  intro w3 g3 g4 M
  replace M : Mem w [⟨g1, .cells (arr 5 y) 25⟩, ⟨g2, .cells (arr 5 (fun _ => 0)) 25⟩, ⟨g3, .cells (arr 5 (fun _ => 0)) 25⟩, ⟨g4, .cells (arr 5 (fun _ => 0)) 25⟩] w3 := M
  refine pl_put M (want_no rfl) rfl 25 _ _ rfl 2 g3 (by kernel_rfl) 5 25 (fun _ => 0) r1 rfl (by kernel_rfl) inz25 ?_
  intro w4 M
  replace M : Mem w [⟨g1, .cells (arr 5 y) 25⟩, ⟨g2, .cells (arr 5 (fun _ => 0)) 25⟩, ⟨g3, .cells (arr 5 r1) 25⟩, ⟨g4, .cells (arr 5 (fun _ => 0)) 25⟩] w4 := M
  refine pl_put M (want_no rfl) rfl 25 _ _ rfl 3 g4 (by kernel_rfl) 5 25 (fun _ => 0) r2 rfl (by kernel_rfl) inz25 ?_
  intro w5 M
  replace M : Mem w [⟨g1, .cells (arr 5 y) 25⟩, ⟨g2, .cells (arr 5 (fun _ => 0)) 25⟩, ⟨g3, .cells (arr 5 r1) 25⟩, ⟨g4, .cells (arr 5 r2) 25⟩] w5 := M
  refine nt ?_
  refine wp_seq ?_
  refine rg_tail M 13 (by kernel_rfl) (by kernel_rfl) ?_
  simp only [List.take_succ_cons, List.take_zero]
  refine k_load M (want_no rfl) (some 10) rfl 25 _ rfl 3 g4 0 (by kernel_rfl) 5 25 r2 rfl 5 r2 (Part.all _ _) (by decide) _ Tryz.underlying25 rfl inz25 ?_
  refine k_load M (want_no rfl) (some 11) rfl 25 _ rfl 2 g3 0 (by kernel_rfl) 5 25 r1 rfl 5 r1 (Part.all _ _) (by decide) _ Tryz.underlying25 rfl inz25 ?_
  refine k_call (want_no rfl) (some 12) rfl 70 #[.agg (arr 5 r2), .agg (arr 5 r1)] (.agg (arr 5 r3)) (fun _ => by kernel_rfl) F.h3 ?_
  refine k_call (want_no rfl) (some 13) rfl 71 #[] (.agg (arr 5 r4)) (fun _ => by kernel_rfl) F.h4 ?_
  refine k_load M (want_no rfl) (some 14) rfl 25 _ rfl 3 g4 0 (by kernel_rfl) 5 25 r2 rfl 5 r2 (Part.all _ _) (by decide) _ Tryz.underlying25 rfl inz25 ?_
  refine k_call (want_no rfl) (some 15) rfl 59 #[.agg (arr 5 r4), .agg (arr 5 r2)] (.agg (arr 5 r5)) (fun _ => by kernel_rfl) F.h5 ?_
  refine k_load M (want_no rfl) (some 16) rfl 25 _ rfl 2 g3 0 (by kernel_rfl) 5 25 r1 rfl 5 r1 (Part.all _ _) (by decide) _ Tryz.underlying25 rfl inz25 ?_
  refine k_call (want_no rfl) (some 17) rfl 72 #[.agg (arr 5 r5), .agg (arr 5 r1)] (.agg (arr 5 r6)) (fun _ => by kernel_rfl) F.h6 ?_
  refine k_call (want_no rfl) (some 18) rfl 73 #[.agg (arr 5 r6)] (.agg (arr 5 r7)) (fun _ => by kernel_rfl) F.h7 ?_
  refine k_call (want_no rfl) (some 19) rfl 59 #[.agg (arr 5 r3), .agg (arr 5 r7)] (.agg (arr 5 r8)) (fun _ => by kernel_rfl) F.h8 ?_
  refine k_call (want_no rfl) (some 20) rfl 74 #[.agg (arr 5 r8)] (.tuple #[.agg (arr 5 r9), .bool b10]) (fun _ => by kernel_rfl) F.h9 ?_
  refine kv 21 (.agg (arr 5 r9)) ?_
  refine kv 22 (.bool b10) ?_
  refine kl_nil ?_
  intro w6 M
  replace M : Mem w [⟨g1, .cells (arr 5 y) 25⟩, ⟨g2, .cells (arr 5 (fun _ => 0)) 25⟩, ⟨g3, .cells (arr 5 r1) 25⟩, ⟨g4, .cells (arr 5 r2) 25⟩] w6 := M
  refine pl_put M (want_no rfl) rfl 25 _ _ rfl 1 g2 (by kernel_rfl) 5 25 (fun _ => 0) r9 rfl (by kernel_rfl) inz25 ?_
  intro w7 M
  replace M : Mem w [⟨g1, .cells (arr 5 y) 25⟩, ⟨g2, .cells (arr 5 r9) 25⟩, ⟨g3, .cells (arr 5 r1) 25⟩, ⟨g4, .cells (arr 5 r2) 25⟩] w7 := M
  refine pv 3 (.bool b10) ?_
  refine nt ?_
  refine wp_ret ?_
  exact bodyPost_ret (v := .tuple #[.agg (arr 5 r9), .bool b10]) (results_cell_tmp Tryz.results27 _ _ g2 25 (arr 5 r9) (0, 0) _ (.bool b10) (by kernel_rfl) (by kernel_rfl) (M.get 1 rfl) Tryz.underlying25 rfl (by rw [arr_size]; exact inz25)) (by kernel_rfl) ⟨rfl, M.old⟩

structure decLF (s : ByteArray)  : Prop where
  h0 : True

set_option maxRecDepth 100000 in
set_option maxHeartbeats 4000000 in
theorem decL_gen (s : ByteArray)  (w : World) (_F : decLF s ) (hs : ¬ (s.size : Int) = 32) :
    Calls Tryz.prog 5 #[.string s] w fun r w' => r = .returned (.tuple #[.agg (arr 20 (fun _ => 0)), .int .i64 2]) ∧ Below w.heap.size w w' := by
  go_enter Tryz.func5, Tryz.ntmps5
  have M := Mem.start w
  refine sr ?_
  refine pl_new M (want_no rfl) (some 2) rfl (.cells (arr 20 (fun _ => 0)) 27) (fun _ => by kernel_rfl) ?_
  intro g1 w1 M
  replace M : Mem w [⟨g1, .cells (arr 20 (fun _ => 0)) 27⟩] w1 := M
  refine pv 3 (.int .i64 0) ?_
  refine nt ?_
  refine wp_seq ?_
  refine sr ?_
  refine pv 10 (.string s) ?_
  refine pv 11 (.int .i64 (s.size : Int)) ?_
  refine pl_val (want_no rfl) (some 12) rfl (.bool true) (fun w => Eq.trans (b := .ok (.value (.bool (!(decide ((s.size : Int) = 32))))) w) (by kernel_rfl) (by rw [decide_eq_false hs]; rfl)) ?_
  refine nt ?_
  refine wp_cond_true (by kernel_rfl) ?_
  refine sr ?_
  refine pv 13 (.agg (arr 20 (fun _ => 0))) ?_
  refine pl_put M (want_no rfl) rfl 27 _ _ rfl 0 g1 (by kernel_rfl) 20 27 (fun _ => 0) (fun _ => 0) rfl (by kernel_rfl) inz27 ?_
  intro w2 M
  replace M : Mem w [⟨g1, .cells (arr 20 (fun _ => 0)) 27⟩] w2 := M
  refine pv 3 (.int .i64 2) ?_
  refine nt ?_
  refine wp_ret ?_
  refine au_then_ret ?_
  exact bodyPost_ret (v := .tuple #[.agg (arr 20 (fun _ => 0)), .int .i64 2]) (results_cell_tmp Tryz.results5 _ _ g1 27 (arr 20 (fun _ => 0)) (0, 0) _ (.int .i64 2) (by kernel_rfl) (by kernel_rfl) (M.get 0 rfl) Tryz.underlying27 rfl (by rw [arr_size]; exact inz27)) (by kernel_rfl) ⟨rfl, M.old⟩

structure decCF (s : ByteArray) (b2 : Bool) (s1 : ByteArray) : Prop where
  h1 : ∀ w, Calls Tryz.prog 24 #[.string s] w fun r w' => r = .returned (.tuple #[.string s1, .bool b2]) ∧ Below w.heap.size w w'
  h2 : ∀ w, Calls Tryz.prog 25 #[.string s1] w fun r w' => r = .returned (.bool false) ∧ Below w.heap.size w w'

set_option maxRecDepth 100000 in
set_option maxHeartbeats 4000000 in
theorem decC_gen (s : ByteArray) (b2 : Bool) (s1 : ByteArray) (w : World) (F : decCF s b2 s1) (hs : s.size = 32) :
    Calls Tryz.prog 5 #[.string s] w fun r w' => r = .returned (.tuple #[.agg (arr 20 (fun _ => 0)), .int .i64 40]) ∧ Below w.heap.size w w' := by
  go_enter Tryz.func5, Tryz.ntmps5
  have M := Mem.start w
  refine sr ?_
  refine pl_new M (want_no rfl) (some 2) rfl (.cells (arr 20 (fun _ => 0)) 27) (fun _ => by kernel_rfl) ?_
  intro g1 w1 M
  replace M : Mem w [⟨g1, .cells (arr 20 (fun _ => 0)) 27⟩] w1 := M
  refine pv 3 (.int .i64 0) ?_
  refine nt ?_
  refine wp_seq ?_
  refine sr ?_
  refine pv 10 (.string s) ?_
  refine pl_val (want_no rfl) (some 11) rfl (.int .i64 32) (fun w => Eq.trans (b := .ok (.value (.int .i64 (s.size : Int))) w) (by kernel_rfl) (by rw [hs]; rfl)) ?_
  refine pv 12 (.bool false) ?_
  refine nt ?_
  refine wp_cond_false (by kernel_rfl) ?_
  refine wp_skip ?_
  refine au_then ?_
  refine sr ?_
  refine pv 15 (.string s) ?_
  refine pl_call M (want_no rfl) (some 16) rfl 24 #[.string s] (.tuple #[.string s1, .bool b2]) (fun _ => by kernel_rfl) F.h1 ?_
  intro w2 M
  refine pv 14 (.tuple #[.string s1, .bool b2]) ?_
  refine pv 17 (.string s1) ?_
  refine pv 18 (.bool b2) ?_
  refine pv 4 (.string s1) ?_
  refine pv 5 (.bool b2) ?_
  refine nt ?_
  refine wp_seq ?_
  refine sr ?_
  refine pv 19 (.string s1) ?_
  refine pl_call M (want_no rfl) (some 20) rfl 25 #[.string s1] (.bool false) (fun _ => by kernel_rfl) F.h2 ?_
  intro w3 M
  refine pv 21 (.bool true) ?_
  refine nt ?_
  refine wp_cond_true (by kernel_rfl) ?_
  refine sr ?_
  refine pv 22 (.agg (arr 20 (fun _ => 0))) ?_
  refine pl_put M (want_no rfl) rfl 27 _ _ rfl 0 g1 (by kernel_rfl) 20 27 (fun _ => 0) (fun _ => 0) rfl (by kernel_rfl) inz27 ?_
  intro w4 M
  replace M : Mem w [⟨g1, .cells (arr 20 (fun _ => 0)) 27⟩] w4 := M
  refine pv 3 (.int .i64 40) ?_
  refine nt ?_
  refine wp_ret ?_
  refine au_then_ret ?_
  exact bodyPost_ret (v := .tuple #[.agg (arr 20 (fun _ => 0)), .int .i64 40]) (results_cell_tmp Tryz.results5 _ _ g1 27 (arr 20 (fun _ => 0)) (0, 0) _ (.int .i64 40) (by kernel_rfl) (by kernel_rfl) (M.get 0 rfl) Tryz.underlying27 rfl (by rw [arr_size]; exact inz27)) (by kernel_rfl) ⟨rfl, M.old⟩

structure decRFF (s : ByteArray) (r2 r3 : Nat → Int) (s1 : ByteArray) : Prop where
  h1 : ∀ w, Calls Tryz.prog 24 #[.string s] w fun r w' => r = .returned (.tuple #[.string s1, .bool false]) ∧ Below w.heap.size w w'
  h2 : ∀ w, Calls Tryz.prog 25 #[.string s1] w fun r w' => r = .returned (.bool true) ∧ Below w.heap.size w w'
  h3 : ∀ w, Calls Tryz.prog 26 #[.string s1] w fun r w' => r = .returned (.tuple #[.agg (arr 5 r2), .int .i64 0]) ∧ Below w.heap.size w w'
  h4 : ∀ w, Calls Tryz.prog 27 #[.agg (arr 5 r2)] w fun r w' => r = .returned (.tuple #[.agg (arr 5 r3), .bool false]) ∧ Below w.heap.size w w'

set_option maxRecDepth 100000 in
set_option maxHeartbeats 4000000 in
theorem decRF_gen (s : ByteArray) (r2 r3 : Nat → Int) (s1 : ByteArray) (w : World) (F : decRFF s r2 r3 s1) (hs : s.size = 32) :
    Calls Tryz.prog 5 #[.string s] w fun r w' => r = .returned (.tuple #[.agg (arr 20 (fun _ => 0)), .int .i64 40]) ∧ Below w.heap.size w w' := by
  go_enter Tryz.func5, Tryz.ntmps5
  have M := Mem.start w
  refine sr ?_
  refine pl_new M (want_no rfl) (some 2) rfl (.cells (arr 20 (fun _ => 0)) 27) (fun _ => by kernel_rfl) ?_
  intro g1 w1 M
  replace M : Mem w [⟨g1, .cells (arr 20 (fun _ => 0)) 27⟩] w1 := M
  refine pv 3 (.int .i64 0) ?_
  refine nt ?_
  refine wp_seq ?_
  refine sr ?_
  refine pv 10 (.string s) ?_
  refine pl_val (want_no rfl) (some 11) rfl (.int .i64 32) (fun w => Eq.trans (b := .ok (.value (.int .i64 (s.size : Int))) w) (by kernel_rfl) (by rw [hs]; rfl)) ?_
  refine pv 12 (.bool false) ?_
  refine nt ?_
  refine wp_cond_false (by kernel_rfl) ?_
  refine wp_skip ?_
  refine au_then ?_
  refine sr ?_
  refine pv 15 (.string s) ?_
  refine pl_call M (want_no rfl) (some 16) rfl 24 #[.string s] (.tuple #[.string s1, .bool false]) (fun _ => by kernel_rfl) F.h1 ?_
  intro w2 M
  refine pv 14 (.tuple #[.string s1, .bool false]) ?_
  refine pv 17 (.string s1) ?_
  refine pv 18 (.bool false) ?_
  refine pv 4 (.string s1) ?_
  refine pv 5 (.bool false) ?_
  refine nt ?_
  refine wp_seq ?_
  refine sr ?_
  refine pv 19 (.string s1) ?_
  refine pl_call M (want_no rfl) (some 20) rfl 25 #[.string s1] (.bool true) (fun _ => by kernel_rfl) F.h2 ?_
  intro w3 M
  refine pv 21 (.bool false) ?_
  refine nt ?_
  refine wp_cond_false (by kernel_rfl) ?_
  refine wp_skip ?_
  refine au_then ?_
  refine sr ?_
  refine pv 24 (.string s1) ?_
  refine pl_call M (want_no rfl) (some 25) rfl 26 #[.string s1] (.tuple #[.agg (arr 5 r2), .int .i64 0]) (fun _ => by kernel_rfl) F.h3 ?_
  intro w4 M
  refine pv 23 (.tuple #[.agg (arr 5 r2), .int .i64 0]) ?_
  refine pv 26 (.agg (arr 5 r2)) ?_
  refine pv 27 (.int .i64 0) ?_
  refine pl_new M (want_no rfl) (some 6) rfl (.cells (arr 5 (fun _ => 0)) 25) (fun _ => by kernel_rfl) ?_
  intro g2 w5 M
  replace M : Mem w [⟨g1, .cells (arr 20 (fun _ => 0)) 27⟩, ⟨g2, .cells (arr 5 (fun _ => 0)) 25⟩] w5 := M
  refine pl_put M (want_no rfl) rfl 25 _ _ rfl 1 g2 (by kernel_rfl) 5 25 (fun _ => 0) r2 rfl (by kernel_rfl) inz25 ?_
  intro w6 M
  replace M : Mem w [⟨g1, .cells (arr 20 (fun _ => 0)) 27⟩, ⟨g2, .cells (arr 5 r2) 25⟩] w6 := M
  refine pv 7 (.int .i64 0) ?_
  refine nt ?_
  refine sr ?_
  refine pl_load M (want_no rfl) (some 29) rfl 25 _ rfl 1 g2 0 (by kernel_rfl) 5 25 r2 rfl 5 r2 (Part.all _ _) (by decide) _ Tryz.underlying25 rfl inz25 ?_
  refine pl_call M (want_no rfl) (some 30) rfl 27 #[.agg (arr 5 r2)] (.tuple #[.agg (arr 5 r3), .bool false]) (fun _ => by kernel_rfl) F.h4 ?_
  intro w7 M
  refine pv 28 (.tuple #[.agg (arr 5 r3), .bool false]) ?_
  refine pv 31 (.agg (arr 5 r3)) ?_
  refine pv 32 (.bool false) ?_
  refine pl_new M (want_no rfl) (some 8) rfl (.cells (arr 5 (fun _ => 0)) 25) (fun _ => by kernel_rfl) ?_
  intro g3 w8 M
  replace M : Mem w [⟨g1, .cells (arr 20 (fun _ => 0)) 27⟩, ⟨g2, .cells (arr 5 r2) 25⟩, ⟨g3, .cells (arr 5 (fun _ => 0)) 25⟩] w8 := M
  refine pl_put M (want_no rfl) rfl 25 _ _ rfl 2 g3 (by kernel_rfl) 5 25 (fun _ => 0) r3 rfl (by kernel_rfl) inz25 ?_
  intro w9 M
  replace M : Mem w [⟨g1, .cells (arr 20 (fun _ => 0)) 27⟩, ⟨g2, .cells (arr 5 r2) 25⟩, ⟨g3, .cells (arr 5 r3) 25⟩] w9 := M
  refine pv 9 (.bool false) ?_
  refine nt ?_
  refine wp_seq ?_
  refine sr ?_
  refine pv 33 (.bool false) ?_
  refine nt ?_
  refine wp_cond_false (by kernel_rfl) ?_
  refine wp_skip ?_
  refine au_then ?_
  refine wp_seq ?_
  refine sr ?_
  refine pv 36 (.bool false) ?_
  refine pv 37 (.bool true) ?_
  refine pv 38 (.bool true) ?_
  refine pl_skip (want_off 2 false rfl 38 rfl (by kernel_rfl)) (some 39) rfl ?_
  refine pl_skip (want_off 2 false rfl 38 rfl (by kernel_rfl)) (some 40) rfl ?_
  refine pl_skip (want_off 2 false rfl 38 rfl (by kernel_rfl)) (some 41) rfl ?_
  refine pl_skip (want_off 2 false rfl 38 rfl (by kernel_rfl)) (some 42) rfl ?_
  refine pv 43 (.bool true) ?_
  refine nt ?_
  refine wp_cond_true (by kernel_rfl) ?_
  refine sr ?_
  refine pv 44 (.agg (arr 20 (fun _ => 0))) ?_
  refine pl_put M (want_no rfl) rfl 27 _ _ rfl 0 g1 (by kernel_rfl) 20 27 (fun _ => 0) (fun _ => 0) rfl (by kernel_rfl) inz27 ?_
  intro w10 M
  replace M : Mem w [⟨g1, .cells (arr 20 (fun _ => 0)) 27⟩, ⟨g2, .cells (arr 5 r2) 25⟩, ⟨g3, .cells (arr 5 r3) 25⟩] w10 := M
  refine pv 3 (.int .i64 40) ?_
  refine nt ?_
  refine wp_ret ?_
  refine au_then_ret ?_
  exact bodyPost_ret (v := .tuple #[.agg (arr 20 (fun _ => 0)), .int .i64 40]) (results_cell_tmp Tryz.results5 _ _ g1 27 (arr 20 (fun _ => 0)) (0, 0) _ (.int .i64 40) (by kernel_rfl) (by kernel_rfl) (M.get 0 rfl) Tryz.underlying27 rfl (by rw [arr_size]; exact inz27)) (by kernel_rfl) ⟨rfl, M.old⟩

structure decOFF (s : ByteArray) (r2 r3 : Nat → Int) (s1 : ByteArray) : Prop where
  h1 : ∀ w, Calls Tryz.prog 24 #[.string s] w fun r w' => r = .returned (.tuple #[.string s1, .bool false]) ∧ Below w.heap.size w w'
  h2 : ∀ w, Calls Tryz.prog 25 #[.string s1] w fun r w' => r = .returned (.bool true) ∧ Below w.heap.size w w'
  h3 : ∀ w, Calls Tryz.prog 26 #[.string s1] w fun r w' => r = .returned (.tuple #[.agg (arr 5 r2), .int .i64 0]) ∧ Below w.heap.size w w'
  h4 : ∀ w, Calls Tryz.prog 27 #[.agg (arr 5 r2)] w fun r w' => r = .returned (.tuple #[.agg (arr 5 r3), .bool true]) ∧ Below w.heap.size w w'
  h5 : ∀ w, Calls Tryz.prog 29 #[.agg (arr 5 r3)] w fun r w' => r = .returned (.bool true) ∧ Below w.heap.size w w'

set_option maxRecDepth 100000 in
set_option maxHeartbeats 4000000 in
theorem decOF_gen (s : ByteArray) (r2 r3 : Nat → Int) (s1 : ByteArray) (w : World) (F : decOFF s r2 r3 s1) (hs : s.size = 32) :
    Calls Tryz.prog 5 #[.string s] w fun r w' => r = .returned (.tuple #[.agg (arr 20 (fun _ => 0)), .int .i64 40]) ∧ Below w.heap.size w w' := by
  go_enter Tryz.func5, Tryz.ntmps5
  have M := Mem.start w
  refine sr ?_
  refine pl_new M (want_no rfl) (some 2) rfl (.cells (arr 20 (fun _ => 0)) 27) (fun _ => by kernel_rfl) ?_
  intro g1 w1 M
  replace M : Mem w [⟨g1, .cells (arr 20 (fun _ => 0)) 27⟩] w1 := M
  refine pv 3 (.int .i64 0) ?_
  refine nt ?_
  refine wp_seq ?_
  refine sr ?_
  refine pv 10 (.string s) ?_
  refine pl_val (want_no rfl) (some 11) rfl (.int .i64 32) (fun w => Eq.trans (b := .ok (.value (.int .i64 (s.size : Int))) w) (by kernel_rfl) (by rw [hs]; rfl)) ?_
  refine pv 12 (.bool false) ?_
  refine nt ?_
  refine wp_cond_false (by kernel_rfl) ?_
  refine wp_skip ?_
  refine au_then ?_
  refine sr ?_
  refine pv 15 (.string s) ?_
  refine pl_call M (want_no rfl) (some 16) rfl 24 #[.string s] (.tuple #[.string s1, .bool false]) (fun _ => by kernel_rfl) F.h1 ?_
  intro w2 M
  refine pv 14 (.tuple #[.string s1, .bool false]) ?_
  refine pv 17 (.string s1) ?_
  refine pv 18 (.bool false) ?_
  refine pv 4 (.string s1) ?_
  refine pv 5 (.bool false) ?_
  refine nt ?_
  refine wp_seq ?_
  refine sr ?_
  refine pv 19 (.string s1) ?_
  refine pl_call M (want_no rfl) (some 20) rfl 25 #[.string s1] (.bool true) (fun _ => by kernel_rfl) F.h2 ?_
  intro w3 M
  refine pv 21 (.bool false) ?_
  refine nt ?_
  refine wp_cond_false (by kernel_rfl) ?_
  refine wp_skip ?_
  refine au_then ?_
  refine sr ?_
  refine pv 24 (.string s1) ?_
  refine pl_call M (want_no rfl) (some 25) rfl 26 #[.string s1] (.tuple #[.agg (arr 5 r2), .int .i64 0]) (fun _ => by kernel_rfl) F.h3 ?_
  intro w4 M
  refine pv 23 (.tuple #[.agg (arr 5 r2), .int .i64 0]) ?_
  refine pv 26 (.agg (arr 5 r2)) ?_
  refine pv 27 (.int .i64 0) ?_
  refine pl_new M (want_no rfl) (some 6) rfl (.cells (arr 5 (fun _ => 0)) 25) (fun _ => by kernel_rfl) ?_
  intro g2 w5 M
  replace M : Mem w [⟨g1, .cells (arr 20 (fun _ => 0)) 27⟩, ⟨g2, .cells (arr 5 (fun _ => 0)) 25⟩] w5 := M
  refine pl_put M (want_no rfl) rfl 25 _ _ rfl 1 g2 (by kernel_rfl) 5 25 (fun _ => 0) r2 rfl (by kernel_rfl) inz25 ?_
  intro w6 M
  replace M : Mem w [⟨g1, .cells (arr 20 (fun _ => 0)) 27⟩, ⟨g2, .cells (arr 5 r2) 25⟩] w6 := M
  refine pv 7 (.int .i64 0) ?_
  refine nt ?_
  refine sr ?_
  refine pl_load M (want_no rfl) (some 29) rfl 25 _ rfl 1 g2 0 (by kernel_rfl) 5 25 r2 rfl 5 r2 (Part.all _ _) (by decide) _ Tryz.underlying25 rfl inz25 ?_
  refine pl_call M (want_no rfl) (some 30) rfl 27 #[.agg (arr 5 r2)] (.tuple #[.agg (arr 5 r3), .bool true]) (fun _ => by kernel_rfl) F.h4 ?_
  intro w7 M
  refine pv 28 (.tuple #[.agg (arr 5 r3), .bool true]) ?_
  refine pv 31 (.agg (arr 5 r3)) ?_
  refine pv 32 (.bool true) ?_
  refine pl_new M (want_no rfl) (some 8) rfl (.cells (arr 5 (fun _ => 0)) 25) (fun _ => by kernel_rfl) ?_
  intro g3 w8 M
  replace M : Mem w [⟨g1, .cells (arr 20 (fun _ => 0)) 27⟩, ⟨g2, .cells (arr 5 r2) 25⟩, ⟨g3, .cells (arr 5 (fun _ => 0)) 25⟩] w8 := M
  refine pl_put M (want_no rfl) rfl 25 _ _ rfl 2 g3 (by kernel_rfl) 5 25 (fun _ => 0) r3 rfl (by kernel_rfl) inz25 ?_
  intro w9 M
  replace M : Mem w [⟨g1, .cells (arr 20 (fun _ => 0)) 27⟩, ⟨g2, .cells (arr 5 r2) 25⟩, ⟨g3, .cells (arr 5 r3) 25⟩] w9 := M
  refine pv 9 (.bool true) ?_
  refine nt ?_
  refine wp_seq ?_
  refine sr ?_
  refine pv 33 (.bool false) ?_
  refine nt ?_
  refine wp_cond_false (by kernel_rfl) ?_
  refine wp_skip ?_
  refine au_then ?_
  refine wp_seq ?_
  refine sr ?_
  refine pv 36 (.bool true) ?_
  refine pv 37 (.bool false) ?_
  refine pv 38 (.bool false) ?_
  refine pl_load M (want_on 2 false rfl 38 rfl (by kernel_rfl)) (some 39) rfl 25 _ rfl 2 g3 0 (by kernel_rfl) 5 25 r3 rfl 5 r3 (Part.all _ _) (by decide) _ Tryz.underlying25 rfl inz25 ?_
  refine pl_call M (want_on 2 false rfl 38 rfl (by kernel_rfl)) (some 40) rfl 29 #[.agg (arr 5 r3)] (.bool true) (fun _ => by kernel_rfl) F.h5 ?_
  intro w10 M
  refine pl_val (want_on 2 false rfl 38 rfl (by kernel_rfl)) (some 41) rfl (.bool false) (fun _ => by kernel_rfl) ?_
  refine pl_val (want_on 2 false rfl 38 rfl (by kernel_rfl)) (some 42) rfl (.bool true) (fun _ => by kernel_rfl) ?_
  refine pv 43 (.bool true) ?_
  refine nt ?_
  refine wp_cond_true (by kernel_rfl) ?_
  refine sr ?_
  refine pv 44 (.agg (arr 20 (fun _ => 0))) ?_
  refine pl_put M (want_no rfl) rfl 27 _ _ rfl 0 g1 (by kernel_rfl) 20 27 (fun _ => 0) (fun _ => 0) rfl (by kernel_rfl) inz27 ?_
  intro w11 M
  replace M : Mem w [⟨g1, .cells (arr 20 (fun _ => 0)) 27⟩, ⟨g2, .cells (arr 5 r2) 25⟩, ⟨g3, .cells (arr 5 r3) 25⟩] w11 := M
  refine pv 3 (.int .i64 40) ?_
  refine nt ?_
  refine wp_ret ?_
  refine au_then_ret ?_
  exact bodyPost_ret (v := .tuple #[.agg (arr 20 (fun _ => 0)), .int .i64 40]) (results_cell_tmp Tryz.results5 _ _ g1 27 (arr 20 (fun _ => 0)) (0, 0) _ (.int .i64 40) (by kernel_rfl) (by kernel_rfl) (M.get 0 rfl) Tryz.underlying27 rfl (by rw [arr_size]; exact inz27)) (by kernel_rfl) ⟨rfl, M.old⟩

structure decYFF (s : ByteArray) (r2 r3 r4 : Nat → Int) (s1 : ByteArray) : Prop where
  h1 : ∀ w, Calls Tryz.prog 24 #[.string s] w fun r w' => r = .returned (.tuple #[.string s1, .bool false]) ∧ Below w.heap.size w w'
  h2 : ∀ w, Calls Tryz.prog 25 #[.string s1] w fun r w' => r = .returned (.bool true) ∧ Below w.heap.size w w'
  h3 : ∀ w, Calls Tryz.prog 26 #[.string s1] w fun r w' => r = .returned (.tuple #[.agg (arr 5 r2), .int .i64 0]) ∧ Below w.heap.size w w'
  h4 : ∀ w, Calls Tryz.prog 27 #[.agg (arr 5 r2)] w fun r w' => r = .returned (.tuple #[.agg (arr 5 r3), .bool true]) ∧ Below w.heap.size w w'
  h5 : ∀ w, Calls Tryz.prog 29 #[.agg (arr 5 r3)] w fun r w' => r = .returned (.bool false) ∧ Below w.heap.size w w'
  h6 : ∀ w, Calls Tryz.prog 30 #[.agg (arr 5 r3), .agg (arr 5 r2)] w fun r w' => r = .returned (.agg (arr 20 r4)) ∧ Below w.heap.size w w'

set_option maxRecDepth 100000 in
set_option maxHeartbeats 4000000 in
theorem decYF_gen (s : ByteArray) (r2 r3 r4 : Nat → Int) (s1 : ByteArray) (w : World) (F : decYFF s r2 r3 r4 s1) (hs : s.size = 32) :
    Calls Tryz.prog 5 #[.string s] w fun r w' => r = .returned (.tuple #[.agg (arr 20 r4), .int .i64 0]) ∧ Below w.heap.size w w' := by
  go_enter Tryz.func5, Tryz.ntmps5
  have M := Mem.start w
  refine sr ?_
  refine pl_new M (want_no rfl) (some 2) rfl (.cells (arr 20 (fun _ => 0)) 27) (fun _ => by kernel_rfl) ?_
  intro g1 w1 M
  replace M : Mem w [⟨g1, .cells (arr 20 (fun _ => 0)) 27⟩] w1 := M
  refine pv 3 (.int .i64 0) ?_
  refine nt ?_
  refine wp_seq ?_
  refine sr ?_
  refine pv 10 (.string s) ?_
  refine pl_val (want_no rfl) (some 11) rfl (.int .i64 32) (fun w => Eq.trans (b := .ok (.value (.int .i64 (s.size : Int))) w) (by kernel_rfl) (by rw [hs]; rfl)) ?_
  refine pv 12 (.bool false) ?_
  refine nt ?_
  refine wp_cond_false (by kernel_rfl) ?_
  refine wp_skip ?_
  refine au_then ?_
  refine sr ?_
  refine pv 15 (.string s) ?_
  refine pl_call M (want_no rfl) (some 16) rfl 24 #[.string s] (.tuple #[.string s1, .bool false]) (fun _ => by kernel_rfl) F.h1 ?_
  intro w2 M
  refine pv 14 (.tuple #[.string s1, .bool false]) ?_
  refine pv 17 (.string s1) ?_
  refine pv 18 (.bool false) ?_
  refine pv 4 (.string s1) ?_
  refine pv 5 (.bool false) ?_
  refine nt ?_
  refine wp_seq ?_
  refine sr ?_
  refine pv 19 (.string s1) ?_
  refine pl_call M (want_no rfl) (some 20) rfl 25 #[.string s1] (.bool true) (fun _ => by kernel_rfl) F.h2 ?_
  intro w3 M
  refine pv 21 (.bool false) ?_
  refine nt ?_
  refine wp_cond_false (by kernel_rfl) ?_
  refine wp_skip ?_
  refine au_then ?_
  refine sr ?_
  refine pv 24 (.string s1) ?_
  refine pl_call M (want_no rfl) (some 25) rfl 26 #[.string s1] (.tuple #[.agg (arr 5 r2), .int .i64 0]) (fun _ => by kernel_rfl) F.h3 ?_
  intro w4 M
  refine pv 23 (.tuple #[.agg (arr 5 r2), .int .i64 0]) ?_
  refine pv 26 (.agg (arr 5 r2)) ?_
  refine pv 27 (.int .i64 0) ?_
  refine pl_new M (want_no rfl) (some 6) rfl (.cells (arr 5 (fun _ => 0)) 25) (fun _ => by kernel_rfl) ?_
  intro g2 w5 M
  replace M : Mem w [⟨g1, .cells (arr 20 (fun _ => 0)) 27⟩, ⟨g2, .cells (arr 5 (fun _ => 0)) 25⟩] w5 := M
  refine pl_put M (want_no rfl) rfl 25 _ _ rfl 1 g2 (by kernel_rfl) 5 25 (fun _ => 0) r2 rfl (by kernel_rfl) inz25 ?_
  intro w6 M
  replace M : Mem w [⟨g1, .cells (arr 20 (fun _ => 0)) 27⟩, ⟨g2, .cells (arr 5 r2) 25⟩] w6 := M
  refine pv 7 (.int .i64 0) ?_
  refine nt ?_
  refine sr ?_
  refine pl_load M (want_no rfl) (some 29) rfl 25 _ rfl 1 g2 0 (by kernel_rfl) 5 25 r2 rfl 5 r2 (Part.all _ _) (by decide) _ Tryz.underlying25 rfl inz25 ?_
  refine pl_call M (want_no rfl) (some 30) rfl 27 #[.agg (arr 5 r2)] (.tuple #[.agg (arr 5 r3), .bool true]) (fun _ => by kernel_rfl) F.h4 ?_
  intro w7 M
  refine pv 28 (.tuple #[.agg (arr 5 r3), .bool true]) ?_
  refine pv 31 (.agg (arr 5 r3)) ?_
  refine pv 32 (.bool true) ?_
  refine pl_new M (want_no rfl) (some 8) rfl (.cells (arr 5 (fun _ => 0)) 25) (fun _ => by kernel_rfl) ?_
  intro g3 w8 M
  replace M : Mem w [⟨g1, .cells (arr 20 (fun _ => 0)) 27⟩, ⟨g2, .cells (arr 5 r2) 25⟩, ⟨g3, .cells (arr 5 (fun _ => 0)) 25⟩] w8 := M
  refine pl_put M (want_no rfl) rfl 25 _ _ rfl 2 g3 (by kernel_rfl) 5 25 (fun _ => 0) r3 rfl (by kernel_rfl) inz25 ?_
  intro w9 M
  replace M : Mem w [⟨g1, .cells (arr 20 (fun _ => 0)) 27⟩, ⟨g2, .cells (arr 5 r2) 25⟩, ⟨g3, .cells (arr 5 r3) 25⟩] w9 := M
  refine pv 9 (.bool true) ?_
  refine nt ?_
  refine wp_seq ?_
  refine sr ?_
  refine pv 33 (.bool false) ?_
  refine nt ?_
  refine wp_cond_false (by kernel_rfl) ?_
  refine wp_skip ?_
  refine au_then ?_
  refine wp_seq ?_
  refine sr ?_
  refine pv 36 (.bool true) ?_
  refine pv 37 (.bool false) ?_
  refine pv 38 (.bool false) ?_
  refine pl_load M (want_on 2 false rfl 38 rfl (by kernel_rfl)) (some 39) rfl 25 _ rfl 2 g3 0 (by kernel_rfl) 5 25 r3 rfl 5 r3 (Part.all _ _) (by decide) _ Tryz.underlying25 rfl inz25 ?_
  refine pl_call M (want_on 2 false rfl 38 rfl (by kernel_rfl)) (some 40) rfl 29 #[.agg (arr 5 r3)] (.bool false) (fun _ => by kernel_rfl) F.h5 ?_
  intro w10 M
  refine pl_val (want_on 2 false rfl 38 rfl (by kernel_rfl)) (some 41) rfl (.bool false) (fun _ => by kernel_rfl) ?_
  refine pl_val (want_on 2 false rfl 38 rfl (by kernel_rfl)) (some 42) rfl (.bool false) (fun _ => by kernel_rfl) ?_
  refine pv 43 (.bool false) ?_
  refine nt ?_
  refine wp_cond_false (by kernel_rfl) ?_
  refine wp_skip ?_
  refine au_then ?_
  refine sr ?_
  refine pl_load M (want_no rfl) (some 45) rfl 25 _ rfl 2 g3 0 (by kernel_rfl) 5 25 r3 rfl 5 r3 (Part.all _ _) (by decide) _ Tryz.underlying25 rfl inz25 ?_
  refine pl_load M (want_no rfl) (some 46) rfl 25 _ rfl 1 g2 0 (by kernel_rfl) 5 25 r2 rfl 5 r2 (Part.all _ _) (by decide) _ Tryz.underlying25 rfl inz25 ?_
  refine pl_call M (want_no rfl) (some 47) rfl 30 #[.agg (arr 5 r3), .agg (arr 5 r2)] (.agg (arr 20 r4)) (fun _ => by kernel_rfl) F.h6 ?_
  intro w11 M
  refine pl_put M (want_no rfl) rfl 27 _ _ rfl 0 g1 (by kernel_rfl) 20 27 (fun _ => 0) r4 rfl (by kernel_rfl) inz27 ?_
  intro w12 M
  replace M : Mem w [⟨g1, .cells (arr 20 r4) 27⟩, ⟨g2, .cells (arr 5 r2) 25⟩, ⟨g3, .cells (arr 5 r3) 25⟩] w12 := M
  refine pv 3 (.int .i64 0) ?_
  refine nt ?_
  refine wp_ret ?_
  exact bodyPost_ret (v := .tuple #[.agg (arr 20 r4), .int .i64 0]) (results_cell_tmp Tryz.results5 _ _ g1 27 (arr 20 r4) (0, 0) _ (.int .i64 0) (by kernel_rfl) (by kernel_rfl) (M.get 0 rfl) Tryz.underlying27 rfl (by rw [arr_size]; exact inz27)) (by kernel_rfl) ⟨rfl, M.old⟩

structure decRTF (s : ByteArray) (r2 r3 r4 : Nat → Int) (s1 : ByteArray) : Prop where
  h1 : ∀ w, Calls Tryz.prog 24 #[.string s] w fun r w' => r = .returned (.tuple #[.string s1, .bool true]) ∧ Below w.heap.size w w'
  h2 : ∀ w, Calls Tryz.prog 25 #[.string s1] w fun r w' => r = .returned (.bool true) ∧ Below w.heap.size w w'
  h3 : ∀ w, Calls Tryz.prog 26 #[.string s1] w fun r w' => r = .returned (.tuple #[.agg (arr 5 r2), .int .i64 0]) ∧ Below w.heap.size w w'
  h4 : ∀ w, Calls Tryz.prog 27 #[.agg (arr 5 r2)] w fun r w' => r = .returned (.tuple #[.agg (arr 5 r3), .bool false]) ∧ Below w.heap.size w w'
  h5 : ∀ w, Calls Tryz.prog 28 #[.agg (arr 5 r3)] w fun r w' => r = .returned (.agg (arr 5 r4)) ∧ Below w.heap.size w w'

set_option maxRecDepth 100000 in
set_option maxHeartbeats 4000000 in
theorem decRT_gen (s : ByteArray) (r2 r3 r4 : Nat → Int) (s1 : ByteArray) (w : World) (F : decRTF s r2 r3 r4 s1) (hs : s.size = 32) :
    Calls Tryz.prog 5 #[.string s] w fun r w' => r = .returned (.tuple #[.agg (arr 20 (fun _ => 0)), .int .i64 40]) ∧ Below w.heap.size w w' := by
  go_enter Tryz.func5, Tryz.ntmps5
  have M := Mem.start w
  refine sr ?_
  refine pl_new M (want_no rfl) (some 2) rfl (.cells (arr 20 (fun _ => 0)) 27) (fun _ => by kernel_rfl) ?_
  intro g1 w1 M
  replace M : Mem w [⟨g1, .cells (arr 20 (fun _ => 0)) 27⟩] w1 := M
  refine pv 3 (.int .i64 0) ?_
  refine nt ?_
  refine wp_seq ?_
  refine sr ?_
  refine pv 10 (.string s) ?_
  refine pl_val (want_no rfl) (some 11) rfl (.int .i64 32) (fun w => Eq.trans (b := .ok (.value (.int .i64 (s.size : Int))) w) (by kernel_rfl) (by rw [hs]; rfl)) ?_
  refine pv 12 (.bool false) ?_
  refine nt ?_
  refine wp_cond_false (by kernel_rfl) ?_
  refine wp_skip ?_
  refine au_then ?_
  refine sr ?_
  refine pv 15 (.string s) ?_
  refine pl_call M (want_no rfl) (some 16) rfl 24 #[.string s] (.tuple #[.string s1, .bool true]) (fun _ => by kernel_rfl) F.h1 ?_
  intro w2 M
  refine pv 14 (.tuple #[.string s1, .bool true]) ?_
  refine pv 17 (.string s1) ?_
  refine pv 18 (.bool true) ?_
  refine pv 4 (.string s1) ?_
  refine pv 5 (.bool true) ?_
  refine nt ?_
  refine wp_seq ?_
  refine sr ?_
  refine pv 19 (.string s1) ?_
  refine pl_call M (want_no rfl) (some 20) rfl 25 #[.string s1] (.bool true) (fun _ => by kernel_rfl) F.h2 ?_
  intro w3 M
  refine pv 21 (.bool false) ?_
  refine nt ?_
  refine wp_cond_false (by kernel_rfl) ?_
  refine wp_skip ?_
  refine au_then ?_
  refine sr ?_
  refine pv 24 (.string s1) ?_
  refine pl_call M (want_no rfl) (some 25) rfl 26 #[.string s1] (.tuple #[.agg (arr 5 r2), .int .i64 0]) (fun _ => by kernel_rfl) F.h3 ?_
  intro w4 M
  refine pv 23 (.tuple #[.agg (arr 5 r2), .int .i64 0]) ?_
  refine pv 26 (.agg (arr 5 r2)) ?_
  refine pv 27 (.int .i64 0) ?_
  refine pl_new M (want_no rfl) (some 6) rfl (.cells (arr 5 (fun _ => 0)) 25) (fun _ => by kernel_rfl) ?_
  intro g2 w5 M
  replace M : Mem w [⟨g1, .cells (arr 20 (fun _ => 0)) 27⟩, ⟨g2, .cells (arr 5 (fun _ => 0)) 25⟩] w5 := M
  refine pl_put M (want_no rfl) rfl 25 _ _ rfl 1 g2 (by kernel_rfl) 5 25 (fun _ => 0) r2 rfl (by kernel_rfl) inz25 ?_
  intro w6 M
  replace M : Mem w [⟨g1, .cells (arr 20 (fun _ => 0)) 27⟩, ⟨g2, .cells (arr 5 r2) 25⟩] w6 := M
  refine pv 7 (.int .i64 0) ?_
  refine nt ?_
  refine sr ?_
  refine pl_load M (want_no rfl) (some 29) rfl 25 _ rfl 1 g2 0 (by kernel_rfl) 5 25 r2 rfl 5 r2 (Part.all _ _) (by decide) _ Tryz.underlying25 rfl inz25 ?_
  refine pl_call M (want_no rfl) (some 30) rfl 27 #[.agg (arr 5 r2)] (.tuple #[.agg (arr 5 r3), .bool false]) (fun _ => by kernel_rfl) F.h4 ?_
  intro w7 M
  refine pv 28 (.tuple #[.agg (arr 5 r3), .bool false]) ?_
  refine pv 31 (.agg (arr 5 r3)) ?_
  refine pv 32 (.bool false) ?_
  refine pl_new M (want_no rfl) (some 8) rfl (.cells (arr 5 (fun _ => 0)) 25) (fun _ => by kernel_rfl) ?_
  intro g3 w8 M
  replace M : Mem w [⟨g1, .cells (arr 20 (fun _ => 0)) 27⟩, ⟨g2, .cells (arr 5 r2) 25⟩, ⟨g3, .cells (arr 5 (fun _ => 0)) 25⟩] w8 := M
  refine pl_put M (want_no rfl) rfl 25 _ _ rfl 2 g3 (by kernel_rfl) 5 25 (fun _ => 0) r3 rfl (by kernel_rfl) inz25 ?_
  intro w9 M
  replace M : Mem w [⟨g1, .cells (arr 20 (fun _ => 0)) 27⟩, ⟨g2, .cells (arr 5 r2) 25⟩, ⟨g3, .cells (arr 5 r3) 25⟩] w9 := M
  refine pv 9 (.bool false) ?_
  refine nt ?_
  refine wp_seq ?_
  refine sr ?_
  refine pv 33 (.bool true) ?_
  refine nt ?_
  refine wp_cond_true (by kernel_rfl) ?_
  refine rg_lit ?_
  refine pl_load M (want_no rfl) (some 34) rfl 25 _ rfl 2 g3 0 (by kernel_rfl) 5 25 r3 rfl 5 r3 (Part.all _ _) (by decide) _ Tryz.underlying25 rfl inz25 ?_
  refine pl_call M (want_no rfl) (some 35) rfl 28 #[.agg (arr 5 r3)] (.agg (arr 5 r4)) (fun _ => by kernel_rfl) F.h5 ?_
  intro w10 M
  refine pl_put M (want_no rfl) rfl 25 _ _ rfl 2 g3 (by kernel_rfl) 5 25 r3 r4 rfl (by kernel_rfl) inz25 ?_
  intro w11 M
  replace M : Mem w [⟨g1, .cells (arr 20 (fun _ => 0)) 27⟩, ⟨g2, .cells (arr 5 r2) 25⟩, ⟨g3, .cells (arr 5 r4) 25⟩] w11 := M
  refine nt ?_
  refine wp_seq ?_
  refine sr ?_
  refine pv 36 (.bool false) ?_
  refine pv 37 (.bool true) ?_
  refine pv 38 (.bool true) ?_
  refine pl_skip (want_off 2 false rfl 38 rfl (by kernel_rfl)) (some 39) rfl ?_
  refine pl_skip (want_off 2 false rfl 38 rfl (by kernel_rfl)) (some 40) rfl ?_
  refine pl_skip (want_off 2 false rfl 38 rfl (by kernel_rfl)) (some 41) rfl ?_
  refine pl_skip (want_off 2 false rfl 38 rfl (by kernel_rfl)) (some 42) rfl ?_
  refine pv 43 (.bool true) ?_
  refine nt ?_
  refine wp_cond_true (by kernel_rfl) ?_
  refine sr ?_
  refine pv 44 (.agg (arr 20 (fun _ => 0))) ?_
  refine pl_put M (want_no rfl) rfl 27 _ _ rfl 0 g1 (by kernel_rfl) 20 27 (fun _ => 0) (fun _ => 0) rfl (by kernel_rfl) inz27 ?_
  intro w12 M
  replace M : Mem w [⟨g1, .cells (arr 20 (fun _ => 0)) 27⟩, ⟨g2, .cells (arr 5 r2) 25⟩, ⟨g3, .cells (arr 5 r4) 25⟩] w12 := M
  refine pv 3 (.int .i64 40) ?_
  refine nt ?_
  refine wp_ret ?_
  refine au_then_ret ?_
  exact bodyPost_ret (v := .tuple #[.agg (arr 20 (fun _ => 0)), .int .i64 40]) (results_cell_tmp Tryz.results5 _ _ g1 27 (arr 20 (fun _ => 0)) (0, 0) _ (.int .i64 40) (by kernel_rfl) (by kernel_rfl) (M.get 0 rfl) Tryz.underlying27 rfl (by rw [arr_size]; exact inz27)) (by kernel_rfl) ⟨rfl, M.old⟩

structure decOTF (s : ByteArray) (r2 r3 r4 : Nat → Int) (s1 : ByteArray) : Prop where
  h1 : ∀ w, Calls Tryz.prog 24 #[.string s] w fun r w' => r = .returned (.tuple #[.string s1, .bool true]) ∧ Below w.heap.size w w'
  h2 : ∀ w, Calls Tryz.prog 25 #[.string s1] w fun r w' => r = .returned (.bool true) ∧ Below w.heap.size w w'
  h3 : ∀ w, Calls Tryz.prog 26 #[.string s1] w fun r w' => r = .returned (.tuple #[.agg (arr 5 r2), .int .i64 0]) ∧ Below w.heap.size w w'
  h4 : ∀ w, Calls Tryz.prog 27 #[.agg (arr 5 r2)] w fun r w' => r = .returned (.tuple #[.agg (arr 5 r3), .bool true]) ∧ Below w.heap.size w w'
  h5 : ∀ w, Calls Tryz.prog 28 #[.agg (arr 5 r3)] w fun r w' => r = .returned (.agg (arr 5 r4)) ∧ Below w.heap.size w w'
  h6 : ∀ w, Calls Tryz.prog 29 #[.agg (arr 5 r4)] w fun r w' => r = .returned (.bool false) ∧ Below w.heap.size w w'

set_option maxRecDepth 100000 in
set_option maxHeartbeats 4000000 in
theorem decOT_gen (s : ByteArray) (r2 r3 r4 : Nat → Int) (s1 : ByteArray) (w : World) (F : decOTF s r2 r3 r4 s1) (hs : s.size = 32) :
    Calls Tryz.prog 5 #[.string s] w fun r w' => r = .returned (.tuple #[.agg (arr 20 (fun _ => 0)), .int .i64 40]) ∧ Below w.heap.size w w' := by
  go_enter Tryz.func5, Tryz.ntmps5
  have M := Mem.start w
  refine sr ?_
  refine pl_new M (want_no rfl) (some 2) rfl (.cells (arr 20 (fun _ => 0)) 27) (fun _ => by kernel_rfl) ?_
  intro g1 w1 M
  replace M : Mem w [⟨g1, .cells (arr 20 (fun _ => 0)) 27⟩] w1 := M
  refine pv 3 (.int .i64 0) ?_
  refine nt ?_
  refine wp_seq ?_
  refine sr ?_
  refine pv 10 (.string s) ?_
  refine pl_val (want_no rfl) (some 11) rfl (.int .i64 32) (fun w => Eq.trans (b := .ok (.value (.int .i64 (s.size : Int))) w) (by kernel_rfl) (by rw [hs]; rfl)) ?_
  refine pv 12 (.bool false) ?_
  refine nt ?_
  refine wp_cond_false (by kernel_rfl) ?_
  refine wp_skip ?_
  refine au_then ?_
  refine sr ?_
  refine pv 15 (.string s) ?_
  refine pl_call M (want_no rfl) (some 16) rfl 24 #[.string s] (.tuple #[.string s1, .bool true]) (fun _ => by kernel_rfl) F.h1 ?_
  intro w2 M
  refine pv 14 (.tuple #[.string s1, .bool true]) ?_
  refine pv 17 (.string s1) ?_
  refine pv 18 (.bool true) ?_
  refine pv 4 (.string s1) ?_
  refine pv 5 (.bool true) ?_
  refine nt ?_
  refine wp_seq ?_
  refine sr ?_
  refine pv 19 (.string s1) ?_
  refine pl_call M (want_no rfl) (some 20) rfl 25 #[.string s1] (.bool true) (fun _ => by kernel_rfl) F.h2 ?_
  intro w3 M
  refine pv 21 (.bool false) ?_
  refine nt ?_
  refine wp_cond_false (by kernel_rfl) ?_
  refine wp_skip ?_
  refine au_then ?_
  refine sr ?_
  refine pv 24 (.string s1) ?_
  refine pl_call M (want_no rfl) (some 25) rfl 26 #[.string s1] (.tuple #[.agg (arr 5 r2), .int .i64 0]) (fun _ => by kernel_rfl) F.h3 ?_
  intro w4 M
  refine pv 23 (.tuple #[.agg (arr 5 r2), .int .i64 0]) ?_
  refine pv 26 (.agg (arr 5 r2)) ?_
  refine pv 27 (.int .i64 0) ?_
  refine pl_new M (want_no rfl) (some 6) rfl (.cells (arr 5 (fun _ => 0)) 25) (fun _ => by kernel_rfl) ?_
  intro g2 w5 M
  replace M : Mem w [⟨g1, .cells (arr 20 (fun _ => 0)) 27⟩, ⟨g2, .cells (arr 5 (fun _ => 0)) 25⟩] w5 := M
  refine pl_put M (want_no rfl) rfl 25 _ _ rfl 1 g2 (by kernel_rfl) 5 25 (fun _ => 0) r2 rfl (by kernel_rfl) inz25 ?_
  intro w6 M
  replace M : Mem w [⟨g1, .cells (arr 20 (fun _ => 0)) 27⟩, ⟨g2, .cells (arr 5 r2) 25⟩] w6 := M
  refine pv 7 (.int .i64 0) ?_
  refine nt ?_
  refine sr ?_
  refine pl_load M (want_no rfl) (some 29) rfl 25 _ rfl 1 g2 0 (by kernel_rfl) 5 25 r2 rfl 5 r2 (Part.all _ _) (by decide) _ Tryz.underlying25 rfl inz25 ?_
  refine pl_call M (want_no rfl) (some 30) rfl 27 #[.agg (arr 5 r2)] (.tuple #[.agg (arr 5 r3), .bool true]) (fun _ => by kernel_rfl) F.h4 ?_
  intro w7 M
  refine pv 28 (.tuple #[.agg (arr 5 r3), .bool true]) ?_
  refine pv 31 (.agg (arr 5 r3)) ?_
  refine pv 32 (.bool true) ?_
  refine pl_new M (want_no rfl) (some 8) rfl (.cells (arr 5 (fun _ => 0)) 25) (fun _ => by kernel_rfl) ?_
  intro g3 w8 M
  replace M : Mem w [⟨g1, .cells (arr 20 (fun _ => 0)) 27⟩, ⟨g2, .cells (arr 5 r2) 25⟩, ⟨g3, .cells (arr 5 (fun _ => 0)) 25⟩] w8 := M
  refine pl_put M (want_no rfl) rfl 25 _ _ rfl 2 g3 (by kernel_rfl) 5 25 (fun _ => 0) r3 rfl (by kernel_rfl) inz25 ?_
  intro w9 M
  replace M : Mem w [⟨g1, .cells (arr 20 (fun _ => 0)) 27⟩, ⟨g2, .cells (arr 5 r2) 25⟩, ⟨g3, .cells (arr 5 r3) 25⟩] w9 := M
  refine pv 9 (.bool true) ?_
  refine nt ?_
  refine wp_seq ?_
  refine sr ?_
  refine pv 33 (.bool true) ?_
  refine nt ?_
  refine wp_cond_true (by kernel_rfl) ?_
  refine rg_lit ?_
  refine pl_load M (want_no rfl) (some 34) rfl 25 _ rfl 2 g3 0 (by kernel_rfl) 5 25 r3 rfl 5 r3 (Part.all _ _) (by decide) _ Tryz.underlying25 rfl inz25 ?_
  refine pl_call M (want_no rfl) (some 35) rfl 28 #[.agg (arr 5 r3)] (.agg (arr 5 r4)) (fun _ => by kernel_rfl) F.h5 ?_
  intro w10 M
  refine pl_put M (want_no rfl) rfl 25 _ _ rfl 2 g3 (by kernel_rfl) 5 25 r3 r4 rfl (by kernel_rfl) inz25 ?_
  intro w11 M
  replace M : Mem w [⟨g1, .cells (arr 20 (fun _ => 0)) 27⟩, ⟨g2, .cells (arr 5 r2) 25⟩, ⟨g3, .cells (arr 5 r4) 25⟩] w11 := M
  refine nt ?_
  refine wp_seq ?_
  refine sr ?_
  refine pv 36 (.bool true) ?_
  refine pv 37 (.bool false) ?_
  refine pv 38 (.bool false) ?_
  refine pl_load M (want_on 2 false rfl 38 rfl (by kernel_rfl)) (some 39) rfl 25 _ rfl 2 g3 0 (by kernel_rfl) 5 25 r4 rfl 5 r4 (Part.all _ _) (by decide) _ Tryz.underlying25 rfl inz25 ?_
  refine pl_call M (want_on 2 false rfl 38 rfl (by kernel_rfl)) (some 40) rfl 29 #[.agg (arr 5 r4)] (.bool false) (fun _ => by kernel_rfl) F.h6 ?_
  intro w12 M
  refine pl_val (want_on 2 false rfl 38 rfl (by kernel_rfl)) (some 41) rfl (.bool true) (fun _ => by kernel_rfl) ?_
  refine pl_val (want_on 2 false rfl 38 rfl (by kernel_rfl)) (some 42) rfl (.bool true) (fun _ => by kernel_rfl) ?_
  refine pv 43 (.bool true) ?_
  refine nt ?_
  refine wp_cond_true (by kernel_rfl) ?_
  refine sr ?_
  refine pv 44 (.agg (arr 20 (fun _ => 0))) ?_
  refine pl_put M (want_no rfl) rfl 27 _ _ rfl 0 g1 (by kernel_rfl) 20 27 (fun _ => 0) (fun _ => 0) rfl (by kernel_rfl) inz27 ?_
  intro w13 M
  replace M : Mem w [⟨g1, .cells (arr 20 (fun _ => 0)) 27⟩, ⟨g2, .cells (arr 5 r2) 25⟩, ⟨g3, .cells (arr 5 r4) 25⟩] w13 := M
  refine pv 3 (.int .i64 40) ?_
  refine nt ?_
  refine wp_ret ?_
  refine au_then_ret ?_
  exact bodyPost_ret (v := .tuple #[.agg (arr 20 (fun _ => 0)), .int .i64 40]) (results_cell_tmp Tryz.results5 _ _ g1 27 (arr 20 (fun _ => 0)) (0, 0) _ (.int .i64 40) (by kernel_rfl) (by kernel_rfl) (M.get 0 rfl) Tryz.underlying27 rfl (by rw [arr_size]; exact inz27)) (by kernel_rfl) ⟨rfl, M.old⟩

structure decYTF (s : ByteArray) (r2 r3 r4 r5 : Nat → Int) (s1 : ByteArray) : Prop where
  h1 : ∀ w, Calls Tryz.prog 24 #[.string s] w fun r w' => r = .returned (.tuple #[.string s1, .bool true]) ∧ Below w.heap.size w w'
  h2 : ∀ w, Calls Tryz.prog 25 #[.string s1] w fun r w' => r = .returned (.bool true) ∧ Below w.heap.size w w'
  h3 : ∀ w, Calls Tryz.prog 26 #[.string s1] w fun r w' => r = .returned (.tuple #[.agg (arr 5 r2), .int .i64 0]) ∧ Below w.heap.size w w'
  h4 : ∀ w, Calls Tryz.prog 27 #[.agg (arr 5 r2)] w fun r w' => r = .returned (.tuple #[.agg (arr 5 r3), .bool true]) ∧ Below w.heap.size w w'
  h5 : ∀ w, Calls Tryz.prog 28 #[.agg (arr 5 r3)] w fun r w' => r = .returned (.agg (arr 5 r4)) ∧ Below w.heap.size w w'
  h6 : ∀ w, Calls Tryz.prog 29 #[.agg (arr 5 r4)] w fun r w' => r = .returned (.bool true) ∧ Below w.heap.size w w'
  h7 : ∀ w, Calls Tryz.prog 30 #[.agg (arr 5 r4), .agg (arr 5 r2)] w fun r w' => r = .returned (.agg (arr 20 r5)) ∧ Below w.heap.size w w'

set_option maxRecDepth 100000 in
set_option maxHeartbeats 4000000 in
theorem decYT_gen (s : ByteArray) (r2 r3 r4 r5 : Nat → Int) (s1 : ByteArray) (w : World) (F : decYTF s r2 r3 r4 r5 s1) (hs : s.size = 32) :
    Calls Tryz.prog 5 #[.string s] w fun r w' => r = .returned (.tuple #[.agg (arr 20 r5), .int .i64 0]) ∧ Below w.heap.size w w' := by
  go_enter Tryz.func5, Tryz.ntmps5
  have M := Mem.start w
  refine sr ?_
  refine pl_new M (want_no rfl) (some 2) rfl (.cells (arr 20 (fun _ => 0)) 27) (fun _ => by kernel_rfl) ?_
  intro g1 w1 M
  replace M : Mem w [⟨g1, .cells (arr 20 (fun _ => 0)) 27⟩] w1 := M
  refine pv 3 (.int .i64 0) ?_
  refine nt ?_
  refine wp_seq ?_
  refine sr ?_
  refine pv 10 (.string s) ?_
  refine pl_val (want_no rfl) (some 11) rfl (.int .i64 32) (fun w => Eq.trans (b := .ok (.value (.int .i64 (s.size : Int))) w) (by kernel_rfl) (by rw [hs]; rfl)) ?_
  refine pv 12 (.bool false) ?_
  refine nt ?_
  refine wp_cond_false (by kernel_rfl) ?_
  refine wp_skip ?_
  refine au_then ?_
  refine sr ?_
  refine pv 15 (.string s) ?_
  refine pl_call M (want_no rfl) (some 16) rfl 24 #[.string s] (.tuple #[.string s1, .bool true]) (fun _ => by kernel_rfl) F.h1 ?_
  intro w2 M
  refine pv 14 (.tuple #[.string s1, .bool true]) ?_
  refine pv 17 (.string s1) ?_
  refine pv 18 (.bool true) ?_
  refine pv 4 (.string s1) ?_
  refine pv 5 (.bool true) ?_
  refine nt ?_
  refine wp_seq ?_
  refine sr ?_
  refine pv 19 (.string s1) ?_
  refine pl_call M (want_no rfl) (some 20) rfl 25 #[.string s1] (.bool true) (fun _ => by kernel_rfl) F.h2 ?_
  intro w3 M
  refine pv 21 (.bool false) ?_
  refine nt ?_
  refine wp_cond_false (by kernel_rfl) ?_
  refine wp_skip ?_
  refine au_then ?_
  refine sr ?_
  refine pv 24 (.string s1) ?_
  refine pl_call M (want_no rfl) (some 25) rfl 26 #[.string s1] (.tuple #[.agg (arr 5 r2), .int .i64 0]) (fun _ => by kernel_rfl) F.h3 ?_
  intro w4 M
  refine pv 23 (.tuple #[.agg (arr 5 r2), .int .i64 0]) ?_
  refine pv 26 (.agg (arr 5 r2)) ?_
  refine pv 27 (.int .i64 0) ?_
  refine pl_new M (want_no rfl) (some 6) rfl (.cells (arr 5 (fun _ => 0)) 25) (fun _ => by kernel_rfl) ?_
  intro g2 w5 M
  replace M : Mem w [⟨g1, .cells (arr 20 (fun _ => 0)) 27⟩, ⟨g2, .cells (arr 5 (fun _ => 0)) 25⟩] w5 := M
  refine pl_put M (want_no rfl) rfl 25 _ _ rfl 1 g2 (by kernel_rfl) 5 25 (fun _ => 0) r2 rfl (by kernel_rfl) inz25 ?_
  intro w6 M
  replace M : Mem w [⟨g1, .cells (arr 20 (fun _ => 0)) 27⟩, ⟨g2, .cells (arr 5 r2) 25⟩] w6 := M
  refine pv 7 (.int .i64 0) ?_
  refine nt ?_
  refine sr ?_
  refine pl_load M (want_no rfl) (some 29) rfl 25 _ rfl 1 g2 0 (by kernel_rfl) 5 25 r2 rfl 5 r2 (Part.all _ _) (by decide) _ Tryz.underlying25 rfl inz25 ?_
  refine pl_call M (want_no rfl) (some 30) rfl 27 #[.agg (arr 5 r2)] (.tuple #[.agg (arr 5 r3), .bool true]) (fun _ => by kernel_rfl) F.h4 ?_
  intro w7 M
  refine pv 28 (.tuple #[.agg (arr 5 r3), .bool true]) ?_
  refine pv 31 (.agg (arr 5 r3)) ?_
  refine pv 32 (.bool true) ?_
  refine pl_new M (want_no rfl) (some 8) rfl (.cells (arr 5 (fun _ => 0)) 25) (fun _ => by kernel_rfl) ?_
  intro g3 w8 M
  replace M : Mem w [⟨g1, .cells (arr 20 (fun _ => 0)) 27⟩, ⟨g2, .cells (arr 5 r2) 25⟩, ⟨g3, .cells (arr 5 (fun _ => 0)) 25⟩] w8 := M
  refine pl_put M (want_no rfl) rfl 25 _ _ rfl 2 g3 (by kernel_rfl) 5 25 (fun _ => 0) r3 rfl (by kernel_rfl) inz25 ?_
  intro w9 M
  replace M : Mem w [⟨g1, .cells (arr 20 (fun _ => 0)) 27⟩, ⟨g2, .cells (arr 5 r2) 25⟩, ⟨g3, .cells (arr 5 r3) 25⟩] w9 := M
  refine pv 9 (.bool true) ?_
  refine nt ?_
  refine wp_seq ?_
  refine sr ?_
  refine pv 33 (.bool true) ?_
  refine nt ?_
  refine wp_cond_true (by kernel_rfl) ?_
  refine rg_lit ?_
  refine pl_load M (want_no rfl) (some 34) rfl 25 _ rfl 2 g3 0 (by kernel_rfl) 5 25 r3 rfl 5 r3 (Part.all _ _) (by decide) _ Tryz.underlying25 rfl inz25 ?_
  refine pl_call M (want_no rfl) (some 35) rfl 28 #[.agg (arr 5 r3)] (.agg (arr 5 r4)) (fun _ => by kernel_rfl) F.h5 ?_
  intro w10 M
  refine pl_put M (want_no rfl) rfl 25 _ _ rfl 2 g3 (by kernel_rfl) 5 25 r3 r4 rfl (by kernel_rfl) inz25 ?_
  intro w11 M
  replace M : Mem w [⟨g1, .cells (arr 20 (fun _ => 0)) 27⟩, ⟨g2, .cells (arr 5 r2) 25⟩, ⟨g3, .cells (arr 5 r4) 25⟩] w11 := M
  refine nt ?_
  refine wp_seq ?_
  refine sr ?_
  refine pv 36 (.bool true) ?_
  refine pv 37 (.bool false) ?_
  refine pv 38 (.bool false) ?_
  refine pl_load M (want_on 2 false rfl 38 rfl (by kernel_rfl)) (some 39) rfl 25 _ rfl 2 g3 0 (by kernel_rfl) 5 25 r4 rfl 5 r4 (Part.all _ _) (by decide) _ Tryz.underlying25 rfl inz25 ?_
  refine pl_call M (want_on 2 false rfl 38 rfl (by kernel_rfl)) (some 40) rfl 29 #[.agg (arr 5 r4)] (.bool true) (fun _ => by kernel_rfl) F.h6 ?_
  intro w12 M
  refine pl_val (want_on 2 false rfl 38 rfl (by kernel_rfl)) (some 41) rfl (.bool true) (fun _ => by kernel_rfl) ?_
  refine pl_val (want_on 2 false rfl 38 rfl (by kernel_rfl)) (some 42) rfl (.bool false) (fun _ => by kernel_rfl) ?_
  refine pv 43 (.bool false) ?_
  refine nt ?_
  refine wp_cond_false (by kernel_rfl) ?_
  refine wp_skip ?_
  refine au_then ?_
  refine sr ?_
  refine pl_load M (want_no rfl) (some 45) rfl 25 _ rfl 2 g3 0 (by kernel_rfl) 5 25 r4 rfl 5 r4 (Part.all _ _) (by decide) _ Tryz.underlying25 rfl inz25 ?_
  refine pl_load M (want_no rfl) (some 46) rfl 25 _ rfl 1 g2 0 (by kernel_rfl) 5 25 r2 rfl 5 r2 (Part.all _ _) (by decide) _ Tryz.underlying25 rfl inz25 ?_
  refine pl_call M (want_no rfl) (some 47) rfl 30 #[.agg (arr 5 r4), .agg (arr 5 r2)] (.agg (arr 20 r5)) (fun _ => by kernel_rfl) F.h7 ?_
  intro w13 M
  refine pl_put M (want_no rfl) rfl 27 _ _ rfl 0 g1 (by kernel_rfl) 20 27 (fun _ => 0) r5 rfl (by kernel_rfl) inz27 ?_
  intro w14 M
  replace M : Mem w [⟨g1, .cells (arr 20 r5) 27⟩, ⟨g2, .cells (arr 5 r2) 25⟩, ⟨g3, .cells (arr 5 r4) 25⟩] w14 := M
  refine pv 3 (.int .i64 0) ?_
  refine nt ?_
  refine wp_ret ?_
  exact bodyPost_ret (v := .tuple #[.agg (arr 20 r5), .int .i64 0]) (results_cell_tmp Tryz.results5 _ _ g1 27 (arr 20 r5) (0, 0) _ (.int .i64 0) (by kernel_rfl) (by kernel_rfl) (M.get 0 rfl) Tryz.underlying27 rfl (by rw [arr_size]; exact inz27)) (by kernel_rfl) ⟨rfl, M.old⟩

structure baseF (r1 : Nat → Int) : Prop where
  h1 : ∀ w, Calls Tryz.prog 62 #[.string s102, .int .i64 31] w fun r w' => r = .returned (.string f31S) ∧ Below w.heap.size w w'
  h2 : ∀ w, Calls Tryz.prog 5 #[.string baseS] w fun r w' => r = .returned (.tuple #[.agg (arr 20 r1), .int .i64 0]) ∧ Below w.heap.size w w'

set_option maxRecDepth 100000 in
set_option maxHeartbeats 4000000 in
theorem base_gen (r1 : Nat → Int) (w : World) (F : baseF r1)  :
    Calls Tryz.prog 20 #[] w fun r w' => r = .returned (.agg (arr 20 r1)) ∧ Below w.heap.size w w' := by
  go_enter Tryz.func20, Tryz.ntmps20
  have M := Mem.start w
  refine sr ?_
  refine pl_new M (want_no rfl) (some 0) rfl (.cells (arr 20 (fun _ => 0)) 27) (fun _ => by kernel_rfl) ?_
  intro g1 w1 M
  replace M : Mem w [⟨g1, .cells (arr 20 (fun _ => 0)) 27⟩] w1 := M
  refine nt ?_
  refine sr ?_
  refine pl_call M (want_no rfl) (some 4) rfl 62 #[.string s102, .int .i64 31] (.string f31S) (fun _ => by kernel_rfl) F.h1 ?_
  intro w2 M
  refine pv 5 (.string baseS) ?_
  refine pl_call M (want_no rfl) (some 6) rfl 5 #[.string baseS] (.tuple #[.agg (arr 20 r1), .int .i64 0]) (fun _ => by kernel_rfl) F.h2 ?_
  intro w3 M
  refine pv 3 (.tuple #[.agg (arr 20 r1), .int .i64 0]) ?_
  refine pv 7 (.agg (arr 20 r1)) ?_
  refine pv 8 (.int .i64 0) ?_
  refine pl_new M (want_no rfl) (some 1) rfl (.cells (arr 20 (fun _ => 0)) 27) (fun _ => by kernel_rfl) ?_
  intro g2 w4 M
  replace M : Mem w [⟨g1, .cells (arr 20 (fun _ => 0)) 27⟩, ⟨g2, .cells (arr 20 (fun _ => 0)) 27⟩] w4 := M
  refine pl_put M (want_no rfl) rfl 27 _ _ rfl 1 g2 (by kernel_rfl) 20 27 (fun _ => 0) r1 rfl (by kernel_rfl) inz27 ?_
  intro w5 M
  replace M : Mem w [⟨g1, .cells (arr 20 (fun _ => 0)) 27⟩, ⟨g2, .cells (arr 20 r1) 27⟩] w5 := M
  refine pv 2 (.int .i64 0) ?_
  refine nt ?_
  refine sr ?_
  refine pl_load M (want_no rfl) (some 9) rfl 27 _ rfl 1 g2 0 (by kernel_rfl) 20 27 r1 rfl 20 r1 (Part.all _ _) (by decide) _ Tryz.underlying27 rfl inz27 ?_
  refine pl_put M (want_no rfl) rfl 27 _ _ rfl 0 g1 (by kernel_rfl) 20 27 (fun _ => 0) r1 rfl (by kernel_rfl) inz27 ?_
  intro w6 M
  replace M : Mem w [⟨g1, .cells (arr 20 r1) 27⟩, ⟨g2, .cells (arr 20 r1) 27⟩] w6 := M
  refine nt ?_
  refine wp_ret ?_
  exact bodyPost_ret (v := .agg (arr 20 r1)) (results_cell_row Tryz.results20 _ _ g1 27 (arr 20 r1) (0, 0) _ (by kernel_rfl) (M.get 0 rfl) Tryz.underlying27 rfl (by rw [arr_size]; exact inz27)) (by kernel_rfl) ⟨rfl, M.old⟩

end Go.Proofs.YtkeocdebfgcnnaaGreat
