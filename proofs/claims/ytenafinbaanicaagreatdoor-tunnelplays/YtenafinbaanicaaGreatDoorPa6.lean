/- Parts of the proof of TunnelPlays: D5, D6, D7, Opn, Opz, Lay. -/
import Derived.Test.YtenafinbaanicaaGreatDoorPa5
import Derived.Test.YtenafinbaanicaaGreatDoorPa4
import Derived.Test.YtenafinbaanicaaGreatDoorPa3
import Derived.ProofKit
import Derived.OpenShut
import Derived.ShutString
import Derived.SizedLaws
import Derived.Deep.SlicePairs
import Derived.Carry
import Derived.Test.YtenafinbaanicaaGreatDoorPa1
import Derived.Test.YtenafinbaanicaaGreatDoorRows
import Derived.Test.YtenafinbaanicaaGreatDoorTie
import Derived.Lay
namespace Go.Proofs.YtenafinbaanicaaGreatDoor
open Go.RowKit
set_option maxRecDepth 100000

set_option maxRecDepth 100000 in
set_option maxHeartbeats 4000000 in
set_option linter.unusedSimpArgs false in
theorem c_does1 {p c p0 p1 d0 d1 : Nat} {y0 y1 : TS} {b0 b1 : Bool} {s0 s1 : Value} {L0 L1 : List (Nat × ByteArray)} {T0 T1 D0 D1 S0 S1 : List Blk} (H0 : IsT p0 (pX y0 b0) T0) (H1 : IsT p1 (pX y1 b1) T1) (E0 : IsD d0 y0 b0 D0) (E1 : IsD d1 y1 b1 D1) (k0 : y0.Dk) (k1 : y1.Dk) (q0 : y0.q.length ≤ c) (q1 : y1.q.length ≤ c) (hS0 : SlV 2 (prs L0) L0.length s0 S0) (hS1 : SlV 2 (prs L1) L1.length s1 S1) (w0 : Lk L0 c) (w1 : Lk L1 c) (hc : c < 10000) {dd wh nn : Int} {at_ nw : Nat} {ss : ByteArray} (hat : at_ < 256) (hpar : at_ % 2 = 1) (hss : ss.size ≤ 4096) (hnw : nw < 18446744073709551616) (w : World) (hL : Laid w)  (hT : There w (⟨p, .cells (av 6 (ls [.pointer (some ⟨p0, 0, none⟩), .pointer (some ⟨p1, 0, none⟩), .pointer (some ⟨d0, 0, none⟩), .pointer (some ⟨d1, 0, none⟩), s0, s1])) 37⟩ :: (T0 ++ (T1 ++ (D0 ++ (D1 ++ (S0 ++ S1))))))) :
    Calls Tryz.prog 9 #[.pointer (some ⟨p, 0, none⟩), .agg (av 6 (ls [.int .i64 dd, .int .u8 ((at_ : Nat) : Int), .string ss, .int .i64 wh, .int .i64 nn, .int .u64 (nw : Int)]))] w fun r w' => ∃ B, r = .returned (.bool true) ∧ Pr p (c + 1) B ∧ OkT w w' (⟨p, .cells (av 6 (ls [.pointer (some ⟨p0, 0, none⟩), .pointer (some ⟨p1, 0, none⟩), .pointer (some ⟨d0, 0, none⟩), .pointer (some ⟨d1, 0, none⟩), s0, s1])) 37⟩ :: (T0 ++ (T1 ++ (D0 ++ (D1 ++ (S0 ++ S1)))))) B := by
  go_enter Tryz.func9, Tryz.ntmps9
  obtain ⟨R_, hR_⟩ : ∃ R_, R_ = (⟨p, .cells (av 6 (ls [.pointer (some ⟨p0, 0, none⟩), .pointer (some ⟨p1, 0, none⟩), .pointer (some ⟨d0, 0, none⟩), .pointer (some ⟨d1, 0, none⟩), s0, s1])) 37⟩ :: (T0 ++ (T1 ++ (D0 ++ (D1 ++ (S0 ++ S1)))))).map Blk.g := ⟨_, rfl⟩
  have M : Mem ⟨w, R_⟩ (⟨p, .cells (av 6 (ls [.pointer (some ⟨p0, 0, none⟩), .pointer (some ⟨p1, 0, none⟩), .pointer (some ⟨d0, 0, none⟩), .pointer (some ⟨d1, 0, none⟩), s0, s1])) 37⟩ :: (T0 ++ (T1 ++ (D0 ++ (D1 ++ (S0 ++ S1)))))) w := hR_ ▸ Mem.startT hL hT
  obtain ⟨u, hu, hu2⟩ := cv_nat nn
  have hw0 := w0.len
  have hw1 := w1.len
  refine sR ?_
  refine pN M 3 (.cells (av 6 (ls [.int .i64 dd, .int .u8 ((at_ : Nat) : Int), .string ss, .int .i64 wh, .int .i64 nn, .int .u64 (nw : Int)])) 45) fun g1 u1 M => ?_
  replace M := M.front
  replace M : Mem ⟨w, R_⟩ (⟨g1, .cells (av 6 (ls [.int .i64 dd, .int .u8 ((at_ : Nat) : Int), .string ss, .int .i64 wh, .int .i64 nn, .int .u64 (nw : Int)])) 45⟩ :: ⟨p, .cells (av 6 (ls [.pointer (some ⟨p0, 0, none⟩), .pointer (some ⟨p1, 0, none⟩), .pointer (some ⟨d0, 0, none⟩), .pointer (some ⟨d1, 0, none⟩), s0, s1])) 37⟩ :: (T0 ++ (T1 ++ (D0 ++ (D1 ++ (S0 ++ S1)))))) u1 := M
  refine rV 1 ?_
  refine nT ?_
  refine sR ?_
  refine rV 1 ?_
  refine ZE M 22 0 1 ?_
  refine pH 23 (.int .u8 1) (fun w => Eq.trans (b := .ok (.value (.int .u8 (Pol.nb8 ((at_ : Nat) : Int) 1))) w) (by kernel_rfl) (by rw [par8 at_ hat, hpar]; rfl)) ?_
  refine rV 2 ?_
  refine nT ?_
  refine sR ?_
  refine rV 5 ?_
  refine ZE M 30 1 1 ?_
  refine rV 1 ?_
  refine nT ?_
  refine sR ?_
  refine rV 5 ?_
  refine ZE M 36 1 3 ?_
  refine rV 1 ?_
  refine nT ?_
  refine wp_seq ?_
  refine sR ?_
  refine rV 1 ?_
  refine ZE M 38 0 0 ?_
  refine nT ?_
  refine wp_block ?_
  refine sR ?_
  by_cases c0 : dd = 0
  · skip
    refine pH 40 (.bool true) (jT (dd = 0) (c0)) ?_
    refine rV 1 ?_
    refine nT ?_
    refine wp_cond_true (by kernel_rfl) ?_
    refine sR ?_
    refine rV 2 ?_
    refine ZE M 44 0 5 ?_
    refine rV 1 ?_
    refine ZE M 46 0 2 ?_
    refine pl_callM M (want_no rfl) (some 47) rfl 21 #[.pointer (some ⟨p1, 0, none⟩), .int .u64 (nw : Int), .string ss] (⟨g1, .cells (av 6 (ls [.int .i64 dd, .int .u8 ((at_ : Nat) : Int), .string ss, .int .i64 wh, .int .i64 nn, .int .u64 (nw : Int)])) 45⟩ :: ⟨p, .cells (av 6 (ls [.pointer (some ⟨p0, 0, none⟩), .pointer (some ⟨p1, 0, none⟩), .pointer (some ⟨d0, 0, none⟩), .pointer (some ⟨d1, 0, none⟩), s0, s1])) 37⟩ :: T0) (T1) ((D0 ++ (D1 ++ (S0 ++ S1)))) (by simp only [List.append_assoc, List.cons_append, List.nil_append, List.append_nil]) (fun T0 => .tuple #[.int .u64 (((pX y1 b1).sN nw ss : Nat) : Int), .string ((pX y1 b1).sC nw ss), .int .i64 ((pX y1 b1).sE nw ss)]) (fun T0 => T0) (fun T0 => IsT p1 ((pX y1 b1).sX nw ss) T0) (fun _ => by kernel_rfl) (fun w hL hT => a_Seal H1 (pX_ok k1.toOk) hnw w hL hT) ?_
    rintro TA u2 HA M
    replace M : Mem ⟨w, R_⟩ (⟨g1, .cells (av 6 (ls [.int .i64 dd, .int .u8 ((at_ : Nat) : Int), .string ss, .int .i64 wh, .int .i64 nn, .int .u64 (nw : Int)])) 45⟩ :: ⟨p, .cells (av 6 (ls [.pointer (some ⟨p0, 0, none⟩), .pointer (some ⟨p1, 0, none⟩), .pointer (some ⟨d0, 0, none⟩), .pointer (some ⟨d1, 0, none⟩), s0, s1])) 37⟩ :: (T0 ++ (TA ++ (D0 ++ (D1 ++ (S0 ++ S1)))))) u2 := by simpa only [List.append_assoc, List.cons_append, List.nil_append, List.append_nil] using M
    refine rV 7 ?_
    refine nT ?_
    refine sR ?_
    refine rV 2 ?_
    refine ZE M 54 0 5 ?_
    refine rV 1 ?_
    refine ZE M 56 0 2 ?_
    refine pl_callM M (want_no rfl) (some 57) rfl 27 #[.pointer (some ⟨d1, 0, none⟩), .int .u64 (nw : Int), .string ss] (⟨g1, .cells (av 6 (ls [.int .i64 dd, .int .u8 ((at_ : Nat) : Int), .string ss, .int .i64 wh, .int .i64 nn, .int .u64 (nw : Int)])) 45⟩ :: ⟨p, .cells (av 6 (ls [.pointer (some ⟨p0, 0, none⟩), .pointer (some ⟨p1, 0, none⟩), .pointer (some ⟨d0, 0, none⟩), .pointer (some ⟨d1, 0, none⟩), s0, s1])) 37⟩ :: (T0 ++ (TA ++ D0))) (D1) ((S0 ++ S1)) (by simp only [List.append_assoc, List.cons_append, List.nil_append, List.append_nil]) (fun T0 => .tuple #[.int .u64 (((pX y1 b1).sN nw ss : Nat) : Int), .string ((pX y1 b1).sC nw ss), .int .i64 ((pX y1 b1).sE nw ss)]) (fun T0 => T0) (fun T0 => IsD d1 (jS y1 b1 nw ss) b1 T0) (fun _ => by kernel_rfl) (fun w hL hT => e_Seal E1 k1 hnw (by omega) w hL hT) ?_
    rintro TB u3 HB M
    replace M : Mem ⟨w, R_⟩ (⟨g1, .cells (av 6 (ls [.int .i64 dd, .int .u8 ((at_ : Nat) : Int), .string ss, .int .i64 wh, .int .i64 nn, .int .u64 (nw : Int)])) 45⟩ :: ⟨p, .cells (av 6 (ls [.pointer (some ⟨p0, 0, none⟩), .pointer (some ⟨p1, 0, none⟩), .pointer (some ⟨d0, 0, none⟩), .pointer (some ⟨d1, 0, none⟩), s0, s1])) 37⟩ :: (T0 ++ (TA ++ (D0 ++ (TB ++ (S0 ++ S1)))))) u3 := by simpa only [List.append_assoc, List.cons_append, List.nil_append, List.append_nil] using M
    refine rV 7 ?_
    refine nT ?_
    refine wp_seq ?_
    refine sR ?_
    refine rV 1 ?_
    by_cases c1 : ((pX y1 b1).sE nw ss) = 0
    · skip
      refine pH 62 (.bool true) (jT (((pX y1 b1).sE nw ss) = 0) (c1)) ?_
      refine nT ?_
      refine wp_cond_true (by kernel_rfl) ?_
      refine rg_held M [⟨g1, .cells (av 6 (ls [.int .i64 dd, .int .u8 ((at_ : Nat) : Int), .string ss, .int .i64 wh, .int .i64 nn, .int .u64 (nw : Int)])) 45⟩, ⟨p, .cells (av 6 (ls [.pointer (some ⟨p0, 0, none⟩), .pointer (some ⟨p1, 0, none⟩), .pointer (some ⟨d0, 0, none⟩), .pointer (some ⟨d1, 0, none⟩), s0, s1])) 37⟩] 16 rfl (by kernel_rfl) (by kernel_rfl) (fun _ _ d _ _ h => by cases d <;> exact h) fun u4 M => ?_
      replace M : Mem ⟨w, R_⟩ (⟨g1, .cells (av 6 (ls [.int .i64 dd, .int .u8 ((at_ : Nat) : Int), .string ss, .int .i64 wh, .int .i64 nn, .int .u64 (nw : Int)])) 45⟩ :: ⟨p, .cells (av 6 (ls [.pointer (some ⟨p0, 0, none⟩), .pointer (some ⟨p1, 0, none⟩), .pointer (some ⟨d0, 0, none⟩), .pointer (some ⟨d1, 0, none⟩), s0, s1])) 37⟩ :: (T0 ++ (TA ++ (D0 ++ (TB ++ (S0 ++ S1)))))) u4 := M
      refine qV (M.drop (.cons_cons _ (.cons_cons _ (List.nil_sublist _)))) 0 63 (.pointer (some ⟨p, 0, none⟩)) ?_
      refine qV (M.drop (.cons_cons _ (.cons_cons _ (List.nil_sublist _)))) 1 64 (.int .i64 1) ?_
      refine qV (M.drop (.cons_cons _ (.cons_cons _ (List.nil_sublist _)))) 2 65 (.pointer (some ⟨p, 0, none⟩)) ?_
      refine qV (M.drop (.cons_cons _ (.cons_cons _ (List.nil_sublist _)))) 3 66 (.int .i64 1) ?_
      refine qV (M.drop (.cons_cons _ (.cons_cons _ (List.nil_sublist _)))) 4 67 (.pointer (some ⟨p, 0, none⟩)) ?_
      refine qV (M.drop (.cons_cons _ (.cons_cons _ (List.nil_sublist _)))) 5 68 (.pointer (some ⟨p, 4, none⟩)) ?_
      refine qV (M.drop (.cons_cons _ (.cons_cons _ (List.nil_sublist _)))) 6 69 (.pointer (some ⟨p, 5, none⟩)) ?_
      refine hl_cell (M.drop (.cons_cons _ (.cons_cons _ (List.nil_sublist _)))) 7 rfl (by decide) (by kernel_rfl) (by kernel_rfl) (want_no rfl) (some 70) rfl 34 _ rfl p 5 (by kernel_rfl) (s1) (fun _ => by kernel_rfl) (fun w M => M.cell 1 rfl (by decide) rfl) ?_
      refine qV (M.drop (.cons_cons _ (.cons_cons _ (List.nil_sublist _)))) 8 71 (.int .u64 (((pX y1 b1).sN nw ss : Nat) : Int)) ?_
      refine qV (M.drop (.cons_cons _ (.cons_cons _ (List.nil_sublist _)))) 9 72 (.string ((pX y1 b1).sC nw ss)) ?_
      refine qV (M.drop (.cons_cons _ (.cons_cons _ (List.nil_sublist _)))) 10 73 (.agg (av 2 (ls [.int .u64 (((pX y1 b1).sN nw ss : Nat) : Int), .string ((pX y1 b1).sC nw ss)]))) ?_
      refine qV (M.drop (.cons_cons _ (.cons_cons _ (List.nil_sublist _)))) 13 76 (.pointer (some ⟨p, 0, none⟩)) ?_
      refine qV (M.drop (.cons_cons _ (.cons_cons _ (List.nil_sublist _)))) 14 77 (.pointer (some ⟨p, 4, none⟩)) ?_
      refine hl_one 11 (by decide) (by kernel_rfl) rfl ?_
      refine ZM M 74 (fun g2 => .slice (some ⟨g2, 0, none⟩) 1 1) (.cells (av 2 (ls [.int .u64 (((pX y1 b1).sN nw ss : Nat) : Int), .string ((pX y1 b1).sC nw ss)])) 96) fun g2 u5 M => ?_
      replace M := M.front
      replace M : Mem ⟨w, R_⟩ (⟨g2, .cells (av 2 (ls [.int .u64 (((pX y1 b1).sN nw ss : Nat) : Int), .string ((pX y1 b1).sC nw ss)])) 96⟩ :: ⟨g1, .cells (av 6 (ls [.int .i64 dd, .int .u8 ((at_ : Nat) : Int), .string ss, .int .i64 wh, .int .i64 nn, .int .u64 (nw : Int)])) 45⟩ :: ⟨p, .cells (av 6 (ls [.pointer (some ⟨p0, 0, none⟩), .pointer (some ⟨p1, 0, none⟩), .pointer (some ⟨d0, 0, none⟩), .pointer (some ⟨d1, 0, none⟩), s0, s1])) 37⟩ :: (T0 ++ (TA ++ (D0 ++ (TB ++ (S0 ++ S1)))))) u5 := M
      refine nT ?_
      refine ⟨(M.drop (.cons _ (.cons_cons _ (.cons_cons _ (List.nil_sublist _))))), ?_⟩
      refine hl_one 12 (by decide) (by kernel_rfl) rfl ?_
      refine pl_appS M (want_no rfl) (some 75) rfl 34 34 96 2 (.agg #[.int .u64 0, .string ⟨#[]⟩]) Tryz.underlying34 infoS rfl (⟨g2, .cells (av 2 (ls [.int .u64 (((pX y1 b1).sN nw ss : Nat) : Int), .string ((pX y1 b1).sC nw ss)])) 96⟩ :: ⟨g1, .cells (av 6 (ls [.int .i64 dd, .int .u8 ((at_ : Nat) : Int), .string ss, .int .i64 wh, .int .i64 nn, .int .u64 (nw : Int)])) 45⟩ :: ⟨p, .cells (av 6 (ls [.pointer (some ⟨p0, 0, none⟩), .pointer (some ⟨p1, 0, none⟩), .pointer (some ⟨d0, 0, none⟩), .pointer (some ⟨d1, 0, none⟩), s0, s1])) 37⟩ :: (T0 ++ (TA ++ (D0 ++ (TB ++ S0))))) S1 [] (by simp only [List.append_assoc, List.cons_append, List.nil_append, List.append_nil]) s1 L1.length (prs L1) hS1 (by omega) 0 g2 96 (ls [.int .u64 (((pX y1 b1).sN nw ss : Nat) : Int), .string ((pX y1 b1).sC nw ss)]) rfl (one_ls _ rfl) (fun _ => by kernel_rfl) ?_
      intro sA TC u6 hSA M
      replace M : Mem ⟨w, R_⟩ (⟨g2, .cells (av 2 (ls [.int .u64 (((pX y1 b1).sN nw ss : Nat) : Int), .string ((pX y1 b1).sC nw ss)])) 96⟩ :: ⟨g1, .cells (av 6 (ls [.int .i64 dd, .int .u8 ((at_ : Nat) : Int), .string ss, .int .i64 wh, .int .i64 nn, .int .u64 (nw : Int)])) 45⟩ :: ⟨p, .cells (av 6 (ls [.pointer (some ⟨p0, 0, none⟩), .pointer (some ⟨p1, 0, none⟩), .pointer (some ⟨d0, 0, none⟩), .pointer (some ⟨d1, 0, none⟩), s0, s1])) 37⟩ :: (T0 ++ (TA ++ (D0 ++ (TB ++ (S0 ++ TC)))))) u6 := by simpa only [List.append_assoc, List.cons_append, List.nil_append, List.append_nil] using M
      refine nT ?_
      refine ⟨(M.drop (.cons _ (.cons_cons _ (.cons_cons _ (List.nil_sublist _))))), ?_⟩
      refine qV (M.drop (.cons _ (.cons_cons _ (.cons_cons _ (List.nil_sublist _))))) 15 78 (.pointer (some ⟨p, 5, none⟩)) ?_
      refine hl_end (by kernel_rfl) (by kernel_rfl) rfl ?_
      refine (pl_put1 M (want_no rfl) rfl 34 _ _ rfl 2 p 5 (by kernel_rfl) 6 37 (ls [.pointer (some ⟨p0, 0, none⟩), .pointer (some ⟨p1, 0, none⟩), .pointer (some ⟨d0, 0, none⟩), .pointer (some ⟨d1, 0, none⟩), s0, s1]) rfl (sA) (ls [.pointer (some ⟨p0, 0, none⟩), .pointer (some ⟨p1, 0, none⟩), .pointer (some ⟨d0, 0, none⟩), .pointer (some ⟨d1, 0, none⟩), s0, sA]) (by kernel_rfl) inz34 (by decide) (slv_one hSA) (slv_cells hSA) (put_ls _ 5 _ _ rfl) ?_)
      intro u7 M
      replace M : Mem ⟨w, R_⟩ (⟨g2, .cells (av 2 (ls [.int .u64 (((pX y1 b1).sN nw ss : Nat) : Int), .string ((pX y1 b1).sC nw ss)])) 96⟩ :: ⟨g1, .cells (av 6 (ls [.int .i64 dd, .int .u8 ((at_ : Nat) : Int), .string ss, .int .i64 wh, .int .i64 nn, .int .u64 (nw : Int)])) 45⟩ :: ⟨p, .cells (av 6 (ls [.pointer (some ⟨p0, 0, none⟩), .pointer (some ⟨p1, 0, none⟩), .pointer (some ⟨d0, 0, none⟩), .pointer (some ⟨d1, 0, none⟩), s0, sA])) 37⟩ :: (T0 ++ (TA ++ (D0 ++ (TB ++ (S0 ++ TC)))))) u7 := M
      refine nT ?_
      refine au_then ?_
      refine sR ?_
      refine rV 2 ?_
      refine ZT 81 ((((pX y1 b1).sN nw ss : Nat) : Int) = (((pX y1 b1).sN nw ss : Nat) : Int)) ?_
      refine rV 3 ?_
      refine pl_val (want_on 3 true rfl 82 rfl (by kernel_rfl)) (some 85) rfl (.bool true) (fun w => Eq.trans (b := .ok (.value (.bool (((pX y1 b1).sC nw ss).toList == ((pX y1 b1).sC nw ss).toList))) w) (by kernel_rfl) (by rw [beq_self_eq_true])) ?_
      refine rV 4 ?_
      refine pl_val (want_on 8 true rfl 87 rfl (by kernel_rfl)) (some 90) rfl (.bool true) (fun w => Eq.trans (b := .ok (.value (.bool (decide (((pX y1 b1).sE nw ss) = ((pX y1 b1).sE nw ss))))) w) (by kernel_rfl) (by rw [decide_eq_true (by omega)])) ?_
      refine rV 2 ?_
      refine nT ?_
      refine wp_ret ?_
      refine au_block_ret ?_
      refine au_then_ret ?_
      exact bodyPost_ret (v := .bool true) (results_tmp1 Tryz.results9 _ _ _ (by kernel_rfl)) (by kernel_rfl) ⟨_, rfl, ⟨p0, p1, d0, d1, y0, (jS y1 b1 nw ss), b0, b1, s0, sA, L0, L1 ++ [((pX y1 b1).sN nw ss, (pX y1 b1).sC nw ss)], T0, TA, D0, TB, S0, TC, rfl, H0, by rw [← pX_sX k1.k1]; exact HA, E0, HB, k0, (jS_dk k1).1, Nat.le_succ_of_le q0, by rw [(jS_dk k1).2]; omega, hS0, by rw [prs_app, List.length_append]; exact hSA, w0.up, w1.app (sN_lt k1 hss) (sC_size k1.k1 hss)⟩, (okT_of hR_ (M.drop (.cons _ (.cons _ (.cons_cons _ (List.Sublist.refl _))))))⟩
    · skip
      refine pH 62 (.bool false) (jF (((pX y1 b1).sE nw ss) = 0) (c1)) ?_
      refine nT ?_
      refine wp_cond_false (by kernel_rfl) ?_
      refine wp_skip ?_
      refine au_then ?_
      refine sR ?_
      refine rV 2 ?_
      refine ZT 81 ((((pX y1 b1).sN nw ss : Nat) : Int) = (((pX y1 b1).sN nw ss : Nat) : Int)) ?_
      refine rV 3 ?_
      refine pl_val (want_on 3 true rfl 82 rfl (by kernel_rfl)) (some 85) rfl (.bool true) (fun w => Eq.trans (b := .ok (.value (.bool (((pX y1 b1).sC nw ss).toList == ((pX y1 b1).sC nw ss).toList))) w) (by kernel_rfl) (by rw [beq_self_eq_true])) ?_
      refine rV 4 ?_
      refine pl_val (want_on 8 true rfl 87 rfl (by kernel_rfl)) (some 90) rfl (.bool true) (fun w => Eq.trans (b := .ok (.value (.bool (decide (((pX y1 b1).sE nw ss) = ((pX y1 b1).sE nw ss))))) w) (by kernel_rfl) (by rw [decide_eq_true (by omega)])) ?_
      refine rV 2 ?_
      refine nT ?_
      refine wp_ret ?_
      refine au_block_ret ?_
      refine au_then_ret ?_
      exact bodyPost_ret (v := .bool true) (results_tmp1 Tryz.results9 _ _ _ (by kernel_rfl)) (by kernel_rfl) ⟨_, rfl, ⟨p0, p1, d0, d1, y0, (jS y1 b1 nw ss), b0, b1, s0, s1, L0, L1, T0, TA, D0, TB, S0, S1, rfl, H0, by rw [← pX_sX k1.k1]; exact HA, E0, HB, k0, (jS_dk k1).1, Nat.le_succ_of_le q0, by rw [(jS_dk k1).2]; omega, hS0, hS1, w0.up, w1.up⟩, (okT_of hR_ (M.drop (.cons _ (.cons_cons _ (List.Sublist.refl _)))))⟩
  · skip
    refine pH 40 (.bool false) (jF (dd = 0) (c0)) ?_
    refine rV 1 ?_
    refine nT ?_
    refine wp_cond_false (by kernel_rfl) ?_
    refine sR ?_
    by_cases c1 : dd = 4
    · skip
      refine pH 93 (.bool true) (jT (dd = 4) (c1)) ?_
      refine rV 1 ?_
      refine nT ?_
      refine wp_cond_true (by kernel_rfl) ?_
      refine sq ?_
      refine wp_ret ?_
      refine au_block_ret ?_
      refine au_then_ret ?_
      exact bodyPost_ret (v := .bool true) (results_tmp1 Tryz.results9 _ _ _ (by kernel_rfl)) (by kernel_rfl) ⟨_, rfl, ⟨p0, p1, d0, d1, y0, y1, b0, b1, s0, s1, L0, L1, T0, T1, D0, D1, S0, S1, rfl, H0, H1, E0, E1, k0, k1, Nat.le_succ_of_le q0, Nat.le_succ_of_le q1, hS0, hS1, w0.up, w1.up⟩, (okT_of hR_ (M.drop (.cons _ (.cons_cons _ (List.Sublist.refl _)))))⟩
    · skip
      refine pH 93 (.bool false) (jF (dd = 4) (c1)) ?_
      refine rV 1 ?_
      refine nT ?_
      refine wp_cond_false (by kernel_rfl) ?_
      refine sR ?_
      by_cases c2 : dd = 5
      · skip
        refine pH 95 (.bool true) (jT (dd = 5) (c2)) ?_
        refine rV 1 ?_
        refine nT ?_
        refine wp_cond_true (by kernel_rfl) ?_
        refine sR ?_
        refine rV 1 ?_
        refine pl_callM M (want_no rfl) (some 97) rfl 28 #[.pointer (some ⟨p1, 0, none⟩)] (⟨g1, .cells (av 6 (ls [.int .i64 dd, .int .u8 ((at_ : Nat) : Int), .string ss, .int .i64 wh, .int .i64 nn, .int .u64 (nw : Int)])) 45⟩ :: ⟨p, .cells (av 6 (ls [.pointer (some ⟨p0, 0, none⟩), .pointer (some ⟨p1, 0, none⟩), .pointer (some ⟨d0, 0, none⟩), .pointer (some ⟨d1, 0, none⟩), s0, s1])) 37⟩ :: T0) (T1) ((D0 ++ (D1 ++ (S0 ++ S1)))) (by simp only [List.append_assoc, List.cons_append, List.nil_append, List.append_nil]) (fun T0 => .tuple #[]) (fun T0 => T0) (fun T0 => IsT p1 (pX y1 b1).wX T0) (fun _ => by kernel_rfl) (fun w hL hT => a_Wipe H1 w hL hT) ?_
        rintro TA u2 HA M
        replace M : Mem ⟨w, R_⟩ (⟨g1, .cells (av 6 (ls [.int .i64 dd, .int .u8 ((at_ : Nat) : Int), .string ss, .int .i64 wh, .int .i64 nn, .int .u64 (nw : Int)])) 45⟩ :: ⟨p, .cells (av 6 (ls [.pointer (some ⟨p0, 0, none⟩), .pointer (some ⟨p1, 0, none⟩), .pointer (some ⟨d0, 0, none⟩), .pointer (some ⟨d1, 0, none⟩), s0, s1])) 37⟩ :: (T0 ++ (TA ++ (D0 ++ (D1 ++ (S0 ++ S1)))))) u2 := by simpa only [List.append_assoc, List.cons_append, List.nil_append, List.append_nil] using M
        refine pl_nil ?_
        obtain ⟨svd, Tsd, rfl, hSd⟩ := E1.out
        replace M := M.fetch (pre := (⟨g1, .cells (av 6 (ls [.int .i64 dd, .int .u8 ((at_ : Nat) : Int), .string ss, .int .i64 wh, .int .i64 nn, .int .u64 (nw : Int)])) 45⟩ :: ⟨p, .cells (av 6 (ls [.pointer (some ⟨p0, 0, none⟩), .pointer (some ⟨p1, 0, none⟩), .pointer (some ⟨d0, 0, none⟩), .pointer (some ⟨d1, 0, none⟩), s0, s1])) 37⟩ :: (T0 ++ (TA ++ D0)))) (b := ⟨d1, .cells (av 14 (ls [.string y1.sd, .string y1.rv, .bool (y1.fi), .int .u64 ((y1.mt : Nat) : Int), .int .u64 ((y1.rc : Nat) : Int), .int .u64 ((y1.ct : Nat) : Int), .int .u64 ((y1.rk : Nat) : Int), .int .u64 ((y1.lf : Nat) : Int), .int .i64 ((y1.sz : Nat) : Int), .int .u64 ((y1.nx : Nat) : Int), .int .i64 ((y1.sz : Nat) : Int), svd, .bool (y1.su), .bool (b1)])) 51⟩) (suf := (Tsd ++ (S0 ++ S1))) (by simp only [List.append_assoc, List.cons_append, List.nil_append, List.append_nil])
        replace M : Mem ⟨w, R_⟩ (⟨d1, .cells (av 14 (ls [.string y1.sd, .string y1.rv, .bool (y1.fi), .int .u64 ((y1.mt : Nat) : Int), .int .u64 ((y1.rc : Nat) : Int), .int .u64 ((y1.ct : Nat) : Int), .int .u64 ((y1.rk : Nat) : Int), .int .u64 ((y1.lf : Nat) : Int), .int .i64 ((y1.sz : Nat) : Int), .int .u64 ((y1.nx : Nat) : Int), .int .i64 ((y1.sz : Nat) : Int), svd, .bool (y1.su), .bool (b1)])) 51⟩ :: ⟨g1, .cells (av 6 (ls [.int .i64 dd, .int .u8 ((at_ : Nat) : Int), .string ss, .int .i64 wh, .int .i64 nn, .int .u64 (nw : Int)])) 45⟩ :: ⟨p, .cells (av 6 (ls [.pointer (some ⟨p0, 0, none⟩), .pointer (some ⟨p1, 0, none⟩), .pointer (some ⟨d0, 0, none⟩), .pointer (some ⟨d1, 0, none⟩), s0, s1])) 37⟩ :: (T0 ++ (TA ++ (D0 ++ (Tsd ++ (S0 ++ S1)))))) u2 := by simpa only [List.append_assoc, List.cons_append, List.nil_append, List.append_nil] using M
        refine au_then ?_
        refine sR ?_
        refine rV 3 ?_
        refine pP M 0 rfl 13 (.bool true) (ls [.string y1.sd, .string y1.rv, .bool (y1.fi), .int .u64 ((y1.mt : Nat) : Int), .int .u64 ((y1.rc : Nat) : Int), .int .u64 ((y1.ct : Nat) : Int), .int .u64 ((y1.rk : Nat) : Int), .int .u64 ((y1.lf : Nat) : Int), .int .i64 ((y1.sz : Nat) : Int), .int .u64 ((y1.nx : Nat) : Int), .int .i64 ((y1.sz : Nat) : Int), svd, .bool (y1.su), .bool true]) (by decide) (put_ls _ 13 _ _ rfl) fun u3 M => ?_
        replace M : Mem ⟨w, R_⟩ (⟨d1, .cells (av 14 (ls [.string y1.sd, .string y1.rv, .bool (y1.fi), .int .u64 ((y1.mt : Nat) : Int), .int .u64 ((y1.rc : Nat) : Int), .int .u64 ((y1.ct : Nat) : Int), .int .u64 ((y1.rk : Nat) : Int), .int .u64 ((y1.lf : Nat) : Int), .int .i64 ((y1.sz : Nat) : Int), .int .u64 ((y1.nx : Nat) : Int), .int .i64 ((y1.sz : Nat) : Int), svd, .bool (y1.su), .bool true])) 51⟩ :: ⟨g1, .cells (av 6 (ls [.int .i64 dd, .int .u8 ((at_ : Nat) : Int), .string ss, .int .i64 wh, .int .i64 nn, .int .u64 (nw : Int)])) 45⟩ :: ⟨p, .cells (av 6 (ls [.pointer (some ⟨p0, 0, none⟩), .pointer (some ⟨p1, 0, none⟩), .pointer (some ⟨d0, 0, none⟩), .pointer (some ⟨d1, 0, none⟩), s0, s1])) 37⟩ :: (T0 ++ (TA ++ (D0 ++ (Tsd ++ (S0 ++ S1)))))) u3 := M
        refine pl_nil ?_
        replace M : Mem ⟨w, R_⟩ (⟨g1, .cells (av 6 (ls [.int .i64 dd, .int .u8 ((at_ : Nat) : Int), .string ss, .int .i64 wh, .int .i64 nn, .int .u64 (nw : Int)])) 45⟩ :: ⟨p, .cells (av 6 (ls [.pointer (some ⟨p0, 0, none⟩), .pointer (some ⟨p1, 0, none⟩), .pointer (some ⟨d0, 0, none⟩), .pointer (some ⟨d1, 0, none⟩), s0, s1])) 37⟩ :: (T0 ++ (TA ++ (D0 ++ ((⟨d1, .cells (av 14 (ls [.string y1.sd, .string y1.rv, .bool (y1.fi), .int .u64 ((y1.mt : Nat) : Int), .int .u64 ((y1.rc : Nat) : Int), .int .u64 ((y1.ct : Nat) : Int), .int .u64 ((y1.rk : Nat) : Int), .int .u64 ((y1.lf : Nat) : Int), .int .i64 ((y1.sz : Nat) : Int), .int .u64 ((y1.nx : Nat) : Int), .int .i64 ((y1.sz : Nat) : Int), svd, .bool (y1.su), .bool true])) 51⟩ :: Tsd) ++ (S0 ++ S1)))))) u3 := Mem.unfetch (pre := (⟨g1, .cells (av 6 (ls [.int .i64 dd, .int .u8 ((at_ : Nat) : Int), .string ss, .int .i64 wh, .int .i64 nn, .int .u64 (nw : Int)])) 45⟩ :: ⟨p, .cells (av 6 (ls [.pointer (some ⟨p0, 0, none⟩), .pointer (some ⟨p1, 0, none⟩), .pointer (some ⟨d0, 0, none⟩), .pointer (some ⟨d1, 0, none⟩), s0, s1])) 37⟩ :: (T0 ++ (TA ++ D0)))) (suf := (Tsd ++ (S0 ++ S1))) (by simpa only [List.append_assoc, List.cons_append, List.nil_append, List.append_nil] using M) (by simp only [List.append_assoc, List.cons_append, List.nil_append, List.append_nil])
        refine au_then ?_
        refine sq ?_
        refine wp_ret ?_
        refine au_block_ret ?_
        refine au_then_ret ?_
        exact bodyPost_ret (v := .bool true) (results_tmp1 Tryz.results9 _ _ _ (by kernel_rfl)) (by kernel_rfl) ⟨_, rfl, ⟨p0, p1, d0, d1, y0, y1, b0, true, s0, s1, L0, L1, T0, TA, D0, (⟨d1, .cells (av 14 (ls [.string y1.sd, .string y1.rv, .bool (y1.fi), .int .u64 ((y1.mt : Nat) : Int), .int .u64 ((y1.rc : Nat) : Int), .int .u64 ((y1.ct : Nat) : Int), .int .u64 ((y1.rk : Nat) : Int), .int .u64 ((y1.lf : Nat) : Int), .int .i64 ((y1.sz : Nat) : Int), .int .u64 ((y1.nx : Nat) : Int), .int .i64 ((y1.sz : Nat) : Int), svd, .bool (y1.su), .bool true])) 51⟩ :: Tsd), S0, S1, rfl, H0, by rw [← pX_wX]; exact HA, E0, ⟨svd, Tsd, rfl, hSd⟩, k0, k1, Nat.le_succ_of_le q0, Nat.le_succ_of_le q1, hS0, hS1, w0.up, w1.up⟩, (okT_of hR_ (M.drop (.cons _ (.cons_cons _ (List.Sublist.refl _)))))⟩
      · skip
        refine pH 95 (.bool false) (jF (dd = 5) (c2)) ?_
        refine rV 1 ?_
        refine nT ?_
        refine wp_cond_false (by kernel_rfl) ?_
        refine wp_skip ?_
        refine au_block ?_
        refine au_then ?_
        refine sR ?_
        refine rV 1 ?_
        refine ZE M 102 0 4 ?_
        refine pH 103 (.int .u64 (u : Int)) (fun w => Eq.trans (b := .ok (.value (.int .u64 (cv .u64 nn))) w) (by kernel_rfl) (by rw [hu])) ?_
        refine rV 1 ?_
        refine ZE M 105 0 2 ?_
        refine rV 1 ?_
        refine pN M 14 (.cells (av 2 (ls [.int .u64 0, .string ⟨#[]⟩])) 96) fun g2 u2 M => ?_
        replace M := M.front
        replace M : Mem ⟨w, R_⟩ (⟨g2, .cells (av 2 (ls [.int .u64 0, .string ⟨#[]⟩])) 96⟩ :: ⟨g1, .cells (av 6 (ls [.int .i64 dd, .int .u8 ((at_ : Nat) : Int), .string ss, .int .i64 wh, .int .i64 nn, .int .u64 (nw : Int)])) 45⟩ :: ⟨p, .cells (av 6 (ls [.pointer (some ⟨p0, 0, none⟩), .pointer (some ⟨p1, 0, none⟩), .pointer (some ⟨d0, 0, none⟩), .pointer (some ⟨d1, 0, none⟩), s0, s1])) 37⟩ :: (T0 ++ (T1 ++ (D0 ++ (D1 ++ (S0 ++ S1)))))) u2 := M
        refine pl_put M (want_no rfl) rfl 96 _ _ rfl 0 g2 0 (by kernel_rfl) 2 96 (ls [.int .u64 0, .string ⟨#[]⟩]) rfl 2 (ls [.int .u64 (u : Int), .string ss]) (ls [.int .u64 (u : Int), .string ss]) (by kernel_rfl) inz96 (by decide) (one_ls _ rfl) (fun j hj => by rw [if_pos (by omega), Nat.sub_zero]) fun u3 M => ?_
        replace M : Mem ⟨w, R_⟩ (⟨g2, .cells (av 2 (ls [.int .u64 (u : Int), .string ss])) 96⟩ :: ⟨g1, .cells (av 6 (ls [.int .i64 dd, .int .u8 ((at_ : Nat) : Int), .string ss, .int .i64 wh, .int .i64 nn, .int .u64 (nw : Int)])) 45⟩ :: ⟨p, .cells (av 6 (ls [.pointer (some ⟨p0, 0, none⟩), .pointer (some ⟨p1, 0, none⟩), .pointer (some ⟨d0, 0, none⟩), .pointer (some ⟨d1, 0, none⟩), s0, s1])) 37⟩ :: (T0 ++ (T1 ++ (D0 ++ (D1 ++ (S0 ++ S1)))))) u3 := M
        refine nT ?_
        refine sR ?_
        refine rV 6 ?_
        refine ZE M 113 2 4 ?_
        refine rV 1 ?_
        refine nT ?_
        refine wp_seq ?_
        refine sR ?_
        refine rV 1 ?_
        refine ZE M 115 1 0 ?_
        by_cases c3 : dd < 6
        · skip
          refine pH 116 (.bool true) (jT (dd < 6) (c3)) ?_
          refine rV 2 ?_
          refine pl_val (want_on 3 true rfl 117 rfl (by kernel_rfl)) (some 119) rfl (.int .i64 ((L0.length : Nat) : Int)) (fun w => by rcases hS0.ex with ⟨hn_, rfl, _⟩ | ⟨_, _, _, _, rfl, _⟩; (rw [hn_]; kernel_rfl); kernel_rfl) ?_
          by_cases c4 : 0 < ((L0.length : Nat) : Int)
          · skip
            refine pl_val (want_on 3 true rfl 117 rfl (by kernel_rfl)) (some 120) rfl (.bool true) (fun w => Eq.trans (b := .ok (.value (.bool (decide (0 < ((L0.length : Nat) : Int))))) w) (by kernel_rfl) (by rw [decide_eq_true (c4)])) ?_
            refine rV 1 ?_
            refine pl_nil ?_
            obtain ⟨ww, hww⟩ := lw_nat wh
            have hr := Nat.mod_lt ww (show 0 < L0.length by omega)
            obtain ⟨en, ec, hin, hc0, hc1⟩ := prs_get L0 _ hr
            obtain ⟨hen, hec⟩ := w0.all _ hin
            simp only at hen hec
            have hSk := hS0
            rcases hS0.ex with ⟨h0_, -, -⟩ | ⟨g9, cap9, Z9, hn_g9, rfl, hle_g9, hZ9, rfl⟩
            · exfalso; omega
            refine au_then ?_
            refine wp_cond_true (by kernel_rfl) ?_
            refine sR ?_
            refine rV 2 ?_
            refine ZE M 124 1 3 ?_
            refine pH 125 (.int .i64 (ww : Int)) (fun w => Eq.trans (b := .ok (.value (.int .i64 (lw wh))) w) (by kernel_rfl) (by rw [hww])) ?_
            refine rV 2 ?_
            refine pH 128 (.int .i64 ((ww % L0.length : Nat) : Int)) (run_remN 3 3 _ _ rfl ww L0.length (by kernel_rfl) (by kernel_rfl) (by omega)) ?_
            refine pH 129 (.pointer (some ⟨g9, (0 + (ww % L0.length) * 2), none⟩)) (run_ixK 34 96 2 Tryz.underlying34 inz96 _ _ rfl (some ⟨g9, 0, none⟩) g9 0 L0.length cap9 (by kernel_rfl) rfl .i64 (ww % L0.length) (by kernel_rfl) hr) ?_
            refine pl_loadO M (want_no rfl) (some 130) rfl 96 _ rfl g9 (0 + (ww % L0.length) * 2) (by kernel_rfl) 2 (ls [.int .u64 (en : Int), .string ec]) (fun w M k hk => ?_) _ Tryz.underlying96 rfl inz96 ?_
            · have hz9 : w.heap[g9]? = some Z9 := (M.thereM (pre := (⟨g2, .cells (av 2 (ls [.int .u64 (u : Int), .string ss])) 96⟩ :: ⟨g1, .cells (av 6 (ls [.int .i64 dd, .int .u8 ((at_ : Nat) : Int), .string ss, .int .i64 wh, .int .i64 nn, .int .u64 (nw : Int)])) 45⟩ :: ⟨p, .cells (av 6 (ls [.pointer (some ⟨p0, 0, none⟩), .pointer (some ⟨p1, 0, none⟩), .pointer (some ⟨d0, 0, none⟩), .pointer (some ⟨d1, 0, none⟩), .slice (some ⟨g9, 0, none⟩) L0.length cap9, s1])) 37⟩ :: (T0 ++ (T1 ++ (D0 ++ D1))))) (T := [⟨g9, Z9⟩]) (suf := S1) (by simp only [List.append_assoc, List.cons_append, List.nil_append, List.append_nil])).at_ ⟨g9, Z9⟩ (by simp)
              match k, hk with
              | 0, _ => exact hZ9.cell hz9 (by rw [show 0 + (ww % L0.length) * 2 + 0 = (ww % L0.length) * 2 by omega]; exact hc0)
              | 1, _ => exact hZ9.cell hz9 (by rw [show 0 + (ww % L0.length) * 2 + 1 = (ww % L0.length) * 2 + 1 by omega]; exact hc1)
            refine pl_put M (want_no rfl) rfl 96 _ _ rfl 0 g2 0 (by kernel_rfl) 2 96 (ls [.int .u64 (u : Int), .string ss]) rfl 2 (ls [.int .u64 (en : Int), .string ec]) (ls [.int .u64 (en : Int), .string ec]) (by kernel_rfl) inz96 (by decide) (one_ls _ rfl) (fun j hj => by rw [if_pos (by omega), Nat.sub_zero]) fun u4 M => ?_
            replace M : Mem ⟨w, R_⟩ (⟨g2, .cells (av 2 (ls [.int .u64 (en : Int), .string ec])) 96⟩ :: ⟨g1, .cells (av 6 (ls [.int .i64 dd, .int .u8 ((at_ : Nat) : Int), .string ss, .int .i64 wh, .int .i64 nn, .int .u64 (nw : Int)])) 45⟩ :: ⟨p, .cells (av 6 (ls [.pointer (some ⟨p0, 0, none⟩), .pointer (some ⟨p1, 0, none⟩), .pointer (some ⟨d0, 0, none⟩), .pointer (some ⟨d1, 0, none⟩), .slice (some ⟨g9, 0, none⟩) L0.length cap9, s1])) 37⟩ :: (T0 ++ (T1 ++ (D0 ++ (D1 ++ ([⟨g9, Z9⟩] ++ S1)))))) u4 := M
            refine nT ?_
            refine wp_seq ?_
            refine sR ?_
            refine rV 1 ?_
            refine ZE M 132 1 0 ?_
            by_cases c5 : dd = 2
            · skip
              refine pH 133 (.bool true) (jT (dd = 2) (c5)) ?_
              refine rV 2 ?_
              refine pl_cell M (want_on 3 true rfl 134 rfl (by kernel_rfl)) (some 136) rfl 9 _ rfl g2 1 (by kernel_rfl) (.string ec) (fun _ => by kernel_rfl) (fun w M => M.cell 0 rfl (by decide) rfl) ?_
              refine rV 1 ?_
              by_cases c6 : 0 < (ec.size : Int)
              · skip
                refine pl_val (want_on 3 true rfl 134 rfl (by kernel_rfl)) (some 138) rfl (.bool true) (fun w => Eq.trans (b := .ok (.value (.bool (decide (0 < (ec.size : Int))))) w) (by kernel_rfl) (by rw [decide_eq_true (c6)])) ?_
                refine rV 1 ?_
                refine nT ?_
                refine wp_cond_true (by kernel_rfl) ?_
                refine sR ?_
                refine rV 1 ?_
                refine ZE M 141 0 1 ?_
                refine pl_conv M (want_no rfl) (some 142) rfl _ rfl ec (by kernel_rfl) ?_
                intro g3 cp8 Z8 u5 hZ8 M
                replace M := M.front
                replace M : Mem ⟨w, R_⟩ (⟨g3, Z8⟩ :: ⟨g2, .cells (av 2 (ls [.int .u64 (en : Int), .string ec])) 96⟩ :: ⟨g1, .cells (av 6 (ls [.int .i64 dd, .int .u8 ((at_ : Nat) : Int), .string ss, .int .i64 wh, .int .i64 nn, .int .u64 (nw : Int)])) 45⟩ :: ⟨p, .cells (av 6 (ls [.pointer (some ⟨p0, 0, none⟩), .pointer (some ⟨p1, 0, none⟩), .pointer (some ⟨d0, 0, none⟩), .pointer (some ⟨d1, 0, none⟩), .slice (some ⟨g9, 0, none⟩) L0.length cap9, s1])) 37⟩ :: (T0 ++ (T1 ++ (D0 ++ (D1 ++ ([⟨g9, Z9⟩] ++ S1)))))) u5 := M
                refine rV 1 ?_
                refine pl_nil ?_
                obtain ⟨m2, hm2⟩ := lw_nat nn
                have hK := Nat.mod_lt m2 (show 0 < ec.size by omega)
                refine au_then ?_
                refine sR ?_
                refine rV 2 ?_
                refine ZE M 145 2 4 ?_
                refine pH 146 (.int .i64 (m2 : Int)) (fun w => Eq.trans (b := .ok (.value (.int .i64 (lw nn))) w) (by kernel_rfl) (by rw [hm2])) ?_
                refine rV 2 ?_
                refine pH 149 (.int .i64 ((m2 % ec.size : Nat) : Int)) (run_remN 3 3 _ _ rfl m2 ec.size (by kernel_rfl) (by kernel_rfl) (by omega)) ?_
                refine pH 150 (.pointer (some ⟨g3, (m2 % ec.size), none⟩)) (run_ix0 97 5 Tryz.underlying97 inz5 _ _ rfl g3 ec.size cp8 (by kernel_rfl) .i64 (m2 % ec.size) (by kernel_rfl) hK) ?_
                refine pE M 151 g3 (m2 % ec.size) (.int .u8 (bt ec (m2 % ec.size))) (fun w M => hZ8.cell (M.get 0 rfl) (vs8_sb _ _ hK)) ?_
                refine rV 1 ?_
                refine pH 153 (.pointer (some ⟨g3, (m2 % ec.size), none⟩)) (run_ix0 97 5 Tryz.underlying97 inz5 _ _ rfl g3 ec.size cp8 (by kernel_rfl) .i64 (m2 % ec.size) (by kernel_rfl) hK) ?_
                refine pl_putS M (want_no rfl) rfl 5 _ _ rfl 0 g3 (m2 % ec.size) (by kernel_rfl) _ rfl cp8 _ hZ8 (by rw [vs8_length, sb_length]; exact hK) (.int .u8 (IntKind.wrap .u8 (bt ec (m2 % ec.size) + 1))) (by kernel_rfl) inz5 rfl rfl ?_
                intro ZA u6 hZA M
                rw [vs8_set] at hZA
                replace M : Mem ⟨w, R_⟩ (⟨g3, ZA⟩ :: ⟨g2, .cells (av 2 (ls [.int .u64 (en : Int), .string ec])) 96⟩ :: ⟨g1, .cells (av 6 (ls [.int .i64 dd, .int .u8 ((at_ : Nat) : Int), .string ss, .int .i64 wh, .int .i64 nn, .int .u64 (nw : Int)])) 45⟩ :: ⟨p, .cells (av 6 (ls [.pointer (some ⟨p0, 0, none⟩), .pointer (some ⟨p1, 0, none⟩), .pointer (some ⟨d0, 0, none⟩), .pointer (some ⟨d1, 0, none⟩), .slice (some ⟨g9, 0, none⟩) L0.length cap9, s1])) 37⟩ :: (T0 ++ (T1 ++ (D0 ++ (D1 ++ ([⟨g9, Z9⟩] ++ S1)))))) u6 := M
                refine nT ?_
                refine rg_lit ?_
                refine rV 1 ?_
                refine pl_back M (want_no rfl) (some 155) rfl _ rfl 0 g3 ec.size cp8 (by kernel_rfl) _ rfl ((sb ec).set (m2 % ec.size) (IntKind.wrap .u8 (bt ec (m2 % ec.size) + 1))) cp8 hZA (by rw [List.length_set, sb_length]) (fun y hy => (List.mem_or_eq_of_mem_set hy).elim (fun h => sb_nn _ y h) (fun h => by rw [h]; exact wr8 _)) ?_
                refine rV 1 ?_
                refine pP M 1 rfl 1 (.string (tz ec (m2 % ec.size))) (ls [.int .u64 (en : Int), .string (tz ec (m2 % ec.size))]) (by decide) (put_ls _ 1 _ _ rfl) fun u7 M => ?_
                replace M : Mem ⟨w, R_⟩ (⟨g3, ZA⟩ :: ⟨g2, .cells (av 2 (ls [.int .u64 (en : Int), .string (tz ec (m2 % ec.size))])) 96⟩ :: ⟨g1, .cells (av 6 (ls [.int .i64 dd, .int .u8 ((at_ : Nat) : Int), .string ss, .int .i64 wh, .int .i64 nn, .int .u64 (nw : Int)])) 45⟩ :: ⟨p, .cells (av 6 (ls [.pointer (some ⟨p0, 0, none⟩), .pointer (some ⟨p1, 0, none⟩), .pointer (some ⟨d0, 0, none⟩), .pointer (some ⟨d1, 0, none⟩), .slice (some ⟨g9, 0, none⟩) L0.length cap9, s1])) 37⟩ :: (T0 ++ (T1 ++ (D0 ++ (D1 ++ ([⟨g9, Z9⟩] ++ S1)))))) u7 := M
                refine nT ?_
                refine sR ?_
                refine rV 1 ?_
                refine ZE M 158 2 0 ?_
                by_cases c7 : dd = 3
                · skip
                  refine pH 159 (.bool true) (jT (dd = 3) (c7)) ?_
                  refine nT ?_
                  refine wp_cond_true (by kernel_rfl) ?_
                  refine rg_lit ?_
                  refine rV 1 ?_
                  refine ZE M 161 2 4 ?_
                  refine pH 162 (.int .u64 (u : Int)) (fun w => Eq.trans (b := .ok (.value (.int .u64 (cv .u64 nn))) w) (by kernel_rfl) (by rw [hu])) ?_
                  refine rV 1 ?_
                  refine pP M 1 rfl 0 (.int .u64 (u : Int)) (ls [.int .u64 (u : Int), .string (tz ec (m2 % ec.size))]) (by decide) (put_ls _ 0 _ _ rfl) fun u8 M => ?_
                  replace M : Mem ⟨w, R_⟩ (⟨g3, ZA⟩ :: ⟨g2, .cells (av 2 (ls [.int .u64 (u : Int), .string (tz ec (m2 % ec.size))])) 96⟩ :: ⟨g1, .cells (av 6 (ls [.int .i64 dd, .int .u8 ((at_ : Nat) : Int), .string ss, .int .i64 wh, .int .i64 nn, .int .u64 (nw : Int)])) 45⟩ :: ⟨p, .cells (av 6 (ls [.pointer (some ⟨p0, 0, none⟩), .pointer (some ⟨p1, 0, none⟩), .pointer (some ⟨d0, 0, none⟩), .pointer (some ⟨d1, 0, none⟩), .slice (some ⟨g9, 0, none⟩) L0.length cap9, s1])) 37⟩ :: (T0 ++ (T1 ++ (D0 ++ (D1 ++ ([⟨g9, Z9⟩] ++ S1)))))) u8 := M
                  refine nT ?_
                  refine sR ?_
                  refine rV 2 ?_
                  refine ZE M 167 2 5 ?_
                  refine rV 1 ?_
                  refine ZE M 169 1 0 ?_
                  refine rV 1 ?_
                  refine ZE M 171 1 1 ?_
                  refine pl_callM M (want_no rfl) (some 172) rfl 22 #[.pointer (some ⟨p1, 0, none⟩), .int .u64 (nw : Int), .int .u64 (u : Int), .string (tz ec (m2 % ec.size))] (⟨g3, ZA⟩ :: ⟨g2, .cells (av 2 (ls [.int .u64 (u : Int), .string (tz ec (m2 % ec.size))])) 96⟩ :: ⟨g1, .cells (av 6 (ls [.int .i64 dd, .int .u8 ((at_ : Nat) : Int), .string ss, .int .i64 wh, .int .i64 nn, .int .u64 (nw : Int)])) 45⟩ :: ⟨p, .cells (av 6 (ls [.pointer (some ⟨p0, 0, none⟩), .pointer (some ⟨p1, 0, none⟩), .pointer (some ⟨d0, 0, none⟩), .pointer (some ⟨d1, 0, none⟩), .slice (some ⟨g9, 0, none⟩) L0.length cap9, s1])) 37⟩ :: T0) (T1) ((D0 ++ (D1 ++ ([⟨g9, Z9⟩] ++ S1)))) (by simp only [List.append_assoc, List.cons_append, List.nil_append, List.append_nil]) (fun T0 => .tuple #[.string ((pX y1 b1).oC nw u (tz ec (m2 % ec.size))), .int .i64 ((pX y1 b1).oE nw u (tz ec (m2 % ec.size)))]) (fun T0 => T0) (fun T0 => IsT p1 ((pX y1 b1).oX nw u (tz ec (m2 % ec.size))) T0) (fun _ => by kernel_rfl) (fun w hL hT => a_Open H1 (pX_ok k1.toOk) hnw (by omega) w hL hT) ?_
                  rintro TA u9 HA M
                  replace M : Mem ⟨w, R_⟩ (⟨g3, ZA⟩ :: ⟨g2, .cells (av 2 (ls [.int .u64 (u : Int), .string (tz ec (m2 % ec.size))])) 96⟩ :: ⟨g1, .cells (av 6 (ls [.int .i64 dd, .int .u8 ((at_ : Nat) : Int), .string ss, .int .i64 wh, .int .i64 nn, .int .u64 (nw : Int)])) 45⟩ :: ⟨p, .cells (av 6 (ls [.pointer (some ⟨p0, 0, none⟩), .pointer (some ⟨p1, 0, none⟩), .pointer (some ⟨d0, 0, none⟩), .pointer (some ⟨d1, 0, none⟩), .slice (some ⟨g9, 0, none⟩) L0.length cap9, s1])) 37⟩ :: (T0 ++ (TA ++ (D0 ++ (D1 ++ ([⟨g9, Z9⟩] ++ S1)))))) u9 := by simpa only [List.append_assoc, List.cons_append, List.nil_append, List.append_nil] using M
                  refine rV 5 ?_
                  refine nT ?_
                  refine sR ?_
                  refine rV 2 ?_
                  refine ZE M 178 2 5 ?_
                  refine rV 1 ?_
                  refine ZE M 180 1 0 ?_
                  refine rV 1 ?_
                  refine ZE M 182 1 1 ?_
                  refine pl_callM M (want_no rfl) (some 183) rfl 29 #[.pointer (some ⟨d1, 0, none⟩), .int .u64 (nw : Int), .int .u64 (u : Int), .string (tz ec (m2 % ec.size))] (⟨g3, ZA⟩ :: ⟨g2, .cells (av 2 (ls [.int .u64 (u : Int), .string (tz ec (m2 % ec.size))])) 96⟩ :: ⟨g1, .cells (av 6 (ls [.int .i64 dd, .int .u8 ((at_ : Nat) : Int), .string ss, .int .i64 wh, .int .i64 nn, .int .u64 (nw : Int)])) 45⟩ :: ⟨p, .cells (av 6 (ls [.pointer (some ⟨p0, 0, none⟩), .pointer (some ⟨p1, 0, none⟩), .pointer (some ⟨d0, 0, none⟩), .pointer (some ⟨d1, 0, none⟩), .slice (some ⟨g9, 0, none⟩) L0.length cap9, s1])) 37⟩ :: (T0 ++ (TA ++ D0))) (D1) (([⟨g9, Z9⟩] ++ S1)) (by simp only [List.append_assoc, List.cons_append, List.nil_append, List.append_nil]) (fun T0 => .tuple #[.string ((pX y1 b1).oC nw u (tz ec (m2 % ec.size))), .int .i64 ((pX y1 b1).oE nw u (tz ec (m2 % ec.size)))]) (fun T0 => T0) (fun T0 => IsD d1 (jO y1 b1 nw u (tz ec (m2 % ec.size))) b1 T0) (fun _ => by kernel_rfl) (fun w hL hT => e_Open E1 k1 hnw (by first | omega | (rw [tz_size]; omega)) w hL hT) ?_
                  rintro TB u10 HB M
                  replace M : Mem ⟨w, R_⟩ (⟨g3, ZA⟩ :: ⟨g2, .cells (av 2 (ls [.int .u64 (u : Int), .string (tz ec (m2 % ec.size))])) 96⟩ :: ⟨g1, .cells (av 6 (ls [.int .i64 dd, .int .u8 ((at_ : Nat) : Int), .string ss, .int .i64 wh, .int .i64 nn, .int .u64 (nw : Int)])) 45⟩ :: ⟨p, .cells (av 6 (ls [.pointer (some ⟨p0, 0, none⟩), .pointer (some ⟨p1, 0, none⟩), .pointer (some ⟨d0, 0, none⟩), .pointer (some ⟨d1, 0, none⟩), .slice (some ⟨g9, 0, none⟩) L0.length cap9, s1])) 37⟩ :: (T0 ++ (TA ++ (D0 ++ (TB ++ ([⟨g9, Z9⟩] ++ S1)))))) u10 := by simpa only [List.append_assoc, List.cons_append, List.nil_append, List.append_nil] using M
                  refine rV 5 ?_
                  refine nT ?_
                  refine sR ?_
                  refine rV 2 ?_
                  refine pH 188 (.bool true) (fun w => Eq.trans (b := .ok (.value (.bool (((pX y1 b1).oC nw u (tz ec (m2 % ec.size))).toList == ((pX y1 b1).oC nw u (tz ec (m2 % ec.size))).toList))) w) (by kernel_rfl) (by rw [beq_self_eq_true])) ?_
                  refine rV 3 ?_
                  refine pl_val (want_on 3 true rfl 189 rfl (by kernel_rfl)) (some 192) rfl (.bool true) (fun w => Eq.trans (b := .ok (.value (.bool (decide (((pX y1 b1).oE nw u (tz ec (m2 % ec.size))) = ((pX y1 b1).oE nw u (tz ec (m2 % ec.size))))))) w) (by kernel_rfl) (by rw [decide_eq_true (by omega)])) ?_
                  refine rV 2 ?_
                  refine nT ?_
                  refine wp_ret ?_
                  exact bodyPost_ret (v := .bool true) (results_tmp1 Tryz.results9 _ _ _ (by kernel_rfl)) (by kernel_rfl) ⟨_, rfl, ⟨p0, p1, d0, d1, y0, (jO y1 b1 nw u (tz ec (m2 % ec.size))), b0, b1, .slice (some ⟨g9, 0, none⟩) L0.length cap9, s1, L0, L1, T0, TA, D0, TB, [⟨g9, Z9⟩], S1, rfl, H0, by rw [← pX_oX k1.k1]; exact HA, E0, HB, k0, (jO_dk k1 (by omega) (by omega)).1, Nat.le_succ_of_le q0, by have := (jO_dk (gn := b1) (n := nw) (i := u) (c := (tz ec (m2 % ec.size))) k1 (by omega) (by omega)).2; omega, hSk, hS1, w0.up, w1.up⟩, (okT_of hR_ (M.drop (.cons _ (.cons _ (.cons _ (.cons_cons _ (List.Sublist.refl _)))))))⟩
                · skip
                  refine pH 159 (.bool false) (jF (dd = 3) (c7)) ?_
                  refine nT ?_
                  refine wp_cond_false (by kernel_rfl) ?_
                  refine wp_skip ?_
                  refine au_then ?_
                  refine sR ?_
                  refine rV 2 ?_
                  refine ZE M 167 2 5 ?_
                  refine rV 1 ?_
                  refine ZE M 169 1 0 ?_
                  refine rV 1 ?_
                  refine ZE M 171 1 1 ?_
                  refine pl_callM M (want_no rfl) (some 172) rfl 22 #[.pointer (some ⟨p1, 0, none⟩), .int .u64 (nw : Int), .int .u64 (en : Int), .string (tz ec (m2 % ec.size))] (⟨g3, ZA⟩ :: ⟨g2, .cells (av 2 (ls [.int .u64 (en : Int), .string (tz ec (m2 % ec.size))])) 96⟩ :: ⟨g1, .cells (av 6 (ls [.int .i64 dd, .int .u8 ((at_ : Nat) : Int), .string ss, .int .i64 wh, .int .i64 nn, .int .u64 (nw : Int)])) 45⟩ :: ⟨p, .cells (av 6 (ls [.pointer (some ⟨p0, 0, none⟩), .pointer (some ⟨p1, 0, none⟩), .pointer (some ⟨d0, 0, none⟩), .pointer (some ⟨d1, 0, none⟩), .slice (some ⟨g9, 0, none⟩) L0.length cap9, s1])) 37⟩ :: T0) (T1) ((D0 ++ (D1 ++ ([⟨g9, Z9⟩] ++ S1)))) (by simp only [List.append_assoc, List.cons_append, List.nil_append, List.append_nil]) (fun T0 => .tuple #[.string ((pX y1 b1).oC nw en (tz ec (m2 % ec.size))), .int .i64 ((pX y1 b1).oE nw en (tz ec (m2 % ec.size)))]) (fun T0 => T0) (fun T0 => IsT p1 ((pX y1 b1).oX nw en (tz ec (m2 % ec.size))) T0) (fun _ => by kernel_rfl) (fun w hL hT => a_Open H1 (pX_ok k1.toOk) hnw (by omega) w hL hT) ?_
                  rintro TA u8 HA M
                  replace M : Mem ⟨w, R_⟩ (⟨g3, ZA⟩ :: ⟨g2, .cells (av 2 (ls [.int .u64 (en : Int), .string (tz ec (m2 % ec.size))])) 96⟩ :: ⟨g1, .cells (av 6 (ls [.int .i64 dd, .int .u8 ((at_ : Nat) : Int), .string ss, .int .i64 wh, .int .i64 nn, .int .u64 (nw : Int)])) 45⟩ :: ⟨p, .cells (av 6 (ls [.pointer (some ⟨p0, 0, none⟩), .pointer (some ⟨p1, 0, none⟩), .pointer (some ⟨d0, 0, none⟩), .pointer (some ⟨d1, 0, none⟩), .slice (some ⟨g9, 0, none⟩) L0.length cap9, s1])) 37⟩ :: (T0 ++ (TA ++ (D0 ++ (D1 ++ ([⟨g9, Z9⟩] ++ S1)))))) u8 := by simpa only [List.append_assoc, List.cons_append, List.nil_append, List.append_nil] using M
                  refine rV 5 ?_
                  refine nT ?_
                  refine sR ?_
                  refine rV 2 ?_
                  refine ZE M 178 2 5 ?_
                  refine rV 1 ?_
                  refine ZE M 180 1 0 ?_
                  refine rV 1 ?_
                  refine ZE M 182 1 1 ?_
                  refine pl_callM M (want_no rfl) (some 183) rfl 29 #[.pointer (some ⟨d1, 0, none⟩), .int .u64 (nw : Int), .int .u64 (en : Int), .string (tz ec (m2 % ec.size))] (⟨g3, ZA⟩ :: ⟨g2, .cells (av 2 (ls [.int .u64 (en : Int), .string (tz ec (m2 % ec.size))])) 96⟩ :: ⟨g1, .cells (av 6 (ls [.int .i64 dd, .int .u8 ((at_ : Nat) : Int), .string ss, .int .i64 wh, .int .i64 nn, .int .u64 (nw : Int)])) 45⟩ :: ⟨p, .cells (av 6 (ls [.pointer (some ⟨p0, 0, none⟩), .pointer (some ⟨p1, 0, none⟩), .pointer (some ⟨d0, 0, none⟩), .pointer (some ⟨d1, 0, none⟩), .slice (some ⟨g9, 0, none⟩) L0.length cap9, s1])) 37⟩ :: (T0 ++ (TA ++ D0))) (D1) (([⟨g9, Z9⟩] ++ S1)) (by simp only [List.append_assoc, List.cons_append, List.nil_append, List.append_nil]) (fun T0 => .tuple #[.string ((pX y1 b1).oC nw en (tz ec (m2 % ec.size))), .int .i64 ((pX y1 b1).oE nw en (tz ec (m2 % ec.size)))]) (fun T0 => T0) (fun T0 => IsD d1 (jO y1 b1 nw en (tz ec (m2 % ec.size))) b1 T0) (fun _ => by kernel_rfl) (fun w hL hT => e_Open E1 k1 hnw (by first | omega | (rw [tz_size]; omega)) w hL hT) ?_
                  rintro TB u9 HB M
                  replace M : Mem ⟨w, R_⟩ (⟨g3, ZA⟩ :: ⟨g2, .cells (av 2 (ls [.int .u64 (en : Int), .string (tz ec (m2 % ec.size))])) 96⟩ :: ⟨g1, .cells (av 6 (ls [.int .i64 dd, .int .u8 ((at_ : Nat) : Int), .string ss, .int .i64 wh, .int .i64 nn, .int .u64 (nw : Int)])) 45⟩ :: ⟨p, .cells (av 6 (ls [.pointer (some ⟨p0, 0, none⟩), .pointer (some ⟨p1, 0, none⟩), .pointer (some ⟨d0, 0, none⟩), .pointer (some ⟨d1, 0, none⟩), .slice (some ⟨g9, 0, none⟩) L0.length cap9, s1])) 37⟩ :: (T0 ++ (TA ++ (D0 ++ (TB ++ ([⟨g9, Z9⟩] ++ S1)))))) u9 := by simpa only [List.append_assoc, List.cons_append, List.nil_append, List.append_nil] using M
                  refine rV 5 ?_
                  refine nT ?_
                  refine sR ?_
                  refine rV 2 ?_
                  refine pH 188 (.bool true) (fun w => Eq.trans (b := .ok (.value (.bool (((pX y1 b1).oC nw en (tz ec (m2 % ec.size))).toList == ((pX y1 b1).oC nw en (tz ec (m2 % ec.size))).toList))) w) (by kernel_rfl) (by rw [beq_self_eq_true])) ?_
                  refine rV 3 ?_
                  refine pl_val (want_on 3 true rfl 189 rfl (by kernel_rfl)) (some 192) rfl (.bool true) (fun w => Eq.trans (b := .ok (.value (.bool (decide (((pX y1 b1).oE nw en (tz ec (m2 % ec.size))) = ((pX y1 b1).oE nw en (tz ec (m2 % ec.size))))))) w) (by kernel_rfl) (by rw [decide_eq_true (by omega)])) ?_
                  refine rV 2 ?_
                  refine nT ?_
                  refine wp_ret ?_
                  exact bodyPost_ret (v := .bool true) (results_tmp1 Tryz.results9 _ _ _ (by kernel_rfl)) (by kernel_rfl) ⟨_, rfl, ⟨p0, p1, d0, d1, y0, (jO y1 b1 nw en (tz ec (m2 % ec.size))), b0, b1, .slice (some ⟨g9, 0, none⟩) L0.length cap9, s1, L0, L1, T0, TA, D0, TB, [⟨g9, Z9⟩], S1, rfl, H0, by rw [← pX_oX k1.k1]; exact HA, E0, HB, k0, (jO_dk k1 (by omega) (by omega)).1, Nat.le_succ_of_le q0, by have := (jO_dk (gn := b1) (n := nw) (i := en) (c := (tz ec (m2 % ec.size))) k1 (by omega) (by omega)).2; omega, hSk, hS1, w0.up, w1.up⟩, (okT_of hR_ (M.drop (.cons _ (.cons _ (.cons _ (.cons_cons _ (List.Sublist.refl _)))))))⟩
              · skip
                refine pl_val (want_on 3 true rfl 134 rfl (by kernel_rfl)) (some 138) rfl (.bool false) (fun w => Eq.trans (b := .ok (.value (.bool (decide (0 < (ec.size : Int))))) w) (by kernel_rfl) (by rw [decide_eq_false (c6)])) ?_
                refine rV 1 ?_
                refine nT ?_
                refine wp_cond_false (by kernel_rfl) ?_
                refine wp_skip ?_
                refine au_then ?_
                refine sR ?_
                refine rV 1 ?_
                refine ZE M 158 1 0 ?_
                by_cases c7 : dd = 3
                · skip
                  refine pH 159 (.bool true) (jT (dd = 3) (c7)) ?_
                  refine nT ?_
                  refine wp_cond_true (by kernel_rfl) ?_
                  refine rg_lit ?_
                  refine rV 1 ?_
                  refine ZE M 161 1 4 ?_
                  refine pH 162 (.int .u64 (u : Int)) (fun w => Eq.trans (b := .ok (.value (.int .u64 (cv .u64 nn))) w) (by kernel_rfl) (by rw [hu])) ?_
                  refine rV 1 ?_
                  refine pP M 0 rfl 0 (.int .u64 (u : Int)) (ls [.int .u64 (u : Int), .string ec]) (by decide) (put_ls _ 0 _ _ rfl) fun u5 M => ?_
                  replace M : Mem ⟨w, R_⟩ (⟨g2, .cells (av 2 (ls [.int .u64 (u : Int), .string ec])) 96⟩ :: ⟨g1, .cells (av 6 (ls [.int .i64 dd, .int .u8 ((at_ : Nat) : Int), .string ss, .int .i64 wh, .int .i64 nn, .int .u64 (nw : Int)])) 45⟩ :: ⟨p, .cells (av 6 (ls [.pointer (some ⟨p0, 0, none⟩), .pointer (some ⟨p1, 0, none⟩), .pointer (some ⟨d0, 0, none⟩), .pointer (some ⟨d1, 0, none⟩), .slice (some ⟨g9, 0, none⟩) L0.length cap9, s1])) 37⟩ :: (T0 ++ (T1 ++ (D0 ++ (D1 ++ ([⟨g9, Z9⟩] ++ S1)))))) u5 := M
                  refine nT ?_
                  refine sR ?_
                  refine rV 2 ?_
                  refine ZE M 167 1 5 ?_
                  refine rV 1 ?_
                  refine ZE M 169 0 0 ?_
                  refine rV 1 ?_
                  refine ZE M 171 0 1 ?_
                  refine pl_callM M (want_no rfl) (some 172) rfl 22 #[.pointer (some ⟨p1, 0, none⟩), .int .u64 (nw : Int), .int .u64 (u : Int), .string ec] (⟨g2, .cells (av 2 (ls [.int .u64 (u : Int), .string ec])) 96⟩ :: ⟨g1, .cells (av 6 (ls [.int .i64 dd, .int .u8 ((at_ : Nat) : Int), .string ss, .int .i64 wh, .int .i64 nn, .int .u64 (nw : Int)])) 45⟩ :: ⟨p, .cells (av 6 (ls [.pointer (some ⟨p0, 0, none⟩), .pointer (some ⟨p1, 0, none⟩), .pointer (some ⟨d0, 0, none⟩), .pointer (some ⟨d1, 0, none⟩), .slice (some ⟨g9, 0, none⟩) L0.length cap9, s1])) 37⟩ :: T0) (T1) ((D0 ++ (D1 ++ ([⟨g9, Z9⟩] ++ S1)))) (by simp only [List.append_assoc, List.cons_append, List.nil_append, List.append_nil]) (fun T0 => .tuple #[.string ((pX y1 b1).oC nw u ec), .int .i64 ((pX y1 b1).oE nw u ec)]) (fun T0 => T0) (fun T0 => IsT p1 ((pX y1 b1).oX nw u ec) T0) (fun _ => by kernel_rfl) (fun w hL hT => a_Open H1 (pX_ok k1.toOk) hnw (by omega) w hL hT) ?_
                  rintro TA u6 HA M
                  replace M : Mem ⟨w, R_⟩ (⟨g2, .cells (av 2 (ls [.int .u64 (u : Int), .string ec])) 96⟩ :: ⟨g1, .cells (av 6 (ls [.int .i64 dd, .int .u8 ((at_ : Nat) : Int), .string ss, .int .i64 wh, .int .i64 nn, .int .u64 (nw : Int)])) 45⟩ :: ⟨p, .cells (av 6 (ls [.pointer (some ⟨p0, 0, none⟩), .pointer (some ⟨p1, 0, none⟩), .pointer (some ⟨d0, 0, none⟩), .pointer (some ⟨d1, 0, none⟩), .slice (some ⟨g9, 0, none⟩) L0.length cap9, s1])) 37⟩ :: (T0 ++ (TA ++ (D0 ++ (D1 ++ ([⟨g9, Z9⟩] ++ S1)))))) u6 := by simpa only [List.append_assoc, List.cons_append, List.nil_append, List.append_nil] using M
                  refine rV 5 ?_
                  refine nT ?_
                  refine sR ?_
                  refine rV 2 ?_
                  refine ZE M 178 1 5 ?_
                  refine rV 1 ?_
                  refine ZE M 180 0 0 ?_
                  refine rV 1 ?_
                  refine ZE M 182 0 1 ?_
                  refine pl_callM M (want_no rfl) (some 183) rfl 29 #[.pointer (some ⟨d1, 0, none⟩), .int .u64 (nw : Int), .int .u64 (u : Int), .string ec] (⟨g2, .cells (av 2 (ls [.int .u64 (u : Int), .string ec])) 96⟩ :: ⟨g1, .cells (av 6 (ls [.int .i64 dd, .int .u8 ((at_ : Nat) : Int), .string ss, .int .i64 wh, .int .i64 nn, .int .u64 (nw : Int)])) 45⟩ :: ⟨p, .cells (av 6 (ls [.pointer (some ⟨p0, 0, none⟩), .pointer (some ⟨p1, 0, none⟩), .pointer (some ⟨d0, 0, none⟩), .pointer (some ⟨d1, 0, none⟩), .slice (some ⟨g9, 0, none⟩) L0.length cap9, s1])) 37⟩ :: (T0 ++ (TA ++ D0))) (D1) (([⟨g9, Z9⟩] ++ S1)) (by simp only [List.append_assoc, List.cons_append, List.nil_append, List.append_nil]) (fun T0 => .tuple #[.string ((pX y1 b1).oC nw u ec), .int .i64 ((pX y1 b1).oE nw u ec)]) (fun T0 => T0) (fun T0 => IsD d1 (jO y1 b1 nw u ec) b1 T0) (fun _ => by kernel_rfl) (fun w hL hT => e_Open E1 k1 hnw (by first | omega | (rw [tz_size]; omega)) w hL hT) ?_
                  rintro TB u7 HB M
                  replace M : Mem ⟨w, R_⟩ (⟨g2, .cells (av 2 (ls [.int .u64 (u : Int), .string ec])) 96⟩ :: ⟨g1, .cells (av 6 (ls [.int .i64 dd, .int .u8 ((at_ : Nat) : Int), .string ss, .int .i64 wh, .int .i64 nn, .int .u64 (nw : Int)])) 45⟩ :: ⟨p, .cells (av 6 (ls [.pointer (some ⟨p0, 0, none⟩), .pointer (some ⟨p1, 0, none⟩), .pointer (some ⟨d0, 0, none⟩), .pointer (some ⟨d1, 0, none⟩), .slice (some ⟨g9, 0, none⟩) L0.length cap9, s1])) 37⟩ :: (T0 ++ (TA ++ (D0 ++ (TB ++ ([⟨g9, Z9⟩] ++ S1)))))) u7 := by simpa only [List.append_assoc, List.cons_append, List.nil_append, List.append_nil] using M
                  refine rV 5 ?_
                  refine nT ?_
                  refine sR ?_
                  refine rV 2 ?_
                  refine pH 188 (.bool true) (fun w => Eq.trans (b := .ok (.value (.bool (((pX y1 b1).oC nw u ec).toList == ((pX y1 b1).oC nw u ec).toList))) w) (by kernel_rfl) (by rw [beq_self_eq_true])) ?_
                  refine rV 3 ?_
                  refine pl_val (want_on 3 true rfl 189 rfl (by kernel_rfl)) (some 192) rfl (.bool true) (fun w => Eq.trans (b := .ok (.value (.bool (decide (((pX y1 b1).oE nw u ec) = ((pX y1 b1).oE nw u ec))))) w) (by kernel_rfl) (by rw [decide_eq_true (by omega)])) ?_
                  refine rV 2 ?_
                  refine nT ?_
                  refine wp_ret ?_
                  exact bodyPost_ret (v := .bool true) (results_tmp1 Tryz.results9 _ _ _ (by kernel_rfl)) (by kernel_rfl) ⟨_, rfl, ⟨p0, p1, d0, d1, y0, (jO y1 b1 nw u ec), b0, b1, .slice (some ⟨g9, 0, none⟩) L0.length cap9, s1, L0, L1, T0, TA, D0, TB, [⟨g9, Z9⟩], S1, rfl, H0, by rw [← pX_oX k1.k1]; exact HA, E0, HB, k0, (jO_dk k1 (by omega) (by omega)).1, Nat.le_succ_of_le q0, by have := (jO_dk (gn := b1) (n := nw) (i := u) (c := ec) k1 (by omega) (by omega)).2; omega, hSk, hS1, w0.up, w1.up⟩, (okT_of hR_ (M.drop (.cons _ (.cons _ (.cons_cons _ (List.Sublist.refl _))))))⟩
                · skip
                  refine pH 159 (.bool false) (jF (dd = 3) (c7)) ?_
                  refine nT ?_
                  refine wp_cond_false (by kernel_rfl) ?_
                  refine wp_skip ?_
                  refine au_then ?_
                  refine sR ?_
                  refine rV 2 ?_
                  refine ZE M 167 1 5 ?_
                  refine rV 1 ?_
                  refine ZE M 169 0 0 ?_
                  refine rV 1 ?_
                  refine ZE M 171 0 1 ?_
                  refine pl_callM M (want_no rfl) (some 172) rfl 22 #[.pointer (some ⟨p1, 0, none⟩), .int .u64 (nw : Int), .int .u64 (en : Int), .string ec] (⟨g2, .cells (av 2 (ls [.int .u64 (en : Int), .string ec])) 96⟩ :: ⟨g1, .cells (av 6 (ls [.int .i64 dd, .int .u8 ((at_ : Nat) : Int), .string ss, .int .i64 wh, .int .i64 nn, .int .u64 (nw : Int)])) 45⟩ :: ⟨p, .cells (av 6 (ls [.pointer (some ⟨p0, 0, none⟩), .pointer (some ⟨p1, 0, none⟩), .pointer (some ⟨d0, 0, none⟩), .pointer (some ⟨d1, 0, none⟩), .slice (some ⟨g9, 0, none⟩) L0.length cap9, s1])) 37⟩ :: T0) (T1) ((D0 ++ (D1 ++ ([⟨g9, Z9⟩] ++ S1)))) (by simp only [List.append_assoc, List.cons_append, List.nil_append, List.append_nil]) (fun T0 => .tuple #[.string ((pX y1 b1).oC nw en ec), .int .i64 ((pX y1 b1).oE nw en ec)]) (fun T0 => T0) (fun T0 => IsT p1 ((pX y1 b1).oX nw en ec) T0) (fun _ => by kernel_rfl) (fun w hL hT => a_Open H1 (pX_ok k1.toOk) hnw (by omega) w hL hT) ?_
                  rintro TA u5 HA M
                  replace M : Mem ⟨w, R_⟩ (⟨g2, .cells (av 2 (ls [.int .u64 (en : Int), .string ec])) 96⟩ :: ⟨g1, .cells (av 6 (ls [.int .i64 dd, .int .u8 ((at_ : Nat) : Int), .string ss, .int .i64 wh, .int .i64 nn, .int .u64 (nw : Int)])) 45⟩ :: ⟨p, .cells (av 6 (ls [.pointer (some ⟨p0, 0, none⟩), .pointer (some ⟨p1, 0, none⟩), .pointer (some ⟨d0, 0, none⟩), .pointer (some ⟨d1, 0, none⟩), .slice (some ⟨g9, 0, none⟩) L0.length cap9, s1])) 37⟩ :: (T0 ++ (TA ++ (D0 ++ (D1 ++ ([⟨g9, Z9⟩] ++ S1)))))) u5 := by simpa only [List.append_assoc, List.cons_append, List.nil_append, List.append_nil] using M
                  refine rV 5 ?_
                  refine nT ?_
                  refine sR ?_
                  refine rV 2 ?_
                  refine ZE M 178 1 5 ?_
                  refine rV 1 ?_
                  refine ZE M 180 0 0 ?_
                  refine rV 1 ?_
                  refine ZE M 182 0 1 ?_
                  refine pl_callM M (want_no rfl) (some 183) rfl 29 #[.pointer (some ⟨d1, 0, none⟩), .int .u64 (nw : Int), .int .u64 (en : Int), .string ec] (⟨g2, .cells (av 2 (ls [.int .u64 (en : Int), .string ec])) 96⟩ :: ⟨g1, .cells (av 6 (ls [.int .i64 dd, .int .u8 ((at_ : Nat) : Int), .string ss, .int .i64 wh, .int .i64 nn, .int .u64 (nw : Int)])) 45⟩ :: ⟨p, .cells (av 6 (ls [.pointer (some ⟨p0, 0, none⟩), .pointer (some ⟨p1, 0, none⟩), .pointer (some ⟨d0, 0, none⟩), .pointer (some ⟨d1, 0, none⟩), .slice (some ⟨g9, 0, none⟩) L0.length cap9, s1])) 37⟩ :: (T0 ++ (TA ++ D0))) (D1) (([⟨g9, Z9⟩] ++ S1)) (by simp only [List.append_assoc, List.cons_append, List.nil_append, List.append_nil]) (fun T0 => .tuple #[.string ((pX y1 b1).oC nw en ec), .int .i64 ((pX y1 b1).oE nw en ec)]) (fun T0 => T0) (fun T0 => IsD d1 (jO y1 b1 nw en ec) b1 T0) (fun _ => by kernel_rfl) (fun w hL hT => e_Open E1 k1 hnw (by first | omega | (rw [tz_size]; omega)) w hL hT) ?_
                  rintro TB u6 HB M
                  replace M : Mem ⟨w, R_⟩ (⟨g2, .cells (av 2 (ls [.int .u64 (en : Int), .string ec])) 96⟩ :: ⟨g1, .cells (av 6 (ls [.int .i64 dd, .int .u8 ((at_ : Nat) : Int), .string ss, .int .i64 wh, .int .i64 nn, .int .u64 (nw : Int)])) 45⟩ :: ⟨p, .cells (av 6 (ls [.pointer (some ⟨p0, 0, none⟩), .pointer (some ⟨p1, 0, none⟩), .pointer (some ⟨d0, 0, none⟩), .pointer (some ⟨d1, 0, none⟩), .slice (some ⟨g9, 0, none⟩) L0.length cap9, s1])) 37⟩ :: (T0 ++ (TA ++ (D0 ++ (TB ++ ([⟨g9, Z9⟩] ++ S1)))))) u6 := by simpa only [List.append_assoc, List.cons_append, List.nil_append, List.append_nil] using M
                  refine rV 5 ?_
                  refine nT ?_
                  refine sR ?_
                  refine rV 2 ?_
                  refine pH 188 (.bool true) (fun w => Eq.trans (b := .ok (.value (.bool (((pX y1 b1).oC nw en ec).toList == ((pX y1 b1).oC nw en ec).toList))) w) (by kernel_rfl) (by rw [beq_self_eq_true])) ?_
                  refine rV 3 ?_
                  refine pl_val (want_on 3 true rfl 189 rfl (by kernel_rfl)) (some 192) rfl (.bool true) (fun w => Eq.trans (b := .ok (.value (.bool (decide (((pX y1 b1).oE nw en ec) = ((pX y1 b1).oE nw en ec))))) w) (by kernel_rfl) (by rw [decide_eq_true (by omega)])) ?_
                  refine rV 2 ?_
                  refine nT ?_
                  refine wp_ret ?_
                  exact bodyPost_ret (v := .bool true) (results_tmp1 Tryz.results9 _ _ _ (by kernel_rfl)) (by kernel_rfl) ⟨_, rfl, ⟨p0, p1, d0, d1, y0, (jO y1 b1 nw en ec), b0, b1, .slice (some ⟨g9, 0, none⟩) L0.length cap9, s1, L0, L1, T0, TA, D0, TB, [⟨g9, Z9⟩], S1, rfl, H0, by rw [← pX_oX k1.k1]; exact HA, E0, HB, k0, (jO_dk k1 (by omega) (by omega)).1, Nat.le_succ_of_le q0, by have := (jO_dk (gn := b1) (n := nw) (i := en) (c := ec) k1 (by omega) (by omega)).2; omega, hSk, hS1, w0.up, w1.up⟩, (okT_of hR_ (M.drop (.cons _ (.cons _ (.cons_cons _ (List.Sublist.refl _))))))⟩
            · skip
              refine pH 133 (.bool false) (jF (dd = 2) (c5)) ?_
              refine rV 6 ?_
              refine nT ?_
              refine wp_cond_false (by kernel_rfl) ?_
              refine wp_skip ?_
              refine au_then ?_
              refine sR ?_
              refine rV 1 ?_
              refine ZE M 158 1 0 ?_
              by_cases c6 : dd = 3
              · skip
                refine pH 159 (.bool true) (jT (dd = 3) (c6)) ?_
                refine nT ?_
                refine wp_cond_true (by kernel_rfl) ?_
                refine rg_lit ?_
                refine rV 1 ?_
                refine ZE M 161 1 4 ?_
                refine pH 162 (.int .u64 (u : Int)) (fun w => Eq.trans (b := .ok (.value (.int .u64 (cv .u64 nn))) w) (by kernel_rfl) (by rw [hu])) ?_
                refine rV 1 ?_
                refine pP M 0 rfl 0 (.int .u64 (u : Int)) (ls [.int .u64 (u : Int), .string ec]) (by decide) (put_ls _ 0 _ _ rfl) fun u5 M => ?_
                replace M : Mem ⟨w, R_⟩ (⟨g2, .cells (av 2 (ls [.int .u64 (u : Int), .string ec])) 96⟩ :: ⟨g1, .cells (av 6 (ls [.int .i64 dd, .int .u8 ((at_ : Nat) : Int), .string ss, .int .i64 wh, .int .i64 nn, .int .u64 (nw : Int)])) 45⟩ :: ⟨p, .cells (av 6 (ls [.pointer (some ⟨p0, 0, none⟩), .pointer (some ⟨p1, 0, none⟩), .pointer (some ⟨d0, 0, none⟩), .pointer (some ⟨d1, 0, none⟩), .slice (some ⟨g9, 0, none⟩) L0.length cap9, s1])) 37⟩ :: (T0 ++ (T1 ++ (D0 ++ (D1 ++ ([⟨g9, Z9⟩] ++ S1)))))) u5 := M
                refine nT ?_
                refine sR ?_
                refine rV 2 ?_
                refine ZE M 167 1 5 ?_
                refine rV 1 ?_
                refine ZE M 169 0 0 ?_
                refine rV 1 ?_
                refine ZE M 171 0 1 ?_
                refine pl_callM M (want_no rfl) (some 172) rfl 22 #[.pointer (some ⟨p1, 0, none⟩), .int .u64 (nw : Int), .int .u64 (u : Int), .string ec] (⟨g2, .cells (av 2 (ls [.int .u64 (u : Int), .string ec])) 96⟩ :: ⟨g1, .cells (av 6 (ls [.int .i64 dd, .int .u8 ((at_ : Nat) : Int), .string ss, .int .i64 wh, .int .i64 nn, .int .u64 (nw : Int)])) 45⟩ :: ⟨p, .cells (av 6 (ls [.pointer (some ⟨p0, 0, none⟩), .pointer (some ⟨p1, 0, none⟩), .pointer (some ⟨d0, 0, none⟩), .pointer (some ⟨d1, 0, none⟩), .slice (some ⟨g9, 0, none⟩) L0.length cap9, s1])) 37⟩ :: T0) (T1) ((D0 ++ (D1 ++ ([⟨g9, Z9⟩] ++ S1)))) (by simp only [List.append_assoc, List.cons_append, List.nil_append, List.append_nil]) (fun T0 => .tuple #[.string ((pX y1 b1).oC nw u ec), .int .i64 ((pX y1 b1).oE nw u ec)]) (fun T0 => T0) (fun T0 => IsT p1 ((pX y1 b1).oX nw u ec) T0) (fun _ => by kernel_rfl) (fun w hL hT => a_Open H1 (pX_ok k1.toOk) hnw (by omega) w hL hT) ?_
                rintro TA u6 HA M
                replace M : Mem ⟨w, R_⟩ (⟨g2, .cells (av 2 (ls [.int .u64 (u : Int), .string ec])) 96⟩ :: ⟨g1, .cells (av 6 (ls [.int .i64 dd, .int .u8 ((at_ : Nat) : Int), .string ss, .int .i64 wh, .int .i64 nn, .int .u64 (nw : Int)])) 45⟩ :: ⟨p, .cells (av 6 (ls [.pointer (some ⟨p0, 0, none⟩), .pointer (some ⟨p1, 0, none⟩), .pointer (some ⟨d0, 0, none⟩), .pointer (some ⟨d1, 0, none⟩), .slice (some ⟨g9, 0, none⟩) L0.length cap9, s1])) 37⟩ :: (T0 ++ (TA ++ (D0 ++ (D1 ++ ([⟨g9, Z9⟩] ++ S1)))))) u6 := by simpa only [List.append_assoc, List.cons_append, List.nil_append, List.append_nil] using M
                refine rV 5 ?_
                refine nT ?_
                refine sR ?_
                refine rV 2 ?_
                refine ZE M 178 1 5 ?_
                refine rV 1 ?_
                refine ZE M 180 0 0 ?_
                refine rV 1 ?_
                refine ZE M 182 0 1 ?_
                refine pl_callM M (want_no rfl) (some 183) rfl 29 #[.pointer (some ⟨d1, 0, none⟩), .int .u64 (nw : Int), .int .u64 (u : Int), .string ec] (⟨g2, .cells (av 2 (ls [.int .u64 (u : Int), .string ec])) 96⟩ :: ⟨g1, .cells (av 6 (ls [.int .i64 dd, .int .u8 ((at_ : Nat) : Int), .string ss, .int .i64 wh, .int .i64 nn, .int .u64 (nw : Int)])) 45⟩ :: ⟨p, .cells (av 6 (ls [.pointer (some ⟨p0, 0, none⟩), .pointer (some ⟨p1, 0, none⟩), .pointer (some ⟨d0, 0, none⟩), .pointer (some ⟨d1, 0, none⟩), .slice (some ⟨g9, 0, none⟩) L0.length cap9, s1])) 37⟩ :: (T0 ++ (TA ++ D0))) (D1) (([⟨g9, Z9⟩] ++ S1)) (by simp only [List.append_assoc, List.cons_append, List.nil_append, List.append_nil]) (fun T0 => .tuple #[.string ((pX y1 b1).oC nw u ec), .int .i64 ((pX y1 b1).oE nw u ec)]) (fun T0 => T0) (fun T0 => IsD d1 (jO y1 b1 nw u ec) b1 T0) (fun _ => by kernel_rfl) (fun w hL hT => e_Open E1 k1 hnw (by first | omega | (rw [tz_size]; omega)) w hL hT) ?_
                rintro TB u7 HB M
                replace M : Mem ⟨w, R_⟩ (⟨g2, .cells (av 2 (ls [.int .u64 (u : Int), .string ec])) 96⟩ :: ⟨g1, .cells (av 6 (ls [.int .i64 dd, .int .u8 ((at_ : Nat) : Int), .string ss, .int .i64 wh, .int .i64 nn, .int .u64 (nw : Int)])) 45⟩ :: ⟨p, .cells (av 6 (ls [.pointer (some ⟨p0, 0, none⟩), .pointer (some ⟨p1, 0, none⟩), .pointer (some ⟨d0, 0, none⟩), .pointer (some ⟨d1, 0, none⟩), .slice (some ⟨g9, 0, none⟩) L0.length cap9, s1])) 37⟩ :: (T0 ++ (TA ++ (D0 ++ (TB ++ ([⟨g9, Z9⟩] ++ S1)))))) u7 := by simpa only [List.append_assoc, List.cons_append, List.nil_append, List.append_nil] using M
                refine rV 5 ?_
                refine nT ?_
                refine sR ?_
                refine rV 2 ?_
                refine pH 188 (.bool true) (fun w => Eq.trans (b := .ok (.value (.bool (((pX y1 b1).oC nw u ec).toList == ((pX y1 b1).oC nw u ec).toList))) w) (by kernel_rfl) (by rw [beq_self_eq_true])) ?_
                refine rV 3 ?_
                refine pl_val (want_on 3 true rfl 189 rfl (by kernel_rfl)) (some 192) rfl (.bool true) (fun w => Eq.trans (b := .ok (.value (.bool (decide (((pX y1 b1).oE nw u ec) = ((pX y1 b1).oE nw u ec))))) w) (by kernel_rfl) (by rw [decide_eq_true (by omega)])) ?_
                refine rV 2 ?_
                refine nT ?_
                refine wp_ret ?_
                exact bodyPost_ret (v := .bool true) (results_tmp1 Tryz.results9 _ _ _ (by kernel_rfl)) (by kernel_rfl) ⟨_, rfl, ⟨p0, p1, d0, d1, y0, (jO y1 b1 nw u ec), b0, b1, .slice (some ⟨g9, 0, none⟩) L0.length cap9, s1, L0, L1, T0, TA, D0, TB, [⟨g9, Z9⟩], S1, rfl, H0, by rw [← pX_oX k1.k1]; exact HA, E0, HB, k0, (jO_dk k1 (by omega) (by omega)).1, Nat.le_succ_of_le q0, by have := (jO_dk (gn := b1) (n := nw) (i := u) (c := ec) k1 (by omega) (by omega)).2; omega, hSk, hS1, w0.up, w1.up⟩, (okT_of hR_ (M.drop (.cons _ (.cons _ (.cons_cons _ (List.Sublist.refl _))))))⟩
              · skip
                refine pH 159 (.bool false) (jF (dd = 3) (c6)) ?_
                refine nT ?_
                refine wp_cond_false (by kernel_rfl) ?_
                refine wp_skip ?_
                refine au_then ?_
                refine sR ?_
                refine rV 2 ?_
                refine ZE M 167 1 5 ?_
                refine rV 1 ?_
                refine ZE M 169 0 0 ?_
                refine rV 1 ?_
                refine ZE M 171 0 1 ?_
                refine pl_callM M (want_no rfl) (some 172) rfl 22 #[.pointer (some ⟨p1, 0, none⟩), .int .u64 (nw : Int), .int .u64 (en : Int), .string ec] (⟨g2, .cells (av 2 (ls [.int .u64 (en : Int), .string ec])) 96⟩ :: ⟨g1, .cells (av 6 (ls [.int .i64 dd, .int .u8 ((at_ : Nat) : Int), .string ss, .int .i64 wh, .int .i64 nn, .int .u64 (nw : Int)])) 45⟩ :: ⟨p, .cells (av 6 (ls [.pointer (some ⟨p0, 0, none⟩), .pointer (some ⟨p1, 0, none⟩), .pointer (some ⟨d0, 0, none⟩), .pointer (some ⟨d1, 0, none⟩), .slice (some ⟨g9, 0, none⟩) L0.length cap9, s1])) 37⟩ :: T0) (T1) ((D0 ++ (D1 ++ ([⟨g9, Z9⟩] ++ S1)))) (by simp only [List.append_assoc, List.cons_append, List.nil_append, List.append_nil]) (fun T0 => .tuple #[.string ((pX y1 b1).oC nw en ec), .int .i64 ((pX y1 b1).oE nw en ec)]) (fun T0 => T0) (fun T0 => IsT p1 ((pX y1 b1).oX nw en ec) T0) (fun _ => by kernel_rfl) (fun w hL hT => a_Open H1 (pX_ok k1.toOk) hnw (by omega) w hL hT) ?_
                rintro TA u5 HA M
                replace M : Mem ⟨w, R_⟩ (⟨g2, .cells (av 2 (ls [.int .u64 (en : Int), .string ec])) 96⟩ :: ⟨g1, .cells (av 6 (ls [.int .i64 dd, .int .u8 ((at_ : Nat) : Int), .string ss, .int .i64 wh, .int .i64 nn, .int .u64 (nw : Int)])) 45⟩ :: ⟨p, .cells (av 6 (ls [.pointer (some ⟨p0, 0, none⟩), .pointer (some ⟨p1, 0, none⟩), .pointer (some ⟨d0, 0, none⟩), .pointer (some ⟨d1, 0, none⟩), .slice (some ⟨g9, 0, none⟩) L0.length cap9, s1])) 37⟩ :: (T0 ++ (TA ++ (D0 ++ (D1 ++ ([⟨g9, Z9⟩] ++ S1)))))) u5 := by simpa only [List.append_assoc, List.cons_append, List.nil_append, List.append_nil] using M
                refine rV 5 ?_
                refine nT ?_
                refine sR ?_
                refine rV 2 ?_
                refine ZE M 178 1 5 ?_
                refine rV 1 ?_
                refine ZE M 180 0 0 ?_
                refine rV 1 ?_
                refine ZE M 182 0 1 ?_
                refine pl_callM M (want_no rfl) (some 183) rfl 29 #[.pointer (some ⟨d1, 0, none⟩), .int .u64 (nw : Int), .int .u64 (en : Int), .string ec] (⟨g2, .cells (av 2 (ls [.int .u64 (en : Int), .string ec])) 96⟩ :: ⟨g1, .cells (av 6 (ls [.int .i64 dd, .int .u8 ((at_ : Nat) : Int), .string ss, .int .i64 wh, .int .i64 nn, .int .u64 (nw : Int)])) 45⟩ :: ⟨p, .cells (av 6 (ls [.pointer (some ⟨p0, 0, none⟩), .pointer (some ⟨p1, 0, none⟩), .pointer (some ⟨d0, 0, none⟩), .pointer (some ⟨d1, 0, none⟩), .slice (some ⟨g9, 0, none⟩) L0.length cap9, s1])) 37⟩ :: (T0 ++ (TA ++ D0))) (D1) (([⟨g9, Z9⟩] ++ S1)) (by simp only [List.append_assoc, List.cons_append, List.nil_append, List.append_nil]) (fun T0 => .tuple #[.string ((pX y1 b1).oC nw en ec), .int .i64 ((pX y1 b1).oE nw en ec)]) (fun T0 => T0) (fun T0 => IsD d1 (jO y1 b1 nw en ec) b1 T0) (fun _ => by kernel_rfl) (fun w hL hT => e_Open E1 k1 hnw (by first | omega | (rw [tz_size]; omega)) w hL hT) ?_
                rintro TB u6 HB M
                replace M : Mem ⟨w, R_⟩ (⟨g2, .cells (av 2 (ls [.int .u64 (en : Int), .string ec])) 96⟩ :: ⟨g1, .cells (av 6 (ls [.int .i64 dd, .int .u8 ((at_ : Nat) : Int), .string ss, .int .i64 wh, .int .i64 nn, .int .u64 (nw : Int)])) 45⟩ :: ⟨p, .cells (av 6 (ls [.pointer (some ⟨p0, 0, none⟩), .pointer (some ⟨p1, 0, none⟩), .pointer (some ⟨d0, 0, none⟩), .pointer (some ⟨d1, 0, none⟩), .slice (some ⟨g9, 0, none⟩) L0.length cap9, s1])) 37⟩ :: (T0 ++ (TA ++ (D0 ++ (TB ++ ([⟨g9, Z9⟩] ++ S1)))))) u6 := by simpa only [List.append_assoc, List.cons_append, List.nil_append, List.append_nil] using M
                refine rV 5 ?_
                refine nT ?_
                refine sR ?_
                refine rV 2 ?_
                refine pH 188 (.bool true) (fun w => Eq.trans (b := .ok (.value (.bool (((pX y1 b1).oC nw en ec).toList == ((pX y1 b1).oC nw en ec).toList))) w) (by kernel_rfl) (by rw [beq_self_eq_true])) ?_
                refine rV 3 ?_
                refine pl_val (want_on 3 true rfl 189 rfl (by kernel_rfl)) (some 192) rfl (.bool true) (fun w => Eq.trans (b := .ok (.value (.bool (decide (((pX y1 b1).oE nw en ec) = ((pX y1 b1).oE nw en ec))))) w) (by kernel_rfl) (by rw [decide_eq_true (by omega)])) ?_
                refine rV 2 ?_
                refine nT ?_
                refine wp_ret ?_
                exact bodyPost_ret (v := .bool true) (results_tmp1 Tryz.results9 _ _ _ (by kernel_rfl)) (by kernel_rfl) ⟨_, rfl, ⟨p0, p1, d0, d1, y0, (jO y1 b1 nw en ec), b0, b1, .slice (some ⟨g9, 0, none⟩) L0.length cap9, s1, L0, L1, T0, TA, D0, TB, [⟨g9, Z9⟩], S1, rfl, H0, by rw [← pX_oX k1.k1]; exact HA, E0, HB, k0, (jO_dk k1 (by omega) (by omega)).1, Nat.le_succ_of_le q0, by have := (jO_dk (gn := b1) (n := nw) (i := en) (c := ec) k1 (by omega) (by omega)).2; omega, hSk, hS1, w0.up, w1.up⟩, (okT_of hR_ (M.drop (.cons _ (.cons _ (.cons_cons _ (List.Sublist.refl _))))))⟩
          · skip
            refine pl_val (want_on 3 true rfl 117 rfl (by kernel_rfl)) (some 120) rfl (.bool false) (fun w => Eq.trans (b := .ok (.value (.bool (decide (0 < ((L0.length : Nat) : Int))))) w) (by kernel_rfl) (by rw [decide_eq_false (c4)])) ?_
            refine rV 1 ?_
            refine nT ?_
            refine wp_cond_false (by kernel_rfl) ?_
            refine wp_skip ?_
            refine au_then ?_
            refine sR ?_
            refine rV 2 ?_
            refine ZE M 167 1 5 ?_
            refine rV 1 ?_
            refine ZE M 169 0 0 ?_
            refine rV 1 ?_
            refine ZE M 171 0 1 ?_
            refine pl_callM M (want_no rfl) (some 172) rfl 22 #[.pointer (some ⟨p1, 0, none⟩), .int .u64 (nw : Int), .int .u64 (u : Int), .string ss] (⟨g2, .cells (av 2 (ls [.int .u64 (u : Int), .string ss])) 96⟩ :: ⟨g1, .cells (av 6 (ls [.int .i64 dd, .int .u8 ((at_ : Nat) : Int), .string ss, .int .i64 wh, .int .i64 nn, .int .u64 (nw : Int)])) 45⟩ :: ⟨p, .cells (av 6 (ls [.pointer (some ⟨p0, 0, none⟩), .pointer (some ⟨p1, 0, none⟩), .pointer (some ⟨d0, 0, none⟩), .pointer (some ⟨d1, 0, none⟩), s0, s1])) 37⟩ :: T0) (T1) ((D0 ++ (D1 ++ (S0 ++ S1)))) (by simp only [List.append_assoc, List.cons_append, List.nil_append, List.append_nil]) (fun T0 => .tuple #[.string ((pX y1 b1).oC nw u ss), .int .i64 ((pX y1 b1).oE nw u ss)]) (fun T0 => T0) (fun T0 => IsT p1 ((pX y1 b1).oX nw u ss) T0) (fun _ => by kernel_rfl) (fun w hL hT => a_Open H1 (pX_ok k1.toOk) hnw (by omega) w hL hT) ?_
            rintro TA u4 HA M
            replace M : Mem ⟨w, R_⟩ (⟨g2, .cells (av 2 (ls [.int .u64 (u : Int), .string ss])) 96⟩ :: ⟨g1, .cells (av 6 (ls [.int .i64 dd, .int .u8 ((at_ : Nat) : Int), .string ss, .int .i64 wh, .int .i64 nn, .int .u64 (nw : Int)])) 45⟩ :: ⟨p, .cells (av 6 (ls [.pointer (some ⟨p0, 0, none⟩), .pointer (some ⟨p1, 0, none⟩), .pointer (some ⟨d0, 0, none⟩), .pointer (some ⟨d1, 0, none⟩), s0, s1])) 37⟩ :: (T0 ++ (TA ++ (D0 ++ (D1 ++ (S0 ++ S1)))))) u4 := by simpa only [List.append_assoc, List.cons_append, List.nil_append, List.append_nil] using M
            refine rV 5 ?_
            refine nT ?_
            refine sR ?_
            refine rV 2 ?_
            refine ZE M 178 1 5 ?_
            refine rV 1 ?_
            refine ZE M 180 0 0 ?_
            refine rV 1 ?_
            refine ZE M 182 0 1 ?_
            refine pl_callM M (want_no rfl) (some 183) rfl 29 #[.pointer (some ⟨d1, 0, none⟩), .int .u64 (nw : Int), .int .u64 (u : Int), .string ss] (⟨g2, .cells (av 2 (ls [.int .u64 (u : Int), .string ss])) 96⟩ :: ⟨g1, .cells (av 6 (ls [.int .i64 dd, .int .u8 ((at_ : Nat) : Int), .string ss, .int .i64 wh, .int .i64 nn, .int .u64 (nw : Int)])) 45⟩ :: ⟨p, .cells (av 6 (ls [.pointer (some ⟨p0, 0, none⟩), .pointer (some ⟨p1, 0, none⟩), .pointer (some ⟨d0, 0, none⟩), .pointer (some ⟨d1, 0, none⟩), s0, s1])) 37⟩ :: (T0 ++ (TA ++ D0))) (D1) ((S0 ++ S1)) (by simp only [List.append_assoc, List.cons_append, List.nil_append, List.append_nil]) (fun T0 => .tuple #[.string ((pX y1 b1).oC nw u ss), .int .i64 ((pX y1 b1).oE nw u ss)]) (fun T0 => T0) (fun T0 => IsD d1 (jO y1 b1 nw u ss) b1 T0) (fun _ => by kernel_rfl) (fun w hL hT => e_Open E1 k1 hnw (by first | omega | (rw [tz_size]; omega)) w hL hT) ?_
            rintro TB u5 HB M
            replace M : Mem ⟨w, R_⟩ (⟨g2, .cells (av 2 (ls [.int .u64 (u : Int), .string ss])) 96⟩ :: ⟨g1, .cells (av 6 (ls [.int .i64 dd, .int .u8 ((at_ : Nat) : Int), .string ss, .int .i64 wh, .int .i64 nn, .int .u64 (nw : Int)])) 45⟩ :: ⟨p, .cells (av 6 (ls [.pointer (some ⟨p0, 0, none⟩), .pointer (some ⟨p1, 0, none⟩), .pointer (some ⟨d0, 0, none⟩), .pointer (some ⟨d1, 0, none⟩), s0, s1])) 37⟩ :: (T0 ++ (TA ++ (D0 ++ (TB ++ (S0 ++ S1)))))) u5 := by simpa only [List.append_assoc, List.cons_append, List.nil_append, List.append_nil] using M
            refine rV 5 ?_
            refine nT ?_
            refine sR ?_
            refine rV 2 ?_
            refine pH 188 (.bool true) (fun w => Eq.trans (b := .ok (.value (.bool (((pX y1 b1).oC nw u ss).toList == ((pX y1 b1).oC nw u ss).toList))) w) (by kernel_rfl) (by rw [beq_self_eq_true])) ?_
            refine rV 3 ?_
            refine pl_val (want_on 3 true rfl 189 rfl (by kernel_rfl)) (some 192) rfl (.bool true) (fun w => Eq.trans (b := .ok (.value (.bool (decide (((pX y1 b1).oE nw u ss) = ((pX y1 b1).oE nw u ss))))) w) (by kernel_rfl) (by rw [decide_eq_true (by omega)])) ?_
            refine rV 2 ?_
            refine nT ?_
            refine wp_ret ?_
            exact bodyPost_ret (v := .bool true) (results_tmp1 Tryz.results9 _ _ _ (by kernel_rfl)) (by kernel_rfl) ⟨_, rfl, ⟨p0, p1, d0, d1, y0, (jO y1 b1 nw u ss), b0, b1, s0, s1, L0, L1, T0, TA, D0, TB, S0, S1, rfl, H0, by rw [← pX_oX k1.k1]; exact HA, E0, HB, k0, (jO_dk k1 (by omega) (by omega)).1, Nat.le_succ_of_le q0, by have := (jO_dk (gn := b1) (n := nw) (i := u) (c := ss) k1 (by omega) (by omega)).2; omega, hS0, hS1, w0.up, w1.up⟩, (okT_of hR_ (M.drop (.cons _ (.cons _ (.cons_cons _ (List.Sublist.refl _))))))⟩
        · skip
          refine pH 116 (.bool false) (jF (dd < 6) (c3)) ?_
          refine rV 5 ?_
          refine nT ?_
          refine wp_cond_false (by kernel_rfl) ?_
          refine wp_skip ?_
          refine au_then ?_
          refine sR ?_
          refine rV 2 ?_
          refine ZE M 167 1 5 ?_
          refine rV 1 ?_
          refine ZE M 169 0 0 ?_
          refine rV 1 ?_
          refine ZE M 171 0 1 ?_
          refine pl_callM M (want_no rfl) (some 172) rfl 22 #[.pointer (some ⟨p1, 0, none⟩), .int .u64 (nw : Int), .int .u64 (u : Int), .string ss] (⟨g2, .cells (av 2 (ls [.int .u64 (u : Int), .string ss])) 96⟩ :: ⟨g1, .cells (av 6 (ls [.int .i64 dd, .int .u8 ((at_ : Nat) : Int), .string ss, .int .i64 wh, .int .i64 nn, .int .u64 (nw : Int)])) 45⟩ :: ⟨p, .cells (av 6 (ls [.pointer (some ⟨p0, 0, none⟩), .pointer (some ⟨p1, 0, none⟩), .pointer (some ⟨d0, 0, none⟩), .pointer (some ⟨d1, 0, none⟩), s0, s1])) 37⟩ :: T0) (T1) ((D0 ++ (D1 ++ (S0 ++ S1)))) (by simp only [List.append_assoc, List.cons_append, List.nil_append, List.append_nil]) (fun T0 => .tuple #[.string ((pX y1 b1).oC nw u ss), .int .i64 ((pX y1 b1).oE nw u ss)]) (fun T0 => T0) (fun T0 => IsT p1 ((pX y1 b1).oX nw u ss) T0) (fun _ => by kernel_rfl) (fun w hL hT => a_Open H1 (pX_ok k1.toOk) hnw (by omega) w hL hT) ?_
          rintro TA u4 HA M
          replace M : Mem ⟨w, R_⟩ (⟨g2, .cells (av 2 (ls [.int .u64 (u : Int), .string ss])) 96⟩ :: ⟨g1, .cells (av 6 (ls [.int .i64 dd, .int .u8 ((at_ : Nat) : Int), .string ss, .int .i64 wh, .int .i64 nn, .int .u64 (nw : Int)])) 45⟩ :: ⟨p, .cells (av 6 (ls [.pointer (some ⟨p0, 0, none⟩), .pointer (some ⟨p1, 0, none⟩), .pointer (some ⟨d0, 0, none⟩), .pointer (some ⟨d1, 0, none⟩), s0, s1])) 37⟩ :: (T0 ++ (TA ++ (D0 ++ (D1 ++ (S0 ++ S1)))))) u4 := by simpa only [List.append_assoc, List.cons_append, List.nil_append, List.append_nil] using M
          refine rV 5 ?_
          refine nT ?_
          refine sR ?_
          refine rV 2 ?_
          refine ZE M 178 1 5 ?_
          refine rV 1 ?_
          refine ZE M 180 0 0 ?_
          refine rV 1 ?_
          refine ZE M 182 0 1 ?_
          refine pl_callM M (want_no rfl) (some 183) rfl 29 #[.pointer (some ⟨d1, 0, none⟩), .int .u64 (nw : Int), .int .u64 (u : Int), .string ss] (⟨g2, .cells (av 2 (ls [.int .u64 (u : Int), .string ss])) 96⟩ :: ⟨g1, .cells (av 6 (ls [.int .i64 dd, .int .u8 ((at_ : Nat) : Int), .string ss, .int .i64 wh, .int .i64 nn, .int .u64 (nw : Int)])) 45⟩ :: ⟨p, .cells (av 6 (ls [.pointer (some ⟨p0, 0, none⟩), .pointer (some ⟨p1, 0, none⟩), .pointer (some ⟨d0, 0, none⟩), .pointer (some ⟨d1, 0, none⟩), s0, s1])) 37⟩ :: (T0 ++ (TA ++ D0))) (D1) ((S0 ++ S1)) (by simp only [List.append_assoc, List.cons_append, List.nil_append, List.append_nil]) (fun T0 => .tuple #[.string ((pX y1 b1).oC nw u ss), .int .i64 ((pX y1 b1).oE nw u ss)]) (fun T0 => T0) (fun T0 => IsD d1 (jO y1 b1 nw u ss) b1 T0) (fun _ => by kernel_rfl) (fun w hL hT => e_Open E1 k1 hnw (by first | omega | (rw [tz_size]; omega)) w hL hT) ?_
          rintro TB u5 HB M
          replace M : Mem ⟨w, R_⟩ (⟨g2, .cells (av 2 (ls [.int .u64 (u : Int), .string ss])) 96⟩ :: ⟨g1, .cells (av 6 (ls [.int .i64 dd, .int .u8 ((at_ : Nat) : Int), .string ss, .int .i64 wh, .int .i64 nn, .int .u64 (nw : Int)])) 45⟩ :: ⟨p, .cells (av 6 (ls [.pointer (some ⟨p0, 0, none⟩), .pointer (some ⟨p1, 0, none⟩), .pointer (some ⟨d0, 0, none⟩), .pointer (some ⟨d1, 0, none⟩), s0, s1])) 37⟩ :: (T0 ++ (TA ++ (D0 ++ (TB ++ (S0 ++ S1)))))) u5 := by simpa only [List.append_assoc, List.cons_append, List.nil_append, List.append_nil] using M
          refine rV 5 ?_
          refine nT ?_
          refine sR ?_
          refine rV 2 ?_
          refine pH 188 (.bool true) (fun w => Eq.trans (b := .ok (.value (.bool (((pX y1 b1).oC nw u ss).toList == ((pX y1 b1).oC nw u ss).toList))) w) (by kernel_rfl) (by rw [beq_self_eq_true])) ?_
          refine rV 3 ?_
          refine pl_val (want_on 3 true rfl 189 rfl (by kernel_rfl)) (some 192) rfl (.bool true) (fun w => Eq.trans (b := .ok (.value (.bool (decide (((pX y1 b1).oE nw u ss) = ((pX y1 b1).oE nw u ss))))) w) (by kernel_rfl) (by rw [decide_eq_true (by omega)])) ?_
          refine rV 2 ?_
          refine nT ?_
          refine wp_ret ?_
          exact bodyPost_ret (v := .bool true) (results_tmp1 Tryz.results9 _ _ _ (by kernel_rfl)) (by kernel_rfl) ⟨_, rfl, ⟨p0, p1, d0, d1, y0, (jO y1 b1 nw u ss), b0, b1, s0, s1, L0, L1, T0, TA, D0, TB, S0, S1, rfl, H0, by rw [← pX_oX k1.k1]; exact HA, E0, HB, k0, (jO_dk k1 (by omega) (by omega)).1, Nat.le_succ_of_le q0, by have := (jO_dk (gn := b1) (n := nw) (i := u) (c := ss) k1 (by omega) (by omega)).2; omega, hS0, hS1, w0.up, w1.up⟩, (okT_of hR_ (M.drop (.cons _ (.cons _ (.cons_cons _ (List.Sublist.refl _))))))⟩


end Go.Proofs.YtenafinbaanicaaGreatDoor
namespace Go.Proofs.YtenafinbaanicaaGreatDoor
open Go.RowKit
set_option maxRecDepth 100000

def tot (Y : Nat → ByteArray) : Nat → Nat
  | 0 => 0
  | j + 1 => tot Y j + 8 + (Y j).size
theorem tot_succ (Y : Nat → ByteArray) (j : Nat) : ((tot Y j : Nat) : Int) + 8 + ((Y j).size : Int) = ((tot Y (j + 1) : Nat) : Int) := by
  show _ = ((tot Y j + 8 + (Y j).size : Nat) : Int)
  omega
theorem tot_ge (Y : Nat → ByteArray) : ∀ n j, j < n → (Y j).size + 8 ≤ tot Y n
  | 0, j, h => absurd h (by omega)
  | n + 1, j, h => by
    show _ ≤ tot Y n + 8 + (Y n).size
    by_cases e : j = n
    · subst e
      omega
    · have := tot_ge Y n j (by omega)
      omega
theorem tot_len (Y : Nat → ByteArray) : ∀ n, 8 * n ≤ tot Y n
  | 0 => by simp
  | n + 1 => by
    show _ ≤ tot Y n + 8 + (Y n).size
    have := tot_len Y n
    omega
theorem tot_mono (Y : Nat → ByteArray) : ∀ {i j : Nat}, i ≤ j → tot Y i ≤ tot Y j
  | i, 0, h => by
    have : i = 0 := by omega
    subst this
    exact Nat.le_refl _
  | i, j + 1, h => by
    by_cases e : i = j + 1
    · subst e
      exact Nat.le_refl _
    · have := tot_mono Y (show i ≤ j by omega)
      show _ ≤ tot Y j + 8 + (Y j).size
      omega
def hvB (Y : Nat → ByteArray) (n : Nat) : Bool := decide (4096 < tot Y n ∨ 100 < n)
theorem hv_no {Y : Nat → ByteArray} {n : Nat} (h : hvB Y n = false) : (∀ j, j < n → (Y j).size ≤ 4096) ∧ n ≤ 100 := by
  have h1 := of_decide_eq_false h
  refine ⟨fun j hj => ?_, by omega⟩
  have := tot_ge Y n j hj
  omega
theorem a_does {p c : Nat} {B : List Blk} (h : Pr p c B) (hc : c < 10000) {dd wh nn : Int} {at_ nw : Nat} {ss : ByteArray} (hat : at_ < 256) (hss : ss.size ≤ 4096) (hnw : nw < 18446744073709551616) (w : World) (hL : Laid w) (hT : There w B) :
    Calls Tryz.prog 9 #[.pointer (some ⟨p, 0, none⟩), .agg (av 6 (ls [.int .i64 dd, .int .u8 ((at_ : Nat) : Int), .string ss, .int .i64 wh, .int .i64 nn, .int .u64 (nw : Int)]))] w fun r w' => ∃ B', r = .returned (.bool true) ∧ Pr p (c + 1) B' ∧ OkT w w' B B' := by
  obtain ⟨p0, p1, d0, d1, y0, y1, b0, b1, s0, s1, L0, L1, T0, T1, D0, D1, S0, S1, rfl, H0, H1, E0, E1, k0, k1, q0, q1, hS0, hS1, w0, w1⟩ := h.out
  rcases Nat.mod_two_eq_zero_or_one at_ with hp | hp
  · exact c_does0 H0 H1 E0 E1 k0 k1 q0 q1 hS0 hS1 w0 w1 hc hat hp hss hnw w hL hT
  · exact c_does1 H0 H1 E0 E1 k0 k1 q0 q1 hS0 hS1 w0 w1 hc hat hp hss hnw w hL hT
theorem isD_su {d : Nat} {y : TS} {gn : Bool} {D : List Blk} (hI : IsD d y gn D) {w : World} (hT : There w D) : w.cell? ⟨d, 12, none⟩ = some (.bool y.su) := by
  obtain ⟨sv, Ts, rfl, hS⟩ := hI.out
  rw [cell_av (hT.at_ _ List.mem_cons_self) (by decide)]
  rfl
theorem isD_nx {d : Nat} {y : TS} {gn : Bool} {D : List Blk} (hI : IsD d y gn D) {w : World} (hT : There w D) : w.cell? ⟨d, 9, none⟩ = some (.int .u64 ((y.nx : Nat) : Int)) := by
  obtain ⟨sv, Ts, rfl, hS⟩ := hI.out
  rw [cell_av (hT.at_ _ List.mem_cons_self) (by decide)]
  rfl
theorem md_of {rc ct rk lf s : Nat} (h3 : mbB rc ct rk lf = true) (hs : 1 ≤ s) (hs4 : s ≤ 4096) : mdB rc ct rk lf (s : Int) = true := by
  unfold mdB
  rw [h3, decide_eq_true (by omega)]
  rfl
theorem md_no {rc ct rk lf : Nat} {z : Int} (h : ¬ (mbB rc ct rk lf = true ∧ 1 ≤ z ∧ z ≤ 4096)) : ¬ mdB rc ct rk lf z = true := fun e => by
  unfold mdB at e
  rw [Bool.and_eq_true] at e
  exact h ⟨e.1, of_decide_eq_true e.2⟩
theorem infoL {rc ct rk lf : Nat} (h : mbB rc ct rk lf = true) : 1 ≤ rc ∧ rc ≤ ct ∧ ct ≤ 1152921504606846976 ∧ 1 ≤ rk ∧ rk ≤ lf ∧ lf ≤ 1152921504606846976 := of_decide_eq_true h
set_option maxRecDepth 100000 in
set_option maxHeartbeats 4000000 in
set_option linter.unusedSimpArgs false in
theorem c_heavy (l4 : Option Addr) (b4 o4 n4 k4 : Nat) (Y : Nat → ByteArray) (hl4 : 0 < n4 → l4 = some ⟨b4, o4, none⟩) (hm4 : n4 ≤ 9223372036854775807) (hB : ∀ j, j < n4 → (Y j).size ≤ 140737488351232) (w : World) (hL : Laid w) (h2 : ∀ j, j < n4 → w.cell? ⟨b4, o4 + j * 6 + 2, none⟩ = some (.string (Y j))) :
    Calls Tryz.prog 5 #[.slice l4 n4 k4] w fun r w' => r = .returned (.bool (hvB Y n4)) ∧ Below w.heap.size w w' := by
  go_enter Tryz.func5, Tryz.ntmps5
  have M := Mem.start hL
  refine sq ?_
  refine sq ?_
  refine wp_seq ?_
  refine sq ?_
  refine wp_block ?_
  refine au_loop (fun j a w' => ∃ v1 : Nat → Value, a = (fm ([.slice l4 n4 k4, undef, .bool false, .int .i64 ((tot Y j : Nat) : Int), .int .i64 (j : Int)] ++ vr v1 5 19 ++ und 7)) ∧ Mem ⟨w, []⟩ [] w') n4 (exS M) ?_ ?_
  · intro j a u0 hj hI
    obtain ⟨v1, rfl, M⟩ := hI
    have hBj := hB j hj
    refine wp_seq ?_
    refine sR ?_
    refine rV 3 ?_
    refine ZT 8 ((j : Int) < (n4 : Int)) ?_
    refine rV 2 ?_
    by_cases c0 : 4096 < ((tot Y j : Nat) : Int)
    · skip
      refine pl_val (want_on 4 true rfl 9 rfl (by kernel_rfl)) (some 11) rfl (.bool false) (fun w => Eq.trans (b := .ok (.value (.bool (decide (((tot Y j : Nat) : Int) ≤ 4096)))) w) (by kernel_rfl) (by rw [decide_eq_false (by omega)])) ?_
      refine rV 1 ?_
      refine nT ?_
      refine wp_cond_false (by kernel_rfl) ?_
      refine wp_exit ?_
      refine au_then_exit ?_
      refine au_then_exit ?_
      refine au_block_exit ?_
      refine au_then ?_
      refine sR ?_
      refine rV 1 ?_
      refine pH 25 (.bool true) (jT (4096 < ((tot Y j : Nat) : Int)) (c0)) ?_
      refine rV 6 ?_
      refine nT ?_
      refine wp_ret ?_
      have e0 : hvB Y n4 = true := decide_eq_true (Or.inl (Nat.lt_of_lt_of_le (show 4096 < tot Y j by omega) (tot_mono Y (by omega))))
      exact bodyPost_ret (v := .bool true) (results_tmp1 Tryz.results5 _ _ _ (by kernel_rfl)) (by kernel_rfl) ⟨by rw [e0], below_grown M.old⟩
    · skip
      refine pl_val (want_on 4 true rfl 9 rfl (by kernel_rfl)) (some 11) rfl (.bool true) (fun w => Eq.trans (b := .ok (.value (.bool (decide (((tot Y j : Nat) : Int) ≤ 4096)))) w) (by kernel_rfl) (by rw [decide_eq_true (by omega)])) ?_
      refine rV 1 ?_
      refine nT ?_
      refine wp_cond_true (by kernel_rfl) ?_
      refine wp_skip ?_
      refine au_then ?_
      refine wp_seq ?_
      refine wp_block ?_
      refine rg_lit ?_
      refine rV 1 ?_
      refine pH 16 (.int .i64 (((tot Y j : Nat) : Int) + 8)) (fun w => Eq.trans (b := .ok (.value (.int .i64 (IntKind.wrap .i64 (((tot Y j : Nat) : Int) + 8)))) w) (by kernel_rfl) (by rw [wrap64 (by omega) (by omega)])) ?_
      refine rV 2 ?_
      refine pH 19 (.pointer (some ⟨b4, (o4 + j * 6), none⟩)) (run_ixK 27 45 6 Tryz.underlying27 inz45 _ _ rfl l4 b4 o4 n4 k4 (by kernel_rfl) (hl4 (by omega)) .i64 j (by kernel_rfl) (by omega)) ?_
      refine rV 1 ?_
      refine pE M 21 b4 ((o4 + j * 6) + 2) (.string (Y j)) (fun w M => M.oldc (h2 j (by omega)) (by simp)) ?_
      refine rV 1 ?_
      refine pH 23 (.int .i64 ((tot Y (j + 1) : Nat) : Int)) (fun w => Eq.trans (b := .ok (.value (.int .i64 (IntKind.wrap .i64 ((((tot Y j : Nat) : Int) + 8) + ((Y j).size : Int))))) w) (by kernel_rfl) (by rw [wrap64 (by omega) (by omega), tot_succ])) ?_
      refine rV 1 ?_
      refine pl_nil ?_
      refine au_block ?_
      refine au_then ?_
      refine rg_lit ?_
      refine rV 1 ?_
      refine pH 14 (.int .i64 ((j + 1 : Nat) : Int)) (fun w => Eq.trans (b := .ok (.value (.int .i64 (IntKind.wrap .i64 ((j : Int) + 1)))) w) (by kernel_rfl) (by rw [wrap64 (by omega) (by omega)]; rfl)) ?_
      refine rV 1 ?_
      refine nT ?_
      exact exS M
  · intro a u0 hI
    obtain ⟨v1, rfl, M⟩ := hI
    refine wp_seq ?_
    refine sR ?_
    refine rV 3 ?_
    refine ZF 8 ((n4 : Int) < (n4 : Int)) ?_
    refine rV 4 ?_
    refine nT ?_
    refine wp_cond_false (by kernel_rfl) ?_
    refine wp_exit ?_
    refine au_then_exit ?_
    refine au_then_exit ?_
    refine au_block_exit ?_
    refine au_then ?_
    refine sR ?_
    refine rV 1 ?_
    by_cases c0 : 4096 < ((tot Y n4 : Nat) : Int)
    · skip
      refine pH 25 (.bool true) (jT (4096 < ((tot Y n4 : Nat) : Int)) (c0)) ?_
      refine rV 6 ?_
      refine nT ?_
      refine wp_ret ?_
      have e0 : hvB Y n4 = true := decide_eq_true (by omega)
      exact bodyPost_ret (v := .bool true) (results_tmp1 Tryz.results5 _ _ _ (by kernel_rfl)) (by kernel_rfl) ⟨by rw [e0], below_grown M.old⟩
    · skip
      refine pH 25 (.bool false) (jF (4096 < ((tot Y n4 : Nat) : Int)) (c0)) ?_
      refine rV 3 ?_
      by_cases c1 : 100 < (n4 : Int)
      · skip
        refine pl_val (want_on 2 false rfl 26 rfl (by kernel_rfl)) (some 29) rfl (.bool true) (fun w => Eq.trans (b := .ok (.value (.bool (decide (100 < (n4 : Int))))) w) (by kernel_rfl) (by rw [decide_eq_true (c1)])) ?_
        refine rV 2 ?_
        refine nT ?_
        refine wp_ret ?_
        have e0 : hvB Y n4 = true := decide_eq_true (by omega)
        exact bodyPost_ret (v := .bool true) (results_tmp1 Tryz.results5 _ _ _ (by kernel_rfl)) (by kernel_rfl) ⟨by rw [e0], below_grown M.old⟩
      · skip
        refine pl_val (want_on 2 false rfl 26 rfl (by kernel_rfl)) (some 29) rfl (.bool false) (fun w => Eq.trans (b := .ok (.value (.bool (decide (100 < (n4 : Int))))) w) (by kernel_rfl) (by rw [decide_eq_false (c1)])) ?_
        refine rV 2 ?_
        refine nT ?_
        refine wp_ret ?_
        have e0 : hvB Y n4 = false := decide_eq_false (by omega)
        exact bodyPost_ret (v := .bool false) (results_tmp1 Tryz.results5 _ _ _ (by kernel_rfl)) (by kernel_rfl) ⟨by rw [e0], below_grown M.old⟩


end Go.Proofs.YtenafinbaanicaaGreatDoor
namespace Go.Proofs.YtenafinbaanicaaGreatDoor
open Go.RowKit
set_option maxRecDepth 100000

set_option maxRecDepth 100000 in
set_option maxHeartbeats 4000000 in
set_option linter.unusedSimpArgs false in
theorem c_playsB {y8 y9 sd rv y7 : ByteArray} {mt rc ct rk lf : Nat} (z1 : sd.size ≤ 140737488351232) (z2 : rv.size ≤ 140737488351232) {z : Int} (hz : sd.size = 32 → rv.size = 32 → ¬ (mbB rc ct rk lf = true ∧ 1 ≤ z ∧ z ≤ 4096)) (l4 : Option Addr) (b4 o4 n4 k4 : Nat) (Y : Nat → ByteArray) (hl4 : 0 < n4 → l4 = some ⟨b4, o4, none⟩) (hm4 : n4 ≤ 9223372036854775807) (hB : ∀ j, j < n4 → (Y j).size ≤ 140737488351232) (w : World) (hL : Laid w) (h2 : ∀ j, j < n4 → w.cell? ⟨b4, o4 + j * 6 + 2, none⟩ = some (.string (Y j))) :
    Calls Tryz.prog 3 #[.agg (av 5 (ls [.string y8, .string y9, .string sd, .string rv, .string y7])), .int .u64 (mt : Int), .agg (av 5 (ls [.int .u64 (rc : Int), .int .u64 (ct : Int), .int .u64 (rk : Int), .int .u64 (lf : Int), .int .i64 z])), .slice l4 n4 k4] w fun r w' => r = .returned (.bool true) ∧ Below w.heap.size w w' := by
  go_enter Tryz.func3, Tryz.ntmps3
  have M := Mem.start hL
  refine sR ?_
  refine pN M 4 (.cells (av 5 (ls [.string y8, .string y9, .string sd, .string rv, .string y7])) 23) fun g1 u1 M => ?_
  replace M : Mem ⟨w, []⟩ [⟨g1, .cells (av 5 (ls [.string y8, .string y9, .string sd, .string rv, .string y7])) 23⟩] u1 := M
  refine pN M 6 (.cells (av 5 (ls [.int .u64 (rc : Int), .int .u64 (ct : Int), .int .u64 (rk : Int), .int .u64 (lf : Int), .int .i64 z])) 26) fun g2 u2 M => ?_
  replace M : Mem ⟨w, []⟩ [⟨g1, .cells (av 5 (ls [.string y8, .string y9, .string sd, .string rv, .string y7])) 23⟩, ⟨g2, .cells (av 5 (ls [.int .u64 (rc : Int), .int .u64 (ct : Int), .int .u64 (rk : Int), .int .u64 (lf : Int), .int .i64 z])) 26⟩] u2 := M
  refine rV 1 ?_
  refine nT ?_
  refine wp_seq ?_
  refine sR ?_
  refine rV 1 ?_
  rcases Bool.eq_false_or_eq_true (hvB Y n4) with c0 | c0
  · skip
    refine pC M 21 5 #[.slice l4 n4 k4] (.bool true) (fun w M => call_val (c_heavy l4 b4 o4 n4 k4 Y hl4 hm4 hB w M.laid (fun j hj => M.oldc (h2 j hj) (by simp))) (congrArg Value.bool c0)) fun u3 M => ?_
    refine rV 10 ?_
    refine nT ?_
    refine wp_cond_true (by kernel_rfl) ?_
    refine sR ?_
    refine ZC M 32 (fun w M => c_alive w M.laid) fun u4 M => ?_
    refine rV 1 ?_
    refine nT ?_
    refine wp_ret ?_
    refine au_then_ret ?_
    exact b1 M
  · skip
    refine pC M 21 5 #[.slice l4 n4 k4] (.bool false) (fun w M => call_val (c_heavy l4 b4 o4 n4 k4 Y hl4 hm4 hB w M.laid (fun j hj => M.oldc (h2 j hj) (by simp))) (congrArg Value.bool c0)) fun u3 M => ?_
    refine rV 2 ?_
    refine pl_cell M (want_on 2 false rfl 22 rfl (by kernel_rfl)) (some 24) rfl 9 _ rfl g1 2 (by kernel_rfl) (.string sd) (fun _ => by kernel_rfl) (fun w M => M.cell 0 rfl (by decide) rfl) ?_
    refine rV 2 ?_
    refine pl_cell M (want_on 2 false rfl 22 rfl (by kernel_rfl)) (some 27) rfl 9 _ rfl g1 3 (by kernel_rfl) (.string rv) (fun _ => by kernel_rfl) (fun w M => M.cell 0 rfl (by decide) rfl) ?_
    refine rV 1 ?_
    refine pl_val (want_on 2 false rfl 22 rfl (by kernel_rfl)) (some 29) rfl (.int .i64 ((sd.size : Int) + (rv.size : Int))) (fun w => Eq.trans (b := .ok (.value (.int .i64 (IntKind.wrap .i64 ((sd.size : Int) + (rv.size : Int))))) w) (by kernel_rfl) (by rw [wrap64 (by omega) (by omega)])) ?_
    by_cases c1 : 4096 < ((sd.size : Int) + (rv.size : Int))
    · skip
      refine pl_val (want_on 2 false rfl 22 rfl (by kernel_rfl)) (some 30) rfl (.bool true) (fun w => Eq.trans (b := .ok (.value (.bool (decide (4096 < ((sd.size : Int) + (rv.size : Int)))))) w) (by kernel_rfl) (by rw [decide_eq_true (c1)])) ?_
      refine rV 1 ?_
      refine nT ?_
      refine wp_cond_true (by kernel_rfl) ?_
      refine sR ?_
      refine ZC M 32 (fun w M => c_alive w M.laid) fun u4 M => ?_
      refine rV 1 ?_
      refine nT ?_
      refine wp_ret ?_
      refine au_then_ret ?_
      exact b1 M
    · skip
      refine pl_val (want_on 2 false rfl 22 rfl (by kernel_rfl)) (some 30) rfl (.bool false) (fun w => Eq.trans (b := .ok (.value (.bool (decide (4096 < ((sd.size : Int) + (rv.size : Int)))))) w) (by kernel_rfl) (by rw [decide_eq_false (c1)])) ?_
      refine rV 1 ?_
      refine nT ?_
      refine wp_cond_false (by kernel_rfl) ?_
      refine wp_skip ?_
      refine au_then ?_
      refine sR ?_
      refine pN M 9 (.cells (av 6 (ls [.pointer none, .pointer none, .pointer none, .pointer none, .slice none 0 0, .slice none 0 0])) 37) fun g3 u4 M => ?_
      replace M : Mem ⟨w, []⟩ [⟨g1, .cells (av 5 (ls [.string y8, .string y9, .string sd, .string rv, .string y7])) 23⟩, ⟨g2, .cells (av 5 (ls [.int .u64 (rc : Int), .int .u64 (ct : Int), .int .u64 (rk : Int), .int .u64 (lf : Int), .int .i64 z])) 26⟩, ⟨g3, .cells (av 6 (ls [.pointer none, .pointer none, .pointer none, .pointer none, .slice none 0 0, .slice none 0 0])) 37⟩] u4 := M
      refine nT ?_
      refine wp_seq ?_
      refine sq ?_
      refine wp_block ?_
      refine wp_loop_rounds 2 ?_
      refine rounds_go ?_
      refine wp_seq ?_
      refine sq ?_
      refine wp_cond_true (by kernel_rfl) ?_
      refine wp_skip ?_
      refine au_then ?_
      refine wp_seq ?_
      refine wp_block ?_
      refine sR ?_
      refine pA M 37 0 5 (ls [.string y8, .string y9, .string sd, .string rv, .string y7]) ?_
      refine pN M 11 (.cells (av 5 (ls [.string ⟨#[]⟩, .string ⟨#[]⟩, .string ⟨#[]⟩, .string ⟨#[]⟩, .string ⟨#[]⟩])) 23) fun g4 u5 M => ?_
      replace M : Mem ⟨w, []⟩ [⟨g1, .cells (av 5 (ls [.string y8, .string y9, .string sd, .string rv, .string y7])) 23⟩, ⟨g2, .cells (av 5 (ls [.int .u64 (rc : Int), .int .u64 (ct : Int), .int .u64 (rk : Int), .int .u64 (lf : Int), .int .i64 z])) 26⟩, ⟨g3, .cells (av 6 (ls [.pointer none, .pointer none, .pointer none, .pointer none, .slice none 0 0, .slice none 0 0])) 37⟩, ⟨g4, .cells (av 5 (ls [.string ⟨#[]⟩, .string ⟨#[]⟩, .string ⟨#[]⟩, .string ⟨#[]⟩, .string ⟨#[]⟩])) 23⟩] u5 := M
      refine pl_put M (want_no rfl) rfl 23 _ _ rfl 3 g4 0 (by kernel_rfl) 5 23 (ls [.string ⟨#[]⟩, .string ⟨#[]⟩, .string ⟨#[]⟩, .string ⟨#[]⟩, .string ⟨#[]⟩]) rfl 5 (ls [.string y8, .string y9, .string sd, .string rv, .string y7]) (ls [.string y8, .string y9, .string sd, .string rv, .string y7]) (by kernel_rfl) inz23 (by decide) (one_ls _ rfl) (fun j hj => by rw [if_pos (by omega), Nat.sub_zero]) fun u6 M => ?_
      replace M : Mem ⟨w, []⟩ [⟨g1, .cells (av 5 (ls [.string y8, .string y9, .string sd, .string rv, .string y7])) 23⟩, ⟨g2, .cells (av 5 (ls [.int .u64 (rc : Int), .int .u64 (ct : Int), .int .u64 (rk : Int), .int .u64 (lf : Int), .int .i64 z])) 26⟩, ⟨g3, .cells (av 6 (ls [.pointer none, .pointer none, .pointer none, .pointer none, .slice none 0 0, .slice none 0 0])) 37⟩, ⟨g4, .cells (av 5 (ls [.string y8, .string y9, .string sd, .string rv, .string y7])) 23⟩] u6 := M
      refine nT ?_
      refine wp_seq ?_
      refine sq ?_
      refine wp_cond_false (by kernel_rfl) ?_
      refine wp_skip ?_
      refine au_then ?_
      refine sR ?_
      refine pA M 47 3 5 (ls [.string y8, .string y9, .string sd, .string rv, .string y7]) ?_
      refine rV 3 ?_
      refine pA M 51 1 5 (ls [.int .u64 (rc : Int), .int .u64 (ct : Int), .int .u64 (rk : Int), .int .u64 (lf : Int), .int .i64 z]) ?_
      refine ZC M 52 (fun w M => c_TNewE (y0 := y8) (y1 := y9) (sd := sd) (rv := rv) (y4 := y7) (fi := true) (mt := mt) (rc := rc) (ct := ct) (rk := rk) (lf := lf) (z := z) (fun e1 e2 h => Classical.byContradiction fun hc => hz e1 e2 ⟨h, by omega, by omega⟩) w M.laid) fun u7 M => ?_
      refine rV 5 ?_
      refine nT ?_
      refine sR ?_
      refine pA M 56 3 5 (ls [.string y8, .string y9, .string sd, .string rv, .string y7]) ?_
      refine rV 3 ?_
      refine pA M 60 1 5 (ls [.int .u64 (rc : Int), .int .u64 (ct : Int), .int .u64 (rk : Int), .int .u64 (lf : Int), .int .i64 z]) ?_
      refine ZC M 61 (fun w M => d_NewE (y0 := y8) (y1 := y9) (sd := sd) (rv := rv) (y4 := y7) (fi := true) (mt := mt) (rc := rc) (ct := ct) (rk := rk) (lf := lf) (z := z) (fun e1 e2 => md_no (hz e1 e2)) w M.laid) fun u8 M => ?_
      refine rV 5 ?_
      refine nT ?_
      refine wp_seq ?_
      refine sq ?_
      refine wp_cond_false (by kernel_rfl) ?_
      refine wp_skip ?_
      refine au_then ?_
      refine wp_seq ?_
      refine sq ?_
      refine wp_cond_true (by kernel_rfl) ?_
      refine sR ?_
      refine ZC M 76 (fun w M => c_alive w M.laid) fun u9 M => ?_
      refine rV 1 ?_
      refine nT ?_
      refine wp_ret ?_
      refine au_then_ret ?_
      refine au_block_ret ?_
      refine au_then_ret ?_
      refine au_then_ret ?_
      refine au_block_ret ?_
      refine au_then_ret ?_
      exact b1 M

set_option maxRecDepth 100000 in
set_option maxHeartbeats 4000000 in
set_option linter.unusedSimpArgs false in
theorem c_plays {y8 y9 sd rv y7 : ByteArray} {mt rc ct rk lf : Nat} {s : Nat} (h32 : sd.size = 32) (g32 : rv.size = 32) (hmb : mbB rc ct rk lf = true) (hs : 1 ≤ s) (hs4 : s ≤ 4096) (l4 : Option Addr) (b4 o4 n4 k4 : Nat) (Dd Wh Nn : Nat → Int) (At Nw : Nat → Nat) (Y : Nat → ByteArray) (hl4 : 0 < n4 → l4 = some ⟨b4, o4, none⟩) (hm4 : n4 ≤ 9223372036854775807) (hB : ∀ j, j < n4 → (Y j).size ≤ 140737488351232) (hA : ∀ j, j < n4 → At j < 256) (hN : ∀ j, j < n4 → Nw j < 18446744073709551616) (w : World) (hL : Laid w) (h0 : ∀ j, j < n4 → w.cell? ⟨b4, o4 + j * 6 + 0, none⟩ = some (.int .i64 (Dd j))) (h1 : ∀ j, j < n4 → w.cell? ⟨b4, o4 + j * 6 + 1, none⟩ = some (.int .u8 ((At j : Nat) : Int))) (h2 : ∀ j, j < n4 → w.cell? ⟨b4, o4 + j * 6 + 2, none⟩ = some (.string (Y j))) (h3 : ∀ j, j < n4 → w.cell? ⟨b4, o4 + j * 6 + 3, none⟩ = some (.int .i64 (Wh j))) (h4 : ∀ j, j < n4 → w.cell? ⟨b4, o4 + j * 6 + 4, none⟩ = some (.int .i64 (Nn j))) (h5 : ∀ j, j < n4 → w.cell? ⟨b4, o4 + j * 6 + 5, none⟩ = some (.int .u64 ((Nw j : Nat) : Int))) :
    Calls Tryz.prog 3 #[.agg (av 5 (ls [.string y8, .string y9, .string sd, .string rv, .string y7])), .int .u64 (mt : Int), .agg (av 5 (ls [.int .u64 (rc : Int), .int .u64 (ct : Int), .int .u64 (rk : Int), .int .u64 (lf : Int), .int .i64 (s : Int)])), .slice l4 n4 k4] w fun r w' => r = .returned (.bool true) ∧ Below w.heap.size w w' := by
  go_enter Tryz.func3, Tryz.ntmps3
  have M := Mem.start hL
  obtain ⟨m1, m2, m3, m4, m5, m6⟩ := infoL hmb
  refine sR ?_
  refine pN M 4 (.cells (av 5 (ls [.string y8, .string y9, .string sd, .string rv, .string y7])) 23) fun g1 u1 M => ?_
  replace M : Mem ⟨w, []⟩ [⟨g1, .cells (av 5 (ls [.string y8, .string y9, .string sd, .string rv, .string y7])) 23⟩] u1 := M
  refine pN M 6 (.cells (av 5 (ls [.int .u64 (rc : Int), .int .u64 (ct : Int), .int .u64 (rk : Int), .int .u64 (lf : Int), .int .i64 (s : Int)])) 26) fun g2 u2 M => ?_
  replace M : Mem ⟨w, []⟩ [⟨g1, .cells (av 5 (ls [.string y8, .string y9, .string sd, .string rv, .string y7])) 23⟩, ⟨g2, .cells (av 5 (ls [.int .u64 (rc : Int), .int .u64 (ct : Int), .int .u64 (rk : Int), .int .u64 (lf : Int), .int .i64 (s : Int)])) 26⟩] u2 := M
  refine rV 1 ?_
  refine nT ?_
  refine wp_seq ?_
  refine sR ?_
  refine rV 1 ?_
  rcases Bool.eq_false_or_eq_true (hvB Y n4) with c0 | c0
  · skip
    refine pC M 21 5 #[.slice l4 n4 k4] (.bool true) (fun w M => call_val (c_heavy l4 b4 o4 n4 k4 Y hl4 hm4 hB w M.laid (fun j hj => M.oldc (h2 j hj) (by simp))) (congrArg Value.bool c0)) fun u3 M => ?_
    refine rV 10 ?_
    refine nT ?_
    refine wp_cond_true (by kernel_rfl) ?_
    refine sR ?_
    refine ZC M 32 (fun w M => c_alive w M.laid) fun u4 M => ?_
    refine rV 1 ?_
    refine nT ?_
    refine wp_ret ?_
    refine au_then_ret ?_
    exact b1 M
  · skip
    refine pC M 21 5 #[.slice l4 n4 k4] (.bool false) (fun w M => call_val (c_heavy l4 b4 o4 n4 k4 Y hl4 hm4 hB w M.laid (fun j hj => M.oldc (h2 j hj) (by simp))) (congrArg Value.bool c0)) fun u3 M => ?_
    refine rV 2 ?_
    refine pl_cell M (want_on 2 false rfl 22 rfl (by kernel_rfl)) (some 24) rfl 9 _ rfl g1 2 (by kernel_rfl) (.string sd) (fun _ => by kernel_rfl) (fun w M => M.cell 0 rfl (by decide) rfl) ?_
    refine rV 2 ?_
    refine pl_cell M (want_on 2 false rfl 22 rfl (by kernel_rfl)) (some 27) rfl 9 _ rfl g1 3 (by kernel_rfl) (.string rv) (fun _ => by kernel_rfl) (fun w M => M.cell 0 rfl (by decide) rfl) ?_
    refine rV 1 ?_
    refine pl_val (want_on 2 false rfl 22 rfl (by kernel_rfl)) (some 29) rfl (.int .i64 ((sd.size : Int) + (rv.size : Int))) (fun w => Eq.trans (b := .ok (.value (.int .i64 (IntKind.wrap .i64 ((sd.size : Int) + (rv.size : Int))))) w) (by kernel_rfl) (by rw [wrap64 (by omega) (by omega)])) ?_
    by_cases c1 : 4096 < ((sd.size : Int) + (rv.size : Int))
    · exfalso; omega
    · skip
      refine pl_val (want_on 2 false rfl 22 rfl (by kernel_rfl)) (some 30) rfl (.bool false) (fun w => Eq.trans (b := .ok (.value (.bool (decide (4096 < ((sd.size : Int) + (rv.size : Int)))))) w) (by kernel_rfl) (by rw [decide_eq_false (c1)])) ?_
      refine rV 1 ?_
      refine nT ?_
      refine wp_cond_false (by kernel_rfl) ?_
      refine wp_skip ?_
      refine au_then ?_
      refine sR ?_
      refine pN M 9 (.cells (av 6 (ls [.pointer none, .pointer none, .pointer none, .pointer none, .slice none 0 0, .slice none 0 0])) 37) fun g3 u4 M => ?_
      replace M : Mem ⟨w, []⟩ [⟨g1, .cells (av 5 (ls [.string y8, .string y9, .string sd, .string rv, .string y7])) 23⟩, ⟨g2, .cells (av 5 (ls [.int .u64 (rc : Int), .int .u64 (ct : Int), .int .u64 (rk : Int), .int .u64 (lf : Int), .int .i64 (s : Int)])) 26⟩, ⟨g3, .cells (av 6 (ls [.pointer none, .pointer none, .pointer none, .pointer none, .slice none 0 0, .slice none 0 0])) 37⟩] u4 := M
      refine nT ?_
      refine wp_seq ?_
      refine sq ?_
      refine wp_block ?_
      refine wp_loop_rounds 3 ?_
      refine rounds_go ?_
      refine wp_seq ?_
      refine sq ?_
      refine wp_cond_true (by kernel_rfl) ?_
      refine wp_skip ?_
      refine au_then ?_
      refine wp_seq ?_
      refine wp_block ?_
      refine sR ?_
      refine pA M 37 0 5 (ls [.string y8, .string y9, .string sd, .string rv, .string y7]) ?_
      refine pN M 11 (.cells (av 5 (ls [.string ⟨#[]⟩, .string ⟨#[]⟩, .string ⟨#[]⟩, .string ⟨#[]⟩, .string ⟨#[]⟩])) 23) fun g4 u5 M => ?_
      replace M : Mem ⟨w, []⟩ [⟨g1, .cells (av 5 (ls [.string y8, .string y9, .string sd, .string rv, .string y7])) 23⟩, ⟨g2, .cells (av 5 (ls [.int .u64 (rc : Int), .int .u64 (ct : Int), .int .u64 (rk : Int), .int .u64 (lf : Int), .int .i64 (s : Int)])) 26⟩, ⟨g3, .cells (av 6 (ls [.pointer none, .pointer none, .pointer none, .pointer none, .slice none 0 0, .slice none 0 0])) 37⟩, ⟨g4, .cells (av 5 (ls [.string ⟨#[]⟩, .string ⟨#[]⟩, .string ⟨#[]⟩, .string ⟨#[]⟩, .string ⟨#[]⟩])) 23⟩] u5 := M
      refine pl_put M (want_no rfl) rfl 23 _ _ rfl 3 g4 0 (by kernel_rfl) 5 23 (ls [.string ⟨#[]⟩, .string ⟨#[]⟩, .string ⟨#[]⟩, .string ⟨#[]⟩, .string ⟨#[]⟩]) rfl 5 (ls [.string y8, .string y9, .string sd, .string rv, .string y7]) (ls [.string y8, .string y9, .string sd, .string rv, .string y7]) (by kernel_rfl) inz23 (by decide) (one_ls _ rfl) (fun j hj => by rw [if_pos (by omega), Nat.sub_zero]) fun u6 M => ?_
      replace M : Mem ⟨w, []⟩ [⟨g1, .cells (av 5 (ls [.string y8, .string y9, .string sd, .string rv, .string y7])) 23⟩, ⟨g2, .cells (av 5 (ls [.int .u64 (rc : Int), .int .u64 (ct : Int), .int .u64 (rk : Int), .int .u64 (lf : Int), .int .i64 (s : Int)])) 26⟩, ⟨g3, .cells (av 6 (ls [.pointer none, .pointer none, .pointer none, .pointer none, .slice none 0 0, .slice none 0 0])) 37⟩, ⟨g4, .cells (av 5 (ls [.string y8, .string y9, .string sd, .string rv, .string y7])) 23⟩] u6 := M
      refine nT ?_
      refine wp_seq ?_
      refine sq ?_
      refine wp_cond_false (by kernel_rfl) ?_
      refine wp_skip ?_
      refine au_then ?_
      refine sR ?_
      refine pA M 47 3 5 (ls [.string y8, .string y9, .string sd, .string rv, .string y7]) ?_
      refine rV 3 ?_
      refine pA M 51 1 5 (ls [.int .u64 (rc : Int), .int .u64 (ct : Int), .int .u64 (rk : Int), .int .u64 (lf : Int), .int .i64 (s : Int)]) ?_
      refine pl_callM M (want_no rfl) (some 52) rfl 7 #[.agg (av 5 (ls [.string y8, .string y9, .string sd, .string rv, .string y7])), .bool true, .int .u64 (mt : Int), .agg (av 5 (ls [.int .u64 (rc : Int), .int .u64 (ct : Int), .int .u64 (rk : Int), .int .u64 (lf : Int), .int .i64 (s : Int)]))] [⟨g1, .cells (av 5 (ls [.string y8, .string y9, .string sd, .string rv, .string y7])) 23⟩, ⟨g2, .cells (av 5 (ls [.int .u64 (rc : Int), .int .u64 (ct : Int), .int .u64 (rk : Int), .int .u64 (lf : Int), .int .i64 (s : Int)])) 26⟩, ⟨g3, .cells (av 6 (ls [.pointer none, .pointer none, .pointer none, .pointer none, .slice none 0 0, .slice none 0 0])) 37⟩, ⟨g4, .cells (av 5 (ls [.string y8, .string y9, .string sd, .string rv, .string y7])) 23⟩] [] [] (by simp only [List.append_assoc, List.cons_append, List.nil_append, List.append_nil]) (fun x : Nat × List Blk => .tuple #[.pointer (some ⟨x.1, 0, none⟩), .int .i64 0]) (fun x : Nat × List Blk => x.2) (fun x : Nat × List Blk => IsT x.1 ⟨rc, ct, rk, lf, s, 0, mt, sd, rv, true, true, []⟩ x.2) (fun _ => by kernel_rfl) (fun w hL hT => a_New h32 g32 hmb hs hs4 w hL) ?_
      rintro ⟨p0, T0⟩ u7 H0 M
      replace M : Mem ⟨w, []⟩ (⟨g1, .cells (av 5 (ls [.string y8, .string y9, .string sd, .string rv, .string y7])) 23⟩ :: ⟨g2, .cells (av 5 (ls [.int .u64 (rc : Int), .int .u64 (ct : Int), .int .u64 (rk : Int), .int .u64 (lf : Int), .int .i64 (s : Int)])) 26⟩ :: ⟨g3, .cells (av 6 (ls [.pointer none, .pointer none, .pointer none, .pointer none, .slice none 0 0, .slice none 0 0])) 37⟩ :: ⟨g4, .cells (av 5 (ls [.string y8, .string y9, .string sd, .string rv, .string y7])) 23⟩ :: T0) u7 := by simpa only [List.append_assoc, List.cons_append, List.nil_append, List.append_nil] using M
      refine rV 5 ?_
      refine nT ?_
      refine sR ?_
      refine pA M 56 3 5 (ls [.string y8, .string y9, .string sd, .string rv, .string y7]) ?_
      refine rV 3 ?_
      refine pA M 60 1 5 (ls [.int .u64 (rc : Int), .int .u64 (ct : Int), .int .u64 (rk : Int), .int .u64 (lf : Int), .int .i64 (s : Int)]) ?_
      refine pl_callM M (want_no rfl) (some 61) rfl 8 #[.agg (av 5 (ls [.string y8, .string y9, .string sd, .string rv, .string y7])), .bool true, .int .u64 (mt : Int), .agg (av 5 (ls [.int .u64 (rc : Int), .int .u64 (ct : Int), .int .u64 (rk : Int), .int .u64 (lf : Int), .int .i64 (s : Int)]))] (⟨g1, .cells (av 5 (ls [.string y8, .string y9, .string sd, .string rv, .string y7])) 23⟩ :: ⟨g2, .cells (av 5 (ls [.int .u64 (rc : Int), .int .u64 (ct : Int), .int .u64 (rk : Int), .int .u64 (lf : Int), .int .i64 (s : Int)])) 26⟩ :: ⟨g3, .cells (av 6 (ls [.pointer none, .pointer none, .pointer none, .pointer none, .slice none 0 0, .slice none 0 0])) 37⟩ :: ⟨g4, .cells (av 5 (ls [.string y8, .string y9, .string sd, .string rv, .string y7])) 23⟩ :: T0) [] [] (by simp only [List.append_assoc, List.cons_append, List.nil_append, List.append_nil]) (fun x : Nat × List Blk => .tuple #[.pointer (some ⟨x.1, 0, none⟩), .int .i64 0]) (fun x : Nat × List Blk => x.2) (fun x : Nat × List Blk => IsD x.1 ⟨rc, ct, rk, lf, s, 0, mt, sd, rv, true, true, []⟩ false x.2) (fun _ => by kernel_rfl) (fun w hL hT => d_New h32 g32 (md_of hmb hs hs4) w hL) ?_
      rintro ⟨d0, D0⟩ u8 E0 M
      replace M : Mem ⟨w, []⟩ (⟨g1, .cells (av 5 (ls [.string y8, .string y9, .string sd, .string rv, .string y7])) 23⟩ :: ⟨g2, .cells (av 5 (ls [.int .u64 (rc : Int), .int .u64 (ct : Int), .int .u64 (rk : Int), .int .u64 (lf : Int), .int .i64 (s : Int)])) 26⟩ :: ⟨g3, .cells (av 6 (ls [.pointer none, .pointer none, .pointer none, .pointer none, .slice none 0 0, .slice none 0 0])) 37⟩ :: ⟨g4, .cells (av 5 (ls [.string y8, .string y9, .string sd, .string rv, .string y7])) 23⟩ :: (T0 ++ D0)) u8 := by simpa only [List.append_assoc, List.cons_append, List.nil_append, List.append_nil] using M
      refine rV 5 ?_
      refine nT ?_
      refine wp_seq ?_
      refine sq ?_
      refine wp_cond_false (by kernel_rfl) ?_
      refine wp_skip ?_
      refine au_then ?_
      refine wp_seq ?_
      refine sq ?_
      refine wp_cond_false (by kernel_rfl) ?_
      refine wp_skip ?_
      refine au_then ?_
      refine sR ?_
      refine rV 4 ?_
      refine pP M 2 rfl 0 (.pointer (some ⟨p0, 0, none⟩)) (ls [.pointer (some ⟨p0, 0, none⟩), .pointer none, .pointer none, .pointer none, .slice none 0 0, .slice none 0 0]) (by decide) (put_ls _ 0 _ _ rfl) fun u9 M => ?_
      replace M : Mem ⟨w, []⟩ (⟨g1, .cells (av 5 (ls [.string y8, .string y9, .string sd, .string rv, .string y7])) 23⟩ :: ⟨g2, .cells (av 5 (ls [.int .u64 (rc : Int), .int .u64 (ct : Int), .int .u64 (rk : Int), .int .u64 (lf : Int), .int .i64 (s : Int)])) 26⟩ :: ⟨g3, .cells (av 6 (ls [.pointer (some ⟨p0, 0, none⟩), .pointer none, .pointer none, .pointer none, .slice none 0 0, .slice none 0 0])) 37⟩ :: ⟨g4, .cells (av 5 (ls [.string y8, .string y9, .string sd, .string rv, .string y7])) 23⟩ :: (T0 ++ D0)) u9 := M
      refine nT ?_
      refine rg_lit ?_
      refine rV 4 ?_
      refine pP M 2 rfl 2 (.pointer (some ⟨d0, 0, none⟩)) (ls [.pointer (some ⟨p0, 0, none⟩), .pointer none, .pointer (some ⟨d0, 0, none⟩), .pointer none, .slice none 0 0, .slice none 0 0]) (by decide) (put_ls _ 2 _ _ rfl) fun u10 M => ?_
      replace M : Mem ⟨w, []⟩ (⟨g1, .cells (av 5 (ls [.string y8, .string y9, .string sd, .string rv, .string y7])) 23⟩ :: ⟨g2, .cells (av 5 (ls [.int .u64 (rc : Int), .int .u64 (ct : Int), .int .u64 (rk : Int), .int .u64 (lf : Int), .int .i64 (s : Int)])) 26⟩ :: ⟨g3, .cells (av 6 (ls [.pointer (some ⟨p0, 0, none⟩), .pointer none, .pointer (some ⟨d0, 0, none⟩), .pointer none, .slice none 0 0, .slice none 0 0])) 37⟩ :: ⟨g4, .cells (av 5 (ls [.string y8, .string y9, .string sd, .string rv, .string y7])) 23⟩ :: (T0 ++ D0)) u10 := M
      refine pl_nil ?_
      refine au_block ?_
      refine au_then ?_
      refine rg_lit ?_
      refine rV 3 ?_
      refine nT ?_
      refine rounds_go ?_
      refine wp_seq ?_
      refine sq ?_
      refine wp_cond_true (by kernel_rfl) ?_
      refine wp_skip ?_
      refine au_then ?_
      refine wp_seq ?_
      refine wp_block ?_
      refine sR ?_
      refine pA M 37 0 5 (ls [.string y8, .string y9, .string sd, .string rv, .string y7]) ?_
      refine pN M 11 (.cells (av 5 (ls [.string ⟨#[]⟩, .string ⟨#[]⟩, .string ⟨#[]⟩, .string ⟨#[]⟩, .string ⟨#[]⟩])) 23) fun g5 u11 M => ?_
      replace M := M.front
      replace M : Mem ⟨w, []⟩ (⟨g5, .cells (av 5 (ls [.string ⟨#[]⟩, .string ⟨#[]⟩, .string ⟨#[]⟩, .string ⟨#[]⟩, .string ⟨#[]⟩])) 23⟩ :: ⟨g1, .cells (av 5 (ls [.string y8, .string y9, .string sd, .string rv, .string y7])) 23⟩ :: ⟨g2, .cells (av 5 (ls [.int .u64 (rc : Int), .int .u64 (ct : Int), .int .u64 (rk : Int), .int .u64 (lf : Int), .int .i64 (s : Int)])) 26⟩ :: ⟨g3, .cells (av 6 (ls [.pointer (some ⟨p0, 0, none⟩), .pointer none, .pointer (some ⟨d0, 0, none⟩), .pointer none, .slice none 0 0, .slice none 0 0])) 37⟩ :: ⟨g4, .cells (av 5 (ls [.string y8, .string y9, .string sd, .string rv, .string y7])) 23⟩ :: (T0 ++ D0)) u11 := M
      refine pl_put M (want_no rfl) rfl 23 _ _ rfl 0 g5 0 (by kernel_rfl) 5 23 (ls [.string ⟨#[]⟩, .string ⟨#[]⟩, .string ⟨#[]⟩, .string ⟨#[]⟩, .string ⟨#[]⟩]) rfl 5 (ls [.string y8, .string y9, .string sd, .string rv, .string y7]) (ls [.string y8, .string y9, .string sd, .string rv, .string y7]) (by kernel_rfl) inz23 (by decide) (one_ls _ rfl) (fun j hj => by rw [if_pos (by omega), Nat.sub_zero]) fun u12 M => ?_
      replace M : Mem ⟨w, []⟩ (⟨g5, .cells (av 5 (ls [.string y8, .string y9, .string sd, .string rv, .string y7])) 23⟩ :: ⟨g1, .cells (av 5 (ls [.string y8, .string y9, .string sd, .string rv, .string y7])) 23⟩ :: ⟨g2, .cells (av 5 (ls [.int .u64 (rc : Int), .int .u64 (ct : Int), .int .u64 (rk : Int), .int .u64 (lf : Int), .int .i64 (s : Int)])) 26⟩ :: ⟨g3, .cells (av 6 (ls [.pointer (some ⟨p0, 0, none⟩), .pointer none, .pointer (some ⟨d0, 0, none⟩), .pointer none, .slice none 0 0, .slice none 0 0])) 37⟩ :: ⟨g4, .cells (av 5 (ls [.string y8, .string y9, .string sd, .string rv, .string y7])) 23⟩ :: (T0 ++ D0)) u12 := M
      refine nT ?_
      refine wp_seq ?_
      refine sq ?_
      refine wp_cond_true (by kernel_rfl) ?_
      refine sR ?_
      refine rV 1 ?_
      refine ZE M 41 1 3 ?_
      refine rV 1 ?_
      refine pP M 0 rfl 2 (.string rv) (ls [.string y8, .string y9, .string rv, .string rv, .string y7]) (by decide) (put_ls _ 2 _ _ rfl) fun u13 M => ?_
      replace M : Mem ⟨w, []⟩ (⟨g5, .cells (av 5 (ls [.string y8, .string y9, .string rv, .string rv, .string y7])) 23⟩ :: ⟨g1, .cells (av 5 (ls [.string y8, .string y9, .string sd, .string rv, .string y7])) 23⟩ :: ⟨g2, .cells (av 5 (ls [.int .u64 (rc : Int), .int .u64 (ct : Int), .int .u64 (rk : Int), .int .u64 (lf : Int), .int .i64 (s : Int)])) 26⟩ :: ⟨g3, .cells (av 6 (ls [.pointer (some ⟨p0, 0, none⟩), .pointer none, .pointer (some ⟨d0, 0, none⟩), .pointer none, .slice none 0 0, .slice none 0 0])) 37⟩ :: ⟨g4, .cells (av 5 (ls [.string y8, .string y9, .string sd, .string rv, .string y7])) 23⟩ :: (T0 ++ D0)) u13 := M
      refine nT ?_
      refine rg_lit ?_
      refine rV 1 ?_
      refine ZE M 44 1 2 ?_
      refine rV 1 ?_
      refine pP M 0 rfl 3 (.string sd) (ls [.string y8, .string y9, .string rv, .string sd, .string y7]) (by decide) (put_ls _ 3 _ _ rfl) fun u14 M => ?_
      replace M : Mem ⟨w, []⟩ (⟨g5, .cells (av 5 (ls [.string y8, .string y9, .string rv, .string sd, .string y7])) 23⟩ :: ⟨g1, .cells (av 5 (ls [.string y8, .string y9, .string sd, .string rv, .string y7])) 23⟩ :: ⟨g2, .cells (av 5 (ls [.int .u64 (rc : Int), .int .u64 (ct : Int), .int .u64 (rk : Int), .int .u64 (lf : Int), .int .i64 (s : Int)])) 26⟩ :: ⟨g3, .cells (av 6 (ls [.pointer (some ⟨p0, 0, none⟩), .pointer none, .pointer (some ⟨d0, 0, none⟩), .pointer none, .slice none 0 0, .slice none 0 0])) 37⟩ :: ⟨g4, .cells (av 5 (ls [.string y8, .string y9, .string sd, .string rv, .string y7])) 23⟩ :: (T0 ++ D0)) u14 := M
      refine nT ?_
      refine sR ?_
      refine pA M 47 0 5 (ls [.string y8, .string y9, .string rv, .string sd, .string y7]) ?_
      refine rV 3 ?_
      refine pA M 51 2 5 (ls [.int .u64 (rc : Int), .int .u64 (ct : Int), .int .u64 (rk : Int), .int .u64 (lf : Int), .int .i64 (s : Int)]) ?_
      refine pl_callM M (want_no rfl) (some 52) rfl 7 #[.agg (av 5 (ls [.string y8, .string y9, .string rv, .string sd, .string y7])), .bool false, .int .u64 (mt : Int), .agg (av 5 (ls [.int .u64 (rc : Int), .int .u64 (ct : Int), .int .u64 (rk : Int), .int .u64 (lf : Int), .int .i64 (s : Int)]))] (⟨g5, .cells (av 5 (ls [.string y8, .string y9, .string rv, .string sd, .string y7])) 23⟩ :: ⟨g1, .cells (av 5 (ls [.string y8, .string y9, .string sd, .string rv, .string y7])) 23⟩ :: ⟨g2, .cells (av 5 (ls [.int .u64 (rc : Int), .int .u64 (ct : Int), .int .u64 (rk : Int), .int .u64 (lf : Int), .int .i64 (s : Int)])) 26⟩ :: ⟨g3, .cells (av 6 (ls [.pointer (some ⟨p0, 0, none⟩), .pointer none, .pointer (some ⟨d0, 0, none⟩), .pointer none, .slice none 0 0, .slice none 0 0])) 37⟩ :: ⟨g4, .cells (av 5 (ls [.string y8, .string y9, .string sd, .string rv, .string y7])) 23⟩ :: T0) [] (D0) (by simp only [List.append_assoc, List.cons_append, List.nil_append, List.append_nil]) (fun x : Nat × List Blk => .tuple #[.pointer (some ⟨x.1, 0, none⟩), .int .i64 0]) (fun x : Nat × List Blk => x.2) (fun x : Nat × List Blk => IsT x.1 ⟨rc, ct, rk, lf, s, 0, mt, rv, sd, false, false, []⟩ x.2) (fun _ => by kernel_rfl) (fun w hL hT => a_New g32 h32 hmb hs hs4 w hL) ?_
      rintro ⟨p1, T1⟩ u15 H1 M
      replace M : Mem ⟨w, []⟩ (⟨g5, .cells (av 5 (ls [.string y8, .string y9, .string rv, .string sd, .string y7])) 23⟩ :: ⟨g1, .cells (av 5 (ls [.string y8, .string y9, .string sd, .string rv, .string y7])) 23⟩ :: ⟨g2, .cells (av 5 (ls [.int .u64 (rc : Int), .int .u64 (ct : Int), .int .u64 (rk : Int), .int .u64 (lf : Int), .int .i64 (s : Int)])) 26⟩ :: ⟨g3, .cells (av 6 (ls [.pointer (some ⟨p0, 0, none⟩), .pointer none, .pointer (some ⟨d0, 0, none⟩), .pointer none, .slice none 0 0, .slice none 0 0])) 37⟩ :: ⟨g4, .cells (av 5 (ls [.string y8, .string y9, .string sd, .string rv, .string y7])) 23⟩ :: (T0 ++ (T1 ++ D0))) u15 := by simpa only [List.append_assoc, List.cons_append, List.nil_append, List.append_nil] using M
      refine rV 5 ?_
      refine nT ?_
      refine sR ?_
      refine pA M 56 0 5 (ls [.string y8, .string y9, .string rv, .string sd, .string y7]) ?_
      refine rV 3 ?_
      refine pA M 60 2 5 (ls [.int .u64 (rc : Int), .int .u64 (ct : Int), .int .u64 (rk : Int), .int .u64 (lf : Int), .int .i64 (s : Int)]) ?_
      refine pl_callM M (want_no rfl) (some 61) rfl 8 #[.agg (av 5 (ls [.string y8, .string y9, .string rv, .string sd, .string y7])), .bool false, .int .u64 (mt : Int), .agg (av 5 (ls [.int .u64 (rc : Int), .int .u64 (ct : Int), .int .u64 (rk : Int), .int .u64 (lf : Int), .int .i64 (s : Int)]))] (⟨g5, .cells (av 5 (ls [.string y8, .string y9, .string rv, .string sd, .string y7])) 23⟩ :: ⟨g1, .cells (av 5 (ls [.string y8, .string y9, .string sd, .string rv, .string y7])) 23⟩ :: ⟨g2, .cells (av 5 (ls [.int .u64 (rc : Int), .int .u64 (ct : Int), .int .u64 (rk : Int), .int .u64 (lf : Int), .int .i64 (s : Int)])) 26⟩ :: ⟨g3, .cells (av 6 (ls [.pointer (some ⟨p0, 0, none⟩), .pointer none, .pointer (some ⟨d0, 0, none⟩), .pointer none, .slice none 0 0, .slice none 0 0])) 37⟩ :: ⟨g4, .cells (av 5 (ls [.string y8, .string y9, .string sd, .string rv, .string y7])) 23⟩ :: (T0 ++ (T1 ++ D0))) [] [] (by simp only [List.append_assoc, List.cons_append, List.nil_append, List.append_nil]) (fun x : Nat × List Blk => .tuple #[.pointer (some ⟨x.1, 0, none⟩), .int .i64 0]) (fun x : Nat × List Blk => x.2) (fun x : Nat × List Blk => IsD x.1 ⟨rc, ct, rk, lf, s, 0, mt, rv, sd, false, false, []⟩ false x.2) (fun _ => by kernel_rfl) (fun w hL hT => d_New g32 h32 (md_of hmb hs hs4) w hL) ?_
      rintro ⟨d1, D1⟩ u16 E1 M
      replace M : Mem ⟨w, []⟩ (⟨g5, .cells (av 5 (ls [.string y8, .string y9, .string rv, .string sd, .string y7])) 23⟩ :: ⟨g1, .cells (av 5 (ls [.string y8, .string y9, .string sd, .string rv, .string y7])) 23⟩ :: ⟨g2, .cells (av 5 (ls [.int .u64 (rc : Int), .int .u64 (ct : Int), .int .u64 (rk : Int), .int .u64 (lf : Int), .int .i64 (s : Int)])) 26⟩ :: ⟨g3, .cells (av 6 (ls [.pointer (some ⟨p0, 0, none⟩), .pointer none, .pointer (some ⟨d0, 0, none⟩), .pointer none, .slice none 0 0, .slice none 0 0])) 37⟩ :: ⟨g4, .cells (av 5 (ls [.string y8, .string y9, .string sd, .string rv, .string y7])) 23⟩ :: (T0 ++ (T1 ++ (D0 ++ D1)))) u16 := by simpa only [List.append_assoc, List.cons_append, List.nil_append, List.append_nil] using M
      refine rV 5 ?_
      refine nT ?_
      refine wp_seq ?_
      refine sq ?_
      refine wp_cond_false (by kernel_rfl) ?_
      refine wp_skip ?_
      refine au_then ?_
      refine wp_seq ?_
      refine sq ?_
      refine wp_cond_false (by kernel_rfl) ?_
      refine wp_skip ?_
      refine au_then ?_
      refine sR ?_
      refine rV 4 ?_
      refine pP M 3 rfl 1 (.pointer (some ⟨p1, 0, none⟩)) (ls [.pointer (some ⟨p0, 0, none⟩), .pointer (some ⟨p1, 0, none⟩), .pointer (some ⟨d0, 0, none⟩), .pointer none, .slice none 0 0, .slice none 0 0]) (by decide) (put_ls _ 1 _ _ rfl) fun u17 M => ?_
      replace M : Mem ⟨w, []⟩ (⟨g5, .cells (av 5 (ls [.string y8, .string y9, .string rv, .string sd, .string y7])) 23⟩ :: ⟨g1, .cells (av 5 (ls [.string y8, .string y9, .string sd, .string rv, .string y7])) 23⟩ :: ⟨g2, .cells (av 5 (ls [.int .u64 (rc : Int), .int .u64 (ct : Int), .int .u64 (rk : Int), .int .u64 (lf : Int), .int .i64 (s : Int)])) 26⟩ :: ⟨g3, .cells (av 6 (ls [.pointer (some ⟨p0, 0, none⟩), .pointer (some ⟨p1, 0, none⟩), .pointer (some ⟨d0, 0, none⟩), .pointer none, .slice none 0 0, .slice none 0 0])) 37⟩ :: ⟨g4, .cells (av 5 (ls [.string y8, .string y9, .string sd, .string rv, .string y7])) 23⟩ :: (T0 ++ (T1 ++ (D0 ++ D1)))) u17 := M
      refine nT ?_
      refine rg_lit ?_
      refine rV 4 ?_
      refine pP M 3 rfl 3 (.pointer (some ⟨d1, 0, none⟩)) (ls [.pointer (some ⟨p0, 0, none⟩), .pointer (some ⟨p1, 0, none⟩), .pointer (some ⟨d0, 0, none⟩), .pointer (some ⟨d1, 0, none⟩), .slice none 0 0, .slice none 0 0]) (by decide) (put_ls _ 3 _ _ rfl) fun u18 M => ?_
      replace M : Mem ⟨w, []⟩ (⟨g5, .cells (av 5 (ls [.string y8, .string y9, .string rv, .string sd, .string y7])) 23⟩ :: ⟨g1, .cells (av 5 (ls [.string y8, .string y9, .string sd, .string rv, .string y7])) 23⟩ :: ⟨g2, .cells (av 5 (ls [.int .u64 (rc : Int), .int .u64 (ct : Int), .int .u64 (rk : Int), .int .u64 (lf : Int), .int .i64 (s : Int)])) 26⟩ :: ⟨g3, .cells (av 6 (ls [.pointer (some ⟨p0, 0, none⟩), .pointer (some ⟨p1, 0, none⟩), .pointer (some ⟨d0, 0, none⟩), .pointer (some ⟨d1, 0, none⟩), .slice none 0 0, .slice none 0 0])) 37⟩ :: ⟨g4, .cells (av 5 (ls [.string y8, .string y9, .string sd, .string rv, .string y7])) 23⟩ :: (T0 ++ (T1 ++ (D0 ++ D1)))) u18 := M
      refine pl_nil ?_
      refine au_block ?_
      refine au_then ?_
      refine rg_lit ?_
      refine rV 3 ?_
      refine nT ?_
      refine rounds_go ?_
      refine wp_seq ?_
      refine sq ?_
      refine wp_cond_false (by kernel_rfl) ?_
      refine wp_exit ?_
      refine au_then_exit ?_
      refine au_then_exit ?_
      refine au_block_exit ?_
      refine au_then ?_
      refine wp_seq ?_
      refine sq ?_
      refine wp_block ?_
      refine au_loop (fun j a w' => ∃ (v1 : Nat → Value) (B : List Blk), a = (fm ([.agg (av 5 (ls [.string y8, .string y9, .string sd, .string rv, .string y7])), .int .u64 (mt : Int), .agg (av 5 (ls [.int .u64 (rc : Int), .int .u64 (ct : Int), .int .u64 (rk : Int), .int .u64 (lf : Int), .int .i64 (s : Int)])), .slice l4 n4 k4, .pointer (some ⟨g1, 0, none⟩), undef, .pointer (some ⟨g2, 0, none⟩), undef, v1 8, .pointer (some ⟨g3, 0, none⟩), .int .i64 2, .pointer (some ⟨g5, 0, none⟩), .pointer (some ⟨p1, 0, none⟩), .int .i64 0, .pointer (some ⟨d1, 0, none⟩), .int .i64 0, .int .i64 (j : Int)] ++ vr v1 17 3 ++ [.slice l4 n4 k4, .bool false, .bool false, .pointer (some ⟨g1, 2, none⟩), .string sd, .int .i64 (sd.size : Int), .pointer (some ⟨g1, 3, none⟩), .string rv, .int .i64 (rv.size : Int), .int .i64 ((sd.size : Int) + (rv.size : Int)), .bool false, .bool false, undef, .int .i64 2, .bool false, .int .i64 1, .int .i64 2, .agg (av 5 (ls [.string y8, .string y9, .string sd, .string rv, .string y7])), .int .i64 1, .bool true, .pointer (some ⟨g1, 3, none⟩), .string rv, .pointer (some ⟨g5, 2, none⟩), .pointer (some ⟨g1, 2, none⟩), .string sd, .pointer (some ⟨g5, 3, none⟩), .tuple #[.pointer (some ⟨p1, 0, none⟩), .int .i64 0], .agg (av 5 (ls [.string y8, .string y9, .string rv, .string sd, .string y7])), .int .i64 1, .bool false, .int .u64 (mt : Int), .agg (av 5 (ls [.int .u64 (rc : Int), .int .u64 (ct : Int), .int .u64 (rk : Int), .int .u64 (lf : Int), .int .i64 (s : Int)])), .tuple #[.pointer (some ⟨p1, 0, none⟩), .int .i64 0], .pointer (some ⟨p1, 0, none⟩), .int .i64 0, .tuple #[.pointer (some ⟨d1, 0, none⟩), .int .i64 0], .agg (av 5 (ls [.string y8, .string y9, .string rv, .string sd, .string y7])), .int .i64 1, .bool false, .int .u64 (mt : Int), .agg (av 5 (ls [.int .u64 (rc : Int), .int .u64 (ct : Int), .int .u64 (rk : Int), .int .u64 (lf : Int), .int .i64 (s : Int)])), .tuple #[.pointer (some ⟨d1, 0, none⟩), .int .i64 0], .pointer (some ⟨d1, 0, none⟩), .int .i64 0, .int .i64 0, .int .i64 0, .bool false, .bool false, .pointer (some ⟨p1, 0, none⟩), .bool false, .pointer (some ⟨d1, 0, none⟩), .bool false, .bool false, .bool false, .pointer (some ⟨d1, 0, none⟩), .bool false, undef, .int .i64 1, .pointer (some ⟨p1, 0, none⟩), .pointer (some ⟨g3, 0, none⟩), .pointer (some ⟨g3, 1, none⟩), .int .i64 1, .pointer (some ⟨d1, 0, none⟩), .pointer (some ⟨g3, 2, none⟩), .pointer (some ⟨g3, 3, none⟩)] ++ vr v1 85 74 ++ [undef])) ∧ Mem ⟨w, []⟩ (B) w' ∧ (Pr g3 j B)) n4 ⟨fun k_ => ([.bool false, undef, undef, undef, undef, undef, undef, undef, undef, undef, undef, undef, undef, undef, undef, undef, undef, undef, undef, undef, undef, undef, undef, undef, undef, undef, undef, undef, undef, undef, undef, undef, undef, undef, undef, undef, undef, undef, undef, undef, undef, undef, undef, undef, undef, undef, undef, undef, undef, undef, undef, undef, undef, undef, undef, undef, undef, undef, undef, undef, undef, undef, undef, undef, undef, undef, undef, undef, undef, undef, undef, undef, undef, undef, undef, undef, undef, undef, undef, undef, undef, undef, undef, undef, undef, undef, undef, undef, undef, undef, undef, undef, undef, undef, undef, undef, undef, undef, undef, undef, undef, undef, undef, undef, undef, undef, undef, undef, undef, undef, undef, undef, undef, undef, undef, undef, undef, undef, undef, undef, undef, undef, undef, undef, undef, undef, undef, undef, undef, undef, undef, undef, undef, undef, undef, undef, undef, undef, undef, undef, undef, undef, undef, undef, undef, undef, undef, undef, undef, undef, undef] : List Value).getD (k_ - 8) undef, (⟨g3, .cells (av 6 (ls [.pointer (some ⟨p0, 0, none⟩), .pointer (some ⟨p1, 0, none⟩), .pointer (some ⟨d0, 0, none⟩), .pointer (some ⟨d1, 0, none⟩), .slice none 0 0, .slice none 0 0])) 37⟩ :: (T0 ++ (T1 ++ (D0 ++ (D1 ++ ([] ++ [])))))), by kernel_rfl, by simpa only [List.append_nil] using (M.drop (.cons _ (.cons _ (.cons _ (.cons_cons _ (.cons _ (List.Sublist.refl _))))))), ⟨⟨p0, p1, d0, d1, ⟨rc, ct, rk, lf, s, 0, mt, sd, rv, true, true, []⟩, ⟨rc, ct, rk, lf, s, 0, mt, rv, sd, false, false, []⟩, false, false, .slice none 0 0, .slice none 0 0, [], [], T0, T1, D0, D1, [], [], rfl, H0, H1, E0, E1, ⟨⟨hs, hs4, m3, Nat.zero_le _⟩, h32, g32, Nat.zero_lt_succ _, fun _ h => by cases h⟩, ⟨⟨hs, hs4, m3, Nat.zero_le _⟩, g32, h32, Nat.zero_lt_succ _, fun _ h => by cases h⟩, Nat.le_refl _, Nat.le_refl _, slv_nil 2, slv_nil 2, ⟨Nat.le_refl _, fun _ h => by cases h⟩, ⟨Nat.le_refl _, fun _ h => by cases h⟩⟩⟩⟩ ?_ ?_
      · intro j a u0 hj hI
        obtain ⟨v1, B, rfl, M, hP⟩ := hI
        have hYj := hv_no c0
        refine wp_seq ?_
        refine sR ?_
        refine rV 3 ?_
        refine ZT 88 ((j : Int) < (n4 : Int)) ?_
        refine nT ?_
        refine wp_cond_true (by kernel_rfl) ?_
        refine wp_skip ?_
        refine au_then ?_
        refine wp_seq ?_
        refine wp_block ?_
        refine wp_seq ?_
        refine sR ?_
        refine rV 2 ?_
        refine pH 93 (.pointer (some ⟨b4, (o4 + j * 6), none⟩)) (run_ixK 27 45 6 Tryz.underlying27 inz45 _ _ rfl l4 b4 o4 n4 k4 (by kernel_rfl) (hl4 (by omega)) .i64 j (by kernel_rfl) (by omega)) ?_
        refine pl_loadO M (want_no rfl) (some 94) rfl 45 _ rfl b4 (o4 + j * 6) (by kernel_rfl) 6 (ls [.int .i64 (Dd j), .int .u8 ((At j : Nat) : Int), .string (Y j), .int .i64 (Wh j), .int .i64 (Nn j), .int .u64 ((Nw j : Nat) : Int)]) (fun w M k hk => ?_) _ Tryz.underlying45 rfl inz45 ?_
        · match k, hk with
          | 0, _ => exact M.oldc (h0 j (by omega)) (by simp)
          | 1, _ => exact M.oldc (h1 j (by omega)) (by simp)
          | 2, _ => exact M.oldc (h2 j (by omega)) (by simp)
          | 3, _ => exact M.oldc (h3 j (by omega)) (by simp)
          | 4, _ => exact M.oldc (h4 j (by omega)) (by simp)
          | 5, _ => exact M.oldc (h5 j (by omega)) (by simp)
        refine pl_callM M (want_no rfl) (some 95) rfl 9 #[.pointer (some ⟨g3, 0, none⟩), .agg (av 6 (ls [.int .i64 (Dd j), .int .u8 ((At j : Nat) : Int), .string (Y j), .int .i64 (Wh j), .int .i64 (Nn j), .int .u64 ((Nw j : Nat) : Int)]))] [] (B) [] (by simp only [List.append_assoc, List.cons_append, List.nil_append, List.append_nil]) (fun B0 => .bool true) (fun B0 => B0) (fun B0 => Pr g3 (j + 1) B0) (fun _ => by kernel_rfl) (fun w hL hT => a_does hP (by omega) (hA j hj) (hYj.1 j hj) (hN j hj) w hL hT) ?_
        rintro B2 u19 hP2 M
        replace M : Mem ⟨w, []⟩ (B2) u19 := by simpa only [List.append_assoc, List.cons_append, List.nil_append, List.append_nil] using M
        refine rV 1 ?_
        refine pl_nil ?_
        have hP3 := hP2
        obtain ⟨p0, p1, d0, d1, y0, y1, b0, b1, s0, s1, L0, L1, T0, T1, D0, D1, S0, S1, rfl, H0, H1, E0, E1, k0, k1, q0, q1, hS0, hS1, w0, w1⟩ := hP2.out
        replace M : Mem ⟨w, []⟩ (⟨g3, .cells (av 6 (ls [.pointer (some ⟨p0, 0, none⟩), .pointer (some ⟨p1, 0, none⟩), .pointer (some ⟨d0, 0, none⟩), .pointer (some ⟨d1, 0, none⟩), s0, s1])) 37⟩ :: (T0 ++ (T1 ++ (D0 ++ (D1 ++ (S0 ++ S1)))))) u19 := M
        refine au_then ?_
        refine wp_cond_false (by kernel_rfl) ?_
        refine wp_skip ?_
        refine au_then ?_
        refine sq ?_
        refine wp_block ?_
        refine wp_loop_rounds 3 ?_
        refine rounds_go ?_
        refine wp_seq ?_
        refine sq ?_
        refine wp_cond_true (by kernel_rfl) ?_
        refine wp_skip ?_
        refine au_then ?_
        refine wp_seq ?_
        refine wp_block ?_
        refine sR ?_
        refine rV 3 ?_
        refine ZE M 104 0 0 ?_
        refine rV 1 ?_
        refine nT ?_
        refine sR ?_
        refine rV 3 ?_
        refine ZE M 108 0 2 ?_
        refine rV 1 ?_
        refine nT ?_
        refine wp_seq ?_
        refine rg_held M (⟨g3, .cells (av 6 (ls [.pointer (some ⟨p0, 0, none⟩), .pointer (some ⟨p1, 0, none⟩), .pointer (some ⟨d0, 0, none⟩), .pointer (some ⟨d1, 0, none⟩), s0, s1])) 37⟩ :: (T0 ++ (T1 ++ (D0 ++ (D1 ++ (S0 ++ S1)))))) 49 rfl (by kernel_rfl) (by kernel_rfl) (fun _ _ d _ _ h => by cases d <;> exact h) fun u20 M => ?_
        replace M : Mem ⟨w, []⟩ (⟨g3, .cells (av 6 (ls [.pointer (some ⟨p0, 0, none⟩), .pointer (some ⟨p1, 0, none⟩), .pointer (some ⟨d0, 0, none⟩), .pointer (some ⟨d1, 0, none⟩), s0, s1])) 37⟩ :: (T0 ++ (T1 ++ (D0 ++ (D1 ++ (S0 ++ S1)))))) u20 := M
        refine qV M 0 109 (.pointer (some ⟨p0, 0, none⟩)) ?_
        refine qV M 1 110 (.slice l4 n4 k4) ?_
        refine qV M 2 111 (.int .i64 (j : Int)) ?_
        refine hl_val M 3 rfl (by decide) (by kernel_rfl) (by kernel_rfl) (want_no rfl) (some 112) rfl (.pointer (some ⟨b4, (o4 + j * 6), none⟩)) (fun w _ => (run_ixK 27 45 6 Tryz.underlying27 inz45 _ _ rfl l4 b4 o4 n4 k4 (by kernel_rfl) (hl4 (by omega)) .i64 j (by kernel_rfl) (by omega)) w) ?_
        refine qV M 4 113 (.pointer (some ⟨b4, ((o4 + j * 6) + 5), none⟩)) ?_
        refine hl_cell M 5 rfl (by decide) (by kernel_rfl) (by kernel_rfl) (want_no rfl) (some 114) rfl 24 _ rfl b4 ((o4 + j * 6) + 5) (by kernel_rfl) (.int .u64 ((Nw j : Nat) : Int)) (fun _ => by kernel_rfl) (fun w M => M.oldc (h5 j (by omega)) (by simp)) ?_
        refine qV M 7 116 (.pointer (some ⟨d0, 0, none⟩)) ?_
        refine qV M 8 117 (.slice l4 n4 k4) ?_
        refine qV M 9 118 (.int .i64 (j : Int)) ?_
        refine hl_val M 10 rfl (by decide) (by kernel_rfl) (by kernel_rfl) (want_no rfl) (some 119) rfl (.pointer (some ⟨b4, (o4 + j * 6), none⟩)) (fun w _ => (run_ixK 27 45 6 Tryz.underlying27 inz45 _ _ rfl l4 b4 o4 n4 k4 (by kernel_rfl) (hl4 (by omega)) .i64 j (by kernel_rfl) (by omega)) w) ?_
        refine qV M 11 120 (.pointer (some ⟨b4, ((o4 + j * 6) + 5), none⟩)) ?_
        refine hl_cell M 12 rfl (by decide) (by kernel_rfl) (by kernel_rfl) (want_no rfl) (some 121) rfl 24 _ rfl b4 ((o4 + j * 6) + 5) (by kernel_rfl) (.int .u64 ((Nw j : Nat) : Int)) (fun _ => by kernel_rfl) (fun w M => M.oldc (h5 j (by omega)) (by simp)) ?_
        refine hl_one 6 (by decide) (by kernel_rfl) rfl ?_
        refine pC M 115 10 #[.pointer (some ⟨p0, 0, none⟩), .int .u64 ((Nw j : Nat) : Int)] (.bool ((pX y0 b0).ov (Nw j))) (fun w M => a_Over H0 (hN j hj) w M.laid (M.thereM (pre := [⟨g3, .cells (av 6 (ls [.pointer (some ⟨p0, 0, none⟩), .pointer (some ⟨p1, 0, none⟩), .pointer (some ⟨d0, 0, none⟩), .pointer (some ⟨d1, 0, none⟩), s0, s1])) 37⟩]) (T := T0) (suf := (T1 ++ (D0 ++ (D1 ++ (S0 ++ S1))))) (by simp only [List.append_assoc, List.cons_append, List.nil_append, List.append_nil]))) fun u21 M => ?_
        refine nT ?_
        refine ⟨M, ?_⟩
        refine hl_one 13 (by decide) (by kernel_rfl) rfl ?_
        refine pC M 122 11 #[.pointer (some ⟨d0, 0, none⟩), .int .u64 ((Nw j : Nat) : Int)] (.bool ((pX y0 b0).ov (Nw j))) (fun w M => e_Over E0 k0.k1 (hN j hj) w M.laid (M.thereM (pre := (⟨g3, .cells (av 6 (ls [.pointer (some ⟨p0, 0, none⟩), .pointer (some ⟨p1, 0, none⟩), .pointer (some ⟨d0, 0, none⟩), .pointer (some ⟨d1, 0, none⟩), s0, s1])) 37⟩ :: (T0 ++ T1))) (T := D0) (suf := (D1 ++ (S0 ++ S1))) (by simp only [List.append_assoc, List.cons_append, List.nil_append, List.append_nil]))) fun u22 M => ?_
        refine nT ?_
        refine ⟨M, ?_⟩
        refine hl_val M 14 rfl (by decide) (by kernel_rfl) (by kernel_rfl) (want_no rfl) (some 123) rfl (.bool false) (fun w _ => (fun w => by rcases Bool.eq_false_or_eq_true ((pX y0 b0).ov (Nw j)) with h_ | h_ <;> rw [h_] <;> kernel_rfl) w) ?_
        refine qV M 15 124 (.bool false) ?_
        refine hl_val M 16 rfl (by decide) (by kernel_rfl) (by kernel_rfl) (want_on 15 false rfl 124 rfl (by kernel_rfl)) (some 125) rfl (.pointer (some ⟨p0, 0, none⟩)) (fun _ _ => by kernel_rfl) ?_
        refine hl_val M 17 rfl (by decide) (by kernel_rfl) (by kernel_rfl) (want_on 15 false rfl 124 rfl (by kernel_rfl)) (some 126) rfl (.slice l4 n4 k4) (fun _ _ => by kernel_rfl) ?_
        refine hl_val M 18 rfl (by decide) (by kernel_rfl) (by kernel_rfl) (want_on 15 false rfl 124 rfl (by kernel_rfl)) (some 127) rfl (.int .i64 (j : Int)) (fun _ _ => by kernel_rfl) ?_
        refine hl_val M 19 rfl (by decide) (by kernel_rfl) (by kernel_rfl) (want_on 15 false rfl 124 rfl (by kernel_rfl)) (some 128) rfl (.pointer (some ⟨b4, (o4 + j * 6), none⟩)) (fun w _ => (run_ixK 27 45 6 Tryz.underlying27 inz45 _ _ rfl l4 b4 o4 n4 k4 (by kernel_rfl) (hl4 (by omega)) .i64 j (by kernel_rfl) (by omega)) w) ?_
        refine hl_val M 20 rfl (by decide) (by kernel_rfl) (by kernel_rfl) (want_on 15 false rfl 124 rfl (by kernel_rfl)) (some 129) rfl (.pointer (some ⟨b4, ((o4 + j * 6) + 5), none⟩)) (fun _ _ => by kernel_rfl) ?_
        refine hl_cell M 21 rfl (by decide) (by kernel_rfl) (by kernel_rfl) (want_on 15 false rfl 124 rfl (by kernel_rfl)) (some 130) rfl 24 _ rfl b4 ((o4 + j * 6) + 5) (by kernel_rfl) (.int .u64 ((Nw j : Nat) : Int)) (fun _ => by kernel_rfl) (fun w M => M.oldc (h5 j (by omega)) (by simp)) ?_
        refine hl_val M 23 rfl (by decide) (by kernel_rfl) (by kernel_rfl) (want_on 15 false rfl 124 rfl (by kernel_rfl)) (some 132) rfl (.pointer (some ⟨d0, 0, none⟩)) (fun _ _ => by kernel_rfl) ?_
        refine hl_val M 24 rfl (by decide) (by kernel_rfl) (by kernel_rfl) (want_on 15 false rfl 124 rfl (by kernel_rfl)) (some 133) rfl (.slice l4 n4 k4) (fun _ _ => by kernel_rfl) ?_
        refine hl_val M 25 rfl (by decide) (by kernel_rfl) (by kernel_rfl) (want_on 15 false rfl 124 rfl (by kernel_rfl)) (some 134) rfl (.int .i64 (j : Int)) (fun _ _ => by kernel_rfl) ?_
        refine hl_val M 26 rfl (by decide) (by kernel_rfl) (by kernel_rfl) (want_on 15 false rfl 124 rfl (by kernel_rfl)) (some 135) rfl (.pointer (some ⟨b4, (o4 + j * 6), none⟩)) (fun w _ => (run_ixK 27 45 6 Tryz.underlying27 inz45 _ _ rfl l4 b4 o4 n4 k4 (by kernel_rfl) (hl4 (by omega)) .i64 j (by kernel_rfl) (by omega)) w) ?_
        refine hl_val M 27 rfl (by decide) (by kernel_rfl) (by kernel_rfl) (want_on 15 false rfl 124 rfl (by kernel_rfl)) (some 136) rfl (.pointer (some ⟨b4, ((o4 + j * 6) + 5), none⟩)) (fun _ _ => by kernel_rfl) ?_
        refine hl_cell M 28 rfl (by decide) (by kernel_rfl) (by kernel_rfl) (want_on 15 false rfl 124 rfl (by kernel_rfl)) (some 137) rfl 24 _ rfl b4 ((o4 + j * 6) + 5) (by kernel_rfl) (.int .u64 ((Nw j : Nat) : Int)) (fun _ => by kernel_rfl) (fun w M => M.oldc (h5 j (by omega)) (by simp)) ?_
        refine hl_one 22 (by decide) (by kernel_rfl) rfl ?_
        refine pl_call M (want_on 15 false rfl 124 rfl (by kernel_rfl)) (some 131) rfl 12 #[.pointer (some ⟨p0, 0, none⟩), .int .u64 ((Nw j : Nat) : Int)] (.bool ((pX y0 b0).wn (Nw j))) (fun _ => by kernel_rfl) (fun w M => a_Wants H0 (hN j hj) w M.laid (M.thereM (pre := [⟨g3, .cells (av 6 (ls [.pointer (some ⟨p0, 0, none⟩), .pointer (some ⟨p1, 0, none⟩), .pointer (some ⟨d0, 0, none⟩), .pointer (some ⟨d1, 0, none⟩), s0, s1])) 37⟩]) (T := T0) (suf := (T1 ++ (D0 ++ (D1 ++ (S0 ++ S1))))) (by simp only [List.append_assoc, List.cons_append, List.nil_append, List.append_nil]))) fun u23 M => ?_
        refine nT ?_
        refine ⟨M, ?_⟩
        refine hl_one 29 (by decide) (by kernel_rfl) rfl ?_
        refine pl_call M (want_on 15 false rfl 124 rfl (by kernel_rfl)) (some 138) rfl 13 #[.pointer (some ⟨d0, 0, none⟩), .int .u64 ((Nw j : Nat) : Int)] (.bool ((pX y0 b0).wn (Nw j))) (fun _ => by kernel_rfl) (fun w M => e_Wants E0 k0.k1 (hN j hj) w M.laid (M.thereM (pre := (⟨g3, .cells (av 6 (ls [.pointer (some ⟨p0, 0, none⟩), .pointer (some ⟨p1, 0, none⟩), .pointer (some ⟨d0, 0, none⟩), .pointer (some ⟨d1, 0, none⟩), s0, s1])) 37⟩ :: (T0 ++ T1))) (T := D0) (suf := (D1 ++ (S0 ++ S1))) (by simp only [List.append_assoc, List.cons_append, List.nil_append, List.append_nil]))) fun u24 M => ?_
        refine nT ?_
        refine ⟨M, ?_⟩
        refine hl_val M 30 rfl (by decide) (by kernel_rfl) (by kernel_rfl) (want_on 15 false rfl 124 rfl (by kernel_rfl)) (some 139) rfl (.bool false) (fun w _ => (fun w => by rcases Bool.eq_false_or_eq_true ((pX y0 b0).wn (Nw j)) with h_ | h_ <;> rw [h_] <;> kernel_rfl) w) ?_
        refine qV M 31 140 (.bool false) ?_
        refine qV M 32 141 (.bool false) ?_
        refine hl_val M 33 rfl (by decide) (by kernel_rfl) (by kernel_rfl) (want_on 32 false rfl 141 rfl (by kernel_rfl)) (some 142) rfl (.pointer (some ⟨p0, 0, none⟩)) (fun _ _ => by kernel_rfl) ?_
        refine hl_val M 35 rfl (by decide) (by kernel_rfl) (by kernel_rfl) (want_on 32 false rfl 141 rfl (by kernel_rfl)) (some 144) rfl (.pointer (some ⟨d0, 0, none⟩)) (fun _ _ => by kernel_rfl) ?_
        refine hl_val M 36 rfl (by decide) (by kernel_rfl) (by kernel_rfl) (want_on 32 false rfl 141 rfl (by kernel_rfl)) (some 145) rfl (.pointer (some ⟨d0, 0, none⟩)) (fun _ _ => by kernel_rfl) ?_
        refine hl_val M 37 rfl (by decide) (by kernel_rfl) (by kernel_rfl) (want_on 32 false rfl 141 rfl (by kernel_rfl)) (some 146) rfl (.pointer (some ⟨d0, 12, none⟩)) (fun _ _ => by kernel_rfl) ?_
        refine hl_cell M 38 rfl (by decide) (by kernel_rfl) (by kernel_rfl) (want_on 32 false rfl 141 rfl (by kernel_rfl)) (some 147) rfl 4 _ rfl d0 12 (by kernel_rfl) (.bool (y0.su)) (fun _ => by kernel_rfl) (fun w M => isD_su E0 ((M.thereM (pre := (⟨g3, .cells (av 6 (ls [.pointer (some ⟨p0, 0, none⟩), .pointer (some ⟨p1, 0, none⟩), .pointer (some ⟨d0, 0, none⟩), .pointer (some ⟨d1, 0, none⟩), s0, s1])) 37⟩ :: (T0 ++ T1))) (T := D0) (suf := (D1 ++ (S0 ++ S1))) (by simp only [List.append_assoc, List.cons_append, List.nil_append, List.append_nil])))) ?_
        refine hl_one 34 (by decide) (by kernel_rfl) rfl ?_
        refine pl_call M (want_on 32 false rfl 141 rfl (by kernel_rfl)) (some 143) rfl 14 #[.pointer (some ⟨p0, 0, none⟩)] (.bool (y0.su)) (fun _ => by kernel_rfl) (fun w M => call_val (a_Sure H0 w M.laid (M.thereM (pre := [⟨g3, .cells (av 6 (ls [.pointer (some ⟨p0, 0, none⟩), .pointer (some ⟨p1, 0, none⟩), .pointer (some ⟨d0, 0, none⟩), .pointer (some ⟨d1, 0, none⟩), s0, s1])) 37⟩]) (T := T0) (suf := (T1 ++ (D0 ++ (D1 ++ (S0 ++ S1))))) (by simp only [List.append_assoc, List.cons_append, List.nil_append, List.append_nil]))) (by rw [(pX_su y0 b0).1])) fun u25 M => ?_
        refine nT ?_
        refine ⟨M, ?_⟩
        refine hl_val M 39 rfl (by decide) (by kernel_rfl) (by kernel_rfl) (want_on 32 false rfl 141 rfl (by kernel_rfl)) (some 148) rfl (.bool false) (fun w _ => (fun w => by rcases Bool.eq_false_or_eq_true (y0.su) with h_ | h_ <;> rw [h_] <;> kernel_rfl) w) ?_
        refine qV M 40 149 (.bool false) ?_
        refine qV M 41 150 (.bool false) ?_
        refine hl_val M 42 rfl (by decide) (by kernel_rfl) (by kernel_rfl) (want_on 41 false rfl 150 rfl (by kernel_rfl)) (some 151) rfl (.pointer (some ⟨p0, 0, none⟩)) (fun _ _ => by kernel_rfl) ?_
        refine hl_val M 44 rfl (by decide) (by kernel_rfl) (by kernel_rfl) (want_on 41 false rfl 150 rfl (by kernel_rfl)) (some 153) rfl (.pointer (some ⟨d0, 0, none⟩)) (fun _ _ => by kernel_rfl) ?_
        refine hl_val M 45 rfl (by decide) (by kernel_rfl) (by kernel_rfl) (want_on 41 false rfl 150 rfl (by kernel_rfl)) (some 154) rfl (.pointer (some ⟨d0, 0, none⟩)) (fun _ _ => by kernel_rfl) ?_
        refine hl_val M 46 rfl (by decide) (by kernel_rfl) (by kernel_rfl) (want_on 41 false rfl 150 rfl (by kernel_rfl)) (some 155) rfl (.pointer (some ⟨d0, 9, none⟩)) (fun _ _ => by kernel_rfl) ?_
        refine hl_cell M 47 rfl (by decide) (by kernel_rfl) (by kernel_rfl) (want_on 41 false rfl 150 rfl (by kernel_rfl)) (some 156) rfl 24 _ rfl d0 9 (by kernel_rfl) (.int .u64 ((y0.nx : Nat) : Int)) (fun _ => by kernel_rfl) (fun w M => isD_nx E0 ((M.thereM (pre := (⟨g3, .cells (av 6 (ls [.pointer (some ⟨p0, 0, none⟩), .pointer (some ⟨p1, 0, none⟩), .pointer (some ⟨d0, 0, none⟩), .pointer (some ⟨d1, 0, none⟩), s0, s1])) 37⟩ :: (T0 ++ T1))) (T := D0) (suf := (D1 ++ (S0 ++ S1))) (by simp only [List.append_assoc, List.cons_append, List.nil_append, List.append_nil])))) ?_
        refine hl_one 43 (by decide) (by kernel_rfl) rfl ?_
        refine pl_call M (want_on 41 false rfl 150 rfl (by kernel_rfl)) (some 152) rfl 15 #[.pointer (some ⟨p0, 0, none⟩)] (.int .u64 ((y0.nx : Nat) : Int)) (fun _ => by kernel_rfl) (fun w M => call_val (a_Sent H0 w M.laid (M.thereM (pre := [⟨g3, .cells (av 6 (ls [.pointer (some ⟨p0, 0, none⟩), .pointer (some ⟨p1, 0, none⟩), .pointer (some ⟨d0, 0, none⟩), .pointer (some ⟨d1, 0, none⟩), s0, s1])) 37⟩]) (T := T0) (suf := (T1 ++ (D0 ++ (D1 ++ (S0 ++ S1))))) (by simp only [List.append_assoc, List.cons_append, List.nil_append, List.append_nil]))) (by rw [(pX_su y0 b0).2.1])) fun u26 M => ?_
        refine nT ?_
        refine ⟨M, ?_⟩
        refine hl_val M 48 rfl (by decide) (by kernel_rfl) (by kernel_rfl) (want_on 41 false rfl 150 rfl (by kernel_rfl)) (some 157) rfl (.bool false) (fun w _ => (fun w => Eq.trans (b := .ok (.value (.bool (!(decide (((y0.nx : Nat) : Int) = ((y0.nx : Nat) : Int)))))) w) (by kernel_rfl) (by rw [decide_eq_true rfl]; rfl)) w) ?_
        refine hl_end (by kernel_rfl) (by kernel_rfl) rfl ?_
        refine rV 1 ?_
        refine nT ?_
        refine au_then ?_
        refine wp_cond_false (by kernel_rfl) ?_
        refine wp_skip ?_
        refine au_block ?_
        refine au_then ?_
        refine rg_lit ?_
        refine rV 3 ?_
        refine nT ?_
        refine rounds_go ?_
        refine wp_seq ?_
        refine sq ?_
        refine wp_cond_true (by kernel_rfl) ?_
        refine wp_skip ?_
        refine au_then ?_
        refine wp_seq ?_
        refine wp_block ?_
        refine sR ?_
        refine rV 3 ?_
        refine ZE M 104 0 1 ?_
        refine rV 1 ?_
        refine nT ?_
        refine sR ?_
        refine rV 3 ?_
        refine ZE M 108 0 3 ?_
        refine rV 1 ?_
        refine nT ?_
        refine wp_seq ?_
        refine rg_held M (⟨g3, .cells (av 6 (ls [.pointer (some ⟨p0, 0, none⟩), .pointer (some ⟨p1, 0, none⟩), .pointer (some ⟨d0, 0, none⟩), .pointer (some ⟨d1, 0, none⟩), s0, s1])) 37⟩ :: (T0 ++ (T1 ++ (D0 ++ (D1 ++ (S0 ++ S1)))))) 49 rfl (by kernel_rfl) (by kernel_rfl) (fun _ _ d _ _ h => by cases d <;> exact h) fun u27 M => ?_
        replace M : Mem ⟨w, []⟩ (⟨g3, .cells (av 6 (ls [.pointer (some ⟨p0, 0, none⟩), .pointer (some ⟨p1, 0, none⟩), .pointer (some ⟨d0, 0, none⟩), .pointer (some ⟨d1, 0, none⟩), s0, s1])) 37⟩ :: (T0 ++ (T1 ++ (D0 ++ (D1 ++ (S0 ++ S1)))))) u27 := M
        refine qV M 0 109 (.pointer (some ⟨p1, 0, none⟩)) ?_
        refine qV M 1 110 (.slice l4 n4 k4) ?_
        refine qV M 2 111 (.int .i64 (j : Int)) ?_
        refine hl_val M 3 rfl (by decide) (by kernel_rfl) (by kernel_rfl) (want_no rfl) (some 112) rfl (.pointer (some ⟨b4, (o4 + j * 6), none⟩)) (fun w _ => (run_ixK 27 45 6 Tryz.underlying27 inz45 _ _ rfl l4 b4 o4 n4 k4 (by kernel_rfl) (hl4 (by omega)) .i64 j (by kernel_rfl) (by omega)) w) ?_
        refine qV M 4 113 (.pointer (some ⟨b4, ((o4 + j * 6) + 5), none⟩)) ?_
        refine hl_cell M 5 rfl (by decide) (by kernel_rfl) (by kernel_rfl) (want_no rfl) (some 114) rfl 24 _ rfl b4 ((o4 + j * 6) + 5) (by kernel_rfl) (.int .u64 ((Nw j : Nat) : Int)) (fun _ => by kernel_rfl) (fun w M => M.oldc (h5 j (by omega)) (by simp)) ?_
        refine qV M 7 116 (.pointer (some ⟨d1, 0, none⟩)) ?_
        refine qV M 8 117 (.slice l4 n4 k4) ?_
        refine qV M 9 118 (.int .i64 (j : Int)) ?_
        refine hl_val M 10 rfl (by decide) (by kernel_rfl) (by kernel_rfl) (want_no rfl) (some 119) rfl (.pointer (some ⟨b4, (o4 + j * 6), none⟩)) (fun w _ => (run_ixK 27 45 6 Tryz.underlying27 inz45 _ _ rfl l4 b4 o4 n4 k4 (by kernel_rfl) (hl4 (by omega)) .i64 j (by kernel_rfl) (by omega)) w) ?_
        refine qV M 11 120 (.pointer (some ⟨b4, ((o4 + j * 6) + 5), none⟩)) ?_
        refine hl_cell M 12 rfl (by decide) (by kernel_rfl) (by kernel_rfl) (want_no rfl) (some 121) rfl 24 _ rfl b4 ((o4 + j * 6) + 5) (by kernel_rfl) (.int .u64 ((Nw j : Nat) : Int)) (fun _ => by kernel_rfl) (fun w M => M.oldc (h5 j (by omega)) (by simp)) ?_
        refine hl_one 6 (by decide) (by kernel_rfl) rfl ?_
        refine pC M 115 10 #[.pointer (some ⟨p1, 0, none⟩), .int .u64 ((Nw j : Nat) : Int)] (.bool ((pX y1 b1).ov (Nw j))) (fun w M => a_Over H1 (hN j hj) w M.laid (M.thereM (pre := (⟨g3, .cells (av 6 (ls [.pointer (some ⟨p0, 0, none⟩), .pointer (some ⟨p1, 0, none⟩), .pointer (some ⟨d0, 0, none⟩), .pointer (some ⟨d1, 0, none⟩), s0, s1])) 37⟩ :: T0)) (T := T1) (suf := (D0 ++ (D1 ++ (S0 ++ S1)))) (by simp only [List.append_assoc, List.cons_append, List.nil_append, List.append_nil]))) fun u28 M => ?_
        refine nT ?_
        refine ⟨M, ?_⟩
        refine hl_one 13 (by decide) (by kernel_rfl) rfl ?_
        refine pC M 122 11 #[.pointer (some ⟨d1, 0, none⟩), .int .u64 ((Nw j : Nat) : Int)] (.bool ((pX y1 b1).ov (Nw j))) (fun w M => e_Over E1 k1.k1 (hN j hj) w M.laid (M.thereM (pre := (⟨g3, .cells (av 6 (ls [.pointer (some ⟨p0, 0, none⟩), .pointer (some ⟨p1, 0, none⟩), .pointer (some ⟨d0, 0, none⟩), .pointer (some ⟨d1, 0, none⟩), s0, s1])) 37⟩ :: (T0 ++ (T1 ++ D0)))) (T := D1) (suf := (S0 ++ S1)) (by simp only [List.append_assoc, List.cons_append, List.nil_append, List.append_nil]))) fun u29 M => ?_
        refine nT ?_
        refine ⟨M, ?_⟩
        refine hl_val M 14 rfl (by decide) (by kernel_rfl) (by kernel_rfl) (want_no rfl) (some 123) rfl (.bool false) (fun w _ => (fun w => by rcases Bool.eq_false_or_eq_true ((pX y1 b1).ov (Nw j)) with h_ | h_ <;> rw [h_] <;> kernel_rfl) w) ?_
        refine qV M 15 124 (.bool false) ?_
        refine hl_val M 16 rfl (by decide) (by kernel_rfl) (by kernel_rfl) (want_on 15 false rfl 124 rfl (by kernel_rfl)) (some 125) rfl (.pointer (some ⟨p1, 0, none⟩)) (fun _ _ => by kernel_rfl) ?_
        refine hl_val M 17 rfl (by decide) (by kernel_rfl) (by kernel_rfl) (want_on 15 false rfl 124 rfl (by kernel_rfl)) (some 126) rfl (.slice l4 n4 k4) (fun _ _ => by kernel_rfl) ?_
        refine hl_val M 18 rfl (by decide) (by kernel_rfl) (by kernel_rfl) (want_on 15 false rfl 124 rfl (by kernel_rfl)) (some 127) rfl (.int .i64 (j : Int)) (fun _ _ => by kernel_rfl) ?_
        refine hl_val M 19 rfl (by decide) (by kernel_rfl) (by kernel_rfl) (want_on 15 false rfl 124 rfl (by kernel_rfl)) (some 128) rfl (.pointer (some ⟨b4, (o4 + j * 6), none⟩)) (fun w _ => (run_ixK 27 45 6 Tryz.underlying27 inz45 _ _ rfl l4 b4 o4 n4 k4 (by kernel_rfl) (hl4 (by omega)) .i64 j (by kernel_rfl) (by omega)) w) ?_
        refine hl_val M 20 rfl (by decide) (by kernel_rfl) (by kernel_rfl) (want_on 15 false rfl 124 rfl (by kernel_rfl)) (some 129) rfl (.pointer (some ⟨b4, ((o4 + j * 6) + 5), none⟩)) (fun _ _ => by kernel_rfl) ?_
        refine hl_cell M 21 rfl (by decide) (by kernel_rfl) (by kernel_rfl) (want_on 15 false rfl 124 rfl (by kernel_rfl)) (some 130) rfl 24 _ rfl b4 ((o4 + j * 6) + 5) (by kernel_rfl) (.int .u64 ((Nw j : Nat) : Int)) (fun _ => by kernel_rfl) (fun w M => M.oldc (h5 j (by omega)) (by simp)) ?_
        refine hl_val M 23 rfl (by decide) (by kernel_rfl) (by kernel_rfl) (want_on 15 false rfl 124 rfl (by kernel_rfl)) (some 132) rfl (.pointer (some ⟨d1, 0, none⟩)) (fun _ _ => by kernel_rfl) ?_
        refine hl_val M 24 rfl (by decide) (by kernel_rfl) (by kernel_rfl) (want_on 15 false rfl 124 rfl (by kernel_rfl)) (some 133) rfl (.slice l4 n4 k4) (fun _ _ => by kernel_rfl) ?_
        refine hl_val M 25 rfl (by decide) (by kernel_rfl) (by kernel_rfl) (want_on 15 false rfl 124 rfl (by kernel_rfl)) (some 134) rfl (.int .i64 (j : Int)) (fun _ _ => by kernel_rfl) ?_
        refine hl_val M 26 rfl (by decide) (by kernel_rfl) (by kernel_rfl) (want_on 15 false rfl 124 rfl (by kernel_rfl)) (some 135) rfl (.pointer (some ⟨b4, (o4 + j * 6), none⟩)) (fun w _ => (run_ixK 27 45 6 Tryz.underlying27 inz45 _ _ rfl l4 b4 o4 n4 k4 (by kernel_rfl) (hl4 (by omega)) .i64 j (by kernel_rfl) (by omega)) w) ?_
        refine hl_val M 27 rfl (by decide) (by kernel_rfl) (by kernel_rfl) (want_on 15 false rfl 124 rfl (by kernel_rfl)) (some 136) rfl (.pointer (some ⟨b4, ((o4 + j * 6) + 5), none⟩)) (fun _ _ => by kernel_rfl) ?_
        refine hl_cell M 28 rfl (by decide) (by kernel_rfl) (by kernel_rfl) (want_on 15 false rfl 124 rfl (by kernel_rfl)) (some 137) rfl 24 _ rfl b4 ((o4 + j * 6) + 5) (by kernel_rfl) (.int .u64 ((Nw j : Nat) : Int)) (fun _ => by kernel_rfl) (fun w M => M.oldc (h5 j (by omega)) (by simp)) ?_
        refine hl_one 22 (by decide) (by kernel_rfl) rfl ?_
        refine pl_call M (want_on 15 false rfl 124 rfl (by kernel_rfl)) (some 131) rfl 12 #[.pointer (some ⟨p1, 0, none⟩), .int .u64 ((Nw j : Nat) : Int)] (.bool ((pX y1 b1).wn (Nw j))) (fun _ => by kernel_rfl) (fun w M => a_Wants H1 (hN j hj) w M.laid (M.thereM (pre := (⟨g3, .cells (av 6 (ls [.pointer (some ⟨p0, 0, none⟩), .pointer (some ⟨p1, 0, none⟩), .pointer (some ⟨d0, 0, none⟩), .pointer (some ⟨d1, 0, none⟩), s0, s1])) 37⟩ :: T0)) (T := T1) (suf := (D0 ++ (D1 ++ (S0 ++ S1)))) (by simp only [List.append_assoc, List.cons_append, List.nil_append, List.append_nil]))) fun u30 M => ?_
        refine nT ?_
        refine ⟨M, ?_⟩
        refine hl_one 29 (by decide) (by kernel_rfl) rfl ?_
        refine pl_call M (want_on 15 false rfl 124 rfl (by kernel_rfl)) (some 138) rfl 13 #[.pointer (some ⟨d1, 0, none⟩), .int .u64 ((Nw j : Nat) : Int)] (.bool ((pX y1 b1).wn (Nw j))) (fun _ => by kernel_rfl) (fun w M => e_Wants E1 k1.k1 (hN j hj) w M.laid (M.thereM (pre := (⟨g3, .cells (av 6 (ls [.pointer (some ⟨p0, 0, none⟩), .pointer (some ⟨p1, 0, none⟩), .pointer (some ⟨d0, 0, none⟩), .pointer (some ⟨d1, 0, none⟩), s0, s1])) 37⟩ :: (T0 ++ (T1 ++ D0)))) (T := D1) (suf := (S0 ++ S1)) (by simp only [List.append_assoc, List.cons_append, List.nil_append, List.append_nil]))) fun u31 M => ?_
        refine nT ?_
        refine ⟨M, ?_⟩
        refine hl_val M 30 rfl (by decide) (by kernel_rfl) (by kernel_rfl) (want_on 15 false rfl 124 rfl (by kernel_rfl)) (some 139) rfl (.bool false) (fun w _ => (fun w => by rcases Bool.eq_false_or_eq_true ((pX y1 b1).wn (Nw j)) with h_ | h_ <;> rw [h_] <;> kernel_rfl) w) ?_
        refine qV M 31 140 (.bool false) ?_
        refine qV M 32 141 (.bool false) ?_
        refine hl_val M 33 rfl (by decide) (by kernel_rfl) (by kernel_rfl) (want_on 32 false rfl 141 rfl (by kernel_rfl)) (some 142) rfl (.pointer (some ⟨p1, 0, none⟩)) (fun _ _ => by kernel_rfl) ?_
        refine hl_val M 35 rfl (by decide) (by kernel_rfl) (by kernel_rfl) (want_on 32 false rfl 141 rfl (by kernel_rfl)) (some 144) rfl (.pointer (some ⟨d1, 0, none⟩)) (fun _ _ => by kernel_rfl) ?_
        refine hl_val M 36 rfl (by decide) (by kernel_rfl) (by kernel_rfl) (want_on 32 false rfl 141 rfl (by kernel_rfl)) (some 145) rfl (.pointer (some ⟨d1, 0, none⟩)) (fun _ _ => by kernel_rfl) ?_
        refine hl_val M 37 rfl (by decide) (by kernel_rfl) (by kernel_rfl) (want_on 32 false rfl 141 rfl (by kernel_rfl)) (some 146) rfl (.pointer (some ⟨d1, 12, none⟩)) (fun _ _ => by kernel_rfl) ?_
        refine hl_cell M 38 rfl (by decide) (by kernel_rfl) (by kernel_rfl) (want_on 32 false rfl 141 rfl (by kernel_rfl)) (some 147) rfl 4 _ rfl d1 12 (by kernel_rfl) (.bool (y1.su)) (fun _ => by kernel_rfl) (fun w M => isD_su E1 ((M.thereM (pre := (⟨g3, .cells (av 6 (ls [.pointer (some ⟨p0, 0, none⟩), .pointer (some ⟨p1, 0, none⟩), .pointer (some ⟨d0, 0, none⟩), .pointer (some ⟨d1, 0, none⟩), s0, s1])) 37⟩ :: (T0 ++ (T1 ++ D0)))) (T := D1) (suf := (S0 ++ S1)) (by simp only [List.append_assoc, List.cons_append, List.nil_append, List.append_nil])))) ?_
        refine hl_one 34 (by decide) (by kernel_rfl) rfl ?_
        refine pl_call M (want_on 32 false rfl 141 rfl (by kernel_rfl)) (some 143) rfl 14 #[.pointer (some ⟨p1, 0, none⟩)] (.bool (y1.su)) (fun _ => by kernel_rfl) (fun w M => call_val (a_Sure H1 w M.laid (M.thereM (pre := (⟨g3, .cells (av 6 (ls [.pointer (some ⟨p0, 0, none⟩), .pointer (some ⟨p1, 0, none⟩), .pointer (some ⟨d0, 0, none⟩), .pointer (some ⟨d1, 0, none⟩), s0, s1])) 37⟩ :: T0)) (T := T1) (suf := (D0 ++ (D1 ++ (S0 ++ S1)))) (by simp only [List.append_assoc, List.cons_append, List.nil_append, List.append_nil]))) (by rw [(pX_su y1 b1).1])) fun u32 M => ?_
        refine nT ?_
        refine ⟨M, ?_⟩
        refine hl_val M 39 rfl (by decide) (by kernel_rfl) (by kernel_rfl) (want_on 32 false rfl 141 rfl (by kernel_rfl)) (some 148) rfl (.bool false) (fun w _ => (fun w => by rcases Bool.eq_false_or_eq_true (y1.su) with h_ | h_ <;> rw [h_] <;> kernel_rfl) w) ?_
        refine qV M 40 149 (.bool false) ?_
        refine qV M 41 150 (.bool false) ?_
        refine hl_val M 42 rfl (by decide) (by kernel_rfl) (by kernel_rfl) (want_on 41 false rfl 150 rfl (by kernel_rfl)) (some 151) rfl (.pointer (some ⟨p1, 0, none⟩)) (fun _ _ => by kernel_rfl) ?_
        refine hl_val M 44 rfl (by decide) (by kernel_rfl) (by kernel_rfl) (want_on 41 false rfl 150 rfl (by kernel_rfl)) (some 153) rfl (.pointer (some ⟨d1, 0, none⟩)) (fun _ _ => by kernel_rfl) ?_
        refine hl_val M 45 rfl (by decide) (by kernel_rfl) (by kernel_rfl) (want_on 41 false rfl 150 rfl (by kernel_rfl)) (some 154) rfl (.pointer (some ⟨d1, 0, none⟩)) (fun _ _ => by kernel_rfl) ?_
        refine hl_val M 46 rfl (by decide) (by kernel_rfl) (by kernel_rfl) (want_on 41 false rfl 150 rfl (by kernel_rfl)) (some 155) rfl (.pointer (some ⟨d1, 9, none⟩)) (fun _ _ => by kernel_rfl) ?_
        refine hl_cell M 47 rfl (by decide) (by kernel_rfl) (by kernel_rfl) (want_on 41 false rfl 150 rfl (by kernel_rfl)) (some 156) rfl 24 _ rfl d1 9 (by kernel_rfl) (.int .u64 ((y1.nx : Nat) : Int)) (fun _ => by kernel_rfl) (fun w M => isD_nx E1 ((M.thereM (pre := (⟨g3, .cells (av 6 (ls [.pointer (some ⟨p0, 0, none⟩), .pointer (some ⟨p1, 0, none⟩), .pointer (some ⟨d0, 0, none⟩), .pointer (some ⟨d1, 0, none⟩), s0, s1])) 37⟩ :: (T0 ++ (T1 ++ D0)))) (T := D1) (suf := (S0 ++ S1)) (by simp only [List.append_assoc, List.cons_append, List.nil_append, List.append_nil])))) ?_
        refine hl_one 43 (by decide) (by kernel_rfl) rfl ?_
        refine pl_call M (want_on 41 false rfl 150 rfl (by kernel_rfl)) (some 152) rfl 15 #[.pointer (some ⟨p1, 0, none⟩)] (.int .u64 ((y1.nx : Nat) : Int)) (fun _ => by kernel_rfl) (fun w M => call_val (a_Sent H1 w M.laid (M.thereM (pre := (⟨g3, .cells (av 6 (ls [.pointer (some ⟨p0, 0, none⟩), .pointer (some ⟨p1, 0, none⟩), .pointer (some ⟨d0, 0, none⟩), .pointer (some ⟨d1, 0, none⟩), s0, s1])) 37⟩ :: T0)) (T := T1) (suf := (D0 ++ (D1 ++ (S0 ++ S1)))) (by simp only [List.append_assoc, List.cons_append, List.nil_append, List.append_nil]))) (by rw [(pX_su y1 b1).2.1])) fun u33 M => ?_
        refine nT ?_
        refine ⟨M, ?_⟩
        refine hl_val M 48 rfl (by decide) (by kernel_rfl) (by kernel_rfl) (want_on 41 false rfl 150 rfl (by kernel_rfl)) (some 157) rfl (.bool false) (fun w _ => (fun w => Eq.trans (b := .ok (.value (.bool (!(decide (((y1.nx : Nat) : Int) = ((y1.nx : Nat) : Int)))))) w) (by kernel_rfl) (by rw [decide_eq_true rfl]; rfl)) w) ?_
        refine hl_end (by kernel_rfl) (by kernel_rfl) rfl ?_
        refine rV 1 ?_
        refine nT ?_
        refine au_then ?_
        refine wp_cond_false (by kernel_rfl) ?_
        refine wp_skip ?_
        refine au_block ?_
        refine au_then ?_
        refine rg_lit ?_
        refine rV 3 ?_
        refine nT ?_
        refine rounds_go ?_
        refine wp_seq ?_
        refine sq ?_
        refine wp_cond_false (by kernel_rfl) ?_
        refine wp_exit ?_
        refine au_then_exit ?_
        refine au_then_exit ?_
        refine au_block_exit ?_
        refine au_block ?_
        refine au_then ?_
        refine rg_lit ?_
        refine rV 1 ?_
        refine pH 90 (.int .i64 ((j + 1 : Nat) : Int)) (fun w => Eq.trans (b := .ok (.value (.int .i64 (IntKind.wrap .i64 ((j : Int) + 1)))) w) (by kernel_rfl) (by rw [wrap64 (by omega) (by omega)]; rfl)) ?_
        refine rV 1 ?_
        refine nT ?_
        exact ⟨fun k_ => ([v1 8, undef, undef, undef, undef, undef, undef, undef, undef, .int .i64 2, .pointer (some ⟨p1, 0, none⟩), .pointer (some ⟨d1, 0, none⟩), undef, undef, undef, undef, undef, undef, undef, undef, undef, undef, undef, undef, undef, undef, undef, undef, undef, undef, undef, undef, undef, undef, undef, undef, undef, undef, undef, undef, undef, undef, undef, undef, undef, undef, undef, undef, undef, undef, undef, undef, undef, undef, undef, undef, undef, undef, undef, undef, undef, undef, undef, undef, undef, undef, undef, undef, undef, undef, undef, undef, undef, undef, undef, undef, undef, .int .i64 (j : Int), .slice l4 n4 k4, .int .i64 (n4 : Int), .bool true, .int .i64 (j : Int), .int .i64 ((j + 1 : Nat) : Int), .slice l4 n4 k4, .int .i64 (j : Int), .pointer (some ⟨b4, (o4 + j * 6), none⟩), .agg (av 6 (ls [.int .i64 (Dd j), .int .u8 ((At j : Nat) : Int), .string (Y j), .int .i64 (Wh j), .int .i64 (Nn j), .int .u64 ((Nw j : Nat) : Int)])), .bool true, .bool false, .int .i64 2, .bool false, .int .i64 1, .int .i64 2, .int .i64 1, .pointer (some ⟨g3, 0, none⟩), .pointer (some ⟨g3, 1, none⟩), .pointer (some ⟨p1, 0, none⟩), .int .i64 1, .pointer (some ⟨g3, 2, none⟩), .pointer (some ⟨g3, 3, none⟩), .pointer (some ⟨d1, 0, none⟩), .pointer (some ⟨p1, 0, none⟩), .slice l4 n4 k4, .int .i64 (j : Int), .pointer (some ⟨b4, (o4 + j * 6), none⟩), .pointer (some ⟨b4, ((o4 + j * 6) + 5), none⟩), .int .u64 ((Nw j : Nat) : Int), .bool ((pX y1 b1).ov (Nw j)), .pointer (some ⟨d1, 0, none⟩), .slice l4 n4 k4, .int .i64 (j : Int), .pointer (some ⟨b4, (o4 + j * 6), none⟩), .pointer (some ⟨b4, ((o4 + j * 6) + 5), none⟩), .int .u64 ((Nw j : Nat) : Int), .bool ((pX y1 b1).ov (Nw j)), .bool false, .bool false, .pointer (some ⟨p1, 0, none⟩), .slice l4 n4 k4, .int .i64 (j : Int), .pointer (some ⟨b4, (o4 + j * 6), none⟩), .pointer (some ⟨b4, ((o4 + j * 6) + 5), none⟩), .int .u64 ((Nw j : Nat) : Int), .bool ((pX y1 b1).wn (Nw j)), .pointer (some ⟨d1, 0, none⟩), .slice l4 n4 k4, .int .i64 (j : Int), .pointer (some ⟨b4, (o4 + j * 6), none⟩), .pointer (some ⟨b4, ((o4 + j * 6) + 5), none⟩), .int .u64 ((Nw j : Nat) : Int), .bool ((pX y1 b1).wn (Nw j)), .bool false, .bool false, .bool false, .pointer (some ⟨p1, 0, none⟩), .bool (y1.su), .pointer (some ⟨d1, 0, none⟩), .pointer (some ⟨d1, 0, none⟩), .pointer (some ⟨d1, 12, none⟩), .bool (y1.su), .bool false, .bool false, .bool false, .pointer (some ⟨p1, 0, none⟩), .int .u64 ((y1.nx : Nat) : Int), .pointer (some ⟨d1, 0, none⟩), .pointer (some ⟨d1, 0, none⟩), .pointer (some ⟨d1, 9, none⟩), .int .u64 ((y1.nx : Nat) : Int), .bool false, .bool false] : List Value).getD (k_ - 8) undef, (⟨g3, .cells (av 6 (ls [.pointer (some ⟨p0, 0, none⟩), .pointer (some ⟨p1, 0, none⟩), .pointer (some ⟨d0, 0, none⟩), .pointer (some ⟨d1, 0, none⟩), s0, s1])) 37⟩ :: (T0 ++ (T1 ++ (D0 ++ (D1 ++ (S0 ++ S1)))))), by kernel_rfl, M, hP3⟩
      · intro a u0 hI
        obtain ⟨v1, B, rfl, M, hP⟩ := hI
        have hYj := hv_no c0
        refine wp_seq ?_
        refine sR ?_
        refine rV 3 ?_
        refine ZF 88 ((n4 : Int) < (n4 : Int)) ?_
        refine nT ?_
        refine wp_cond_false (by kernel_rfl) ?_
        refine wp_exit ?_
        refine au_then_exit ?_
        refine au_then_exit ?_
        refine au_block_exit ?_
        refine au_then ?_
        refine sR ?_
        refine ZC M 159 (fun w M => c_alive w M.laid) fun u19 M => ?_
        refine rV 1 ?_
        refine nT ?_
        refine wp_ret ?_
        exact b1 M


end Go.Proofs.YtenafinbaanicaaGreatDoor
namespace Go.Proofs.YtenafinbaanicaaGreatDoor
open Go.ChangeShapes Go.WideShapes Go.ChangeAt Go.RowKit Go.Deep
set_option maxRecDepth 100000

theorem laidOut : laidOutB Tryz.prog = true := by kernel_rfl
theorem ownNone : ownKnob Tryz.prog.godebug = none := by kernel_rfl
section
variable {W : World} {b0 : Nat} {v : Value}
set_option maxRecDepth 100000 in
theorem cell_bool (h : Cell.okWide Tryz.prog W .any b0 4 v) : ∃ b, v = .bool b := by
  simp only [Cell.okWide, Tryz.underlying4] at h
  cases v <;> simp_all [Cell.ok, Tryz.underlying4]
set_option maxRecDepth 100000 in
theorem cell_u64 (h : Cell.okWide Tryz.prog W .any b0 24 v) : ∃ n, v = .int .u64 n ∧ 0 ≤ n ∧ n < 18446744073709551616 := by
  simp only [Cell.okWide, Tryz.underlying24] at h
  cases v <;> simp_all [Cell.ok, Tryz.underlying24]
  rename_i k n
  obtain ⟨rfl, h1, h2⟩ := h
  simp [IntKind.min, IntKind.max, IntKind.bits, IntKind.signed] at h1 h2
  exact ⟨h1, by omega⟩
set_option maxRecDepth 100000 in
theorem cell_u8 (h : Cell.okWide Tryz.prog W .any b0 5 v) : ∃ n, v = .int .u8 n ∧ 0 ≤ n ∧ n < 256 := by
  simp only [Cell.okWide, Tryz.underlying5] at h
  cases v <;> simp_all [Cell.ok, Tryz.underlying5]
  rename_i k n
  obtain ⟨rfl, h1, h2⟩ := h
  simp [IntKind.min, IntKind.max, IntKind.bits, IntKind.signed] at h1 h2
  exact ⟨h1, by omega⟩
set_option maxRecDepth 100000 in
theorem cell_str (h : Cell.okWide Tryz.prog W .any b0 9 v) : ∃ s, v = .string s := by
  simp only [Cell.okWide, Tryz.underlying9] at h
  cases v <;> simp_all [Cell.ok, Tryz.underlying9]
set_option maxRecDepth 100000 in
theorem cell_i64 (h : Cell.okWide Tryz.prog W .any b0 3 v) : ∃ n, v = .int .i64 n ∧ -9223372036854775808 ≤ n ∧ n < 9223372036854775808 := by
  simp only [Cell.okWide, Tryz.underlying3] at h
  cases v <;> simp_all [Cell.ok, Tryz.underlying3]
  rename_i k n
  obtain ⟨rfl, h1, h2⟩ := h
  simp [IntKind.min, IntKind.max, IntKind.bits, IntKind.signed] at h1 h2
  exact ⟨h1, by omega⟩
set_option maxRecDepth 100000 in
theorem op9 (h : Value.okWide Tryz.prog W .any b0 9 v) : ∃ s, v = .string s := by
  simp only [Value.okWide, Tryz.underlying9] at h
  exact cell_str h
set_option maxRecDepth 100000 in
theorem op5 (h : Value.okWide Tryz.prog W .any b0 5 v) : ∃ n, v = .int .u8 n ∧ 0 ≤ n ∧ n < 256 := by
  simp only [Value.okWide, Tryz.underlying5] at h
  exact cell_u8 h
set_option maxRecDepth 100000 in
theorem row_av (cs : Array Value) (l : List Value) (hs : cs.size = l.length) (h : ∀ i, i < l.length → cs[i]? = l[i]?) : cs = av l.length (ls l) := by
  apply Array.ext_getElem?
  intro i
  by_cases hi : i < l.length
  · rw [h i hi, av_get _ _ _ hi]
    unfold ls
    rw [getD_app, List.getElem?_eq_getElem hi]
    rfl
  · rw [Array.getElem?_eq_none (by omega), Array.getElem?_eq_none (by rw [av_size]; omega)]
end
set_option maxRecDepth 100000 in
theorem row_cells {W : World} {b0 : Nat} {t : TypeId} {v : Value} {fs : Array Field} {ts : List TypeId} (ht : Tryz.prog.underlying t = some (.struct fs)) (hc : Tryz.prog.cellTypes Tryz.prog.depth t = some ts) (hn : Tryz.prog.cellsOf t = ts.length) (h : Value.okWide Tryz.prog W .any b0 t v) : ∃ cs, v = .agg cs ∧ cs.size = ts.length ∧ ∀ (i : Nat) (u : TypeId), ts[i]? = some u → ∃ x, cs[i]? = some x ∧ Cell.okWide Tryz.prog W .any b0 u x := by
  simp only [Value.okWide, ht] at h
  obtain ⟨cs, rfl, h2, ts2, h3, _, h4⟩ := h
  rw [hc] at h3
  cases h3
  refine ⟨cs, rfl, by omega, fun i u hu => ?_⟩
  have hi := (List.getElem?_eq_some_iff.1 hu).1
  obtain ⟨u2, hu2, hx⟩ := h4 i cs[i] (Array.getElem?_eq_getElem (by omega))
  rw [Nat.mod_eq_of_lt hi, hu] at hu2
  cases hu2
  exact ⟨cs[i], Array.getElem?_eq_getElem (by omega), hx⟩
theorem op_lim {W : World} {b0 : Nat} {v : Value} (h : Value.okWide Tryz.prog W .any b0 26 v) : ∃ (a b c d : Nat) (z : Int), v = .agg (av 5 (ls [.int .u64 (a : Int), .int .u64 (b : Int), .int .u64 (c : Int), .int .u64 (d : Int), .int .i64 z])) ∧ -9223372036854775808 ≤ z ∧ z < 9223372036854775808 := by
  obtain ⟨cs, rfl, hs, hc⟩ := row_cells (ts := [24, 24, 24, 24, 3]) Tryz.underlying26 (by kernel_rfl) (by kernel_rfl) h
  obtain ⟨x0, e0, o0⟩ := hc 0 24 rfl
  obtain ⟨y0, rfl, r0, _⟩ := cell_u64 o0
  obtain ⟨x1, e1, o1⟩ := hc 1 24 rfl
  obtain ⟨y1, rfl, r1, _⟩ := cell_u64 o1
  obtain ⟨x2, e2, o2⟩ := hc 2 24 rfl
  obtain ⟨y2, rfl, r2, _⟩ := cell_u64 o2
  obtain ⟨x3, e3, o3⟩ := hc 3 24 rfl
  obtain ⟨y3, rfl, r3, _⟩ := cell_u64 o3
  obtain ⟨x4, e4, o4⟩ := hc 4 3 rfl
  obtain ⟨y4, rfl, r4⟩ := cell_i64 o4
  refine ⟨y0.toNat, y1.toNat, y2.toNat, y3.toNat, y4, ?_, r4⟩
  rw [Int.toNat_of_nonneg r0, Int.toNat_of_nonneg r1, Int.toNat_of_nonneg r2, Int.toNat_of_nonneg r3]
  refine congrArg Value.agg (row_av cs [.int .u64 y0, .int .u64 y1, .int .u64 y2, .int .u64 y3, .int .i64 y4] hs fun i hi => ?_)
  rcases i with _ | _ | _ | _ | _ | i
  · exact e0
  · exact e1
  · exact e2
  · exact e3
  · exact e4
  · exact absurd hi (by simp)
theorem wt_cons {H : Type} (P : Program) (t : TypeId) (ts : List TypeId) (d : DataW H) (r : List (DataW H)) (h : (DataW.weightsEach P (t :: ts) (d :: r)).all (· ≤ reachBytes) = true) : (d.weights P t).all (· ≤ reachBytes) = true ∧ (DataW.weightsEach P ts r).all (· ≤ reachBytes) = true := by
  simp only [DataW.weightsEach, List.all_append, Bool.and_eq_true] at h
  exact h
theorem wt_all {H : Type} (P : Program) (e : TypeId) : ∀ (l : List (DataW H)), (DataW.weightsAll P e l).all (· ≤ reachBytes) = true → ∀ d ∈ l, (d.weights P e).all (· ≤ reachBytes) = true
  | [], _, d, hd => by cases hd
  | x :: l, h, d, hd => by
    simp only [DataW.weightsAll, List.all_append, Bool.and_eq_true] at h
    rcases List.mem_cons.1 hd with rfl | hd
    · exact h.1
    · exact wt_all P e l h.2 d hd
theorem wt_text {H : Type} (P : Program) (t : TypeId) (s : ByteArray) (h : ((DataW.lit (.string s.data.toList) : DataW H).weights P t).all (· ≤ reachBytes) = true) : s.size ≤ 140737488351232 := by
  simp only [DataW.weights, List.all_cons, List.all_nil, Bool.and_true, reachBytes] at h
  have h1 := of_decide_eq_true h
  have e : s.data.toList.length = s.size := rfl
  omega
section
variable {H : Type} {enc : TypeId × Value → H}
/-- A slice of elements of K cells, opened. -/
theorem open_rows {T e : TypeId} {K : Nat} {W : World} {b0 : Nat} {v : Value} {d : DataW H} {p : List MemPlace} (ht : Tryz.prog.underlying T = some (.slice e)) (hK : Tryz.prog.cellsOf e = K) (h0 : 0 < K) (hval : Value.okWide Tryz.prog W .any b0 T v) (h : DataW.Trod enc Tryz.prog W 0 (fun _ => true) true T v d p) (hw : (d.weights Tryz.prog T).all (· ≤ reachBytes) = true) :
    ∃ (l : Option Addr) (b o len cap n : Nat) (C : Nat → List Value) (D : Nat → DataW H), v = .slice l len cap ∧ len ≤ 9223372036854775807 ∧ (0 < len → l = some ⟨b, o, none⟩) ∧ ∀ j, j < len → (C j).length = K ∧ (∀ i x, (C j)[i]? = some x → W.cell? ⟨b, o + j * K + i, none⟩ = some x) ∧ (∃ q, DataW.trod enc Tryz.prog W 0 (fun _ => true) true n e (C j) = some (D j, q)) ∧ ((D j).weights Tryz.prog e).all (· ≤ reachBytes) = true := by
  obtain ⟨l, len, cap, rfl⟩ := okWide_slice ht hval
  obtain ⟨n, h⟩ := h
  rcases open_slice ht h with ⟨hc, hx⟩ | ⟨a, len', cap', m, k, D, Pl, hc, _, hl, hm, hmm, hx, hall⟩
  · simp [Value.cells] at hc
    obtain ⟨rfl, rfl, rfl⟩ := hc
    exact ⟨none, 0, 0, 0, 0, 0, fun _ => [], fun _ => .nil, rfl, by omega, fun h => by omega, fun j h => by omega⟩
  · simp [Value.cells] at hc
    obtain ⟨rfl, rfl, rfl⟩ := hc
    simp only [if_true] at hmm
    subst hmm
    rw [hK] at hall
    obtain ⟨C, hC⟩ := choose_lt (p := fun i cs' => W.cells? 0 (a.add (i * K)) K = some cs' ∧ DataW.trod enc Tryz.prog W 0 (fun _ => true) true k e cs' = some (D i, Pl i)) hall
    obtain ⟨b, o, spot⟩ := a
    have hspot : 0 < len → spot = none := fun h1 => by
      obtain ⟨_, h3, h4⟩ := World.cells?_some (hC 0 (by omega)).1
      have h5 := h4 0 h0
      rw [List.getElem?_eq_getElem (by omega)] at h5
      simpa [Addr.add] using World.cell?_spot h5
    have hml : maxLen = 9223372036854775807 := rfl
    have hd : d = .slice ((List.range len).map D) ((List.range (m - len)).map fun j => D (len + j)) := congrArg Prod.fst hx
    subst hd
    unfold DataW.weights at hw
    rw [ht] at hw
    simp only [List.all_cons, List.all_append, Bool.and_eq_true] at hw
    refine ⟨_, b, o, len, m, k, C, D, rfl, by omega, fun h1 => by rw [hspot h1], fun j hj => ?_⟩
    obtain ⟨h1, h2⟩ := hC j (by omega)
    obtain ⟨_, h3, h4⟩ := World.cells?_some h1
    refine ⟨h3, fun i x hi => ?_, ⟨_, h2⟩, wt_all _ _ _ hw.2.1 _ (List.mem_map.2 ⟨j, List.mem_range.2 hj, rfl⟩)⟩
    have h5 := h4 i (by have := (List.getElem?_eq_some_iff.1 hi).1; omega)
    rw [hspot (by omega), add_plain, add_plain, hi] at h5
    exact h5
theorem one_of {l : List Value} (h : l.length = 1) : ∃ x, l = [x] := by
  match l, h with
  | [x], _ => exact ⟨x, rfl⟩
theorem open_texts {T : TypeId} {W : World} {b0 : Nat} {v : Value} {d : DataW H} {p : List MemPlace} (ht : Tryz.prog.underlying T = some (.slice 9)) (hval : Value.okWide Tryz.prog W .any b0 T v) (h : DataW.Trod enc Tryz.prog W 0 (fun _ => true) true T v d p) (hw : (d.weights Tryz.prog T).all (· ≤ reachBytes) = true) :
    ∃ (l : Option Addr) (b o len cap : Nat) (Y : Nat → ByteArray), v = .slice l len cap ∧ len ≤ 9223372036854775807 ∧ (0 < len → l = some ⟨b, o, none⟩) ∧ (∀ j, j < len → W.cell? ⟨b, o + j * 1, none⟩ = some (.string (Y j))) ∧ ∀ j, j < len → (Y j).size ≤ 140737488351232 := by
  obtain ⟨l, b, o, len, cap, n, C, D, rfl, hm, hl, hC⟩ := open_rows ht (K := 1) (by kernel_rfl) (by decide) hval h hw
  have hs : ∀ i, i < len → ∃ s, C i = [.string s] ∧ s.size ≤ 140737488351232 := fun i hi => by
    obtain ⟨h1, h2, ⟨q, h3⟩, h4⟩ := hC i hi
    obtain ⟨s, e1, e2, _⟩ := DataW.trod_string Tryz.underlying9 h3
    have e3 : D i = .lit (.string s.data.toList) := congrArg Prod.fst e2
    rw [e3] at h4
    exact ⟨s, e1, wt_text _ _ s h4⟩
  obtain ⟨Y, hY⟩ := choose_lt hs
  exact ⟨l, b, o, len, cap, Y, rfl, hm, hl, fun j hj => (hC j hj).2.1 0 _ (by rw [(hY j hj).1]; rfl), fun j hj => (hY j hj).2⟩
theorem open_bytes {T : TypeId} {W : World} {b0 : Nat} {v : Value} {d : DataW H} {p : List MemPlace} (ht : Tryz.prog.underlying T = some (.slice 5)) (hval : Value.okWide Tryz.prog W .any b0 T v) (h : DataW.Trod enc Tryz.prog W 0 (fun _ => true) true T v d p) (hw : (d.weights Tryz.prog T).all (· ≤ reachBytes) = true) :
    ∃ (l : Option Addr) (b o len cap : Nat) (X : Nat → Nat), v = .slice l len cap ∧ len ≤ 9223372036854775807 ∧ (0 < len → l = some ⟨b, o, none⟩) ∧ (∀ j, j < len → W.cell? ⟨b, o + j * 1, none⟩ = some (.int .u8 ((X j : Nat) : Int))) ∧ ∀ j, j < len → X j < 256 := by
  obtain ⟨l, b, o, len, cap, n, C, D, rfl, hm, hl, hC⟩ := open_rows ht (K := 1) (by kernel_rfl) (by decide) hval h hw
  have hs : ∀ i, i < len → ∃ x : Nat, C i = [.int .u8 (x : Int)] ∧ x < 256 := fun i hi => by
    obtain ⟨h1, h2, ⟨q, h3⟩, h4⟩ := hC i hi
    obtain ⟨y, e1, _, e3⟩ := DataW.trod_int Tryz.underlying5 h3
    have h6 : 0 ≤ y ∧ y ≤ 255 := by simpa [Lit.wf, IntKind.min, IntKind.max, IntKind.signed, IntKind.bits] using e3
    exact ⟨y.toNat, by rw [e1, Int.toNat_of_nonneg h6.1], by omega⟩
  obtain ⟨Y, hY⟩ := choose_lt hs
  exact ⟨l, b, o, len, cap, Y, rfl, hm, hl, fun j hj => (hC j hj).2.1 0 _ (by rw [(hY j hj).1]; rfl), fun j hj => (hY j hj).2⟩
end

end Go.Proofs.YtenafinbaanicaaGreatDoor
namespace Go.Proofs.YtenafinbaanicaaGreatDoor
open Go.ChangeShapes Go.WideShapes Go.ChangeAt Go.RowKit Go.Deep
set_option maxRecDepth 100000

theorem op_got {W : World} {b0 : Nat} {v : Value} (h : Value.okWide Tryz.prog W .any b0 23 v) : ∃ (a b c d e : ByteArray), v = .agg (av 5 (ls [.string a, .string b, .string c, .string d, .string e])) := by
  obtain ⟨cs, rfl, hs, hc⟩ := row_cells (ts := [9, 9, 9, 9, 9]) Tryz.underlying23 (by kernel_rfl) (by kernel_rfl) h
  obtain ⟨x0, e0, o0⟩ := hc 0 9 rfl
  obtain ⟨y0, rfl⟩ := cell_str o0
  obtain ⟨x1, e1, o1⟩ := hc 1 9 rfl
  obtain ⟨y1, rfl⟩ := cell_str o1
  obtain ⟨x2, e2, o2⟩ := hc 2 9 rfl
  obtain ⟨y2, rfl⟩ := cell_str o2
  obtain ⟨x3, e3, o3⟩ := hc 3 9 rfl
  obtain ⟨y3, rfl⟩ := cell_str o3
  obtain ⟨x4, e4, o4⟩ := hc 4 9 rfl
  obtain ⟨y4, rfl⟩ := cell_str o4
  refine ⟨y0, y1, y2, y3, y4, congrArg Value.agg (row_av cs [.string y0, .string y1, .string y2, .string y3, .string y4] hs fun i hi => ?_)⟩
  rcases i with _ | _ | _ | _ | _ | i
  · exact e0
  · exact e1
  · exact e2
  · exact e3
  · exact e4
  · exact absurd hi (by simp)
theorem wt_at {H : Type} (P : Program) : ∀ (ts : List TypeId) (ds : List (DataW H)) (i : Nat) (t : TypeId) (s : ByteArray), ts[i]? = some t → ds[i]? = some (.lit (.string s.data.toList)) → (DataW.weightsEach P ts ds).all (· ≤ reachBytes) = true → s.size ≤ 140737488351232
  | t :: ts, d :: ds, 0, t', s, _, hd, h => by
    simp only [List.getElem?_cons_zero, Option.some.injEq] at hd
    subst hd
    exact wt_text P t s (wt_cons P t ts _ ds h).1
  | t :: ts, d :: ds, i + 1, t', s, ht, hd, h => by
    simp only [List.getElem?_cons_succ] at ht hd
    exact wt_at P ts ds i t' s ht hd (wt_cons P t ts d ds h).2
  | [], _, _, _, _, ht, _, _ => by simp at ht
  | _ :: _, [], _, _, _, _, hd, _ => by simp at hd
theorem cl9 : Tryz.prog.cellsOf 9 = 1 := by kernel_rfl
theorem wt_got {H : Type} {enc : TypeId × Value → H} {W : World} {b0 : Nat} {sp : Nat → Bool} {hd : Bool} {a b c e f : ByteArray} {d : DataW H} {p : List MemPlace} (h : DataW.Trod enc Tryz.prog W b0 sp hd 23 (.agg (av 5 (ls [.string a, .string b, .string c, .string e, .string f]))) d p) (h1 : (d.weights Tryz.prog 23).all (· ≤ reachBytes) = true) : c.size ≤ 140737488351232 ∧ e.size ≤ 140737488351232 := by
  obtain ⟨fuel, h⟩ := h
  obtain ⟨xs, n, _, hx, _, hlen, hf⟩ := DataW.trod_struct Tryz.underlying23 h
  have h14 : xs.length = 5 := hlen
  have hx1 := congrArg Prod.fst hx
  simp only at hx1
  subst hx1
  have hws : (DataW.weightsEach Tryz.prog [9, 9, 9, 9, 9] (xs.map (·.1))).all (· ≤ reachBytes) = true := by
    unfold DataW.weights at h1
    rw [Tryz.underlying23] at h1
    exact h1
  have key : ∀ (i : Nat) (s : ByteArray), i < 5 → ([9, 9, 9, 9, 9] : List TypeId)[i]? = some 9 → DataW.trod enc Tryz.prog W b0 sp hd n 9 [.string s] = xs[i]? → s.size ≤ 140737488351232 := fun i s hi ht he => by
    have hl : i < xs.length := by omega
    rw [List.getElem?_eq_getElem hl] at he
    obtain ⟨s', e1, e2, _⟩ := DataW.trod_string Tryz.underlying9 he
    simp only [List.cons.injEq, Value.string.injEq, and_true] at e1
    subst e1
    exact wt_at _ _ _ i 9 s ht (by rw [List.getElem?_map, List.getElem?_eq_getElem hl, e2]; rfl) hws
  exact ⟨key 2 _ (by decide) rfl (hf 2 _ rfl), key 3 _ (by decide) rfl (hf 3 _ rfl)⟩
section
variable {H : Type} {enc : TypeId × Value → H}
theorem six_of {l : List Value} (h : l.length = 6) : ∃ a b c d e f, l = [a, b, c, d, e, f] := by
  match l, h with
  | [a, b, c, d, e, f], _ => exact ⟨a, b, c, d, e, f, rfl⟩
theorem int_lit {W : World} {n : Nat} {T : TypeId} {k : IntKind} {x : Value} {y : DataW H × List MemPlace} (ht : Tryz.prog.underlying T = some (.int k)) (h : DataW.trod enc Tryz.prog W 0 (fun _ => true) true n T [x] = some y) : ∃ z : Int, x = .int k z ∧ (Lit.int k z).wf = true := by
  obtain ⟨z, e1, _, e3⟩ := DataW.trod_int ht h
  simp only [List.cons.injEq, and_true] at e1
  exact ⟨z, e1, e3⟩
theorem open_steps {W : World} {b0 : Nat} {v : Value} {d : DataW H} {p : List MemPlace} (hval : Value.okWide Tryz.prog W .any b0 27 v) (h : DataW.Trod enc Tryz.prog W 0 (fun _ => true) true 27 v d p) (hw : (d.weights Tryz.prog 27).all (· ≤ reachBytes) = true) :
    ∃ (l : Option Addr) (b o len cap : Nat) (Dd Wh Nn : Nat → Int) (At Nw : Nat → Nat) (Y : Nat → ByteArray), v = .slice l len cap ∧ len ≤ 9223372036854775807 ∧ (0 < len → l = some ⟨b, o, none⟩) ∧ (∀ j, j < len → (Y j).size ≤ 140737488351232) ∧ (∀ j, j < len → At j < 256) ∧ (∀ j, j < len → Nw j < 18446744073709551616) ∧ (∀ j, j < len → W.cell? ⟨b, o + j * 6 + 0, none⟩ = some (.int .i64 (Dd j))) ∧ (∀ j, j < len → W.cell? ⟨b, o + j * 6 + 1, none⟩ = some (.int .u8 ((At j : Nat) : Int))) ∧ (∀ j, j < len → W.cell? ⟨b, o + j * 6 + 2, none⟩ = some (.string (Y j))) ∧ (∀ j, j < len → W.cell? ⟨b, o + j * 6 + 3, none⟩ = some (.int .i64 (Wh j))) ∧ (∀ j, j < len → W.cell? ⟨b, o + j * 6 + 4, none⟩ = some (.int .i64 (Nn j))) ∧ (∀ j, j < len → W.cell? ⟨b, o + j * 6 + 5, none⟩ = some (.int .u64 ((Nw j : Nat) : Int))) := by
  obtain ⟨l, b, o, len, cap, n, C, D, rfl, hm, hl, hC⟩ := open_rows Tryz.underlying27 (K := 6) (by kernel_rfl) (by decide) hval h hw
  have hs : ∀ i, i < len → ∃ t : Int × Nat × ByteArray × Int × Int × Nat, C i = [.int .i64 t.1, .int .u8 (t.2.1 : Int), .string t.2.2.1, .int .i64 t.2.2.2.1, .int .i64 t.2.2.2.2.1, .int .u64 (t.2.2.2.2.2 : Int)] ∧ t.2.2.1.size ≤ 140737488351232 ∧ t.2.1 < 256 ∧ t.2.2.2.2.2 < 18446744073709551616 := fun i hi => by
    obtain ⟨h1, h2, ⟨q, h3⟩, h4⟩ := hC i hi
    obtain ⟨c0, c1, c2, c3, c4, c5, hc⟩ := six_of h1
    rw [hc] at h3 ⊢
    obtain ⟨xs, m, _, hx, _, hlen, hf⟩ := DataW.trod_struct Tryz.underlying45 h3
    have h14 : xs.length = 6 := hlen
    have hx1 : D i = .agg (xs.map (·.1)) := congrArg Prod.fst hx
    rw [hx1] at h4
    have hws : (DataW.weightsEach Tryz.prog [3, 5, 9, 3, 3, 24] (xs.map (·.1))).all (· ≤ reachBytes) = true := by
      unfold DataW.weights at h4
      rw [Tryz.underlying45] at h4
      exact h4
    have f0 : DataW.trod enc Tryz.prog W 0 (fun _ => true) true m 3 [c0] = xs[0]? := hf 0 _ rfl
    have f1 : DataW.trod enc Tryz.prog W 0 (fun _ => true) true m 5 [c1] = xs[1]? := hf 1 _ rfl
    have f2 : DataW.trod enc Tryz.prog W 0 (fun _ => true) true m 9 [c2] = xs[2]? := hf 2 _ rfl
    have f3 : DataW.trod enc Tryz.prog W 0 (fun _ => true) true m 3 [c3] = xs[3]? := hf 3 _ rfl
    have f4 : DataW.trod enc Tryz.prog W 0 (fun _ => true) true m 3 [c4] = xs[4]? := hf 4 _ rfl
    have f5 : DataW.trod enc Tryz.prog W 0 (fun _ => true) true m 24 [c5] = xs[5]? := hf 5 _ rfl
    rw [List.getElem?_eq_getElem (by omega)] at f0 f1 f2 f3 f4 f5
    obtain ⟨z0, rfl, _⟩ := int_lit Tryz.underlying3 f0
    obtain ⟨z1, rfl, r1⟩ := int_lit Tryz.underlying5 f1
    obtain ⟨s2, e2, e2b, _⟩ := DataW.trod_string Tryz.underlying9 f2
    simp only [List.cons.injEq, and_true] at e2
    subst e2
    obtain ⟨z3, rfl, _⟩ := int_lit Tryz.underlying3 f3
    obtain ⟨z4, rfl, _⟩ := int_lit Tryz.underlying3 f4
    obtain ⟨z5, rfl, r5⟩ := int_lit Tryz.underlying24 f5
    have g1 : 0 ≤ z1 ∧ z1 ≤ 255 := by simpa [Lit.wf, IntKind.min, IntKind.max, IntKind.signed, IntKind.bits] using r1
    have g5 : 0 ≤ z5 ∧ z5 ≤ 18446744073709551615 := by simpa [Lit.wf, IntKind.min, IntKind.max, IntKind.signed, IntKind.bits] using r5
    refine ⟨(z0, z1.toNat, s2, z3, z4, z5.toNat), by simp only [Int.toNat_of_nonneg g1.1, Int.toNat_of_nonneg g5.1], ?_, by simp only; omega, by simp only; omega⟩
    exact wt_at _ _ _ 2 9 s2 rfl (by rw [List.getElem?_map, List.getElem?_eq_getElem (by omega), e2b]; rfl) hws
  obtain ⟨Y, hY⟩ := choose_lt hs
  refine ⟨l, b, o, len, cap, fun j => (Y j).1, fun j => (Y j).2.2.2.1, fun j => (Y j).2.2.2.2.1, fun j => (Y j).2.1, fun j => (Y j).2.2.2.2.2, fun j => (Y j).2.2.1, rfl, hm, hl, fun j hj => (hY j hj).2.1, fun j hj => (hY j hj).2.2.1, fun j hj => (hY j hj).2.2.2, fun j hj => (hC j hj).2.1 0 _ (by rw [(hY j hj).1]; rfl), fun j hj => (hC j hj).2.1 1 _ (by rw [(hY j hj).1]; rfl), fun j hj => (hC j hj).2.1 2 _ (by rw [(hY j hj).1]; rfl), fun j hj => (hC j hj).2.1 3 _ (by rw [(hY j hj).1]; rfl), fun j hj => (hC j hj).2.1 4 _ (by rw [(hY j hj).1]; rfl), fun j hj => (hC j hj).2.1 5 _ (by rw [(hY j hj).1]; rfl)⟩
end

end Go.Proofs.YtenafinbaanicaaGreatDoor
namespace Go.Proofs.YtenafinbaanicaaGreatDoor
open Go.RowKit

def lay6 : List (String × DataW Unit) := [("isthmus/chacha.turns", Rows.laid_isthmus_chacha_turns)]
theorem gl0 : Tryz.prog.globalNamed "isthmus/chacha.turns" = some 1 := by kernel_rfl
theorem glT : (Tryz.prog.globals[1]?).map (·.type) = some 208 := by kernel_rfl
theorem cells3 : Tryz.prog.cellsOf 3 = 1 := by kernel_rfl
theorem cells207 : Tryz.prog.cellsOf 207 = 2 := by kernel_rfl
theorem int_of_trod {H : Type} {enc : TypeId × Value → H} {P : Program} {w : World} {base : Nat} {sp : Nat → Bool} {held : Bool} {fuel : Nat} {t : TypeId} {k : IntKind} {c : Value} {y : DataW H × List MemPlace}
    (ht : P.underlying t = some (.int k)) (h : DataW.trod enc P w base sp held fuel t [c] = some y) : ∃ n, c = .int k n ∧ y = (.lit (.int k n), []) := by
  cases fuel with
  | zero => simp [DataW.trod] at h
  | succ fuel =>
    cases c <;> simp [DataW.trod, ht] at h
    rename_i k' n
    obtain ⟨⟨rfl, _⟩, rfl⟩ := h
    exact ⟨n, rfl, rfl⟩
def litsOf : DataW Unit → List (DataW Unit)
  | .agg l => l
  | _ => []
theorem lits_at : ∀ a, a < 2 → ∀ b, b < 2 → (litsOf (((litsOf Rows.laid_isthmus_chacha_turns)[a]?).getD .nil))[b]? = some (.lit (.int .i64 (TF (a * 2 + b)))) := by
  have h : ((List.range 2).all fun a => (List.range 2).all fun b => match (litsOf (((litsOf Rows.laid_isthmus_chacha_turns)[a]?).getD .nil))[b]? with | some (.lit (.int .i64 n)) => n == (TF (a * 2 + b)) | _ => false) = true := by decide +kernel
  intro a ha b hb
  have h1 := List.all_eq_true.1 h a (List.mem_range.2 ha)
  have h2 := List.all_eq_true.1 h1 b (List.mem_range.2 hb)
  split at h2
  · rename_i n e
    rw [e, eq_of_beq h2]
  · cases h2
theorem laid_of {W : World} (h0 : laidMetH Tryz.prog lay6 W) : Laid W := by
  have h : laidMet Tryz.prog lay6 W := h0
  obtain ⟨ps, ⟨g, t, cs, fuel, p, q, hg, ht, hvar, hd, _, _⟩, _⟩ := h
  obtain rfl := Option.some.inj (gl0.symm.trans hg)
  obtain rfl := Option.some.inj (glT.symm.trans ht)
  obtain ⟨xs, m, _, hx, hlen, hxl, hat⟩ := DataW.trod_array Tryz.underlying208 hd
  have hl160 : cs.toList.length = 4 := hlen.trans (by kernel_rfl)
  have e1 : litsOf Rows.laid_isthmus_chacha_turns = xs.map (·.1) := by
    have := congrArg Prod.fst hx
    simp only at this
    rw [this]
    rfl
  refine ⟨fun i hi => ?_⟩
  rw [World.var?_cell gl0 hvar i]
  obtain ⟨a, ha⟩ : ∃ a, a = i / 2 := ⟨_, rfl⟩
  obtain ⟨b, hb⟩ : ∃ b, b = i % 2 := ⟨_, rfl⟩
  have hi3 : i = a * 2 + b := by omega
  have ha1 : a < 2 := by omega
  have hb1 : b < 2 := by omega
  have h1 := hat a ha1
  rw [cells207, List.getElem?_eq_getElem (by omega)] at h1
  have h3 := lits_at a ha1 b hb1
  rw [e1, List.getElem?_map, List.getElem?_eq_getElem (l := xs) (i := a) (by omega), Option.map_some, Option.getD_some] at h3
  generalize xs[a] = xa at h1 h3
  obtain ⟨ys, m2, _, hy, hlen2, hyl, hat2⟩ := DataW.trod_array Tryz.underlying207 h1
  have e2 : litsOf xa.1 = ys.map (·.1) := by rw [hy]; rfl
  have h4 := hat2 b hb1
  have hl2 : cs.size = 4 := by simpa using hl160
  have hi2 : b < (List.take 2 (List.drop (a * 2) cs.toList)).length := by simp; omega
  rw [cells3, Nat.mul_one, List.drop_eq_getElem_cons hi2, List.take_succ_cons, List.take_zero, List.getElem?_eq_getElem (by omega)] at h4
  obtain ⟨n, hc, hy2⟩ := int_of_trod Tryz.underlying3 h4
  rw [e2, List.getElem?_map, List.getElem?_eq_getElem (l := ys) (i := b) (by omega), hy2] at h3
  simp at h3
  subst h3
  have e5 : cs.toList[i]? = some (List.take 2 (List.drop (a * 2) cs.toList))[b] := by
    rw [← List.getElem?_eq_getElem hi2, List.getElem?_take_of_lt hb1, List.getElem?_drop, hi3]
  rw [← Array.getElem?_toList, e5, hc, hi3]
theorem lay_witness (os : Os) (args : Array Value) : laidMetH Tryz.prog lay6 ((World.laidAll Tryz.prog os lay6).forCall (fun _ _ => 0) ⟨#[], args, []⟩).memory := laidMet_laidAll (laid := lay6) args (by kernel_rfl) (by kernel_rfl)

end Go.Proofs.YtenafinbaanicaaGreatDoor
