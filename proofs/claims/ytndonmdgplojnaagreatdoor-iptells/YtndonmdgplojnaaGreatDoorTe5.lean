/- Part 5 of the walks and facts behind ipTells_holds. -/
import Derived.Test.YtndonmdgplojnaaGreatDoorTe4
namespace Go.Proofs.YtndonmdgplojnaaGreatDoor
open Go.RowKit
def uF (f : Nat → Int) : Nat := (uS f 8).2.1.toNat
def uT (f : Nat → Int) : Nat := (uS f 8).2.2.toNat
theorem uF_le (f : Nat → Int) : uF f ≤ uT f ∧ uT f ≤ 8 := by
 have := uS_nn f 8
 unfold uF uT
 omega
theorem c_untoldN (f : Nat → Int) (w : World) (hL : Laid w) : Calls Tryz.prog 74 #[.agg (av 8 (w16 f))] w fun r w' => r = .returned (.tuple #[.int .i64 ((uF f : Nat) : Int), .int .i64 ((uT f : Nat) : Int)]) ∧ Below w.heap.size w w' := by
 have h := uS_nn f 8
 refine call_val (c_untold f w hL) ?_
 unfold uF uT
 rw [Int.toNat_of_nonneg (by omega), Int.toNat_of_nonneg (by omega)]
def so (k : Nat) : Nat := if 8 = k then 0 else k
set_option linter.unusedSimpArgs false in
theorem run_slAG {P : Program} {a : Act} {o : Oper} (t : TypeId) (len : Nat) (elem : TypeId) (hu : P.underlying t = some (.array len elem)) (hs : (P.info? elem).map (·.size) = some 1) (x lo : Operand) (ho : o.op = .slice t x (some lo) none none) (g : Nat) (hx : a.eval x = .pointer (some ⟨g, 0, none⟩)) (k : IntKind) (i : Nat) (hi : a.eval lo = .int k (i : Int)) (hle : i ≤ len) (w : World) :
  (execOp a.eval o).run P w = .ok (.value (.slice (some ⟨g, if len = i then 0 else i, none⟩) (len - i) (len - i))) w := by
 cases hq : P.info? elem with
 | none => simp [hq] at hs
 | some u =>
  have hsz : u.size = 1 := by simpa [hq] using hs
  unfold execOp
  by_cases h : len = i
  ·subst h
   simp [ho, hx, hi, Instr.sliceAt, Instr.sureAddr, run_underlying hu, Instr.sliceBounds, run_sliceBound, sizeOf, typeInfo, hq, hsz]
  ·rw [if_neg h]
   simp [ho, hx, hi, Instr.sliceAt, Instr.sureAddr, run_underlying hu, Instr.sliceBounds, run_sliceBound, sizeOf, typeInfo, hq, hsz, add_at, h, hle]
theorem run_slAL {P : Program} {a : Act} {o : Oper} (t : TypeId) (elem : TypeId) (hu : P.underlying t = some (.array 8 elem)) (hs : (P.info? elem).map (·.size) = some 1) (x lo : Operand) (ho : o.op = .slice t x (some lo) none none) (g : Nat) (hx : a.eval x = .pointer (some ⟨g, 0, none⟩)) (k : IntKind) (i : Nat) (hi : a.eval lo = .int k (i : Int)) (hle : i ≤ 8) (w : World) :
  (execOp a.eval o).run P w = .ok (.value (.slice (some ⟨g, so i, none⟩) (8 - i) (8 - i))) w := run_slAG t 8 elem hu hs x lo ho g hx k i hi hle w
def tx6 (h l : Int) : ByteArray := if ((uF (ggs h l) : Nat) : Int) = ((uT (ggs h l) : Nat) : Int) then jn (ws16 (ggs h l) 8) ⟨#[58]⟩ else (jn (ws16 (ggs h l) (uF (ggs h l))) ⟨#[58]⟩ ++ (⟨#[58, 58]⟩ : ByteArray)) ++ jn (ws16 (fun i => ggs h l (uT (ggs h l) + i)) (8 - uT (ggs h l))) ⟨#[58]⟩
theorem jn16_le (f : Nat → Int) (n : Nat) (hn : n ≤ 8) : (jn (ws16 f n) ⟨#[58]⟩).size ≤ 100 := ws16_join f n hn ⟨#[58]⟩ (by decide)
theorem jn10_le (f : Nat → Int) (n : Nat) (hn : n ≤ 8) : (jn (ws10 f n) ⟨#[46]⟩).size ≤ 100 := ws10_join f n hn ⟨#[46]⟩ (by decide)
set_option maxRecDepth 100000 in
set_option maxHeartbeats 4000000 in
set_option linter.unusedSimpArgs false in
theorem c_text6 (v : Bool) (h l : Int) (w : World) (hL : Laid w)  :
  Calls Tryz.prog 50 #[.agg (av 3 (ls [.bool (v), .int .u64 h, .int .u64 l]))] w fun r w' => r = .returned (.string (tx6 h l)) ∧ Below w.heap.size w w' := by
 go_enter Tryz.func50, Tryz.ntmps50
 have M := Mem.start hL
 refine sR ?_
 refine pN M 1 (.cells (av 3 (ls [.bool (v), .int .u64 h, .int .u64 l])) 24) fun g1 u1 M => ?_
 refine pV 2 (.string ⟨#[]⟩) ?_
 refine nT ?_
 refine sR ?_
 refine pAz M 6 0 3 (ls [.bool (v), .int .u64 h, .int .u64 l]) ?_
 refine pC M 7 73 #[.agg (av 3 (ls [.bool (v), .int .u64 h, .int .u64 l]))] (.agg (av 8 (w16 (ggs h l)))) (fun w M => c_groupsOf v h l w M.laid) fun u2 M => ?_
 refine pN M 3 (.cells (av 8 (w16 (fun _ => 0))) 94) fun g2 u3 M => ?_
 refine pl_put M (want_no rfl) rfl 94 _ _ rfl 1 g2 0 (by kernel_rfl) 8 94 (w16 (fun _ => 0)) rfl 8 (w16 (ggs h l)) (w16 (ggs h l)) (by kernel_rfl) inz94 (by decide) (fun _ _ => rfl) (fun j hj => by rw [if_pos (by omega), Nat.sub_zero]) fun u4 M => ?_
 refine nT ?_
 refine sR ?_
 refine pAz M 9 1 8 (w16 (ggs h l)) ?_
 refine pC M 10 74 #[.agg (av 8 (w16 (ggs h l)))] (.tuple #[.int .i64 ((uF (ggs h l) : Nat) : Int), .int .i64 ((uT (ggs h l) : Nat) : Int)]) (fun w M => c_untoldN (ggs h l) w M.laid) fun u5 M => ?_
 refine pV 8 (.tuple #[.int .i64 ((uF (ggs h l) : Nat) : Int), .int .i64 ((uT (ggs h l) : Nat) : Int)]) ?_
 refine pV 11 (.int .i64 ((uF (ggs h l) : Nat) : Int)) ?_
 refine pV 12 (.int .i64 ((uT (ggs h l) : Nat) : Int)) ?_
 refine pV 4 (.int .i64 ((uF (ggs h l) : Nat) : Int)) ?_
 refine pV 5 (.int .i64 ((uT (ggs h l) : Nat) : Int)) ?_
 refine nT ?_
 refine wp_seq ?_
 refine sR ?_
 refine pV 13 (.int .i64 ((uF (ggs h l) : Nat) : Int)) ?_
 refine pV 14 (.int .i64 ((uT (ggs h l) : Nat) : Int)) ?_
 by_cases c0 : ((uF (ggs h l) : Nat) : Int) = ((uT (ggs h l) : Nat) : Int)
 ·skip
  refine pH 15 (.bool true) (dTz (((uF (ggs h l) : Nat) : Int) = ((uT (ggs h l) : Nat) : Int)) (c0)) ?_
  refine nT ?_
  refine wp_cond_true (by kernel_rfl) ?_
  refine sR ?_
  refine pV 16 (.slice (some ⟨g2, 0, none⟩) 8 8) ?_
  refine pC M 17 75 #[.slice (some ⟨g2, 0, none⟩) 8 8, .string ⟨#[58]⟩, .int .i64 16] (.string (jn (ws16 (ggs h l) 8) ⟨#[58]⟩)) (fun w M => c_joined16 g2 0 8 8 (ggs h l) ⟨#[58]⟩ (by have := uF_le (ggs h l); omega) (by decide) (fun i => ggs_nn h l _) w M.laid (fun i hi => by rw [Nat.zero_add]; exact cell_av (M.get 1 rfl) (by have := uF_le (ggs h l); omega))) fun u6 M => ?_
  refine pV 2 (.string (jn (ws16 (ggs h l) 8) ⟨#[58]⟩)) ?_
  refine nT ?_
  refine wp_ret ?_
  refine au_then_ret ?_
  have e0 : (tx6 h l) = (jn (ws16 (ggs h l) 8) ⟨#[58]⟩) := by unfold tx6; rw [if_pos c0]
  exact bodyPost_ret (v := .string (jn (ws16 (ggs h l) 8) ⟨#[58]⟩)) (results_tmp1 Tryz.results50 _ _ _ (by kernel_rfl)) (by kernel_rfl) ⟨by rw [e0], below_grown M.old⟩
 ·skip
  refine pH 15 (.bool false) (dF (((uF (ggs h l) : Nat) : Int) = ((uT (ggs h l) : Nat) : Int)) (c0)) ?_
  refine nT ?_
  refine wp_cond_false (by kernel_rfl) ?_
  refine wp_skip ?_
  refine au_then ?_
  refine wp_seq ?_
  refine rg_tail M 8 (by kernel_rfl) (by kernel_rfl) ?_
  simp only [List.take_succ_cons, List.take_zero]
  refine kV 18 (.int .i64 ((uF (ggs h l) : Nat) : Int)) ?_
  refine kH 19 (.slice (some ⟨g2, 0, none⟩) (uF (ggs h l)) 8) (run_slAH 94 8 32 Tryz.underlying94 inz32 _ _ rfl g2 0 (by kernel_rfl) .i64 (uF (ggs h l)) (by kernel_rfl) (by have := uF_le (ggs h l); omega) (by decide)) ?_
  refine kC M 20 75 #[.slice (some ⟨g2, 0, none⟩) (uF (ggs h l)) 8, .string ⟨#[58]⟩, .int .i64 16] (.string (jn (ws16 (ggs h l) (uF (ggs h l))) ⟨#[58]⟩)) (fun w M => c_joined16 g2 0 (uF (ggs h l)) 8 (ggs h l) ⟨#[58]⟩ (by have := uF_le (ggs h l); omega) (by decide) (fun i => ggs_nn h l _) w M.laid (fun i hi => by rw [Nat.zero_add]; exact cell_av (M.get 1 rfl) (by have := uF_le (ggs h l); omega))) ?_
  refine kH 21 (.string ((jn (ws16 (ggs h l) (uF (ggs h l))) ⟨#[58]⟩) ++ (⟨#[58, 58]⟩ : ByteArray))) (run_cat 9 9 _ _ rfl (jn (ws16 (ggs h l) (uF (ggs h l))) ⟨#[58]⟩) ⟨#[58, 58]⟩ (by kernel_rfl) (by kernel_rfl) (by have q0 := jn16_le (ggs h l) (uF (ggs h l)) (by have := uF_le (ggs h l); omega); have q2 : (⟨#[58, 58]⟩ : ByteArray).size = 2 := rfl; omega)) ?_
  refine kV 22 (.int .i64 ((uT (ggs h l) : Nat) : Int)) ?_
  refine kH 23 (.slice (some ⟨g2, (so (uT (ggs h l))), none⟩) (8 - uT (ggs h l)) (8 - uT (ggs h l))) (run_slAL 94 32 Tryz.underlying94 inz32 _ _ rfl g2 (by kernel_rfl) .i64 (uT (ggs h l)) (by kernel_rfl) (by have := uF_le (ggs h l); omega)) ?_
  refine kC M 24 75 #[.slice (some ⟨g2, (so (uT (ggs h l))), none⟩) (8 - uT (ggs h l)) (8 - uT (ggs h l)), .string ⟨#[58]⟩, .int .i64 16] (.string (jn (ws16 (fun i => (ggs h l) (uT (ggs h l) + i)) (8 - uT (ggs h l))) ⟨#[58]⟩)) (fun w M => c_joined16 g2 (so (uT (ggs h l))) (8 - uT (ggs h l)) (8 - uT (ggs h l)) (fun i => (ggs h l) (uT (ggs h l) + i)) ⟨#[58]⟩ (by have := uF_le (ggs h l); omega) (by decide) (fun i => ggs_nn h l _) w M.laid (fun i hi => by rw [show so (uT (ggs h l)) = uT (ggs h l) from if_neg (by omega)]; exact cell_av (M.get 1 rfl) (by omega))) ?_
  refine kH 25 (.string (((jn (ws16 (ggs h l) (uF (ggs h l))) ⟨#[58]⟩) ++ (⟨#[58, 58]⟩ : ByteArray)) ++ (jn (ws16 (fun i => (ggs h l) (uT (ggs h l) + i)) (8 - uT (ggs h l))) ⟨#[58]⟩))) (run_cat 9 9 _ _ rfl ((jn (ws16 (ggs h l) (uF (ggs h l))) ⟨#[58]⟩) ++ (⟨#[58, 58]⟩ : ByteArray)) (jn (ws16 (fun i => (ggs h l) (uT (ggs h l) + i)) (8 - uT (ggs h l))) ⟨#[58]⟩) (by kernel_rfl) (by kernel_rfl) (by simp only [ByteArray.size_append]; have q0 := jn16_le (ggs h l) (uF (ggs h l)) (by have := uF_le (ggs h l); omega); have q1 := jn16_le (fun i => ggs h l (uT (ggs h l) + i)) (8 - uT (ggs h l)) (by omega); have q2 : (⟨#[58, 58]⟩ : ByteArray).size = 2 := rfl; omega)) ?_
  refine kl_nil fun u6 M => ?_
  refine pV 2 (.string (((jn (ws16 (ggs h l) (uF (ggs h l))) ⟨#[58]⟩) ++ (⟨#[58, 58]⟩ : ByteArray)) ++ (jn (ws16 (fun i => (ggs h l) (uT (ggs h l) + i)) (8 - uT (ggs h l))) ⟨#[58]⟩))) ?_
  refine nT ?_
  refine wp_ret ?_
  have e0 : (tx6 h l) = (((jn (ws16 (ggs h l) (uF (ggs h l))) ⟨#[58]⟩) ++ (⟨#[58, 58]⟩ : ByteArray)) ++ (jn (ws16 (fun i => (ggs h l) (uT (ggs h l) + i)) (8 - uT (ggs h l))) ⟨#[58]⟩)) := by unfold tx6; rw [if_neg c0]
  exact bodyPost_ret (v := .string (((jn (ws16 (ggs h l) (uF (ggs h l))) ⟨#[58]⟩) ++ (⟨#[58, 58]⟩ : ByteArray)) ++ (jn (ws16 (fun i => (ggs h l) (uT (ggs h l) + i)) (8 - uT (ggs h l))) ⟨#[58]⟩))) (results_tmp1 Tryz.results50 _ _ _ (by kernel_rfl)) (by kernel_rfl) ⟨by rw [e0], below_grown M.old⟩
def qp (l : Int) (j : Nat) : Int := cv .u16 (cv .u8 (sr l (24 - 8 * (j : Int)).toNat))
def qf (l : Int) : Nat → Int := cutf (qp l) 4
theorem qf_nn (l : Int) (j : Nat) : 0 ≤ qf l j ∧ qf l j < 256 := cutf_nn (by decide) (fun i => by unfold qp; rw [cv_u16, cv_u8]; omega) 4 j
def tx4 (l : Int) : ByteArray := jn (ws10 (qf l) 4) ⟨#[46]⟩
def txt (v : Bool) (h l : Int) : ByteArray := if mA v h l = true then (if v = true then tx6 h l else tx4 l) else ⟨#[]⟩
def ptx (v : Bool) (h l b : Int) : ByteArray := if mP v h l b = true then (txt v h l ++ (⟨#[47]⟩ : ByteArray)) ++ dcT b else ⟨#[]⟩
theorem tx6_le (h l : Int) : (tx6 h l).size ≤ 300 := by
 have q := uF_le (ggs h l)
 unfold tx6
 split
 ·have := jn16_le (ggs h l) 8 (by decide)
  omega
 ·have q0 := jn16_le (ggs h l) (uF (ggs h l)) (by omega)
  have q1 := jn16_le (fun i => ggs h l (uT (ggs h l) + i)) (8 - uT (ggs h l)) (by omega)
  have q2 : (⟨#[58, 58]⟩ : ByteArray).size = 2 := rfl
  simp only [ByteArray.size_append]
  omega
theorem txt_le (v : Bool) (h l : Int) : (txt v h l).size ≤ 300 := by
 unfold txt
 split
 ·split
  ·exact tx6_le h l
  ·have := jn10_le (qf l) 4 (by decide)
   unfold tx4
   omega
 ·exact Nat.zero_le _
set_option maxRecDepth 100000 in
set_option maxHeartbeats 4000000 in
set_option linter.unusedSimpArgs false in
theorem c_text4 (v : Bool) (h l : Int) (w : World) (hL : Laid w)  :
  Calls Tryz.prog 51 #[.agg (av 3 (ls [.bool (v), .int .u64 h, .int .u64 l]))] w fun r w' => r = .returned (.string (tx4 l)) ∧ Below w.heap.size w w' := by
 go_enter Tryz.func51, Tryz.ntmps51
 have M := Mem.start hL
 refine sR ?_
 refine pN M 1 (.cells (av 3 (ls [.bool (v), .int .u64 h, .int .u64 l])) 24) fun g1 u1 M => ?_
 refine pV 2 (.string ⟨#[]⟩) ?_
 refine nT ?_
 refine sR ?_
 refine pN M 3 (.cells (av 4 (w16 (fun _ => 0))) 100) fun g2 u2 M => ?_
 refine nT ?_
 refine wp_seq ?_
 refine sR ?_
 refine pV 5 (.int .i64 0) ?_
 refine nT ?_
 refine wp_block ?_
 refine au_loop (fun j a w' => ∃ v1 : Nat → Value, a = ⟨#[.agg (av 3 (ls [.bool (v), .int .u64 h, .int .u64 l])), .pointer (some ⟨g1, 0, none⟩), .string ⟨#[]⟩, .pointer (some ⟨g2, 0, none⟩), v1 4, .int .i64 (j : Int), v1 6, v1 7, v1 8, v1 9, v1 10, v1 11, v1 12, v1 13, v1 14, v1 15, v1 16, v1 17, v1 18, undef, undef], []⟩ ∧ Mem ⟨w, []⟩ [⟨g1, .cells (av 3 (ls [.bool (v), .int .u64 h, .int .u64 l])) 24⟩, ⟨g2, .cells (av 4 (w16 (cutf (qp l) j))) 100⟩] w') 4 ⟨fun k_ => ([undef, undef, undef, undef, undef, undef, undef, undef, undef, undef, undef, undef, undef, undef, undef] : List Value).getD (k_ - 4) undef, by kernel_rfl, (by rw [cutf_0]; exact M)⟩ ?_ ?_
 ·intro j a u0 hj hI
  obtain ⟨v1, rfl, M⟩ := hI
  refine sR ?_
  refine pH 6 (.bool true) (dTz ((j : Int) < 4) (by omega)) ?_
  refine nT ?_
  refine wp_seq ?_
  refine wp_cond_true (by kernel_rfl) ?_
  refine wp_skip ?_
  refine au_then ?_
  refine wp_seq ?_
  refine wp_block ?_
  refine sR ?_
  refine pV 7 (.int .i64 (j : Int)) ?_
  refine pV 4 (.int .i64 (j : Int)) ?_
  refine nT ?_
  refine rg_lit ?_
  refine pV 8 (.int .i64 (j : Int)) ?_
  refine pV 9 (.pointer (some ⟨g1, 2, none⟩)) ?_
  refine pEz M 10 g1 2 (.int .u64 l) (fun w M => M.cell 0 rfl (by decide) rfl) ?_
  refine pV 11 (.int .i64 (j : Int)) ?_
  refine pH 12 (.int .i64 (8 * (j : Int))) (fun w => Eq.trans (b := .ok (.value (.int .i64 (IntKind.wrap .i64 (8 * (j : Int))))) w) (by kernel_rfl) (by rw [wrap64 (by omega) (by omega)])) ?_
  refine pH 13 (.int .i64 (24 - (8 * (j : Int)))) (fun w => Eq.trans (b := .ok (.value (.int .i64 (IntKind.wrap .i64 (24 - (8 * (j : Int)))))) w) (by kernel_rfl) (by rw [wrap64 (by omega) (by omega)])) ?_
  refine pH 14 (.int .u64 (sr l ((24 - (8 * (j : Int))).toNat))) (run_shrV 22 3 _ _ rfl l .i64 ((24 - (8 * (j : Int))).toNat) (by kernel_rfl) (nat_of (k := .i64) (by kernel_rfl) (by omega)) (by omega)) ?_
  refine pV 15 (.int .u8 (cv .u8 (sr l ((24 - (8 * (j : Int))).toNat)))) ?_
  refine pH 16 (.int .u16 (qp l j)) (fun w => Eq.trans (b := .ok (.value (.int .u16 (cv .u16 (cv .u8 (sr l ((24 - (8 * (j : Int))).toNat)))))) w) (by kernel_rfl) rfl) ?_
  refine pH 17 (.pointer (some ⟨g2, j, none⟩)) (run_ix1 100 4 32 Tryz.underlying100 inz32 _ _ rfl g2 (by kernel_rfl) .i64 (j) (by kernel_rfl) (by omega)) ?_
  refine pP M 1 rfl j (.int .u16 (qp l j)) (w16 (upd (cutf (qp l) j) j (qp l j))) (by omega) (fun j _ => put_w16 _ _ _ j) fun u3 M => ?_
  refine pl_nil ?_
  refine au_block ?_
  refine au_then ?_
  refine rg_lit ?_
  refine pH 18 (.int .i64 ((j + 1 : Nat) : Int)) (iV ((j : Int) + 1) (by omega) (by omega) (by omega)) ?_
  refine pV 5 (.int .i64 ((j + 1 : Nat) : Int)) ?_
  refine nT ?_
  rw [cutf_upd] at M
  exact ⟨fun k_ => ([.int .i64 (j : Int), undef, .bool true, .int .i64 (j : Int), .int .i64 (j : Int), .pointer (some ⟨g1, 2, none⟩), .int .u64 l, .int .i64 (j : Int), .int .i64 (8 * (j : Int)), .int .i64 (24 - (8 * (j : Int))), .int .u64 (sr l ((24 - (8 * (j : Int))).toNat)), .int .u8 (cv .u8 (sr l ((24 - (8 * (j : Int))).toNat))), .int .u16 (qp l j), .pointer (some ⟨g2, j, none⟩), .int .i64 ((j + 1 : Nat) : Int)] : List Value).getD (k_ - 4) undef, by kernel_rfl, M⟩
 ·intro a u0 hI
  obtain ⟨v1, rfl, M⟩ := hI
  refine sR ?_
  refine pH 6 (.bool false) (dF ((4 : Int) < 4) (by omega)) ?_
  refine nT ?_
  refine wp_seq ?_
  refine wp_cond_false (by kernel_rfl) ?_
  refine wp_exit ?_
  refine au_then_exit ?_
  refine au_then_exit ?_
  refine au_block_exit ?_
  refine au_then ?_
  refine sR ?_
  refine pV 19 (.slice (some ⟨g2, 0, none⟩) 4 4) ?_
  refine pC M 20 75 #[.slice (some ⟨g2, 0, none⟩) 4 4, .string ⟨#[46]⟩, .int .i64 10] (.string (jn (ws10 (cutf (qp l) 4) 4) ⟨#[46]⟩)) (fun w M => c_joined10 g2 0 4 4 (cutf (qp l) 4) ⟨#[46]⟩ (by decide) (by decide) (fun i => qf_nn l i) w M.laid (fun i hi => by rw [Nat.zero_add]; exact cell_av (M.get 1 rfl) (by omega))) fun u3 M => ?_
  refine pV 2 (.string (jn (ws10 (cutf (qp l) 4) 4) ⟨#[46]⟩)) ?_
  refine nT ?_
  refine wp_ret ?_
  have e0 : (tx4 l) = (jn (ws10 (cutf (qp l) 4) 4) ⟨#[46]⟩) := rfl
  exact bodyPost_ret (v := .string (jn (ws10 (cutf (qp l) 4) 4) ⟨#[46]⟩)) (results_tmp1 Tryz.results51 _ _ _ (by kernel_rfl)) (by kernel_rfl) ⟨by rw [e0], below_grown M.old⟩
set_option maxRecDepth 100000 in
set_option maxHeartbeats 4000000 in
set_option linter.unusedSimpArgs false in
theorem c_Text (v : Bool) (h l : Int) (w : World) (hL : Laid w)  :
  Calls Tryz.prog 22 #[.agg (av 3 (ls [.bool (v), .int .u64 h, .int .u64 l]))] w fun r w' => r = .returned (.string (txt v h l)) ∧ Below w.heap.size w w' := by
 go_enter Tryz.func22, Tryz.ntmps22
 have M := Mem.start hL
 refine sR ?_
 refine pN M 1 (.cells (av 3 (ls [.bool (v), .int .u64 h, .int .u64 l])) 24) fun g1 u1 M => ?_
 refine pV 2 (.string ⟨#[]⟩) ?_
 refine nT ?_
 refine wp_seq ?_
 refine wp_block ?_
 refine sR ?_
 refine pAz M 4 0 3 (ls [.bool (v), .int .u64 h, .int .u64 l]) ?_
 rcases Bool.eq_false_or_eq_true (mA v h l) with c0 | c0
 ·skip
  refine pC M 5 36 #[.agg (av 3 (ls [.bool (v), .int .u64 h, .int .u64 l]))] (.bool true) (fun w M => call_val (c_mayAddr v h l w M.laid) (congrArg Value.bool c0)) fun u2 M => ?_
  refine pV 6 (.bool false) ?_
  refine pV 3 (.bool false) ?_
  refine nT ?_
  refine wp_cond_false (by kernel_rfl) ?_
  refine sR ?_
  refine pV 8 (.pointer (some ⟨g1, 0, none⟩)) ?_
  rcases Bool.eq_false_or_eq_true (v) with c1 | c1
  ·skip
   refine pEz M 9 g1 0 (.bool true) (fun w M => M.cell 0 rfl (by decide) (congrArg Value.bool c1)) ?_
   refine pV 7 (.bool true) ?_
   refine nT ?_
   refine wp_cond_true (by kernel_rfl) ?_
   refine sR ?_
   refine pAz M 10 0 3 (ls [.bool (v), .int .u64 h, .int .u64 l]) ?_
   refine pC M 11 50 #[.agg (av 3 (ls [.bool (v), .int .u64 h, .int .u64 l]))] (.string (tx6 h l)) (fun w M => c_text6 v h l w M.laid) fun u3 M => ?_
   refine pV 2 (.string (tx6 h l)) ?_
   refine nT ?_
   refine wp_ret ?_
   refine au_block_ret ?_
   refine au_then_ret ?_
   have e0 : (txt v h l) = (tx6 h l) := by unfold txt; rw [if_pos c0, if_pos c1]
   exact bodyPost_ret (v := .string (tx6 h l)) (results_tmp1 Tryz.results22 _ _ _ (by kernel_rfl)) (by kernel_rfl) ⟨by rw [e0], below_grown M.old⟩
  ·skip
   refine pEz M 9 g1 0 (.bool false) (fun w M => M.cell 0 rfl (by decide) (congrArg Value.bool c1)) ?_
   refine pV 7 (.bool false) ?_
   refine nT ?_
   refine wp_cond_false (by kernel_rfl) ?_
   refine wp_skip ?_
   refine au_block ?_
   refine au_then ?_
   refine sR ?_
   refine pAz M 12 0 3 (ls [.bool (v), .int .u64 h, .int .u64 l]) ?_
   refine pC M 13 51 #[.agg (av 3 (ls [.bool (v), .int .u64 h, .int .u64 l]))] (.string (tx4 l)) (fun w M => c_text4 v h l w M.laid) fun u3 M => ?_
   refine pV 2 (.string (tx4 l)) ?_
   refine nT ?_
   refine wp_ret ?_
   have e0 : (txt v h l) = (tx4 l) := by unfold txt; rw [if_pos c0, if_neg (by rw [c1]; decide)]
   exact bodyPost_ret (v := .string (tx4 l)) (results_tmp1 Tryz.results22 _ _ _ (by kernel_rfl)) (by kernel_rfl) ⟨by rw [e0], below_grown M.old⟩
 ·skip
  refine pC M 5 36 #[.agg (av 3 (ls [.bool (v), .int .u64 h, .int .u64 l]))] (.bool false) (fun w M => call_val (c_mayAddr v h l w M.laid) (congrArg Value.bool c0)) fun u2 M => ?_
  refine pV 6 (.bool true) ?_
  refine pV 3 (.bool true) ?_
  refine nT ?_
  refine wp_cond_true (by kernel_rfl) ?_
  refine sR ?_
  refine pV 2 (.string ⟨#[]⟩) ?_
  refine nT ?_
  refine wp_ret ?_
  refine au_block_ret ?_
  refine au_then_ret ?_
  have e0 : (txt v h l) = ⟨#[]⟩ := by unfold txt; rw [if_neg (by rw [c0]; decide)]
  exact bodyPost_ret (v := .string ⟨#[]⟩) (results_tmp1 Tryz.results22 _ _ _ (by kernel_rfl)) (by kernel_rfl) ⟨by rw [e0], below_grown M.old⟩
theorem c_ItoaI (b : Int) (hb0 : 0 ≤ b) (hb1 : b ≤ 255) (w : World) (hL : Laid w) : Calls Tryz.prog 52 #[.int .i64 b] w fun r w' => r = .returned (.string (dcT b)) ∧ Below w.heap.size w w' := by
 obtain ⟨n, rfl⟩ := Int.eq_ofNat_of_zero_le hb0
 exact c_Itoa n (by omega) w hL
set_option maxRecDepth 100000 in
set_option maxHeartbeats 4000000 in
set_option linter.unusedSimpArgs false in
theorem c_PrefixText (v : Bool) (h l : Int) (b : Int) (hb0 : 0 ≤ b) (hb1 : b ≤ 255) (w : World) (hL : Laid w)  :
  Calls Tryz.prog 24 #[.agg (av 4 (ls [.bool (v), .int .u64 h, .int .u64 l, .int .u8 b]))] w fun r w' => r = .returned (.string (ptx v h l b)) ∧ Below w.heap.size w w' := by
 go_enter Tryz.func24, Tryz.ntmps24
 have M := Mem.start hL
 refine sR ?_
 refine pN M 1 (.cells (av 4 (ls [.bool (v), .int .u64 h, .int .u64 l, .int .u8 b])) 39) fun g1 u1 M => ?_
 refine pV 2 (.string ⟨#[]⟩) ?_
 refine nT ?_
 refine wp_seq ?_
 refine sR ?_
 refine pAz M 3 0 4 (ls [.bool (v), .int .u64 h, .int .u64 l, .int .u8 b]) ?_
 rcases Bool.eq_false_or_eq_true (mP v h l b) with c0 | c0
 ·skip
  refine pC M 4 26 #[.agg (av 4 (ls [.bool (v), .int .u64 h, .int .u64 l, .int .u8 b]))] (.bool true) (fun w M => call_val (c_MayPrefix v h l b (by omega) (by omega) w M.laid) (congrArg Value.bool c0)) fun u2 M => ?_
  refine pV 5 (.bool false) ?_
  refine nT ?_
  refine wp_cond_false (by kernel_rfl) ?_
  refine wp_skip ?_
  refine au_then ?_
  refine wp_seq ?_
  refine rg_tail M 9 (by kernel_rfl) (by kernel_rfl) ?_
  simp only [List.take_succ_cons, List.take_zero]
  refine kV 6 (.pointer (some ⟨g1, 0, none⟩)) ?_
  refine kL M 7 0 rfl 0 3 (ls [.bool (v), .int .u64 h, .int .u64 l]) (part_ls _ 0 3 _ rfl) ?_
  refine kC M 8 22 #[.agg (av 3 (ls [.bool (v), .int .u64 h, .int .u64 l]))] (.string (txt v h l)) (fun w M => c_Text v h l w M.laid) ?_
  refine kH 9 (.string ((txt v h l) ++ (⟨#[47]⟩ : ByteArray))) (run_cat 9 9 _ _ rfl (txt v h l) ⟨#[47]⟩ (by kernel_rfl) (by kernel_rfl) (by have q0 := txt_le v h l; have q2 : (⟨#[47]⟩ : ByteArray).size = 1 := rfl; omega)) ?_
  refine kV 10 (.pointer (some ⟨g1, 3, none⟩)) ?_
  refine kE M 11 g1 3 (.int .u8 b) (fun w M => M.cell 0 rfl (by decide) rfl) ?_
  refine kH 12 (.int .i64 b) (fun w => Eq.trans (b := .ok (.value (.int .i64 (IntKind.wrap .i64 b))) w) (by kernel_rfl) (by rw [wrap64 (by omega) (by omega)])) ?_
  refine kC M 13 52 #[.int .i64 b] (.string (dcT b)) (fun w M => c_ItoaI b (by omega) (by omega) w M.laid) ?_
  refine kH 14 (.string (((txt v h l) ++ (⟨#[47]⟩ : ByteArray)) ++ (dcT b))) (run_cat 9 9 _ _ rfl ((txt v h l) ++ (⟨#[47]⟩ : ByteArray)) (dcT b) (by kernel_rfl) (by kernel_rfl) (by have q0 := txt_le v h l; have q1 := dcT_size b; simp only [ByteArray.size_append]; have q2 : (⟨#[47]⟩ : ByteArray).size = 1 := rfl; omega)) ?_
  refine kl_nil fun u3 M => ?_
  refine pV 2 (.string (((txt v h l) ++ (⟨#[47]⟩ : ByteArray)) ++ (dcT b))) ?_
  refine nT ?_
  refine wp_ret ?_
  have e0 : (ptx v h l b) = (((txt v h l) ++ (⟨#[47]⟩ : ByteArray)) ++ (dcT b)) := by unfold ptx; rw [if_pos c0]
  exact bodyPost_ret (v := .string (((txt v h l) ++ (⟨#[47]⟩ : ByteArray)) ++ (dcT b))) (results_tmp1 Tryz.results24 _ _ _ (by kernel_rfl)) (by kernel_rfl) ⟨by rw [e0], below_grown M.old⟩
 ·skip
  refine pC M 4 26 #[.agg (av 4 (ls [.bool (v), .int .u64 h, .int .u64 l, .int .u8 b]))] (.bool false) (fun w M => call_val (c_MayPrefix v h l b (by omega) (by omega) w M.laid) (congrArg Value.bool c0)) fun u2 M => ?_
  refine pV 5 (.bool true) ?_
  refine nT ?_
  refine wp_cond_true (by kernel_rfl) ?_
  refine sR ?_
  refine pV 2 (.string ⟨#[]⟩) ?_
  refine nT ?_
  refine wp_ret ?_
  refine au_then_ret ?_
  have e0 : (ptx v h l b) = ⟨#[]⟩ := by unfold ptx; rw [if_neg (by rw [c0]; decide)]
  exact bodyPost_ret (v := .string ⟨#[]⟩) (results_tmp1 Tryz.results24 _ _ _ (by kernel_rfl)) (by kernel_rfl) ⟨by rw [e0], below_grown M.old⟩
end Go.Proofs.YtndonmdgplojnaaGreatDoor

namespace Go.Proofs.YtndonmdgplojnaaGreatDoor
open Go.RowKit
def v16 (l : List Int) : List Value := l.map fun x => .int .u16 x
def tgi (l : List Int) (i : Nat) : Int := l.getD i 0
theorem v16_at (l : List Int) (i : Nat) (h : i < l.length) : (v16 l)[i]? = some (.int .u16 (tgi l i)) := by
 unfold v16 tgi
 simp [h]
theorem v16_len (l : List Int) : (v16 l).length = l.length := by simp [v16]
theorem v16_app (l : List Int) (x : Int) : v16 (l ++ [x]) = v16 l ++ [.int .u16 x] := by simp [v16]
def nl (b m : Int) (ps : List ByteArray) : Nat → Option (List Int)
 | 0 => some []
 | j + 1 => (nl b m ps j).bind fun l => (nmb b m (tg ps j)).map fun x => l ++ [x]
def nlv (b m : Int) (ps : List ByteArray) (j : Nat) : List Int := (nl b m ps j).getD []
def nbs (b m : Int) (s sep : ByteArray) : Option (List Int) := if s = (⟨#[]⟩ : ByteArray) then some [] else nl b m (spl s sep) (spl s sep).length
theorem nl_none {b m : Int} {ps : List ByteArray} {j : Nat} (h : nl b m ps j = none) (k : Nat) : nl b m ps (j + k) = none := by
 induction k with
 | zero => exact h
 | succ k ih =>
  show nl b m ps (j + k + 1) = none
  unfold nl
  rw [ih]
  rfl
theorem nl_bad {b m : Int} {s sep : ByteArray} {j : Nat} {l : List Int} (hs : ¬ s = (⟨#[]⟩ : ByteArray)) (hj : j < (spl s sep).length) (h : nl b m (spl s sep) j = some l) (hn : (nmb b m (tg (spl s sep) j)).isSome = false) : nbs b m s sep = none := by
 unfold nbs
 rw [if_neg hs]
 obtain ⟨k, hk⟩ : ∃ k, (spl s sep).length = j + 1 + k := ⟨(spl s sep).length - (j + 1), by omega⟩
 rw [hk]
 refine nl_none ?_ k
 unfold nl
 rw [h]
 cases hq : nmb b m (tg (spl s sep) j) with
 | none => simp
 | some x => rw [hq] at hn; cases hn
theorem nl_ok {b m : Int} {ps : List ByteArray} {j : Nat} {l : List Int} (h : nl b m ps j = some l) (hn : (nmb b m (tg ps j)).isSome = true) : nl b m ps (j + 1) = some (l ++ [(nmb b m (tg ps j)).getD 0]) := by
 unfold nl
 rw [h]
 cases hq : nmb b m (tg ps j) with
 | none => rw [hq] at hn; cases hn
 | some x => simp
def TS (c : Ctx) (L : List Blk) (W : World) (tv : Value) (l : List Int) : Prop := (l = [] ∧ tv = .slice none 0 0 ∧ Mem c L W) ∨ ∃ g cap Z, tv = .slice (some ⟨g, 0, none⟩) l.length cap ∧ SB Z cap (v16 l) ∧ Mem c (L ++ [⟨g, Z⟩]) W
def NumsPost (o : Option (List Int)) (w : World) (r : Ending) (w' : World) : Prop := (o = none ∧ r = .returned (.tuple #[.slice none 0 0, .bool false]) ∧ Below w.heap.size w w') ∨ ∃ l, o = some l ∧ ((l = [] ∧ r = .returned (.tuple #[.slice none 0 0, .bool true]) ∧ Below w.heap.size w w') ∨ (l ≠ [] ∧ ∃ g cap Z, r = .returned (.tuple #[.slice (some ⟨g, 0, none⟩) l.length cap, .bool true]) ∧ w.heap.size ≤ g ∧ w'.heap[g]? = some Z ∧ SB Z cap (v16 l) ∧ Below w.heap.size w w'))
theorem nl_len {b m : Int} {ps : List ByteArray} {j : Nat} {l : List Int} (h : nl b m ps j = some l) : l.length = j := by
 induction j generalizing l with
 | zero => cases h; rfl
 | succ j ih =>
  unfold nl at h
  cases hq : nl b m ps j with
  | none => rw [hq] at h; cases h
  | some l' =>
   rw [hq] at h
   simp only [Option.bind_some, Option.map_eq_some_iff] at h
   obtain ⟨x, _, rfl⟩ := h
   rw [List.length_append, ih hq]
   rfl
set_option maxRecDepth 100000 in
set_option maxHeartbeats 4000000 in
set_option linter.unusedSimpArgs false in
theorem c_nums10 (s sep : ByteArray) (hs : s.size ≤ 1000) (h1 : 1 ≤ sep.size) (w : World) (hL : Laid w)  :
  Calls Tryz.prog 89 #[.string s, .string sep, .int .i64 10, .int .i64 8] w fun r w' => NumsPost (nbs 10 255 s sep) w r w' := by
 go_enter Tryz.func89, Tryz.ntmps89
 have M := Mem.start hL
 have hsl := spl_le s sep h1
 have hlen : ∀ l : List Int, ∀ {j : Nat}, nl 10 255 (spl s sep) j = some l → j < (spl s sep).length → l.length < 1000000 := fun l j h hj => by have := nl_len h; omega
 refine sR ?_
 refine pV 8 (.slice none 0 0) ?_
 refine pV 9 (.bool false) ?_
 refine nT ?_
 refine wp_seq ?_
 refine sR ?_
 refine pV 15 (.string s) ?_
 by_cases c0 : s = (⟨#[]⟩ : ByteArray)
 ·skip
  refine pH 16 (.bool true) (fun w => Eq.trans (b := .ok (.value (.bool (s.toList == (⟨#[]⟩ : ByteArray).toList))) w) (by kernel_rfl) (by rw [seq_pos c0])) ?_
  refine nT ?_
  refine wp_cond_true (by kernel_rfl) ?_
  refine sR ?_
  refine pV 8 (.slice none 0 0) ?_
  refine pV 9 (.bool true) ?_
  refine nT ?_
  refine wp_ret ?_
  refine au_then_ret ?_
  exact bodyPost_ret (v := .tuple #[.slice none 0 0, .bool true]) (results_tmp2 Tryz.results89 _ _ _ _ (by kernel_rfl) (by kernel_rfl)) (by kernel_rfl) (.inr ⟨[], if_pos c0, .inl ⟨rfl, rfl, below_grown M.old⟩⟩)
 ·skip
  refine pH 16 (.bool false) (fun w => Eq.trans (b := .ok (.value (.bool (s.toList == (⟨#[]⟩ : ByteArray).toList))) w) (by kernel_rfl) (by rw [seq_neg c0])) ?_
  refine nT ?_
  refine wp_cond_false (by kernel_rfl) ?_
  refine wp_skip ?_
  refine au_then ?_
  refine sR ?_
  refine pV 10 (.slice none 0 0) ?_
  refine nT ?_
  refine wp_seq ?_
  refine sR ?_
  refine pV 17 (.string s) ?_
  refine pV 18 (.string sep) ?_
  refine pl_calln M (want_no rfl) (some 19) rfl 107 #[.string s, .string sep] (fun g1 => .slice (some ⟨g1, 0, none⟩) (spl s sep).length (spl s sep).length) (.cells (av (spl s sep).length (fS (spl s sep))) 9) (fun _ => by kernel_rfl) (fun w M => c_Split s sep (by omega) h1 w M.laid) fun g1 u1 M => ?_
  refine pV 20 (.int .i64 (((spl s sep).length : Nat) : Int)) ?_
  refine pV 21 (.int .i64 0) ?_
  refine nT ?_
  refine wp_block ?_
  refine au_loop (fun j a w' => ∃ (v1 : Nat → Value) (tv : Value), a = ⟨#[.string s, .string sep, .int .i64 10, .int .i64 8, undef, undef, undef, undef, v1 8, v1 9, tv, undef, v1 12, v1 13, v1 14, .string s, .bool false, .string s, .string sep, .slice (some ⟨g1, 0, none⟩) (spl s sep).length (spl s sep).length, .int .i64 (((spl s sep).length : Nat) : Int), .int .i64 (j : Int), v1 22, v1 23, v1 24, v1 25, v1 26, v1 27, v1 28, v1 29, v1 30, v1 31, v1 32, v1 33, v1 34, v1 35, v1 36, v1 37, v1 38, undef], []⟩ ∧ nl 10 255 (spl s sep) j = some (nlv 10 255 (spl s sep) j) ∧ TS ⟨w, []⟩ [⟨g1, .cells (av (spl s sep).length (fS (spl s sep))) 9⟩] w' tv (nlv 10 255 (spl s sep) j)) (spl s sep).length ⟨fun k_ => ([.slice none 0 0, .bool false, undef, undef, undef, undef, undef, undef, undef, undef, undef, undef, undef, undef, undef, undef, undef, undef, undef, undef, undef, undef, undef, undef, undef, undef, undef, undef, undef, undef, undef] : List Value).getD (k_ - 8) undef, _, by kernel_rfl, rfl, .inl ⟨rfl, rfl, M⟩⟩ ?_ ?_
  ·intro j a u0 hj hI
   obtain ⟨v1, tv, rfl, hx, hT⟩ := hI
   rcases hT with ⟨hnil, rfl, M⟩ | ⟨g9, cap9, Z9, rfl, hZ9, M⟩
   ·skip
    refine sR ?_
    refine pH 22 (.bool true) (dTz ((j : Int) < (((spl s sep).length : Nat) : Int)) (by omega)) ?_
    refine nT ?_
    refine wp_seq ?_
    refine wp_cond_true (by kernel_rfl) ?_
    refine wp_skip ?_
    refine au_then ?_
    refine wp_seq ?_
    refine wp_block ?_
    refine sR ?_
    refine pH 23 (.pointer (some ⟨g1, j, none⟩)) (run_ix0 72 9 Tryz.underlying72 inz9 _ _ rfl g1 ((spl s sep).length) ((spl s sep).length) (by kernel_rfl) .i64 j (by kernel_rfl) (by omega)) ?_
    refine pEz M 24 g1 j (.string (tg (spl s sep) j)) (fun w M => M.cell 0 rfl (by omega) rfl) ?_
    refine pV 12 (.string (tg (spl s sep) j)) ?_
    refine nT ?_
    refine sR ?_
    refine pV 26 (.string (tg (spl s sep) j)) ?_
    refine pV 27 (.int .i64 10) ?_
    refine pV 28 (.int .i64 8) ?_
    rcases Bool.eq_false_or_eq_true ((nmb 10 255 (tg (spl s sep) j)).isSome) with c2 | c2
    ·skip
     refine pC M 29 47 #[.string (tg (spl s sep) j), .int .i64 10, .int .i64 8] (.tuple #[.int .u16 ((nmb 10 255 (tg (spl s sep) j)).getD 0), .bool true]) (fun w M => call_val (c_number10 (tg (spl s sep) j) w M.laid) (by rw [c2])) fun u2 M => ?_
     refine pV 25 (.tuple #[.int .u16 ((nmb 10 255 (tg (spl s sep) j)).getD 0), .bool true]) ?_
     refine pV 30 (.int .u16 ((nmb 10 255 (tg (spl s sep) j)).getD 0)) ?_
     refine pV 31 (.bool true) ?_
     refine pV 13 (.int .u16 ((nmb 10 255 (tg (spl s sep) j)).getD 0)) ?_
     refine pV 14 (.bool true) ?_
     refine nT ?_
     refine wp_seq ?_
     refine sR ?_
     refine pV 32 (.bool true) ?_
     refine pV 33 (.bool false) ?_
     refine nT ?_
     refine wp_cond_false (by kernel_rfl) ?_
     refine wp_skip ?_
     refine au_then ?_
     refine rg_lit ?_
     refine pV 34 (.slice none 0 0) ?_
     refine pV 35 (.int .u16 ((nmb 10 255 (tg (spl s sep) j)).getD 0)) ?_
     refine pl_mk M (want_no rfl) (some 36) rfl (fun g2 => .slice (some ⟨g2, 0, none⟩) 1 1) (.cells (av 1 (fun _ => .int .u16 ((nmb 10 255 (tg (spl s sep) j)).getD 0))) 32) (fun _ => by kernel_rfl) fun g2 u3 M => ?_
     refine pl_app0I M (want_no rfl) (some 37) rfl 99 99 32 (.int .u16 0) Tryz.underlying99 info32 rfl 1 g2 32 (.int .u16 ((nmb 10 255 (tg (spl s sep) j)).getD 0)) rfl (fun _ => by kernel_rfl) ?_
     intro g8 cap8 Z8 u4 hZ8 M
     refine pV 10 (.slice (some ⟨g8, 0, none⟩) 1 cap8) ?_
     refine pl_nil ?_
     refine au_block ?_
     refine au_then ?_
     refine rg_lit ?_
     refine pH 38 (.int .i64 ((j + 1 : Nat) : Int)) (iV ((j : Int) + 1) (by omega) (by omega) (by omega)) ?_
     refine pV 21 (.int .i64 ((j + 1 : Nat) : Int)) ?_
     refine nT ?_
     have hy := nl_ok hx c2
     have hz : nlv 10 255 (spl s sep) (j + 1) = (nlv 10 255 (spl s sep) j) ++ [(nmb 10 255 (tg (spl s sep) j)).getD 0] := by unfold nlv; rw [hy]; rfl
     exact ⟨fun k_ => ([v1 8, v1 9, undef, undef, .string (tg (spl s sep) j), .int .u16 ((nmb 10 255 (tg (spl s sep) j)).getD 0), .bool true, undef, undef, undef, undef, undef, undef, undef, .bool true, .pointer (some ⟨g1, j, none⟩), .string (tg (spl s sep) j), .tuple #[.int .u16 ((nmb 10 255 (tg (spl s sep) j)).getD 0), .bool true], .string (tg (spl s sep) j), .int .i64 10, .int .i64 8, .tuple #[.int .u16 ((nmb 10 255 (tg (spl s sep) j)).getD 0), .bool true], .int .u16 ((nmb 10 255 (tg (spl s sep) j)).getD 0), .bool true, .bool true, .bool false, .slice none 0 0, .int .u16 ((nmb 10 255 (tg (spl s sep) j)).getD 0), .slice (some ⟨g2, 0, none⟩) 1 1, .slice (some ⟨g8, 0, none⟩) 1 cap8, .int .i64 ((j + 1 : Nat) : Int)] : List Value).getD (k_ - 8) undef, .slice (some ⟨g8, 0, none⟩) 1 cap8, by kernel_rfl, by rw [hz]; exact hy, .inr ⟨g8, cap8, Z8, by rw [hz, hnil]; rfl, by rw [hz, hnil]; exact hZ8, M.drop (.cons_cons _ (.cons _ (.cons_cons _ .slnil)))⟩⟩
    ·skip
     refine pC M 29 47 #[.string (tg (spl s sep) j), .int .i64 10, .int .i64 8] (.tuple #[.int .u16 ((nmb 10 255 (tg (spl s sep) j)).getD 0), .bool false]) (fun w M => call_val (c_number10 (tg (spl s sep) j) w M.laid) (by rw [c2])) fun u2 M => ?_
     refine pV 25 (.tuple #[.int .u16 ((nmb 10 255 (tg (spl s sep) j)).getD 0), .bool false]) ?_
     refine pV 30 (.int .u16 ((nmb 10 255 (tg (spl s sep) j)).getD 0)) ?_
     refine pV 31 (.bool false) ?_
     refine pV 13 (.int .u16 ((nmb 10 255 (tg (spl s sep) j)).getD 0)) ?_
     refine pV 14 (.bool false) ?_
     refine nT ?_
     refine wp_seq ?_
     refine sR ?_
     refine pV 32 (.bool false) ?_
     refine pV 33 (.bool true) ?_
     refine nT ?_
     refine wp_cond_true (by kernel_rfl) ?_
     refine sR ?_
     refine pV 8 (.slice none 0 0) ?_
     refine pV 9 (.bool false) ?_
     refine nT ?_
     refine wp_ret ?_
     refine au_then_ret ?_
     refine au_block_ret ?_
     refine au_then_ret ?_
     refine au_then_ret ?_
     refine au_block_ret ?_
     refine au_then_ret ?_
     exact bodyPost_ret (v := .tuple #[.slice none 0 0, .bool false]) (results_tmp2 Tryz.results89 _ _ _ _ (by kernel_rfl) (by kernel_rfl)) (by kernel_rfl) (.inl ⟨nl_bad c0 hj hx c2, rfl, below_grown M.old⟩)
   ·skip
    refine sR ?_
    refine pH 22 (.bool true) (dTz ((j : Int) < (((spl s sep).length : Nat) : Int)) (by omega)) ?_
    refine nT ?_
    refine wp_seq ?_
    refine wp_cond_true (by kernel_rfl) ?_
    refine wp_skip ?_
    refine au_then ?_
    refine wp_seq ?_
    refine wp_block ?_
    refine sR ?_
    refine pH 23 (.pointer (some ⟨g1, j, none⟩)) (run_ix0 72 9 Tryz.underlying72 inz9 _ _ rfl g1 ((spl s sep).length) ((spl s sep).length) (by kernel_rfl) .i64 j (by kernel_rfl) (by omega)) ?_
    refine pEz M 24 g1 j (.string (tg (spl s sep) j)) (fun w M => M.cell 0 rfl (by omega) rfl) ?_
    refine pV 12 (.string (tg (spl s sep) j)) ?_
    refine nT ?_
    refine sR ?_
    refine pV 26 (.string (tg (spl s sep) j)) ?_
    refine pV 27 (.int .i64 10) ?_
    refine pV 28 (.int .i64 8) ?_
    rcases Bool.eq_false_or_eq_true ((nmb 10 255 (tg (spl s sep) j)).isSome) with c2 | c2
    ·skip
     refine pC M 29 47 #[.string (tg (spl s sep) j), .int .i64 10, .int .i64 8] (.tuple #[.int .u16 ((nmb 10 255 (tg (spl s sep) j)).getD 0), .bool true]) (fun w M => call_val (c_number10 (tg (spl s sep) j) w M.laid) (by rw [c2])) fun u2 M => ?_
     refine pV 25 (.tuple #[.int .u16 ((nmb 10 255 (tg (spl s sep) j)).getD 0), .bool true]) ?_
     refine pV 30 (.int .u16 ((nmb 10 255 (tg (spl s sep) j)).getD 0)) ?_
     refine pV 31 (.bool true) ?_
     refine pV 13 (.int .u16 ((nmb 10 255 (tg (spl s sep) j)).getD 0)) ?_
     refine pV 14 (.bool true) ?_
     refine nT ?_
     refine wp_seq ?_
     refine sR ?_
     refine pV 32 (.bool true) ?_
     refine pV 33 (.bool false) ?_
     refine nT ?_
     refine wp_cond_false (by kernel_rfl) ?_
     refine wp_skip ?_
     refine au_then ?_
     refine rg_lit ?_
     refine pV 34 (.slice (some ⟨g9, 0, none⟩) (nlv 10 255 (spl s sep) j).length cap9) ?_
     refine pV 35 (.int .u16 ((nmb 10 255 (tg (spl s sep) j)).getD 0)) ?_
     refine pl_mk M (want_no rfl) (some 36) rfl (fun g2 => .slice (some ⟨g2, 0, none⟩) 1 1) (.cells (av 1 (fun _ => .int .u16 ((nmb 10 255 (tg (spl s sep) j)).getD 0))) 32) (fun _ => by kernel_rfl) fun g2 u3 M => ?_
     refine pl_appI M (want_no rfl) (some 37) rfl 99 99 32 (.int .u16 0) Tryz.underlying99 info32 rfl 1 g9 ((nlv 10 255 (spl s sep) j).length) cap9 Z9 (v16 (nlv 10 255 (spl s sep) j)) rfl hZ9 (v16_len _) (hlen _ hx hj) 2 g2 32 (.int .u16 ((nmb 10 255 (tg (spl s sep) j)).getD 0)) rfl rfl (fun _ => by kernel_rfl) ?_
     intro g8 cap8 Z8 u4 hZ8 M
     refine pV 10 (.slice (some ⟨g8, 0, none⟩) ((nlv 10 255 (spl s sep) j).length + 1) cap8) ?_
     refine pl_nil ?_
     refine au_block ?_
     refine au_then ?_
     refine rg_lit ?_
     refine pH 38 (.int .i64 ((j + 1 : Nat) : Int)) (iV ((j : Int) + 1) (by omega) (by omega) (by omega)) ?_
     refine pV 21 (.int .i64 ((j + 1 : Nat) : Int)) ?_
     refine nT ?_
     have hy := nl_ok hx c2
     have hz : nlv 10 255 (spl s sep) (j + 1) = (nlv 10 255 (spl s sep) j) ++ [(nmb 10 255 (tg (spl s sep) j)).getD 0] := by unfold nlv; rw [hy]; rfl
     exact ⟨fun k_ => ([v1 8, v1 9, undef, undef, .string (tg (spl s sep) j), .int .u16 ((nmb 10 255 (tg (spl s sep) j)).getD 0), .bool true, undef, undef, undef, undef, undef, undef, undef, .bool true, .pointer (some ⟨g1, j, none⟩), .string (tg (spl s sep) j), .tuple #[.int .u16 ((nmb 10 255 (tg (spl s sep) j)).getD 0), .bool true], .string (tg (spl s sep) j), .int .i64 10, .int .i64 8, .tuple #[.int .u16 ((nmb 10 255 (tg (spl s sep) j)).getD 0), .bool true], .int .u16 ((nmb 10 255 (tg (spl s sep) j)).getD 0), .bool true, .bool true, .bool false, .slice (some ⟨g9, 0, none⟩) (nlv 10 255 (spl s sep) j).length cap9, .int .u16 ((nmb 10 255 (tg (spl s sep) j)).getD 0), .slice (some ⟨g2, 0, none⟩) 1 1, .slice (some ⟨g8, 0, none⟩) ((nlv 10 255 (spl s sep) j).length + 1) cap8, .int .i64 ((j + 1 : Nat) : Int)] : List Value).getD (k_ - 8) undef, .slice (some ⟨g8, 0, none⟩) ((nlv 10 255 (spl s sep) j).length + 1) cap8, by kernel_rfl, by rw [hz]; exact hy, .inr ⟨g8, cap8, Z8, by rw [hz, List.length_append]; rfl, by rw [hz, v16_app]; exact hZ8, M.drop (.cons_cons _ (.cons _ (.cons_cons _ .slnil)))⟩⟩
    ·skip
     refine pC M 29 47 #[.string (tg (spl s sep) j), .int .i64 10, .int .i64 8] (.tuple #[.int .u16 ((nmb 10 255 (tg (spl s sep) j)).getD 0), .bool false]) (fun w M => call_val (c_number10 (tg (spl s sep) j) w M.laid) (by rw [c2])) fun u2 M => ?_
     refine pV 25 (.tuple #[.int .u16 ((nmb 10 255 (tg (spl s sep) j)).getD 0), .bool false]) ?_
     refine pV 30 (.int .u16 ((nmb 10 255 (tg (spl s sep) j)).getD 0)) ?_
     refine pV 31 (.bool false) ?_
     refine pV 13 (.int .u16 ((nmb 10 255 (tg (spl s sep) j)).getD 0)) ?_
     refine pV 14 (.bool false) ?_
     refine nT ?_
     refine wp_seq ?_
     refine sR ?_
     refine pV 32 (.bool false) ?_
     refine pV 33 (.bool true) ?_
     refine nT ?_
     refine wp_cond_true (by kernel_rfl) ?_
     refine sR ?_
     refine pV 8 (.slice none 0 0) ?_
     refine pV 9 (.bool false) ?_
     refine nT ?_
     refine wp_ret ?_
     refine au_then_ret ?_
     refine au_block_ret ?_
     refine au_then_ret ?_
     refine au_then_ret ?_
     refine au_block_ret ?_
     refine au_then_ret ?_
     exact bodyPost_ret (v := .tuple #[.slice none 0 0, .bool false]) (results_tmp2 Tryz.results89 _ _ _ _ (by kernel_rfl) (by kernel_rfl)) (by kernel_rfl) (.inl ⟨nl_bad c0 hj hx c2, rfl, below_grown M.old⟩)
  ·intro a u0 hI
   obtain ⟨v1, tv, rfl, hx, hT⟩ := hI
   rcases hT with ⟨hnil, rfl, M⟩ | ⟨g9, cap9, Z9, rfl, hZ9, M⟩
   ·skip
    refine sR ?_
    refine pH 22 (.bool false) (dF ((((spl s sep).length : Nat) : Int) < (((spl s sep).length : Nat) : Int)) (by omega)) ?_
    refine nT ?_
    refine wp_seq ?_
    refine wp_cond_false (by kernel_rfl) ?_
    refine wp_exit ?_
    refine au_then_exit ?_
    refine au_then_exit ?_
    refine au_block_exit ?_
    refine au_then ?_
    refine sR ?_
    refine pV 39 (.slice none 0 0) ?_
    refine pV 8 (.slice none 0 0) ?_
    refine pV 9 (.bool true) ?_
    refine nT ?_
    refine wp_ret ?_
    exact bodyPost_ret (v := .tuple #[.slice none 0 0, .bool true]) (results_tmp2 Tryz.results89 _ _ _ _ (by kernel_rfl) (by kernel_rfl)) (by kernel_rfl) (.inr ⟨_, (show nbs 10 255 s sep = some (nlv 10 255 (spl s sep) ((spl s sep).length)) by unfold nbs; rw [if_neg c0]; exact hx), .inl ⟨hnil, rfl, below_grown M.old⟩⟩)
   ·skip
    refine sR ?_
    refine pH 22 (.bool false) (dF ((((spl s sep).length : Nat) : Int) < (((spl s sep).length : Nat) : Int)) (by omega)) ?_
    refine nT ?_
    refine wp_seq ?_
    refine wp_cond_false (by kernel_rfl) ?_
    refine wp_exit ?_
    refine au_then_exit ?_
    refine au_then_exit ?_
    refine au_block_exit ?_
    refine au_then ?_
    refine sR ?_
    refine pV 39 (.slice (some ⟨g9, 0, none⟩) (nlv 10 255 (spl s sep) ((spl s sep).length)).length cap9) ?_
    refine pV 8 (.slice (some ⟨g9, 0, none⟩) (nlv 10 255 (spl s sep) ((spl s sep).length)).length cap9) ?_
    refine pV 9 (.bool true) ?_
    refine nT ?_
    refine wp_ret ?_
    exact bodyPost_ret (v := .tuple #[.slice (some ⟨g9, 0, none⟩) (nlv 10 255 (spl s sep) ((spl s sep).length)).length cap9, .bool true]) (results_tmp2 Tryz.results89 _ _ _ _ (by kernel_rfl) (by kernel_rfl)) (by kernel_rfl) (.inr ⟨_, (show nbs 10 255 s sep = some (nlv 10 255 (spl s sep) ((spl s sep).length)) by unfold nbs; rw [if_neg c0]; exact hx), .inr ⟨fun e => by have h2 := nl_len hx; rw [e] at h2; have h3 := spl_len s sep h1; simp at h2; omega, g9, cap9, Z9, rfl, M.geAt 1 rfl, M.get 1 rfl, hZ9, below_grown M.old⟩⟩)
set_option maxRecDepth 100000 in
set_option maxHeartbeats 4000000 in
set_option linter.unusedSimpArgs false in
theorem c_nums16 (s sep : ByteArray) (hs : s.size ≤ 1000) (h1 : 1 ≤ sep.size) (w : World) (hL : Laid w)  :
  Calls Tryz.prog 89 #[.string s, .string sep, .int .i64 16, .int .i64 16] w fun r w' => NumsPost (nbs 16 65535 s sep) w r w' := by
 go_enter Tryz.func89, Tryz.ntmps89
 have M := Mem.start hL
 have hsl := spl_le s sep h1
 have hlen : ∀ l : List Int, ∀ {j : Nat}, nl 16 65535 (spl s sep) j = some l → j < (spl s sep).length → l.length < 1000000 := fun l j h hj => by have := nl_len h; omega
 refine sR ?_
 refine pV 8 (.slice none 0 0) ?_
 refine pV 9 (.bool false) ?_
 refine nT ?_
 refine wp_seq ?_
 refine sR ?_
 refine pV 15 (.string s) ?_
 by_cases c0 : s = (⟨#[]⟩ : ByteArray)
 ·skip
  refine pH 16 (.bool true) (fun w => Eq.trans (b := .ok (.value (.bool (s.toList == (⟨#[]⟩ : ByteArray).toList))) w) (by kernel_rfl) (by rw [seq_pos c0])) ?_
  refine nT ?_
  refine wp_cond_true (by kernel_rfl) ?_
  refine sR ?_
  refine pV 8 (.slice none 0 0) ?_
  refine pV 9 (.bool true) ?_
  refine nT ?_
  refine wp_ret ?_
  refine au_then_ret ?_
  exact bodyPost_ret (v := .tuple #[.slice none 0 0, .bool true]) (results_tmp2 Tryz.results89 _ _ _ _ (by kernel_rfl) (by kernel_rfl)) (by kernel_rfl) (.inr ⟨[], if_pos c0, .inl ⟨rfl, rfl, below_grown M.old⟩⟩)
 ·skip
  refine pH 16 (.bool false) (fun w => Eq.trans (b := .ok (.value (.bool (s.toList == (⟨#[]⟩ : ByteArray).toList))) w) (by kernel_rfl) (by rw [seq_neg c0])) ?_
  refine nT ?_
  refine wp_cond_false (by kernel_rfl) ?_
  refine wp_skip ?_
  refine au_then ?_
  refine sR ?_
  refine pV 10 (.slice none 0 0) ?_
  refine nT ?_
  refine wp_seq ?_
  refine sR ?_
  refine pV 17 (.string s) ?_
  refine pV 18 (.string sep) ?_
  refine pl_calln M (want_no rfl) (some 19) rfl 107 #[.string s, .string sep] (fun g1 => .slice (some ⟨g1, 0, none⟩) (spl s sep).length (spl s sep).length) (.cells (av (spl s sep).length (fS (spl s sep))) 9) (fun _ => by kernel_rfl) (fun w M => c_Split s sep (by omega) h1 w M.laid) fun g1 u1 M => ?_
  refine pV 20 (.int .i64 (((spl s sep).length : Nat) : Int)) ?_
  refine pV 21 (.int .i64 0) ?_
  refine nT ?_
  refine wp_block ?_
  refine au_loop (fun j a w' => ∃ (v1 : Nat → Value) (tv : Value), a = ⟨#[.string s, .string sep, .int .i64 16, .int .i64 16, undef, undef, undef, undef, v1 8, v1 9, tv, undef, v1 12, v1 13, v1 14, .string s, .bool false, .string s, .string sep, .slice (some ⟨g1, 0, none⟩) (spl s sep).length (spl s sep).length, .int .i64 (((spl s sep).length : Nat) : Int), .int .i64 (j : Int), v1 22, v1 23, v1 24, v1 25, v1 26, v1 27, v1 28, v1 29, v1 30, v1 31, v1 32, v1 33, v1 34, v1 35, v1 36, v1 37, v1 38, undef], []⟩ ∧ nl 16 65535 (spl s sep) j = some (nlv 16 65535 (spl s sep) j) ∧ TS ⟨w, []⟩ [⟨g1, .cells (av (spl s sep).length (fS (spl s sep))) 9⟩] w' tv (nlv 16 65535 (spl s sep) j)) (spl s sep).length ⟨fun k_ => ([.slice none 0 0, .bool false, undef, undef, undef, undef, undef, undef, undef, undef, undef, undef, undef, undef, undef, undef, undef, undef, undef, undef, undef, undef, undef, undef, undef, undef, undef, undef, undef, undef, undef] : List Value).getD (k_ - 8) undef, _, by kernel_rfl, rfl, .inl ⟨rfl, rfl, M⟩⟩ ?_ ?_
  ·intro j a u0 hj hI
   obtain ⟨v1, tv, rfl, hx, hT⟩ := hI
   rcases hT with ⟨hnil, rfl, M⟩ | ⟨g9, cap9, Z9, rfl, hZ9, M⟩
   ·skip
    refine sR ?_
    refine pH 22 (.bool true) (dTz ((j : Int) < (((spl s sep).length : Nat) : Int)) (by omega)) ?_
    refine nT ?_
    refine wp_seq ?_
    refine wp_cond_true (by kernel_rfl) ?_
    refine wp_skip ?_
    refine au_then ?_
    refine wp_seq ?_
    refine wp_block ?_
    refine sR ?_
    refine pH 23 (.pointer (some ⟨g1, j, none⟩)) (run_ix0 72 9 Tryz.underlying72 inz9 _ _ rfl g1 ((spl s sep).length) ((spl s sep).length) (by kernel_rfl) .i64 j (by kernel_rfl) (by omega)) ?_
    refine pEz M 24 g1 j (.string (tg (spl s sep) j)) (fun w M => M.cell 0 rfl (by omega) rfl) ?_
    refine pV 12 (.string (tg (spl s sep) j)) ?_
    refine nT ?_
    refine sR ?_
    refine pV 26 (.string (tg (spl s sep) j)) ?_
    refine pV 27 (.int .i64 16) ?_
    refine pV 28 (.int .i64 16) ?_
    rcases Bool.eq_false_or_eq_true ((nmb 16 65535 (tg (spl s sep) j)).isSome) with c2 | c2
    ·skip
     refine pC M 29 47 #[.string (tg (spl s sep) j), .int .i64 16, .int .i64 16] (.tuple #[.int .u16 ((nmb 16 65535 (tg (spl s sep) j)).getD 0), .bool true]) (fun w M => call_val (c_number16 (tg (spl s sep) j) w M.laid) (by rw [c2])) fun u2 M => ?_
     refine pV 25 (.tuple #[.int .u16 ((nmb 16 65535 (tg (spl s sep) j)).getD 0), .bool true]) ?_
     refine pV 30 (.int .u16 ((nmb 16 65535 (tg (spl s sep) j)).getD 0)) ?_
     refine pV 31 (.bool true) ?_
     refine pV 13 (.int .u16 ((nmb 16 65535 (tg (spl s sep) j)).getD 0)) ?_
     refine pV 14 (.bool true) ?_
     refine nT ?_
     refine wp_seq ?_
     refine sR ?_
     refine pV 32 (.bool true) ?_
     refine pV 33 (.bool false) ?_
     refine nT ?_
     refine wp_cond_false (by kernel_rfl) ?_
     refine wp_skip ?_
     refine au_then ?_
     refine rg_lit ?_
     refine pV 34 (.slice none 0 0) ?_
     refine pV 35 (.int .u16 ((nmb 16 65535 (tg (spl s sep) j)).getD 0)) ?_
     refine pl_mk M (want_no rfl) (some 36) rfl (fun g2 => .slice (some ⟨g2, 0, none⟩) 1 1) (.cells (av 1 (fun _ => .int .u16 ((nmb 16 65535 (tg (spl s sep) j)).getD 0))) 32) (fun _ => by kernel_rfl) fun g2 u3 M => ?_
     refine pl_app0I M (want_no rfl) (some 37) rfl 99 99 32 (.int .u16 0) Tryz.underlying99 info32 rfl 1 g2 32 (.int .u16 ((nmb 16 65535 (tg (spl s sep) j)).getD 0)) rfl (fun _ => by kernel_rfl) ?_
     intro g8 cap8 Z8 u4 hZ8 M
     refine pV 10 (.slice (some ⟨g8, 0, none⟩) 1 cap8) ?_
     refine pl_nil ?_
     refine au_block ?_
     refine au_then ?_
     refine rg_lit ?_
     refine pH 38 (.int .i64 ((j + 1 : Nat) : Int)) (iV ((j : Int) + 1) (by omega) (by omega) (by omega)) ?_
     refine pV 21 (.int .i64 ((j + 1 : Nat) : Int)) ?_
     refine nT ?_
     have hy := nl_ok hx c2
     have hz : nlv 16 65535 (spl s sep) (j + 1) = (nlv 16 65535 (spl s sep) j) ++ [(nmb 16 65535 (tg (spl s sep) j)).getD 0] := by unfold nlv; rw [hy]; rfl
     exact ⟨fun k_ => ([v1 8, v1 9, undef, undef, .string (tg (spl s sep) j), .int .u16 ((nmb 16 65535 (tg (spl s sep) j)).getD 0), .bool true, undef, undef, undef, undef, undef, undef, undef, .bool true, .pointer (some ⟨g1, j, none⟩), .string (tg (spl s sep) j), .tuple #[.int .u16 ((nmb 16 65535 (tg (spl s sep) j)).getD 0), .bool true], .string (tg (spl s sep) j), .int .i64 16, .int .i64 16, .tuple #[.int .u16 ((nmb 16 65535 (tg (spl s sep) j)).getD 0), .bool true], .int .u16 ((nmb 16 65535 (tg (spl s sep) j)).getD 0), .bool true, .bool true, .bool false, .slice none 0 0, .int .u16 ((nmb 16 65535 (tg (spl s sep) j)).getD 0), .slice (some ⟨g2, 0, none⟩) 1 1, .slice (some ⟨g8, 0, none⟩) 1 cap8, .int .i64 ((j + 1 : Nat) : Int)] : List Value).getD (k_ - 8) undef, .slice (some ⟨g8, 0, none⟩) 1 cap8, by kernel_rfl, by rw [hz]; exact hy, .inr ⟨g8, cap8, Z8, by rw [hz, hnil]; rfl, by rw [hz, hnil]; exact hZ8, M.drop (.cons_cons _ (.cons _ (.cons_cons _ .slnil)))⟩⟩
    ·skip
     refine pC M 29 47 #[.string (tg (spl s sep) j), .int .i64 16, .int .i64 16] (.tuple #[.int .u16 ((nmb 16 65535 (tg (spl s sep) j)).getD 0), .bool false]) (fun w M => call_val (c_number16 (tg (spl s sep) j) w M.laid) (by rw [c2])) fun u2 M => ?_
     refine pV 25 (.tuple #[.int .u16 ((nmb 16 65535 (tg (spl s sep) j)).getD 0), .bool false]) ?_
     refine pV 30 (.int .u16 ((nmb 16 65535 (tg (spl s sep) j)).getD 0)) ?_
     refine pV 31 (.bool false) ?_
     refine pV 13 (.int .u16 ((nmb 16 65535 (tg (spl s sep) j)).getD 0)) ?_
     refine pV 14 (.bool false) ?_
     refine nT ?_
     refine wp_seq ?_
     refine sR ?_
     refine pV 32 (.bool false) ?_
     refine pV 33 (.bool true) ?_
     refine nT ?_
     refine wp_cond_true (by kernel_rfl) ?_
     refine sR ?_
     refine pV 8 (.slice none 0 0) ?_
     refine pV 9 (.bool false) ?_
     refine nT ?_
     refine wp_ret ?_
     refine au_then_ret ?_
     refine au_block_ret ?_
     refine au_then_ret ?_
     refine au_then_ret ?_
     refine au_block_ret ?_
     refine au_then_ret ?_
     exact bodyPost_ret (v := .tuple #[.slice none 0 0, .bool false]) (results_tmp2 Tryz.results89 _ _ _ _ (by kernel_rfl) (by kernel_rfl)) (by kernel_rfl) (.inl ⟨nl_bad c0 hj hx c2, rfl, below_grown M.old⟩)
   ·skip
    refine sR ?_
    refine pH 22 (.bool true) (dTz ((j : Int) < (((spl s sep).length : Nat) : Int)) (by omega)) ?_
    refine nT ?_
    refine wp_seq ?_
    refine wp_cond_true (by kernel_rfl) ?_
    refine wp_skip ?_
    refine au_then ?_
    refine wp_seq ?_
    refine wp_block ?_
    refine sR ?_
    refine pH 23 (.pointer (some ⟨g1, j, none⟩)) (run_ix0 72 9 Tryz.underlying72 inz9 _ _ rfl g1 ((spl s sep).length) ((spl s sep).length) (by kernel_rfl) .i64 j (by kernel_rfl) (by omega)) ?_
    refine pEz M 24 g1 j (.string (tg (spl s sep) j)) (fun w M => M.cell 0 rfl (by omega) rfl) ?_
    refine pV 12 (.string (tg (spl s sep) j)) ?_
    refine nT ?_
    refine sR ?_
    refine pV 26 (.string (tg (spl s sep) j)) ?_
    refine pV 27 (.int .i64 16) ?_
    refine pV 28 (.int .i64 16) ?_
    rcases Bool.eq_false_or_eq_true ((nmb 16 65535 (tg (spl s sep) j)).isSome) with c2 | c2
    ·skip
     refine pC M 29 47 #[.string (tg (spl s sep) j), .int .i64 16, .int .i64 16] (.tuple #[.int .u16 ((nmb 16 65535 (tg (spl s sep) j)).getD 0), .bool true]) (fun w M => call_val (c_number16 (tg (spl s sep) j) w M.laid) (by rw [c2])) fun u2 M => ?_
     refine pV 25 (.tuple #[.int .u16 ((nmb 16 65535 (tg (spl s sep) j)).getD 0), .bool true]) ?_
     refine pV 30 (.int .u16 ((nmb 16 65535 (tg (spl s sep) j)).getD 0)) ?_
     refine pV 31 (.bool true) ?_
     refine pV 13 (.int .u16 ((nmb 16 65535 (tg (spl s sep) j)).getD 0)) ?_
     refine pV 14 (.bool true) ?_
     refine nT ?_
     refine wp_seq ?_
     refine sR ?_
     refine pV 32 (.bool true) ?_
     refine pV 33 (.bool false) ?_
     refine nT ?_
     refine wp_cond_false (by kernel_rfl) ?_
     refine wp_skip ?_
     refine au_then ?_
     refine rg_lit ?_
     refine pV 34 (.slice (some ⟨g9, 0, none⟩) (nlv 16 65535 (spl s sep) j).length cap9) ?_
     refine pV 35 (.int .u16 ((nmb 16 65535 (tg (spl s sep) j)).getD 0)) ?_
     refine pl_mk M (want_no rfl) (some 36) rfl (fun g2 => .slice (some ⟨g2, 0, none⟩) 1 1) (.cells (av 1 (fun _ => .int .u16 ((nmb 16 65535 (tg (spl s sep) j)).getD 0))) 32) (fun _ => by kernel_rfl) fun g2 u3 M => ?_
     refine pl_appI M (want_no rfl) (some 37) rfl 99 99 32 (.int .u16 0) Tryz.underlying99 info32 rfl 1 g9 ((nlv 16 65535 (spl s sep) j).length) cap9 Z9 (v16 (nlv 16 65535 (spl s sep) j)) rfl hZ9 (v16_len _) (hlen _ hx hj) 2 g2 32 (.int .u16 ((nmb 16 65535 (tg (spl s sep) j)).getD 0)) rfl rfl (fun _ => by kernel_rfl) ?_
     intro g8 cap8 Z8 u4 hZ8 M
     refine pV 10 (.slice (some ⟨g8, 0, none⟩) ((nlv 16 65535 (spl s sep) j).length + 1) cap8) ?_
     refine pl_nil ?_
     refine au_block ?_
     refine au_then ?_
     refine rg_lit ?_
     refine pH 38 (.int .i64 ((j + 1 : Nat) : Int)) (iV ((j : Int) + 1) (by omega) (by omega) (by omega)) ?_
     refine pV 21 (.int .i64 ((j + 1 : Nat) : Int)) ?_
     refine nT ?_
     have hy := nl_ok hx c2
     have hz : nlv 16 65535 (spl s sep) (j + 1) = (nlv 16 65535 (spl s sep) j) ++ [(nmb 16 65535 (tg (spl s sep) j)).getD 0] := by unfold nlv; rw [hy]; rfl
     exact ⟨fun k_ => ([v1 8, v1 9, undef, undef, .string (tg (spl s sep) j), .int .u16 ((nmb 16 65535 (tg (spl s sep) j)).getD 0), .bool true, undef, undef, undef, undef, undef, undef, undef, .bool true, .pointer (some ⟨g1, j, none⟩), .string (tg (spl s sep) j), .tuple #[.int .u16 ((nmb 16 65535 (tg (spl s sep) j)).getD 0), .bool true], .string (tg (spl s sep) j), .int .i64 16, .int .i64 16, .tuple #[.int .u16 ((nmb 16 65535 (tg (spl s sep) j)).getD 0), .bool true], .int .u16 ((nmb 16 65535 (tg (spl s sep) j)).getD 0), .bool true, .bool true, .bool false, .slice (some ⟨g9, 0, none⟩) (nlv 16 65535 (spl s sep) j).length cap9, .int .u16 ((nmb 16 65535 (tg (spl s sep) j)).getD 0), .slice (some ⟨g2, 0, none⟩) 1 1, .slice (some ⟨g8, 0, none⟩) ((nlv 16 65535 (spl s sep) j).length + 1) cap8, .int .i64 ((j + 1 : Nat) : Int)] : List Value).getD (k_ - 8) undef, .slice (some ⟨g8, 0, none⟩) ((nlv 16 65535 (spl s sep) j).length + 1) cap8, by kernel_rfl, by rw [hz]; exact hy, .inr ⟨g8, cap8, Z8, by rw [hz, List.length_append]; rfl, by rw [hz, v16_app]; exact hZ8, M.drop (.cons_cons _ (.cons _ (.cons_cons _ .slnil)))⟩⟩
    ·skip
     refine pC M 29 47 #[.string (tg (spl s sep) j), .int .i64 16, .int .i64 16] (.tuple #[.int .u16 ((nmb 16 65535 (tg (spl s sep) j)).getD 0), .bool false]) (fun w M => call_val (c_number16 (tg (spl s sep) j) w M.laid) (by rw [c2])) fun u2 M => ?_
     refine pV 25 (.tuple #[.int .u16 ((nmb 16 65535 (tg (spl s sep) j)).getD 0), .bool false]) ?_
     refine pV 30 (.int .u16 ((nmb 16 65535 (tg (spl s sep) j)).getD 0)) ?_
     refine pV 31 (.bool false) ?_
     refine pV 13 (.int .u16 ((nmb 16 65535 (tg (spl s sep) j)).getD 0)) ?_
     refine pV 14 (.bool false) ?_
     refine nT ?_
     refine wp_seq ?_
     refine sR ?_
     refine pV 32 (.bool false) ?_
     refine pV 33 (.bool true) ?_
     refine nT ?_
     refine wp_cond_true (by kernel_rfl) ?_
     refine sR ?_
     refine pV 8 (.slice none 0 0) ?_
     refine pV 9 (.bool false) ?_
     refine nT ?_
     refine wp_ret ?_
     refine au_then_ret ?_
     refine au_block_ret ?_
     refine au_then_ret ?_
     refine au_then_ret ?_
     refine au_block_ret ?_
     refine au_then_ret ?_
     exact bodyPost_ret (v := .tuple #[.slice none 0 0, .bool false]) (results_tmp2 Tryz.results89 _ _ _ _ (by kernel_rfl) (by kernel_rfl)) (by kernel_rfl) (.inl ⟨nl_bad c0 hj hx c2, rfl, below_grown M.old⟩)
  ·intro a u0 hI
   obtain ⟨v1, tv, rfl, hx, hT⟩ := hI
   rcases hT with ⟨hnil, rfl, M⟩ | ⟨g9, cap9, Z9, rfl, hZ9, M⟩
   ·skip
    refine sR ?_
    refine pH 22 (.bool false) (dF ((((spl s sep).length : Nat) : Int) < (((spl s sep).length : Nat) : Int)) (by omega)) ?_
    refine nT ?_
    refine wp_seq ?_
    refine wp_cond_false (by kernel_rfl) ?_
    refine wp_exit ?_
    refine au_then_exit ?_
    refine au_then_exit ?_
    refine au_block_exit ?_
    refine au_then ?_
    refine sR ?_
    refine pV 39 (.slice none 0 0) ?_
    refine pV 8 (.slice none 0 0) ?_
    refine pV 9 (.bool true) ?_
    refine nT ?_
    refine wp_ret ?_
    exact bodyPost_ret (v := .tuple #[.slice none 0 0, .bool true]) (results_tmp2 Tryz.results89 _ _ _ _ (by kernel_rfl) (by kernel_rfl)) (by kernel_rfl) (.inr ⟨_, (show nbs 16 65535 s sep = some (nlv 16 65535 (spl s sep) ((spl s sep).length)) by unfold nbs; rw [if_neg c0]; exact hx), .inl ⟨hnil, rfl, below_grown M.old⟩⟩)
   ·skip
    refine sR ?_
    refine pH 22 (.bool false) (dF ((((spl s sep).length : Nat) : Int) < (((spl s sep).length : Nat) : Int)) (by omega)) ?_
    refine nT ?_
    refine wp_seq ?_
    refine wp_cond_false (by kernel_rfl) ?_
    refine wp_exit ?_
    refine au_then_exit ?_
    refine au_then_exit ?_
    refine au_block_exit ?_
    refine au_then ?_
    refine sR ?_
    refine pV 39 (.slice (some ⟨g9, 0, none⟩) (nlv 16 65535 (spl s sep) ((spl s sep).length)).length cap9) ?_
    refine pV 8 (.slice (some ⟨g9, 0, none⟩) (nlv 16 65535 (spl s sep) ((spl s sep).length)).length cap9) ?_
    refine pV 9 (.bool true) ?_
    refine nT ?_
    refine wp_ret ?_
    exact bodyPost_ret (v := .tuple #[.slice (some ⟨g9, 0, none⟩) (nlv 16 65535 (spl s sep) ((spl s sep).length)).length cap9, .bool true]) (results_tmp2 Tryz.results89 _ _ _ _ (by kernel_rfl) (by kernel_rfl)) (by kernel_rfl) (.inr ⟨_, (show nbs 16 65535 s sep = some (nlv 16 65535 (spl s sep) ((spl s sep).length)) by unfold nbs; rw [if_neg c0]; exact hx), .inr ⟨fun e => by have h2 := nl_len hx; rw [e] at h2; have h3 := spl_len s sep h1; simp at h2; omega, g9, cap9, Z9, rfl, M.geAt 1 rfl, M.get 1 rfl, hZ9, below_grown M.old⟩⟩)
theorem c_nums10N (s sep : ByteArray) (hs : s.size ≤ 1000) (h1 : 1 ≤ sep.size) (h : nbs 10 255 s sep = none) (w : World) (hL : Laid w) : Calls Tryz.prog 89 #[.string s, .string sep, .int .i64 10, .int .i64 8] w fun r w' => r = .returned (.tuple #[.slice none 0 0, .bool false]) ∧ Below w.heap.size w w' :=
 (c_nums10 s sep hs h1 w hL).mono fun _ _ hp => by
  rcases hp with ⟨_, h2, h3⟩ | ⟨l, hl, _⟩
  ·exact ⟨h2, h3⟩
  ·rw [h] at hl
   cases hl
theorem c_nums10E (s sep : ByteArray) (hs : s.size ≤ 1000) (h1 : 1 ≤ sep.size) (h : nbs 10 255 s sep = some []) (w : World) (hL : Laid w) : Calls Tryz.prog 89 #[.string s, .string sep, .int .i64 10, .int .i64 8] w fun r w' => r = .returned (.tuple #[.slice none 0 0, .bool true]) ∧ Below w.heap.size w w' :=
 (c_nums10 s sep hs h1 w hL).mono fun _ _ hp => by
  rcases hp with ⟨h0, _⟩ | ⟨l, hl, hp⟩
  ·rw [h] at h0
   cases h0
  ·rw [h] at hl
   cases hl
   rcases hp with ⟨_, h2, h3⟩ | ⟨hn, _⟩
   ·exact ⟨h2, h3⟩
   ·exact absurd rfl hn
theorem c_nums10L (s sep : ByteArray) (hs : s.size ≤ 1000) (h1 : 1 ≤ sep.size) (l : List Int) (hn : l ≠ []) (h : nbs 10 255 s sep = some l) (w : World) (hL : Laid w) : Calls Tryz.prog 89 #[.string s, .string sep, .int .i64 10, .int .i64 8] w fun r w' => ∃ g cap Z, r = .returned (.tuple #[.slice (some ⟨g, 0, none⟩) l.length cap, .bool true]) ∧ w.heap.size ≤ g ∧ w'.heap[g]? = some Z ∧ SB Z cap (v16 l) ∧ Below w.heap.size w w' :=
 (c_nums10 s sep hs h1 w hL).mono fun _ _ hp => by
  rcases hp with ⟨h0, _⟩ | ⟨l', hl, hp⟩
  ·rw [h] at h0
   cases h0
  ·rw [h] at hl
   cases hl
   rcases hp with ⟨h2, _⟩ | ⟨_, hp⟩
   ·exact absurd h2 hn
   ·exact hp
theorem c_nums16N (s sep : ByteArray) (hs : s.size ≤ 1000) (h1 : 1 ≤ sep.size) (h : nbs 16 65535 s sep = none) (w : World) (hL : Laid w) : Calls Tryz.prog 89 #[.string s, .string sep, .int .i64 16, .int .i64 16] w fun r w' => r = .returned (.tuple #[.slice none 0 0, .bool false]) ∧ Below w.heap.size w w' :=
 (c_nums16 s sep hs h1 w hL).mono fun _ _ hp => by
  rcases hp with ⟨_, h2, h3⟩ | ⟨l, hl, _⟩
  ·exact ⟨h2, h3⟩
  ·rw [h] at hl
   cases hl
theorem c_nums16E (s sep : ByteArray) (hs : s.size ≤ 1000) (h1 : 1 ≤ sep.size) (h : nbs 16 65535 s sep = some []) (w : World) (hL : Laid w) : Calls Tryz.prog 89 #[.string s, .string sep, .int .i64 16, .int .i64 16] w fun r w' => r = .returned (.tuple #[.slice none 0 0, .bool true]) ∧ Below w.heap.size w w' :=
 (c_nums16 s sep hs h1 w hL).mono fun _ _ hp => by
  rcases hp with ⟨h0, _⟩ | ⟨l, hl, hp⟩
  ·rw [h] at h0
   cases h0
  ·rw [h] at hl
   cases hl
   rcases hp with ⟨_, h2, h3⟩ | ⟨hn, _⟩
   ·exact ⟨h2, h3⟩
   ·exact absurd rfl hn
theorem c_nums16L (s sep : ByteArray) (hs : s.size ≤ 1000) (h1 : 1 ≤ sep.size) (l : List Int) (hn : l ≠ []) (h : nbs 16 65535 s sep = some l) (w : World) (hL : Laid w) : Calls Tryz.prog 89 #[.string s, .string sep, .int .i64 16, .int .i64 16] w fun r w' => ∃ g cap Z, r = .returned (.tuple #[.slice (some ⟨g, 0, none⟩) l.length cap, .bool true]) ∧ w.heap.size ≤ g ∧ w'.heap[g]? = some Z ∧ SB Z cap (v16 l) ∧ Below w.heap.size w w' :=
 (c_nums16 s sep hs h1 w hL).mono fun _ _ hp => by
  rcases hp with ⟨h0, _⟩ | ⟨l', hl, hp⟩
  ·rw [h] at h0
   cases h0
  ·rw [h] at hl
   cases hl
   rcases hp with ⟨h2, _⟩ | ⟨_, hp⟩
   ·exact absurd h2 hn
   ·exact hp
end Go.Proofs.YtndonmdgplojnaaGreatDoor

namespace Go.Proofs.YtndonmdgplojnaaGreatDoor
open Go.RowKit
def sq (bc : Int) (s : ByteArray) : Nat → List ByteArray × Nat
 | 0 => ([], 0)
 | j + 1 => if (j : Int) = (s.size : Int) ∨ bt s j = bc then ((sq bc s j).1 ++ [s.extract (sq bc s j).2 j], j + 1) else sq bc s j
def sqL (bc : Int) (s : ByteArray) : List ByteArray := (sq bc s (s.size + 1)).1
theorem sq_le (bc : Int) (s : ByteArray) (j : Nat) : (sq bc s j).2 ≤ j ∧ (sq bc s j).1.length ≤ j := by
 induction j with
 | zero => exact ⟨Nat.le_refl 0, Nat.le_refl 0⟩
 | succ j ih =>
  rw [sq]
  split
  ·simp only [List.length_append, List.length_cons, List.length_nil]
   omega
  ·omega
theorem sqL_ne (bc : Int) (s : ByteArray) : sqL bc s ≠ [] := by
 unfold sqL
 rw [sq, if_pos (.inl rfl)]
 simp
theorem vS_app (l : List ByteArray) (x : ByteArray) : vS (l ++ [x]) = vS l ++ [.string x] := by simp [vS]
def TSs (c : Ctx) (L : List Blk) (W : World) (tv : Value) (l : List ByteArray) : Prop := (l = [] ∧ tv = .slice none 0 0 ∧ Mem c L W) ∨ ∃ g cap Z, tv = .slice (some ⟨g, 0, none⟩) l.length cap ∧ SB Z cap (vS l) ∧ Mem c (L ++ [⟨g, Z⟩]) W
set_option maxRecDepth 100000 in
set_option maxHeartbeats 4000000 in
set_option linter.unusedSimpArgs false in
theorem d_split (s : ByteArray) (bc : Int) (hs : s.size ≤ 10000) (w : World) (hL : Laid w)  :
  Calls Tryz.prog 48 #[.string s, .int .u8 bc] w fun r w' => ∃ g cap Z, r = .returned (.slice (some ⟨g, 0, none⟩) (sqL bc s).length cap) ∧ w.heap.size ≤ g ∧ w'.heap[g]? = some Z ∧ SB Z cap (vS (sqL bc s)) ∧ Below w.heap.size w w' := by
 go_enter Tryz.func48, Tryz.ntmps48
 have M := Mem.start hL
 refine sR ?_
 refine pV 4 (.slice none 0 0) ?_
 refine nT ?_
 refine sR ?_
 refine pV 5 (.slice none 0 0) ?_
 refine nT ?_
 refine sR ?_
 refine pV 6 (.int .i64 0) ?_
 refine nT ?_
 refine wp_seq ?_
 refine sR ?_
 refine pV 7 (.int .i64 0) ?_
 refine nT ?_
 refine wp_block ?_
 refine au_loop (fun j a w' => ∃ (yv1 : Nat → Value) (tv : Value), a = ⟨#[.string s, .int .u8 bc, undef, undef, .slice none 0 0, tv, .int .i64 (((sq bc s j).2 : Nat) : Int), .int .i64 (j : Int), yv1 8, yv1 9, yv1 10, yv1 11, yv1 12, yv1 13, yv1 14, yv1 15, yv1 16, yv1 17, yv1 18, yv1 19, yv1 20, yv1 21, yv1 22, yv1 23, yv1 24, yv1 25, yv1 26, yv1 27, yv1 28, yv1 29, yv1 30, yv1 31, yv1 32, yv1 33, undef], []⟩ ∧ TSs ⟨w, []⟩ [] w' tv (sq bc s j).1) (s.size + 1) ⟨fun k_ => ([undef, undef, undef, undef, undef, undef, undef, undef, undef, undef, undef, undef, undef, undef, undef, undef, undef, undef, undef, undef, undef, undef, undef, undef, undef, undef] : List Value).getD (k_ - 8) undef, _, by kernel_rfl, .inl ⟨rfl, rfl, M⟩⟩ ?_ ?_
 ·intro j a u0 hj hI
  obtain ⟨yv1, tv, rfl, hT⟩ := hI
  have hq := sq_le bc s j
  rcases hT with ⟨hnil, rfl, M⟩ | ⟨g9, cap9, Z9, rfl, hZ9, M⟩
  ·skip
   refine wp_seq ?_
   refine sR ?_
   refine pV 8 (.int .i64 (j : Int)) ?_
   refine pV 9 (.string s) ?_
   refine pV 10 (.int .i64 (s.size : Int)) ?_
   refine pH 11 (.bool true) (dTz ((j : Int) ≤ (s.size : Int)) (by omega)) ?_
   refine nT ?_
   refine wp_cond_true (by kernel_rfl) ?_
   refine wp_skip ?_
   refine au_then ?_
   refine wp_seq ?_
   refine wp_block ?_
   refine sR ?_
   refine pV 14 (.int .i64 (j : Int)) ?_
   refine pV 15 (.string s) ?_
   refine pV 16 (.int .i64 (s.size : Int)) ?_
   by_cases c1 : (j : Int) = (s.size : Int)
   ·skip
    refine pH 17 (.bool true) (dTz ((j : Int) = (s.size : Int)) (c1)) ?_
    refine pV 18 (.bool true) ?_
    refine pl_skip (want_off 4 false rfl 18 rfl (by kernel_rfl)) (some 19) rfl ?_
    refine pl_skip (want_off 4 false rfl 18 rfl (by kernel_rfl)) (some 20) rfl ?_
    refine pl_skip (want_off 4 false rfl 18 rfl (by kernel_rfl)) (some 21) rfl ?_
    refine pl_skip (want_off 4 false rfl 18 rfl (by kernel_rfl)) (some 22) rfl ?_
    refine pl_skip (want_off 4 false rfl 18 rfl (by kernel_rfl)) (some 23) rfl ?_
    refine pV 24 (.bool true) ?_
    refine nT ?_
    refine wp_cond_true (by kernel_rfl) ?_
    refine sR ?_
    refine pV 25 (.slice none 0 0) ?_
    refine pV 26 (.string s) ?_
    refine pV 27 (.int .i64 (((sq bc s j).2 : Nat) : Int)) ?_
    refine pV 28 (.int .i64 (j : Int)) ?_
    refine pH 29 (.string (s.extract (sq bc s j).2 j)) (run_strlh 9 Tryz.underlying9 _ _ _ rfl s (by kernel_rfl) .i64 .i64 (sq bc s j).2 j (by kernel_rfl) (by kernel_rfl) (by omega) (by omega)) ?_
    refine pl_mk M (want_no rfl) (some 30) rfl (fun g1 => .slice (some ⟨g1, 0, none⟩) 1 1) (.cells (av 1 (fun _ => .string (s.extract (sq bc s j).2 j))) 9) (fun _ => by kernel_rfl) fun g1 u1 M => ?_
    refine pl_app0I M (want_no rfl) (some 31) rfl 72 72 9 (.string ⟨#[]⟩) Tryz.underlying72 info9 rfl 0 g1 9 (.string (s.extract (sq bc s j).2 j)) rfl (fun _ => by kernel_rfl) ?_
    intro g8 cap8 Z8 u2 hZ8 M
    refine pV 5 (.slice (some ⟨g8, 0, none⟩) 1 cap8) ?_
    refine nT ?_
    refine rg_lit ?_
    refine pV 32 (.int .i64 (j : Int)) ?_
    refine pH 33 (.int .i64 ((j + 1 : Nat) : Int)) (iV ((j : Int) + 1) (by omega) (by omega) (by omega)) ?_
    refine pV 6 (.int .i64 ((j + 1 : Nat) : Int)) ?_
    refine pl_nil ?_
    refine au_block ?_
    refine au_then ?_
    refine rg_lit ?_
    refine pV 12 (.int .i64 (j : Int)) ?_
    refine pH 13 (.int .i64 ((j + 1 : Nat) : Int)) (iV ((j : Int) + 1) (by omega) (by omega) (by omega)) ?_
    refine pV 7 (.int .i64 ((j + 1 : Nat) : Int)) ?_
    refine nT ?_
    have hz : sq bc s (j + 1) = ((sq bc s j).1 ++ [s.extract (sq bc s j).2 j], j + 1) := if_pos (.inl c1)
    exact ⟨fun k_ => ([.int .i64 (j : Int), .string s, .int .i64 (s.size : Int), .bool true, .int .i64 (j : Int), .int .i64 ((j + 1 : Nat) : Int), .int .i64 (j : Int), .string s, .int .i64 (s.size : Int), .bool true, .bool true, undef, undef, undef, undef, undef, .bool true, .slice none 0 0, .string s, .int .i64 (((sq bc s j).2 : Nat) : Int), .int .i64 (j : Int), .string (s.extract (sq bc s j).2 j), .slice (some ⟨g1, 0, none⟩) 1 1, .slice (some ⟨g8, 0, none⟩) 1 cap8, .int .i64 (j : Int), .int .i64 ((j + 1 : Nat) : Int)] : List Value).getD (k_ - 8) undef, .slice (some ⟨g8, 0, none⟩) 1 cap8, by rw [hz]; kernel_rfl, .inr ⟨g8, cap8, Z8, by rw [hz, hnil]; rfl, by rw [hz, hnil]; exact hZ8, M.drop (.cons _ (.cons_cons _ .slnil))⟩⟩
   ·skip
    refine pH 17 (.bool false) (dF ((j : Int) = (s.size : Int)) (c1)) ?_
    refine pV 18 (.bool false) ?_
    refine pl_val (want_on 4 false rfl 18 rfl (by kernel_rfl)) (some 19) rfl (.string s) (fun _ => by kernel_rfl) ?_
    refine pl_val (want_on 4 false rfl 18 rfl (by kernel_rfl)) (some 20) rfl (.int .i64 (j : Int)) (fun _ => by kernel_rfl) ?_
    refine pl_val (want_on 4 false rfl 18 rfl (by kernel_rfl)) (some 21) rfl (.int .u8 (bt s j)) (run_ixS 9 Tryz.underlying9 _ _ rfl s (by kernel_rfl) .i64 j (by kernel_rfl) (by omega)) ?_
    refine pl_val (want_on 4 false rfl 18 rfl (by kernel_rfl)) (some 22) rfl (.int .u8 bc) (fun _ => by kernel_rfl) ?_
    by_cases c2 : (bt s j) = bc
    ·skip
     refine pl_val (want_on 4 false rfl 18 rfl (by kernel_rfl)) (some 23) rfl (.bool true) (fun w => Eq.trans (b := .ok (.value (.bool (decide ((bt s j) = bc)))) w) (by kernel_rfl) (by rw [decide_eq_true (c2)])) ?_
     refine pV 24 (.bool true) ?_
     refine nT ?_
     refine wp_cond_true (by kernel_rfl) ?_
     refine sR ?_
     refine pV 25 (.slice none 0 0) ?_
     refine pV 26 (.string s) ?_
     refine pV 27 (.int .i64 (((sq bc s j).2 : Nat) : Int)) ?_
     refine pV 28 (.int .i64 (j : Int)) ?_
     refine pH 29 (.string (s.extract (sq bc s j).2 j)) (run_strlh 9 Tryz.underlying9 _ _ _ rfl s (by kernel_rfl) .i64 .i64 (sq bc s j).2 j (by kernel_rfl) (by kernel_rfl) (by omega) (by omega)) ?_
     refine pl_mk M (want_no rfl) (some 30) rfl (fun g1 => .slice (some ⟨g1, 0, none⟩) 1 1) (.cells (av 1 (fun _ => .string (s.extract (sq bc s j).2 j))) 9) (fun _ => by kernel_rfl) fun g1 u1 M => ?_
     refine pl_app0I M (want_no rfl) (some 31) rfl 72 72 9 (.string ⟨#[]⟩) Tryz.underlying72 info9 rfl 0 g1 9 (.string (s.extract (sq bc s j).2 j)) rfl (fun _ => by kernel_rfl) ?_
     intro g8 cap8 Z8 u2 hZ8 M
     refine pV 5 (.slice (some ⟨g8, 0, none⟩) 1 cap8) ?_
     refine nT ?_
     refine rg_lit ?_
     refine pV 32 (.int .i64 (j : Int)) ?_
     refine pH 33 (.int .i64 ((j + 1 : Nat) : Int)) (iV ((j : Int) + 1) (by omega) (by omega) (by omega)) ?_
     refine pV 6 (.int .i64 ((j + 1 : Nat) : Int)) ?_
     refine pl_nil ?_
     refine au_block ?_
     refine au_then ?_
     refine rg_lit ?_
     refine pV 12 (.int .i64 (j : Int)) ?_
     refine pH 13 (.int .i64 ((j + 1 : Nat) : Int)) (iV ((j : Int) + 1) (by omega) (by omega) (by omega)) ?_
     refine pV 7 (.int .i64 ((j + 1 : Nat) : Int)) ?_
     refine nT ?_
     have hz : sq bc s (j + 1) = ((sq bc s j).1 ++ [s.extract (sq bc s j).2 j], j + 1) := if_pos (.inr c2)
     exact ⟨fun k_ => ([.int .i64 (j : Int), .string s, .int .i64 (s.size : Int), .bool true, .int .i64 (j : Int), .int .i64 ((j + 1 : Nat) : Int), .int .i64 (j : Int), .string s, .int .i64 (s.size : Int), .bool false, .bool false, .string s, .int .i64 (j : Int), .int .u8 (bt s j), .int .u8 bc, .bool true, .bool true, .slice none 0 0, .string s, .int .i64 (((sq bc s j).2 : Nat) : Int), .int .i64 (j : Int), .string (s.extract (sq bc s j).2 j), .slice (some ⟨g1, 0, none⟩) 1 1, .slice (some ⟨g8, 0, none⟩) 1 cap8, .int .i64 (j : Int), .int .i64 ((j + 1 : Nat) : Int)] : List Value).getD (k_ - 8) undef, .slice (some ⟨g8, 0, none⟩) 1 cap8, by rw [hz]; kernel_rfl, .inr ⟨g8, cap8, Z8, by rw [hz, hnil]; rfl, by rw [hz, hnil]; exact hZ8, M.drop (.cons _ (.cons_cons _ .slnil))⟩⟩
    ·skip
     refine pl_val (want_on 4 false rfl 18 rfl (by kernel_rfl)) (some 23) rfl (.bool false) (fun w => Eq.trans (b := .ok (.value (.bool (decide ((bt s j) = bc)))) w) (by kernel_rfl) (by rw [decide_eq_false (c2)])) ?_
     refine pV 24 (.bool false) ?_
     refine nT ?_
     refine wp_cond_false (by kernel_rfl) ?_
     refine wp_skip ?_
     refine au_block ?_
     refine au_then ?_
     refine rg_lit ?_
     refine pV 12 (.int .i64 (j : Int)) ?_
     refine pH 13 (.int .i64 ((j + 1 : Nat) : Int)) (iV ((j : Int) + 1) (by omega) (by omega) (by omega)) ?_
     refine pV 7 (.int .i64 ((j + 1 : Nat) : Int)) ?_
     refine nT ?_
     have hz : sq bc s (j + 1) = sq bc s j := if_neg fun e => e.elim c1 c2
     exact ⟨fun k_ => ([.int .i64 (j : Int), .string s, .int .i64 (s.size : Int), .bool true, .int .i64 (j : Int), .int .i64 ((j + 1 : Nat) : Int), .int .i64 (j : Int), .string s, .int .i64 (s.size : Int), .bool false, .bool false, .string s, .int .i64 (j : Int), .int .u8 (bt s j), .int .u8 bc, .bool false, .bool false, yv1 25, yv1 26, yv1 27, yv1 28, yv1 29, yv1 30, yv1 31, yv1 32, yv1 33] : List Value).getD (k_ - 8) undef, .slice none 0 0, by rw [hz]; kernel_rfl, .inl ⟨by rw [hz]; exact hnil, rfl, M⟩⟩
  ·skip
   refine wp_seq ?_
   refine sR ?_
   refine pV 8 (.int .i64 (j : Int)) ?_
   refine pV 9 (.string s) ?_
   refine pV 10 (.int .i64 (s.size : Int)) ?_
   refine pH 11 (.bool true) (dTz ((j : Int) ≤ (s.size : Int)) (by omega)) ?_
   refine nT ?_
   refine wp_cond_true (by kernel_rfl) ?_
   refine wp_skip ?_
   refine au_then ?_
   refine wp_seq ?_
   refine wp_block ?_
   refine sR ?_
   refine pV 14 (.int .i64 (j : Int)) ?_
   refine pV 15 (.string s) ?_
   refine pV 16 (.int .i64 (s.size : Int)) ?_
   by_cases c1 : (j : Int) = (s.size : Int)
   ·skip
    refine pH 17 (.bool true) (dTz ((j : Int) = (s.size : Int)) (c1)) ?_
    refine pV 18 (.bool true) ?_
    refine pl_skip (want_off 4 false rfl 18 rfl (by kernel_rfl)) (some 19) rfl ?_
    refine pl_skip (want_off 4 false rfl 18 rfl (by kernel_rfl)) (some 20) rfl ?_
    refine pl_skip (want_off 4 false rfl 18 rfl (by kernel_rfl)) (some 21) rfl ?_
    refine pl_skip (want_off 4 false rfl 18 rfl (by kernel_rfl)) (some 22) rfl ?_
    refine pl_skip (want_off 4 false rfl 18 rfl (by kernel_rfl)) (some 23) rfl ?_
    refine pV 24 (.bool true) ?_
    refine nT ?_
    refine wp_cond_true (by kernel_rfl) ?_
    refine sR ?_
    refine pV 25 (.slice (some ⟨g9, 0, none⟩) (sq bc s j).1.length cap9) ?_
    refine pV 26 (.string s) ?_
    refine pV 27 (.int .i64 (((sq bc s j).2 : Nat) : Int)) ?_
    refine pV 28 (.int .i64 (j : Int)) ?_
    refine pH 29 (.string (s.extract (sq bc s j).2 j)) (run_strlh 9 Tryz.underlying9 _ _ _ rfl s (by kernel_rfl) .i64 .i64 (sq bc s j).2 j (by kernel_rfl) (by kernel_rfl) (by omega) (by omega)) ?_
    refine pl_mk M (want_no rfl) (some 30) rfl (fun g1 => .slice (some ⟨g1, 0, none⟩) 1 1) (.cells (av 1 (fun _ => .string (s.extract (sq bc s j).2 j))) 9) (fun _ => by kernel_rfl) fun g1 u1 M => ?_
    refine pl_appI M (want_no rfl) (some 31) rfl 72 72 9 (.string ⟨#[]⟩) Tryz.underlying72 info9 rfl 0 g9 ((sq bc s j).1.length) cap9 Z9 (vS (sq bc s j).1) rfl hZ9 (vS_len _) (by omega) 1 g1 9 (.string (s.extract (sq bc s j).2 j)) rfl rfl (fun _ => by kernel_rfl) ?_
    intro g8 cap8 Z8 u2 hZ8 M
    refine pV 5 (.slice (some ⟨g8, 0, none⟩) ((sq bc s j).1.length + 1) cap8) ?_
    refine nT ?_
    refine rg_lit ?_
    refine pV 32 (.int .i64 (j : Int)) ?_
    refine pH 33 (.int .i64 ((j + 1 : Nat) : Int)) (iV ((j : Int) + 1) (by omega) (by omega) (by omega)) ?_
    refine pV 6 (.int .i64 ((j + 1 : Nat) : Int)) ?_
    refine pl_nil ?_
    refine au_block ?_
    refine au_then ?_
    refine rg_lit ?_
    refine pV 12 (.int .i64 (j : Int)) ?_
    refine pH 13 (.int .i64 ((j + 1 : Nat) : Int)) (iV ((j : Int) + 1) (by omega) (by omega) (by omega)) ?_
    refine pV 7 (.int .i64 ((j + 1 : Nat) : Int)) ?_
    refine nT ?_
    have hz : sq bc s (j + 1) = ((sq bc s j).1 ++ [s.extract (sq bc s j).2 j], j + 1) := if_pos (.inl c1)
    exact ⟨fun k_ => ([.int .i64 (j : Int), .string s, .int .i64 (s.size : Int), .bool true, .int .i64 (j : Int), .int .i64 ((j + 1 : Nat) : Int), .int .i64 (j : Int), .string s, .int .i64 (s.size : Int), .bool true, .bool true, undef, undef, undef, undef, undef, .bool true, .slice (some ⟨g9, 0, none⟩) (sq bc s j).1.length cap9, .string s, .int .i64 (((sq bc s j).2 : Nat) : Int), .int .i64 (j : Int), .string (s.extract (sq bc s j).2 j), .slice (some ⟨g1, 0, none⟩) 1 1, .slice (some ⟨g8, 0, none⟩) ((sq bc s j).1.length + 1) cap8, .int .i64 (j : Int), .int .i64 ((j + 1 : Nat) : Int)] : List Value).getD (k_ - 8) undef, .slice (some ⟨g8, 0, none⟩) ((sq bc s j).1.length + 1) cap8, by rw [hz]; kernel_rfl, .inr ⟨g8, cap8, Z8, by rw [hz, List.length_append]; rfl, by rw [hz, vS_app]; exact hZ8, M.drop (.cons _ (.cons_cons _ .slnil))⟩⟩
   ·skip
    refine pH 17 (.bool false) (dF ((j : Int) = (s.size : Int)) (c1)) ?_
    refine pV 18 (.bool false) ?_
    refine pl_val (want_on 4 false rfl 18 rfl (by kernel_rfl)) (some 19) rfl (.string s) (fun _ => by kernel_rfl) ?_
    refine pl_val (want_on 4 false rfl 18 rfl (by kernel_rfl)) (some 20) rfl (.int .i64 (j : Int)) (fun _ => by kernel_rfl) ?_
    refine pl_val (want_on 4 false rfl 18 rfl (by kernel_rfl)) (some 21) rfl (.int .u8 (bt s j)) (run_ixS 9 Tryz.underlying9 _ _ rfl s (by kernel_rfl) .i64 j (by kernel_rfl) (by omega)) ?_
    refine pl_val (want_on 4 false rfl 18 rfl (by kernel_rfl)) (some 22) rfl (.int .u8 bc) (fun _ => by kernel_rfl) ?_
    by_cases c2 : (bt s j) = bc
    ·skip
     refine pl_val (want_on 4 false rfl 18 rfl (by kernel_rfl)) (some 23) rfl (.bool true) (fun w => Eq.trans (b := .ok (.value (.bool (decide ((bt s j) = bc)))) w) (by kernel_rfl) (by rw [decide_eq_true (c2)])) ?_
     refine pV 24 (.bool true) ?_
     refine nT ?_
     refine wp_cond_true (by kernel_rfl) ?_
     refine sR ?_
     refine pV 25 (.slice (some ⟨g9, 0, none⟩) (sq bc s j).1.length cap9) ?_
     refine pV 26 (.string s) ?_
     refine pV 27 (.int .i64 (((sq bc s j).2 : Nat) : Int)) ?_
     refine pV 28 (.int .i64 (j : Int)) ?_
     refine pH 29 (.string (s.extract (sq bc s j).2 j)) (run_strlh 9 Tryz.underlying9 _ _ _ rfl s (by kernel_rfl) .i64 .i64 (sq bc s j).2 j (by kernel_rfl) (by kernel_rfl) (by omega) (by omega)) ?_
     refine pl_mk M (want_no rfl) (some 30) rfl (fun g1 => .slice (some ⟨g1, 0, none⟩) 1 1) (.cells (av 1 (fun _ => .string (s.extract (sq bc s j).2 j))) 9) (fun _ => by kernel_rfl) fun g1 u1 M => ?_
     refine pl_appI M (want_no rfl) (some 31) rfl 72 72 9 (.string ⟨#[]⟩) Tryz.underlying72 info9 rfl 0 g9 ((sq bc s j).1.length) cap9 Z9 (vS (sq bc s j).1) rfl hZ9 (vS_len _) (by omega) 1 g1 9 (.string (s.extract (sq bc s j).2 j)) rfl rfl (fun _ => by kernel_rfl) ?_
     intro g8 cap8 Z8 u2 hZ8 M
     refine pV 5 (.slice (some ⟨g8, 0, none⟩) ((sq bc s j).1.length + 1) cap8) ?_
     refine nT ?_
     refine rg_lit ?_
     refine pV 32 (.int .i64 (j : Int)) ?_
     refine pH 33 (.int .i64 ((j + 1 : Nat) : Int)) (iV ((j : Int) + 1) (by omega) (by omega) (by omega)) ?_
     refine pV 6 (.int .i64 ((j + 1 : Nat) : Int)) ?_
     refine pl_nil ?_
     refine au_block ?_
     refine au_then ?_
     refine rg_lit ?_
     refine pV 12 (.int .i64 (j : Int)) ?_
     refine pH 13 (.int .i64 ((j + 1 : Nat) : Int)) (iV ((j : Int) + 1) (by omega) (by omega) (by omega)) ?_
     refine pV 7 (.int .i64 ((j + 1 : Nat) : Int)) ?_
     refine nT ?_
     have hz : sq bc s (j + 1) = ((sq bc s j).1 ++ [s.extract (sq bc s j).2 j], j + 1) := if_pos (.inr c2)
     exact ⟨fun k_ => ([.int .i64 (j : Int), .string s, .int .i64 (s.size : Int), .bool true, .int .i64 (j : Int), .int .i64 ((j + 1 : Nat) : Int), .int .i64 (j : Int), .string s, .int .i64 (s.size : Int), .bool false, .bool false, .string s, .int .i64 (j : Int), .int .u8 (bt s j), .int .u8 bc, .bool true, .bool true, .slice (some ⟨g9, 0, none⟩) (sq bc s j).1.length cap9, .string s, .int .i64 (((sq bc s j).2 : Nat) : Int), .int .i64 (j : Int), .string (s.extract (sq bc s j).2 j), .slice (some ⟨g1, 0, none⟩) 1 1, .slice (some ⟨g8, 0, none⟩) ((sq bc s j).1.length + 1) cap8, .int .i64 (j : Int), .int .i64 ((j + 1 : Nat) : Int)] : List Value).getD (k_ - 8) undef, .slice (some ⟨g8, 0, none⟩) ((sq bc s j).1.length + 1) cap8, by rw [hz]; kernel_rfl, .inr ⟨g8, cap8, Z8, by rw [hz, List.length_append]; rfl, by rw [hz, vS_app]; exact hZ8, M.drop (.cons _ (.cons_cons _ .slnil))⟩⟩
    ·skip
     refine pl_val (want_on 4 false rfl 18 rfl (by kernel_rfl)) (some 23) rfl (.bool false) (fun w => Eq.trans (b := .ok (.value (.bool (decide ((bt s j) = bc)))) w) (by kernel_rfl) (by rw [decide_eq_false (c2)])) ?_
     refine pV 24 (.bool false) ?_
     refine nT ?_
     refine wp_cond_false (by kernel_rfl) ?_
     refine wp_skip ?_
     refine au_block ?_
     refine au_then ?_
     refine rg_lit ?_
     refine pV 12 (.int .i64 (j : Int)) ?_
     refine pH 13 (.int .i64 ((j + 1 : Nat) : Int)) (iV ((j : Int) + 1) (by omega) (by omega) (by omega)) ?_
     refine pV 7 (.int .i64 ((j + 1 : Nat) : Int)) ?_
     refine nT ?_
     have hz : sq bc s (j + 1) = sq bc s j := if_neg fun e => e.elim c1 c2
     exact ⟨fun k_ => ([.int .i64 (j : Int), .string s, .int .i64 (s.size : Int), .bool true, .int .i64 (j : Int), .int .i64 ((j + 1 : Nat) : Int), .int .i64 (j : Int), .string s, .int .i64 (s.size : Int), .bool false, .bool false, .string s, .int .i64 (j : Int), .int .u8 (bt s j), .int .u8 bc, .bool false, .bool false, yv1 25, yv1 26, yv1 27, yv1 28, yv1 29, yv1 30, yv1 31, yv1 32, yv1 33] : List Value).getD (k_ - 8) undef, .slice (some ⟨g9, 0, none⟩) (sq bc s j).1.length cap9, by rw [hz]; kernel_rfl, .inr ⟨g9, cap9, Z9, by rw [hz], by rw [hz]; exact hZ9, M⟩⟩
 ·intro a u0 hI
  obtain ⟨yv1, tv, rfl, hT⟩ := hI
  have hq := sq_le bc s (s.size + 1)
  rcases hT with ⟨hnil, rfl, M⟩ | ⟨g9, cap9, Z9, rfl, hZ9, M⟩
  ·skip
   refine wp_seq ?_
   refine sR ?_
   refine pV 8 (.int .i64 ((s.size + 1 : Nat) : Int)) ?_
   refine pV 9 (.string s) ?_
   refine pV 10 (.int .i64 (s.size : Int)) ?_
   refine pH 11 (.bool false) (dF (((s.size + 1 : Nat) : Int) ≤ (s.size : Int)) (by omega)) ?_
   refine nT ?_
   refine wp_cond_false (by kernel_rfl) ?_
   refine wp_exit ?_
   refine au_then_exit ?_
   refine au_then_exit ?_
   refine au_block_exit ?_
   refine au_then ?_
   refine sR ?_
   refine pV 34 (.slice none 0 0) ?_
   refine pV 4 (.slice none 0 0) ?_
   refine nT ?_
   refine wp_ret ?_
   exact absurd hnil (sqL_ne bc s)
  ·skip
   refine wp_seq ?_
   refine sR ?_
   refine pV 8 (.int .i64 ((s.size + 1 : Nat) : Int)) ?_
   refine pV 9 (.string s) ?_
   refine pV 10 (.int .i64 (s.size : Int)) ?_
   refine pH 11 (.bool false) (dF (((s.size + 1 : Nat) : Int) ≤ (s.size : Int)) (by omega)) ?_
   refine nT ?_
   refine wp_cond_false (by kernel_rfl) ?_
   refine wp_exit ?_
   refine au_then_exit ?_
   refine au_then_exit ?_
   refine au_block_exit ?_
   refine au_then ?_
   refine sR ?_
   refine pV 34 (.slice (some ⟨g9, 0, none⟩) (sq bc s (s.size + 1)).1.length cap9) ?_
   refine pV 4 (.slice (some ⟨g9, 0, none⟩) (sq bc s (s.size + 1)).1.length cap9) ?_
   refine nT ?_
   refine wp_ret ?_
   exact bodyPost_ret (v := .slice (some ⟨g9, 0, none⟩) (sq bc s (s.size + 1)).1.length cap9) (results_tmp1 Tryz.results48 _ _ _ (by kernel_rfl)) (by kernel_rfl) ⟨g9, cap9, Z9, rfl, M.geAt 0 rfl, M.get 0 rfl, hZ9, below_grown M.old⟩
end Go.Proofs.YtndonmdgplojnaaGreatDoor

namespace Go.Proofs.YtndonmdgplojnaaGreatDoor
open Go.RowKit
section
variable {P : Program} {ops : Array Oper} {rest : List Oper} {o : Oper} {a : Act} {w : World} {c : Ctx} {L : List Blk} {Q : Exit → Act → World → Prop}
theorem pl_callL (M : Mem c L w) (hw : Region.wanted o (yielded ops a.tmps) = true) (d : Option Tmp) (hd : o.dst = d) (f : FuncId) (args : Array Value) (v : Nat → Nat → Value) (K : Nat → Obj → Prop) (hrun : ∀ w, (execOp a.eval o).run P w = .ok (.enter f args) w)
  (hc : ∀ w, Mem c L w → Calls P f args w fun e w' => ∃ g cap Z, e = .returned (v g cap) ∧ w.heap.size ≤ g ∧ w'.heap[g]? = some Z ∧ K cap Z ∧ Below w.heap.size w w') (h : ∀ g cap Z w', K cap Z → Mem c (L ++ [⟨g, Z⟩]) w' → PL P ops Q rest (a.put d (v g cap)) w') : PL P ops Q (o :: rest) a w :=
 pl_callq hw d hd f args hrun ((hc w M).mono fun _ w' ⟨g, cap, Z, he, h1, h2, h3, hb⟩ => ⟨v g cap, he, h g cap Z w' h3 (M.new g Z hb h2 h1)⟩)
end
def q4 (l : List Int) : Nat → Int
 | 0 => 0
 | j + 1 => uo (sl (q4 l j) 8) (cv .u64 (tgi l j))
def lk4 (s : ByteArray) : Option Int := match nbs 10 255 s ⟨#[46]⟩ with
 | some l => if l.length = 4 then some (q4 l 4) else none
 | none => none
def cpl (f : Nat → Int) (od : Nat) (l : List Int) : Nat → Int := fun i => if od ≤ i ∧ i < od + l.length then tgi l (i - od) else f i
theorem cpl_w16 (f : Nat → Int) (od : Nat) (l : List Int) (j : Nat) : (if od ≤ j ∧ j < od + l.length then w16 (tgi l) (j - od) else w16 f j) = w16 (cpl f od l) j := by
 unfold w16 cpl
 split <;> rfl
theorem cpl_nil (f : Nat → Int) (od : Nat) : cpl f od [] = f := by
 funext i
 exact if_neg (by simp)
def g6 (l1 l2 : List Int) : Nat → Int := cpl (cpl (fun _ => 0) 0 l1) (8 - l2.length) l2
def lk6 (s : ByteArray) : Option (Int × Int) := match nbs 16 65535 (cuA s ⟨#[58, 58]⟩) ⟨#[58]⟩, nbs 16 65535 (cuB s ⟨#[58, 58]⟩) ⟨#[58]⟩ with
 | some l1, some l2 => if 8 < l1.length + l2.length then none else some (adH (g6 l1 l2), adL (g6 l1 l2))
 | _, _ => none
theorem cuA_le (s sep : ByteArray) : (cuA s sep).size ≤ s.size := by
 unfold cuA Lib.cut
 split
 ·show (List.take _ _).length ≤ s.data.toList.length
  rw [List.length_take]
  omega
 ·exact Nat.le_refl _
theorem cuB_le (s sep : ByteArray) : (cuB s sep).size ≤ s.size := by
 unfold cuB Lib.cut
 split
 ·show (List.drop _ _).length ≤ s.data.toList.length
  rw [List.length_drop]
  omega
 ·exact Nat.zero_le _
set_option maxRecDepth 100000 in
set_option maxHeartbeats 4000000 in
set_option linter.unusedSimpArgs false in
theorem c_likely4 (s : ByteArray) (hs : s.size ≤ 1000) (w : World) (hL : Laid w)  :
  Calls Tryz.prog 70 #[.string s] w fun r w' => r = .returned (.tuple #[.agg (av 3 (ls [.bool false, .int .u64 0, .int .u64 ((lk4 s).getD 0)])), .bool ((lk4 s).isSome)]) ∧ Below w.heap.size w w' := by
 go_enter Tryz.func70, Tryz.ntmps70
 have M := Mem.start hL
 refine sR ?_
 refine pN M 2 (.cells (av 3 (ls [.bool false, .int .u64 0, .int .u64 0])) 24) fun g1 u1 M => ?_
 refine pV 3 (.bool false) ?_
 refine nT ?_
 refine sR ?_
 refine pV 10 (.string s) ?_
 rcases hN1 : nbs 10 255 s ⟨#[46]⟩ with _ | l1
 ·skip
  refine pC M 11 89 #[.string s, .string ⟨#[46]⟩, .int .i64 10, .int .i64 8] (.tuple #[.slice none 0 0, .bool false]) (fun w M => c_nums10N s ⟨#[46]⟩ (hs) (by decide) hN1 w M.laid) fun u2 M => ?_
  refine pV 9 (.tuple #[.slice none 0 0, .bool false]) ?_
  refine pV 12 (.slice none 0 0) ?_
  refine pV 13 (.bool false) ?_
  refine pV 4 (.slice none 0 0) ?_
  refine pV 5 (.bool false) ?_
  refine nT ?_
  refine wp_seq ?_
  refine sR ?_
  refine pV 14 (.bool false) ?_
  refine pV 15 (.bool true) ?_
  refine pV 16 (.bool true) ?_
  refine pl_skip (want_off 2 false rfl 16 rfl (by kernel_rfl)) (some 17) rfl ?_
  refine pl_skip (want_off 2 false rfl 16 rfl (by kernel_rfl)) (some 18) rfl ?_
  refine pl_skip (want_off 2 false rfl 16 rfl (by kernel_rfl)) (some 19) rfl ?_
  refine pV 20 (.bool true) ?_
  refine nT ?_
  refine wp_cond_true (by kernel_rfl) ?_
  refine sR ?_
  refine pV 21 (.agg (av 3 (ls [.bool false, .int .u64 0, .int .u64 0]))) ?_
  refine pl_put M (want_no rfl) rfl 24 _ _ rfl 0 g1 0 (by kernel_rfl) 3 24 (ls [.bool false, .int .u64 0, .int .u64 0]) rfl 3 (ls [.bool false, .int .u64 0, .int .u64 0]) (ls [.bool false, .int .u64 0, .int .u64 0]) (by kernel_rfl) inz24 (by decide) (one_ls _ rfl) (fun j hj => by rw [if_pos (by omega), Nat.sub_zero]) fun u3 M => ?_
  refine pV 3 (.bool false) ?_
  refine nT ?_
  refine wp_ret ?_
  refine au_then_ret ?_
  have e0 : ((lk4 s).getD 0) = 0 := by rw [(show lk4 s = none by unfold lk4; rw [hN1])]; rfl
  have e1 : (lk4 s).isSome = false := by rw [(show lk4 s = none by unfold lk4; rw [hN1])]; rfl
  exact bodyPost_ret (v := .tuple #[.agg (av 3 (ls [.bool false, .int .u64 0, .int .u64 0])), .bool false]) (results_cell_tmp Tryz.results70 _ _ g1 24 (av 3 (ls [.bool false, .int .u64 0, .int .u64 0])) (0, 0) _ _ (by kernel_rfl) (by kernel_rfl) (M.get 0 rfl) Tryz.underlying24 rfl (by rw [av_size]; exact inz24)) (by kernel_rfl) ⟨by rw [e0, e1], below_grown M.old⟩
 ·skip
  by_cases he1 : l1 = []
  ·skip
   subst he1
   refine pC M 11 89 #[.string s, .string ⟨#[46]⟩, .int .i64 10, .int .i64 8] (.tuple #[.slice none 0 0, .bool true]) (fun w M => c_nums10E s ⟨#[46]⟩ (hs) (by decide) hN1 w M.laid) fun u2 M => ?_
   refine pV 9 (.tuple #[.slice none 0 0, .bool true]) ?_
   refine pV 12 (.slice none 0 0) ?_
   refine pV 13 (.bool true) ?_
   refine pV 4 (.slice none 0 0) ?_
   refine pV 5 (.bool true) ?_
   refine nT ?_
   refine wp_seq ?_
   refine sR ?_
   refine pV 14 (.bool true) ?_
   refine pV 15 (.bool false) ?_
   refine pV 16 (.bool false) ?_
   refine pl_val (want_on 2 false rfl 16 rfl (by kernel_rfl)) (some 17) rfl (.slice none 0 0) (fun _ => by kernel_rfl) ?_
   refine pl_val (want_on 2 false rfl 16 rfl (by kernel_rfl)) (some 18) rfl (.int .i64 0) (fun _ => by kernel_rfl) ?_
   refine pl_val (want_on 2 false rfl 16 rfl (by kernel_rfl)) (some 19) rfl (.bool true) (fun _ => by kernel_rfl) ?_
   refine pV 20 (.bool true) ?_
   refine nT ?_
   refine wp_cond_true (by kernel_rfl) ?_
   refine sR ?_
   refine pV 21 (.agg (av 3 (ls [.bool false, .int .u64 0, .int .u64 0]))) ?_
   refine pl_put M (want_no rfl) rfl 24 _ _ rfl 0 g1 0 (by kernel_rfl) 3 24 (ls [.bool false, .int .u64 0, .int .u64 0]) rfl 3 (ls [.bool false, .int .u64 0, .int .u64 0]) (ls [.bool false, .int .u64 0, .int .u64 0]) (by kernel_rfl) inz24 (by decide) (one_ls _ rfl) (fun j hj => by rw [if_pos (by omega), Nat.sub_zero]) fun u3 M => ?_
   refine pV 3 (.bool false) ?_
   refine nT ?_
   refine wp_ret ?_
   refine au_then_ret ?_
   have e0 : ((lk4 s).getD 0) = 0 := by rw [(show lk4 s = none by unfold lk4; rw [hN1]; rfl)]; rfl
   have e1 : (lk4 s).isSome = false := by rw [(show lk4 s = none by unfold lk4; rw [hN1]; rfl)]; rfl
   exact bodyPost_ret (v := .tuple #[.agg (av 3 (ls [.bool false, .int .u64 0, .int .u64 0])), .bool false]) (results_cell_tmp Tryz.results70 _ _ g1 24 (av 3 (ls [.bool false, .int .u64 0, .int .u64 0])) (0, 0) _ _ (by kernel_rfl) (by kernel_rfl) (M.get 0 rfl) Tryz.underlying24 rfl (by rw [av_size]; exact inz24)) (by kernel_rfl) ⟨by rw [e0, e1], below_grown M.old⟩
  ·skip
   refine pl_callL M (want_no rfl) (some 11) rfl 89 #[.string s, .string ⟨#[46]⟩, .int .i64 10, .int .i64 8] (fun g cap => .tuple #[.slice (some ⟨g, 0, none⟩) l1.length cap, .bool true]) (fun cap Z => SB Z cap (v16 l1)) (fun _ => by kernel_rfl) (fun w M => c_nums10L s ⟨#[46]⟩ (hs) (by decide) l1 he1 hN1 w M.laid) ?_
   intro gl1 cp1 Z1 u2 hZ1 M
   refine pV 9 (.tuple #[.slice (some ⟨gl1, 0, none⟩) l1.length cp1, .bool true]) ?_
   refine pV 12 (.slice (some ⟨gl1, 0, none⟩) l1.length cp1) ?_
   refine pV 13 (.bool true) ?_
   refine pV 4 (.slice (some ⟨gl1, 0, none⟩) l1.length cp1) ?_
   refine pV 5 (.bool true) ?_
   refine nT ?_
   refine wp_seq ?_
   refine sR ?_
   refine pV 14 (.bool true) ?_
   refine pV 15 (.bool false) ?_
   refine pV 16 (.bool false) ?_
   refine pl_val (want_on 2 false rfl 16 rfl (by kernel_rfl)) (some 17) rfl (.slice (some ⟨gl1, 0, none⟩) l1.length cp1) (fun _ => by kernel_rfl) ?_
   refine pl_val (want_on 2 false rfl 16 rfl (by kernel_rfl)) (some 18) rfl (.int .i64 ((l1.length : Nat) : Int)) (fun _ => by kernel_rfl) ?_
   by_cases c2 : ((l1.length : Nat) : Int) = 4
   ·skip
    refine pl_val (want_on 2 false rfl 16 rfl (by kernel_rfl)) (some 19) rfl (.bool false) (fun w => Eq.trans (b := .ok (.value (.bool (!(decide (((l1.length : Nat) : Int) = 4))))) w) (by kernel_rfl) (by rw [decide_eq_true (c2)]; rfl)) ?_
    refine pV 20 (.bool false) ?_
    refine nT ?_
    refine wp_cond_false (by kernel_rfl) ?_
    refine wp_skip ?_
    refine au_then ?_
    refine sR ?_
    refine pN M 6 (.cells (av 3 (ls [.bool false, .int .u64 0, .int .u64 0])) 24) fun g2 u3 M => ?_
    refine nT ?_
    refine wp_seq ?_
    refine sR ?_
    refine pV 22 (.slice (some ⟨gl1, 0, none⟩) l1.length cp1) ?_
    refine pV 23 (.int .i64 ((l1.length : Nat) : Int)) ?_
    refine pV 24 (.int .i64 0) ?_
    refine nT ?_
    refine wp_block ?_
    refine au_loop (fun j a w' => ∃ v1 : Nat → Value, a = ⟨#[.string s, undef, .pointer (some ⟨g1, 0, none⟩), .bool false, .slice (some ⟨gl1, 0, none⟩) l1.length cp1, .bool true, .pointer (some ⟨g2, 0, none⟩), undef, v1 8, .tuple #[.slice (some ⟨gl1, 0, none⟩) l1.length cp1, .bool true], .string s, .tuple #[.slice (some ⟨gl1, 0, none⟩) l1.length cp1, .bool true], .slice (some ⟨gl1, 0, none⟩) l1.length cp1, .bool true, .bool true, .bool false, .bool false, .slice (some ⟨gl1, 0, none⟩) l1.length cp1, .int .i64 ((l1.length : Nat) : Int), .bool false, .bool false, undef, .slice (some ⟨gl1, 0, none⟩) l1.length cp1, .int .i64 ((l1.length : Nat) : Int), .int .i64 (j : Int), v1 25, v1 26, v1 27, v1 28, v1 29, v1 30, v1 31, v1 32, v1 33, v1 34, v1 35, undef], []⟩ ∧ Mem ⟨w, []⟩ [⟨g1, .cells (av 3 (ls [.bool false, .int .u64 0, .int .u64 0])) 24⟩, ⟨gl1, Z1⟩, ⟨g2, .cells (av 3 (ls [.bool false, .int .u64 0, .int .u64 (q4 l1 j)])) 24⟩] w') 4 ⟨fun k_ => ([undef, undef, undef, undef, undef, undef, undef, undef, undef, undef, undef, undef, undef, undef, undef, undef, undef, undef, undef, undef, undef, undef, undef, undef, undef, undef, undef, undef] : List Value).getD (k_ - 8) undef, by kernel_rfl, M⟩ ?_ ?_
    ·intro j a u0 hj hI
     obtain ⟨v1, rfl, M⟩ := hI
     refine sR ?_
     refine pH 25 (.bool true) (dTz ((j : Int) < ((l1.length : Nat) : Int)) (by omega)) ?_
     refine nT ?_
     refine wp_seq ?_
     refine wp_cond_true (by kernel_rfl) ?_
     refine wp_skip ?_
     refine au_then ?_
     refine wp_seq ?_
     refine wp_block ?_
     refine sR ?_
     refine pH 26 (.pointer (some ⟨gl1, j, none⟩)) (run_ix0 99 32 Tryz.underlying99 inz32 _ _ rfl gl1 l1.length cp1 (by kernel_rfl) .i64 j (by kernel_rfl) (by omega)) ?_
     refine pEz M 27 gl1 j (.int .u16 (tgi l1 j)) (fun w M => hZ1.cell (M.get 1 rfl) (v16_at _ _ (by omega))) ?_
     refine pV 8 (.int .u16 (tgi l1 j)) ?_
     refine nT ?_
     refine rg_lit ?_
     refine pV 28 (.pointer (some ⟨g2, 2, none⟩)) ?_
     refine pEz M 29 g2 2 (.int .u64 (q4 l1 j)) (fun w M => M.cell 2 rfl (by decide) rfl) ?_
     refine pV 30 (.int .u64 (sl (q4 l1 j) 8)) ?_
     refine pV 31 (.int .u16 (tgi l1 j)) ?_
     refine pV 32 (.int .u64 (cv .u64 (tgi l1 j))) ?_
     refine pV 33 (.int .u64 (uo (sl (q4 l1 j) 8) (cv .u64 (tgi l1 j)))) ?_
     refine pV 34 (.pointer (some ⟨g2, 2, none⟩)) ?_
     refine pP M 2 rfl 2 (.int .u64 (uo (sl (q4 l1 j) 8) (cv .u64 (tgi l1 j)))) (ls [.bool false, .int .u64 0, .int .u64 (uo (sl (q4 l1 j) 8) (cv .u64 (tgi l1 j)))]) (by decide) (put_ls _ 2 _ _ rfl) fun u4 M => ?_
     refine pl_nil ?_
     refine au_block ?_
     refine au_then ?_
     refine rg_lit ?_
     refine pH 35 (.int .i64 ((j + 1 : Nat) : Int)) (iV ((j : Int) + 1) (by omega) (by omega) (by omega)) ?_
     refine pV 24 (.int .i64 ((j + 1 : Nat) : Int)) ?_
     refine nT ?_
     exact ⟨fun k_ => ([.int .u16 (tgi l1 j), undef, undef, undef, undef, undef, undef, undef, undef, undef, undef, undef, undef, undef, undef, undef, undef, .bool true, .pointer (some ⟨gl1, j, none⟩), .int .u16 (tgi l1 j), .pointer (some ⟨g2, 2, none⟩), .int .u64 (q4 l1 j), .int .u64 (sl (q4 l1 j) 8), .int .u16 (tgi l1 j), .int .u64 (cv .u64 (tgi l1 j)), .int .u64 (uo (sl (q4 l1 j) 8) (cv .u64 (tgi l1 j))), .pointer (some ⟨g2, 2, none⟩), .int .i64 ((j + 1 : Nat) : Int)] : List Value).getD (k_ - 8) undef, by kernel_rfl, M⟩
    ·intro a u0 hI
     obtain ⟨v1, rfl, M⟩ := hI
     refine sR ?_
     refine pH 25 (.bool false) (dF ((4 : Int) < ((l1.length : Nat) : Int)) (by omega)) ?_
     refine nT ?_
     refine wp_seq ?_
     refine wp_cond_false (by kernel_rfl) ?_
     refine wp_exit ?_
     refine au_then_exit ?_
     refine au_then_exit ?_
     refine au_block_exit ?_
     refine au_then ?_
     refine sR ?_
     refine pAz M 36 2 3 (ls [.bool false, .int .u64 0, .int .u64 (q4 l1 4)]) ?_
     refine pl_put M (want_no rfl) rfl 24 _ _ rfl 0 g1 0 (by kernel_rfl) 3 24 (ls [.bool false, .int .u64 0, .int .u64 0]) rfl 3 (ls [.bool false, .int .u64 0, .int .u64 (q4 l1 4)]) (ls [.bool false, .int .u64 0, .int .u64 (q4 l1 4)]) (by kernel_rfl) inz24 (by decide) (one_ls _ rfl) (fun j hj => by rw [if_pos (by omega), Nat.sub_zero]) fun u4 M => ?_
     refine pV 3 (.bool true) ?_
     refine nT ?_
     refine wp_ret ?_
     have e0 : ((lk4 s).getD 0) = (q4 l1 4) := by rw [(show lk4 s = some (q4 l1 4) by unfold lk4; rw [hN1]; exact if_pos (by omega))]; rfl
     have e1 : (lk4 s).isSome = true := by rw [(show lk4 s = some (q4 l1 4) by unfold lk4; rw [hN1]; exact if_pos (by omega))]; rfl
     exact bodyPost_ret (v := .tuple #[.agg (av 3 (ls [.bool false, .int .u64 0, .int .u64 (q4 l1 4)])), .bool true]) (results_cell_tmp Tryz.results70 _ _ g1 24 (av 3 (ls [.bool false, .int .u64 0, .int .u64 (q4 l1 4)])) (0, 0) _ _ (by kernel_rfl) (by kernel_rfl) (M.get 0 rfl) Tryz.underlying24 rfl (by rw [av_size]; exact inz24)) (by kernel_rfl) ⟨by rw [e0, e1], below_grown M.old⟩
   ·skip
    refine pl_val (want_on 2 false rfl 16 rfl (by kernel_rfl)) (some 19) rfl (.bool true) (fun w => Eq.trans (b := .ok (.value (.bool (!(decide (((l1.length : Nat) : Int) = 4))))) w) (by kernel_rfl) (by rw [decide_eq_false (c2)]; rfl)) ?_
    refine pV 20 (.bool true) ?_
    refine nT ?_
    refine wp_cond_true (by kernel_rfl) ?_
    refine sR ?_
    refine pV 21 (.agg (av 3 (ls [.bool false, .int .u64 0, .int .u64 0]))) ?_
    refine pl_put M (want_no rfl) rfl 24 _ _ rfl 0 g1 0 (by kernel_rfl) 3 24 (ls [.bool false, .int .u64 0, .int .u64 0]) rfl 3 (ls [.bool false, .int .u64 0, .int .u64 0]) (ls [.bool false, .int .u64 0, .int .u64 0]) (by kernel_rfl) inz24 (by decide) (one_ls _ rfl) (fun j hj => by rw [if_pos (by omega), Nat.sub_zero]) fun u3 M => ?_
    refine pV 3 (.bool false) ?_
    refine nT ?_
    refine wp_ret ?_
    refine au_then_ret ?_
    have e0 : ((lk4 s).getD 0) = 0 := by rw [(show lk4 s = none by unfold lk4; rw [hN1]; exact if_neg (by omega))]; rfl
    have e1 : (lk4 s).isSome = false := by rw [(show lk4 s = none by unfold lk4; rw [hN1]; exact if_neg (by omega))]; rfl
    exact bodyPost_ret (v := .tuple #[.agg (av 3 (ls [.bool false, .int .u64 0, .int .u64 0])), .bool false]) (results_cell_tmp Tryz.results70 _ _ g1 24 (av 3 (ls [.bool false, .int .u64 0, .int .u64 0])) (0, 0) _ _ (by kernel_rfl) (by kernel_rfl) (M.get 0 rfl) Tryz.underlying24 rfl (by rw [av_size]; exact inz24)) (by kernel_rfl) ⟨by rw [e0, e1], below_grown M.old⟩
theorem nbs_len {b m : Int} {s sep : ByteArray} {l : List Int} (hs : s.size ≤ 1000) (h1 : 1 ≤ sep.size) (h : nbs b m s sep = some l) : l.length ≤ 1001 := by
 unfold nbs at h
 split at h
 ·cases h
  decide
 ·have := nl_len h
  have := spl_le s sep h1
  omega
set_option maxRecDepth 100000 in
set_option maxHeartbeats 4000000 in
set_option linter.unusedSimpArgs false in
theorem c_likely6 (s : ByteArray) (hs : s.size ≤ 1000) (w : World) (hL : Laid w)  :
  Calls Tryz.prog 69 #[.string s] w fun r w' => r = .returned (.tuple #[.agg (av 3 (ls [.bool ((lk6 s).isSome), .int .u64 ((lk6 s).getD (0, 0)).1, .int .u64 ((lk6 s).getD (0, 0)).2])), .bool ((lk6 s).isSome)]) ∧ Below w.heap.size w w' := by
 go_enter Tryz.func69, Tryz.ntmps69
 have M := Mem.start hL
 have hl1 : ∀ l, nbs 16 65535 (cuA s ⟨#[58, 58]⟩) ⟨#[58]⟩ = some l → l.length ≤ 1001 := fun l h => nbs_len (by have := cuA_le s ⟨#[58, 58]⟩; omega) (by decide) h
 have hl2 : ∀ l, nbs 16 65535 (cuB s ⟨#[58, 58]⟩) ⟨#[58]⟩ = some l → l.length ≤ 1001 := fun l h => nbs_len (by have := cuB_le s ⟨#[58, 58]⟩; omega) (by decide) h
 refine sR ?_
 refine pN M 2 (.cells (av 3 (ls [.bool false, .int .u64 0, .int .u64 0])) 24) fun g1 u1 M => ?_
 refine pV 3 (.bool false) ?_
 refine nT ?_
 refine sR ?_
 refine pV 13 (.string s) ?_
 refine pC M 14 46 #[.string s, .string ⟨#[58, 58]⟩] (.tuple #[.string (cuA s ⟨#[58, 58]⟩), .string (cuB s ⟨#[58, 58]⟩), .bool (cuC s ⟨#[58, 58]⟩)]) (fun w M => c_Cut s ⟨#[58, 58]⟩ (by omega) w M.laid) fun u2 M => ?_
 refine pV 12 (.tuple #[.string (cuA s ⟨#[58, 58]⟩), .string (cuB s ⟨#[58, 58]⟩), .bool (cuC s ⟨#[58, 58]⟩)]) ?_
 refine pV 15 (.string (cuA s ⟨#[58, 58]⟩)) ?_
 refine pV 16 (.string (cuB s ⟨#[58, 58]⟩)) ?_
 refine pV 17 (.bool (cuC s ⟨#[58, 58]⟩)) ?_
 refine pV 4 (.string (cuA s ⟨#[58, 58]⟩)) ?_
 refine pV 5 (.string (cuB s ⟨#[58, 58]⟩)) ?_
 refine pV 6 (.bool (cuC s ⟨#[58, 58]⟩)) ?_
 refine nT ?_
 refine sR ?_
 refine pV 19 (.string (cuA s ⟨#[58, 58]⟩)) ?_
 rcases hN1 : nbs 16 65535 (cuA s ⟨#[58, 58]⟩) ⟨#[58]⟩ with _ | l1
 ·skip
  refine pC M 20 89 #[.string (cuA s ⟨#[58, 58]⟩), .string ⟨#[58]⟩, .int .i64 16, .int .i64 16] (.tuple #[.slice none 0 0, .bool false]) (fun w M => c_nums16N (cuA s ⟨#[58, 58]⟩) ⟨#[58]⟩ (by have := cuA_le s ⟨#[58, 58]⟩; omega) (by decide) hN1 w M.laid) fun u3 M => ?_
  refine pV 18 (.tuple #[.slice none 0 0, .bool false]) ?_
  refine pV 21 (.slice none 0 0) ?_
  refine pV 22 (.bool false) ?_
  refine pV 7 (.slice none 0 0) ?_
  refine pV 8 (.bool false) ?_
  refine nT ?_
  refine sR ?_
  refine pV 24 (.string (cuB s ⟨#[58, 58]⟩)) ?_
  rcases hN2 : nbs 16 65535 (cuB s ⟨#[58, 58]⟩) ⟨#[58]⟩ with _ | l2
  ·skip
   refine pC M 25 89 #[.string (cuB s ⟨#[58, 58]⟩), .string ⟨#[58]⟩, .int .i64 16, .int .i64 16] (.tuple #[.slice none 0 0, .bool false]) (fun w M => c_nums16N (cuB s ⟨#[58, 58]⟩) ⟨#[58]⟩ (by have := cuB_le s ⟨#[58, 58]⟩; omega) (by decide) hN2 w M.laid) fun u4 M => ?_
   refine pV 23 (.tuple #[.slice none 0 0, .bool false]) ?_
   refine pV 26 (.slice none 0 0) ?_
   refine pV 27 (.bool false) ?_
   refine pV 9 (.slice none 0 0) ?_
   refine pV 10 (.bool false) ?_
   refine nT ?_
   refine sR ?_
   refine pN M 11 (.cells (av 8 (w16 (fun _ => 0))) 94) fun g2 u5 M => ?_
   refine nT ?_
   refine wp_seq ?_
   refine sR ?_
   refine pV 28 (.bool false) ?_
   refine pV 29 (.bool true) ?_
   refine pV 30 (.bool true) ?_
   refine pl_skip (want_off 2 false rfl 30 rfl (by kernel_rfl)) (some 31) rfl ?_
   refine pl_skip (want_off 2 false rfl 30 rfl (by kernel_rfl)) (some 32) rfl ?_
   refine pV 33 (.bool true) ?_
   refine pV 34 (.bool true) ?_
   refine pl_skip (want_off 6 false rfl 34 rfl (by kernel_rfl)) (some 35) rfl ?_
   refine pl_skip (want_off 6 false rfl 34 rfl (by kernel_rfl)) (some 36) rfl ?_
   refine pl_skip (want_off 6 false rfl 34 rfl (by kernel_rfl)) (some 37) rfl ?_
   refine pl_skip (want_off 6 false rfl 34 rfl (by kernel_rfl)) (some 38) rfl ?_
   refine pl_skip (want_off 6 false rfl 34 rfl (by kernel_rfl)) (some 39) rfl ?_
   refine pl_skip (want_off 6 false rfl 34 rfl (by kernel_rfl)) (some 40) rfl ?_
   refine pV 41 (.bool true) ?_
   refine nT ?_
   refine wp_cond_true (by kernel_rfl) ?_
   refine sR ?_
   refine pV 42 (.agg (av 3 (ls [.bool false, .int .u64 0, .int .u64 0]))) ?_
   refine pl_put M (want_no rfl) rfl 24 _ _ rfl 0 g1 0 (by kernel_rfl) 3 24 (ls [.bool false, .int .u64 0, .int .u64 0]) rfl 3 (ls [.bool false, .int .u64 0, .int .u64 0]) (ls [.bool false, .int .u64 0, .int .u64 0]) (by kernel_rfl) inz24 (by decide) (one_ls _ rfl) (fun j hj => by rw [if_pos (by omega), Nat.sub_zero]) fun u6 M => ?_
   refine pV 3 (.bool false) ?_
   refine nT ?_
   refine wp_ret ?_
   refine au_then_ret ?_
   have e0 : (lk6 s).isSome = false := by rw [(show lk6 s = none by unfold lk6; rw [hN1, hN2])]; rfl
   have e1 : ((lk6 s).getD (0, 0)).1 = 0 := by rw [(show lk6 s = none by unfold lk6; rw [hN1, hN2])]; rfl
   have e2 : ((lk6 s).getD (0, 0)).2 = 0 := by rw [(show lk6 s = none by unfold lk6; rw [hN1, hN2])]; rfl
   exact bodyPost_ret (v := .tuple #[.agg (av 3 (ls [.bool false, .int .u64 0, .int .u64 0])), .bool false]) (results_cell_tmp Tryz.results69 _ _ g1 24 (av 3 (ls [.bool false, .int .u64 0, .int .u64 0])) (0, 0) _ _ (by kernel_rfl) (by kernel_rfl) (M.get 0 rfl) Tryz.underlying24 rfl (by rw [av_size]; exact inz24)) (by kernel_rfl) ⟨by rw [e0, e1, e2], below_grown M.old⟩
  ·skip
   by_cases he2 : l2 = []
   ·skip
    subst he2
    refine pC M 25 89 #[.string (cuB s ⟨#[58, 58]⟩), .string ⟨#[58]⟩, .int .i64 16, .int .i64 16] (.tuple #[.slice none 0 0, .bool true]) (fun w M => c_nums16E (cuB s ⟨#[58, 58]⟩) ⟨#[58]⟩ (by have := cuB_le s ⟨#[58, 58]⟩; omega) (by decide) hN2 w M.laid) fun u4 M => ?_
    refine pV 23 (.tuple #[.slice none 0 0, .bool true]) ?_
    refine pV 26 (.slice none 0 0) ?_
    refine pV 27 (.bool true) ?_
    refine pV 9 (.slice none 0 0) ?_
    refine pV 10 (.bool true) ?_
    refine nT ?_
    refine sR ?_
    refine pN M 11 (.cells (av 8 (w16 (fun _ => 0))) 94) fun g2 u5 M => ?_
    refine nT ?_
    refine wp_seq ?_
    refine sR ?_
    refine pV 28 (.bool false) ?_
    refine pV 29 (.bool true) ?_
    refine pV 30 (.bool true) ?_
    refine pl_skip (want_off 2 false rfl 30 rfl (by kernel_rfl)) (some 31) rfl ?_
    refine pl_skip (want_off 2 false rfl 30 rfl (by kernel_rfl)) (some 32) rfl ?_
    refine pV 33 (.bool true) ?_
    refine pV 34 (.bool true) ?_
    refine pl_skip (want_off 6 false rfl 34 rfl (by kernel_rfl)) (some 35) rfl ?_
    refine pl_skip (want_off 6 false rfl 34 rfl (by kernel_rfl)) (some 36) rfl ?_
    refine pl_skip (want_off 6 false rfl 34 rfl (by kernel_rfl)) (some 37) rfl ?_
    refine pl_skip (want_off 6 false rfl 34 rfl (by kernel_rfl)) (some 38) rfl ?_
    refine pl_skip (want_off 6 false rfl 34 rfl (by kernel_rfl)) (some 39) rfl ?_
    refine pl_skip (want_off 6 false rfl 34 rfl (by kernel_rfl)) (some 40) rfl ?_
    refine pV 41 (.bool true) ?_
    refine nT ?_
    refine wp_cond_true (by kernel_rfl) ?_
    refine sR ?_
    refine pV 42 (.agg (av 3 (ls [.bool false, .int .u64 0, .int .u64 0]))) ?_
    refine pl_put M (want_no rfl) rfl 24 _ _ rfl 0 g1 0 (by kernel_rfl) 3 24 (ls [.bool false, .int .u64 0, .int .u64 0]) rfl 3 (ls [.bool false, .int .u64 0, .int .u64 0]) (ls [.bool false, .int .u64 0, .int .u64 0]) (by kernel_rfl) inz24 (by decide) (one_ls _ rfl) (fun j hj => by rw [if_pos (by omega), Nat.sub_zero]) fun u6 M => ?_
    refine pV 3 (.bool false) ?_
    refine nT ?_
    refine wp_ret ?_
    refine au_then_ret ?_
    have e0 : (lk6 s).isSome = false := by rw [(show lk6 s = none by unfold lk6; rw [hN1, hN2])]; rfl
    have e1 : ((lk6 s).getD (0, 0)).1 = 0 := by rw [(show lk6 s = none by unfold lk6; rw [hN1, hN2])]; rfl
    have e2 : ((lk6 s).getD (0, 0)).2 = 0 := by rw [(show lk6 s = none by unfold lk6; rw [hN1, hN2])]; rfl
    exact bodyPost_ret (v := .tuple #[.agg (av 3 (ls [.bool false, .int .u64 0, .int .u64 0])), .bool false]) (results_cell_tmp Tryz.results69 _ _ g1 24 (av 3 (ls [.bool false, .int .u64 0, .int .u64 0])) (0, 0) _ _ (by kernel_rfl) (by kernel_rfl) (M.get 0 rfl) Tryz.underlying24 rfl (by rw [av_size]; exact inz24)) (by kernel_rfl) ⟨by rw [e0, e1, e2], below_grown M.old⟩
   ·skip
    refine pl_callL M (want_no rfl) (some 25) rfl 89 #[.string (cuB s ⟨#[58, 58]⟩), .string ⟨#[58]⟩, .int .i64 16, .int .i64 16] (fun g cap => .tuple #[.slice (some ⟨g, 0, none⟩) l2.length cap, .bool true]) (fun cap Z => SB Z cap (v16 l2)) (fun _ => by kernel_rfl) (fun w M => c_nums16L (cuB s ⟨#[58, 58]⟩) ⟨#[58]⟩ (by have := cuB_le s ⟨#[58, 58]⟩; omega) (by decide) l2 he2 hN2 w M.laid) ?_
    intro gl2 cp2 Z2 u4 hZ2 M
    refine pV 23 (.tuple #[.slice (some ⟨gl2, 0, none⟩) l2.length cp2, .bool true]) ?_
    refine pV 26 (.slice (some ⟨gl2, 0, none⟩) l2.length cp2) ?_
    refine pV 27 (.bool true) ?_
    refine pV 9 (.slice (some ⟨gl2, 0, none⟩) l2.length cp2) ?_
    refine pV 10 (.bool true) ?_
    refine nT ?_
    refine sR ?_
    refine pN M 11 (.cells (av 8 (w16 (fun _ => 0))) 94) fun g2 u5 M => ?_
    refine nT ?_
    refine wp_seq ?_
    refine sR ?_
    refine pV 28 (.bool false) ?_
    refine pV 29 (.bool true) ?_
    refine pV 30 (.bool true) ?_
    refine pl_skip (want_off 2 false rfl 30 rfl (by kernel_rfl)) (some 31) rfl ?_
    refine pl_skip (want_off 2 false rfl 30 rfl (by kernel_rfl)) (some 32) rfl ?_
    refine pV 33 (.bool true) ?_
    refine pV 34 (.bool true) ?_
    refine pl_skip (want_off 6 false rfl 34 rfl (by kernel_rfl)) (some 35) rfl ?_
    refine pl_skip (want_off 6 false rfl 34 rfl (by kernel_rfl)) (some 36) rfl ?_
    refine pl_skip (want_off 6 false rfl 34 rfl (by kernel_rfl)) (some 37) rfl ?_
    refine pl_skip (want_off 6 false rfl 34 rfl (by kernel_rfl)) (some 38) rfl ?_
    refine pl_skip (want_off 6 false rfl 34 rfl (by kernel_rfl)) (some 39) rfl ?_
    refine pl_skip (want_off 6 false rfl 34 rfl (by kernel_rfl)) (some 40) rfl ?_
    refine pV 41 (.bool true) ?_
    refine nT ?_
    refine wp_cond_true (by kernel_rfl) ?_
    refine sR ?_
    refine pV 42 (.agg (av 3 (ls [.bool false, .int .u64 0, .int .u64 0]))) ?_
    refine pl_put M (want_no rfl) rfl 24 _ _ rfl 0 g1 0 (by kernel_rfl) 3 24 (ls [.bool false, .int .u64 0, .int .u64 0]) rfl 3 (ls [.bool false, .int .u64 0, .int .u64 0]) (ls [.bool false, .int .u64 0, .int .u64 0]) (by kernel_rfl) inz24 (by decide) (one_ls _ rfl) (fun j hj => by rw [if_pos (by omega), Nat.sub_zero]) fun u6 M => ?_
    refine pV 3 (.bool false) ?_
    refine nT ?_
    refine wp_ret ?_
    refine au_then_ret ?_
    have e0 : (lk6 s).isSome = false := by rw [(show lk6 s = none by unfold lk6; rw [hN1, hN2])]; rfl
    have e1 : ((lk6 s).getD (0, 0)).1 = 0 := by rw [(show lk6 s = none by unfold lk6; rw [hN1, hN2])]; rfl
    have e2 : ((lk6 s).getD (0, 0)).2 = 0 := by rw [(show lk6 s = none by unfold lk6; rw [hN1, hN2])]; rfl
    exact bodyPost_ret (v := .tuple #[.agg (av 3 (ls [.bool false, .int .u64 0, .int .u64 0])), .bool false]) (results_cell_tmp Tryz.results69 _ _ g1 24 (av 3 (ls [.bool false, .int .u64 0, .int .u64 0])) (0, 0) _ _ (by kernel_rfl) (by kernel_rfl) (M.get 0 rfl) Tryz.underlying24 rfl (by rw [av_size]; exact inz24)) (by kernel_rfl) ⟨by rw [e0, e1, e2], below_grown M.old⟩
 ·skip
  by_cases he1 : l1 = []
  ·skip
   subst he1
   refine pC M 20 89 #[.string (cuA s ⟨#[58, 58]⟩), .string ⟨#[58]⟩, .int .i64 16, .int .i64 16] (.tuple #[.slice none 0 0, .bool true]) (fun w M => c_nums16E (cuA s ⟨#[58, 58]⟩) ⟨#[58]⟩ (by have := cuA_le s ⟨#[58, 58]⟩; omega) (by decide) hN1 w M.laid) fun u3 M => ?_
   refine pV 18 (.tuple #[.slice none 0 0, .bool true]) ?_
   refine pV 21 (.slice none 0 0) ?_
   refine pV 22 (.bool true) ?_
   refine pV 7 (.slice none 0 0) ?_
   refine pV 8 (.bool true) ?_
   refine nT ?_
   refine sR ?_
   refine pV 24 (.string (cuB s ⟨#[58, 58]⟩)) ?_
   rcases hN2 : nbs 16 65535 (cuB s ⟨#[58, 58]⟩) ⟨#[58]⟩ with _ | l2
   ·skip
    refine pC M 25 89 #[.string (cuB s ⟨#[58, 58]⟩), .string ⟨#[58]⟩, .int .i64 16, .int .i64 16] (.tuple #[.slice none 0 0, .bool false]) (fun w M => c_nums16N (cuB s ⟨#[58, 58]⟩) ⟨#[58]⟩ (by have := cuB_le s ⟨#[58, 58]⟩; omega) (by decide) hN2 w M.laid) fun u4 M => ?_
    refine pV 23 (.tuple #[.slice none 0 0, .bool false]) ?_
    refine pV 26 (.slice none 0 0) ?_
    refine pV 27 (.bool false) ?_
    refine pV 9 (.slice none 0 0) ?_
    refine pV 10 (.bool false) ?_
    refine nT ?_
    refine sR ?_
    refine pN M 11 (.cells (av 8 (w16 (fun _ => 0))) 94) fun g2 u5 M => ?_
    refine nT ?_
    refine wp_seq ?_
    refine sR ?_
    refine pV 28 (.bool true) ?_
    refine pV 29 (.bool false) ?_
    refine pV 30 (.bool false) ?_
    refine pl_val (want_on 2 false rfl 30 rfl (by kernel_rfl)) (some 31) rfl (.bool false) (fun _ => by kernel_rfl) ?_
    refine pl_val (want_on 2 false rfl 30 rfl (by kernel_rfl)) (some 32) rfl (.bool true) (fun _ => by kernel_rfl) ?_
    refine pV 33 (.bool true) ?_
    refine pV 34 (.bool true) ?_
    refine pl_skip (want_off 6 false rfl 34 rfl (by kernel_rfl)) (some 35) rfl ?_
    refine pl_skip (want_off 6 false rfl 34 rfl (by kernel_rfl)) (some 36) rfl ?_
    refine pl_skip (want_off 6 false rfl 34 rfl (by kernel_rfl)) (some 37) rfl ?_
    refine pl_skip (want_off 6 false rfl 34 rfl (by kernel_rfl)) (some 38) rfl ?_
    refine pl_skip (want_off 6 false rfl 34 rfl (by kernel_rfl)) (some 39) rfl ?_
    refine pl_skip (want_off 6 false rfl 34 rfl (by kernel_rfl)) (some 40) rfl ?_
    refine pV 41 (.bool true) ?_
    refine nT ?_
    refine wp_cond_true (by kernel_rfl) ?_
    refine sR ?_
    refine pV 42 (.agg (av 3 (ls [.bool false, .int .u64 0, .int .u64 0]))) ?_
    refine pl_put M (want_no rfl) rfl 24 _ _ rfl 0 g1 0 (by kernel_rfl) 3 24 (ls [.bool false, .int .u64 0, .int .u64 0]) rfl 3 (ls [.bool false, .int .u64 0, .int .u64 0]) (ls [.bool false, .int .u64 0, .int .u64 0]) (by kernel_rfl) inz24 (by decide) (one_ls _ rfl) (fun j hj => by rw [if_pos (by omega), Nat.sub_zero]) fun u6 M => ?_
    refine pV 3 (.bool false) ?_
    refine nT ?_
    refine wp_ret ?_
    refine au_then_ret ?_
    have e0 : (lk6 s).isSome = false := by rw [(show lk6 s = none by unfold lk6; rw [hN1, hN2])]; rfl
    have e1 : ((lk6 s).getD (0, 0)).1 = 0 := by rw [(show lk6 s = none by unfold lk6; rw [hN1, hN2])]; rfl
    have e2 : ((lk6 s).getD (0, 0)).2 = 0 := by rw [(show lk6 s = none by unfold lk6; rw [hN1, hN2])]; rfl
    exact bodyPost_ret (v := .tuple #[.agg (av 3 (ls [.bool false, .int .u64 0, .int .u64 0])), .bool false]) (results_cell_tmp Tryz.results69 _ _ g1 24 (av 3 (ls [.bool false, .int .u64 0, .int .u64 0])) (0, 0) _ _ (by kernel_rfl) (by kernel_rfl) (M.get 0 rfl) Tryz.underlying24 rfl (by rw [av_size]; exact inz24)) (by kernel_rfl) ⟨by rw [e0, e1, e2], below_grown M.old⟩
   ·skip
    by_cases he2 : l2 = []
    ·skip
     subst he2
     refine pC M 25 89 #[.string (cuB s ⟨#[58, 58]⟩), .string ⟨#[58]⟩, .int .i64 16, .int .i64 16] (.tuple #[.slice none 0 0, .bool true]) (fun w M => c_nums16E (cuB s ⟨#[58, 58]⟩) ⟨#[58]⟩ (by have := cuB_le s ⟨#[58, 58]⟩; omega) (by decide) hN2 w M.laid) fun u4 M => ?_
     refine pV 23 (.tuple #[.slice none 0 0, .bool true]) ?_
     refine pV 26 (.slice none 0 0) ?_
     refine pV 27 (.bool true) ?_
     refine pV 9 (.slice none 0 0) ?_
     refine pV 10 (.bool true) ?_
     refine nT ?_
     refine sR ?_
     refine pN M 11 (.cells (av 8 (w16 (fun _ => 0))) 94) fun g2 u5 M => ?_
     refine nT ?_
     refine wp_seq ?_
     refine sR ?_
     refine pV 28 (.bool true) ?_
     refine pV 29 (.bool false) ?_
     refine pV 30 (.bool false) ?_
     refine pl_val (want_on 2 false rfl 30 rfl (by kernel_rfl)) (some 31) rfl (.bool true) (fun _ => by kernel_rfl) ?_
     refine pl_val (want_on 2 false rfl 30 rfl (by kernel_rfl)) (some 32) rfl (.bool false) (fun _ => by kernel_rfl) ?_
     refine pV 33 (.bool false) ?_
     refine pV 34 (.bool false) ?_
     refine pl_val (want_on 6 false rfl 34 rfl (by kernel_rfl)) (some 35) rfl (.slice none 0 0) (fun _ => by kernel_rfl) ?_
     refine pl_val (want_on 6 false rfl 34 rfl (by kernel_rfl)) (some 36) rfl (.int .i64 0) (fun _ => by kernel_rfl) ?_
     refine pl_val (want_on 6 false rfl 34 rfl (by kernel_rfl)) (some 37) rfl (.slice none 0 0) (fun _ => by kernel_rfl) ?_
     refine pl_val (want_on 6 false rfl 34 rfl (by kernel_rfl)) (some 38) rfl (.int .i64 0) (fun _ => by kernel_rfl) ?_
     refine pl_val (want_on 6 false rfl 34 rfl (by kernel_rfl)) (some 39) rfl (.int .i64 0) (fun _ => by kernel_rfl) ?_
     refine pl_val (want_on 6 false rfl 34 rfl (by kernel_rfl)) (some 40) rfl (.bool false) (fun _ => by kernel_rfl) ?_
     refine pV 41 (.bool false) ?_
     refine nT ?_
     refine wp_cond_false (by kernel_rfl) ?_
     refine wp_skip ?_
     refine au_then ?_
     refine sR ?_
     refine pV 43 (.slice (some ⟨g2, 0, none⟩) 8 8) ?_
     refine pV 44 (.slice none 0 0) ?_
     refine pV 45 (.int .i64 0) ?_
     refine nT ?_
     refine sR ?_
     refine pV 46 (.slice none 0 0) ?_
     refine pV 47 (.int .i64 0) ?_
     refine pV 48 (.int .i64 8) ?_
     refine pH 49 (.slice (some ⟨g2, 0, none⟩) 0 0) (run_slAL 94 32 Tryz.underlying94 inz32 _ _ rfl g2 (by kernel_rfl) .i64 8 (by kernel_rfl) (by decide)) ?_
     refine pV 50 (.slice none 0 0) ?_
     refine pV 51 (.int .i64 0) ?_
     refine nT ?_
     refine sR ?_
     refine pAz M 52 1 8 (w16 (fun _ => 0)) ?_
     refine pC M 53 90 #[.agg (av 8 (w16 (fun _ => 0)))] (.agg (av 3 (ls [.bool true, .int .u64 (adH (fun _ => 0)), .int .u64 (adL (fun _ => 0))]))) (fun w M => c_addr (fun _ => 0) w M.laid) fun u6 M => ?_
     refine pl_put M (want_no rfl) rfl 24 _ _ rfl 0 g1 0 (by kernel_rfl) 3 24 (ls [.bool false, .int .u64 0, .int .u64 0]) rfl 3 (ls [.bool true, .int .u64 (adH (fun _ => 0)), .int .u64 (adL (fun _ => 0))]) (ls [.bool true, .int .u64 (adH (fun _ => 0)), .int .u64 (adL (fun _ => 0))]) (by kernel_rfl) inz24 (by decide) (one_ls _ rfl) (fun j hj => by rw [if_pos (by omega), Nat.sub_zero]) fun u7 M => ?_
     refine pV 3 (.bool true) ?_
     refine nT ?_
     refine wp_ret ?_
     have e0 : (lk6 s).isSome = true := by rw [(show lk6 s = some (adH (g6 [] []), adL (g6 [] [])) by unfold lk6; rw [hN1, hN2]; exact if_neg (by decide))]; rfl
     have e1 : ((lk6 s).getD (0, 0)).1 = (adH (fun _ => 0)) := by rw [(show lk6 s = some (adH (g6 [] []), adL (g6 [] [])) by unfold lk6; rw [hN1, hN2]; exact if_neg (by decide))]; show adH (g6 [] []) = _; unfold g6; rw [cpl_nil, cpl_nil]
     have e2 : ((lk6 s).getD (0, 0)).2 = (adL (fun _ => 0)) := by rw [(show lk6 s = some (adH (g6 [] []), adL (g6 [] [])) by unfold lk6; rw [hN1, hN2]; exact if_neg (by decide))]; show adL (g6 [] []) = _; unfold g6; rw [cpl_nil, cpl_nil]
     exact bodyPost_ret (v := .tuple #[.agg (av 3 (ls [.bool true, .int .u64 (adH (fun _ => 0)), .int .u64 (adL (fun _ => 0))])), .bool true]) (results_cell_tmp Tryz.results69 _ _ g1 24 (av 3 (ls [.bool true, .int .u64 (adH (fun _ => 0)), .int .u64 (adL (fun _ => 0))])) (0, 0) _ _ (by kernel_rfl) (by kernel_rfl) (M.get 0 rfl) Tryz.underlying24 rfl (by rw [av_size]; exact inz24)) (by kernel_rfl) ⟨by rw [e0, e1, e2], below_grown M.old⟩
    ·skip
     refine pl_callL M (want_no rfl) (some 25) rfl 89 #[.string (cuB s ⟨#[58, 58]⟩), .string ⟨#[58]⟩, .int .i64 16, .int .i64 16] (fun g cap => .tuple #[.slice (some ⟨g, 0, none⟩) l2.length cap, .bool true]) (fun cap Z => SB Z cap (v16 l2)) (fun _ => by kernel_rfl) (fun w M => c_nums16L (cuB s ⟨#[58, 58]⟩) ⟨#[58]⟩ (by have := cuB_le s ⟨#[58, 58]⟩; omega) (by decide) l2 he2 hN2 w M.laid) ?_
     intro gl2 cp2 Z2 u4 hZ2 M
     refine pV 23 (.tuple #[.slice (some ⟨gl2, 0, none⟩) l2.length cp2, .bool true]) ?_
     refine pV 26 (.slice (some ⟨gl2, 0, none⟩) l2.length cp2) ?_
     refine pV 27 (.bool true) ?_
     refine pV 9 (.slice (some ⟨gl2, 0, none⟩) l2.length cp2) ?_
     refine pV 10 (.bool true) ?_
     refine nT ?_
     refine sR ?_
     refine pN M 11 (.cells (av 8 (w16 (fun _ => 0))) 94) fun g2 u5 M => ?_
     refine nT ?_
     refine wp_seq ?_
     refine sR ?_
     refine pV 28 (.bool true) ?_
     refine pV 29 (.bool false) ?_
     refine pV 30 (.bool false) ?_
     refine pl_val (want_on 2 false rfl 30 rfl (by kernel_rfl)) (some 31) rfl (.bool true) (fun _ => by kernel_rfl) ?_
     refine pl_val (want_on 2 false rfl 30 rfl (by kernel_rfl)) (some 32) rfl (.bool false) (fun _ => by kernel_rfl) ?_
     refine pV 33 (.bool false) ?_
     refine pV 34 (.bool false) ?_
     refine pl_val (want_on 6 false rfl 34 rfl (by kernel_rfl)) (some 35) rfl (.slice none 0 0) (fun _ => by kernel_rfl) ?_
     refine pl_val (want_on 6 false rfl 34 rfl (by kernel_rfl)) (some 36) rfl (.int .i64 0) (fun _ => by kernel_rfl) ?_
     refine pl_val (want_on 6 false rfl 34 rfl (by kernel_rfl)) (some 37) rfl (.slice (some ⟨gl2, 0, none⟩) l2.length cp2) (fun _ => by kernel_rfl) ?_
     refine pl_val (want_on 6 false rfl 34 rfl (by kernel_rfl)) (some 38) rfl (.int .i64 ((l2.length : Nat) : Int)) (fun _ => by kernel_rfl) ?_
     have hq2 := hl2 l2 hN2
     refine pl_val (want_on 6 false rfl 34 rfl (by kernel_rfl)) (some 39) rfl (.int .i64 (0 + ((l2.length : Nat) : Int))) (fun w => Eq.trans (b := .ok (.value (.int .i64 (cv .i64 (0 + ((l2.length : Nat) : Int))))) w) (by kernel_rfl) (by rw [cv_i64 (by omega) (by omega)])) ?_
     by_cases c4 : 8 < (0 + ((l2.length : Nat) : Int))
     ·skip
      refine pl_val (want_on 6 false rfl 34 rfl (by kernel_rfl)) (some 40) rfl (.bool true) (fun w => Eq.trans (b := .ok (.value (.bool (decide (8 < (0 + ((l2.length : Nat) : Int)))))) w) (by kernel_rfl) (by rw [decide_eq_true (c4)])) ?_
      refine pV 41 (.bool true) ?_
      refine nT ?_
      refine wp_cond_true (by kernel_rfl) ?_
      refine sR ?_
      refine pV 42 (.agg (av 3 (ls [.bool false, .int .u64 0, .int .u64 0]))) ?_
      refine pl_put M (want_no rfl) rfl 24 _ _ rfl 0 g1 0 (by kernel_rfl) 3 24 (ls [.bool false, .int .u64 0, .int .u64 0]) rfl 3 (ls [.bool false, .int .u64 0, .int .u64 0]) (ls [.bool false, .int .u64 0, .int .u64 0]) (by kernel_rfl) inz24 (by decide) (one_ls _ rfl) (fun j hj => by rw [if_pos (by omega), Nat.sub_zero]) fun u6 M => ?_
      refine pV 3 (.bool false) ?_
      refine nT ?_
      refine wp_ret ?_
      refine au_then_ret ?_
      have e0 : (lk6 s).isSome = false := by rw [(show lk6 s = none by unfold lk6; rw [hN1, hN2]; exact if_pos (by simp only [List.length_nil]; omega))]; rfl
      have e1 : ((lk6 s).getD (0, 0)).1 = 0 := by rw [(show lk6 s = none by unfold lk6; rw [hN1, hN2]; exact if_pos (by simp only [List.length_nil]; omega))]; rfl
      have e2 : ((lk6 s).getD (0, 0)).2 = 0 := by rw [(show lk6 s = none by unfold lk6; rw [hN1, hN2]; exact if_pos (by simp only [List.length_nil]; omega))]; rfl
      exact bodyPost_ret (v := .tuple #[.agg (av 3 (ls [.bool false, .int .u64 0, .int .u64 0])), .bool false]) (results_cell_tmp Tryz.results69 _ _ g1 24 (av 3 (ls [.bool false, .int .u64 0, .int .u64 0])) (0, 0) _ _ (by kernel_rfl) (by kernel_rfl) (M.get 0 rfl) Tryz.underlying24 rfl (by rw [av_size]; exact inz24)) (by kernel_rfl) ⟨by rw [e0, e1, e2], below_grown M.old⟩
     ·skip
      refine pl_val (want_on 6 false rfl 34 rfl (by kernel_rfl)) (some 40) rfl (.bool false) (fun w => Eq.trans (b := .ok (.value (.bool (decide (8 < (0 + ((l2.length : Nat) : Int)))))) w) (by kernel_rfl) (by rw [decide_eq_false (c4)])) ?_
      refine pV 41 (.bool false) ?_
      refine nT ?_
      refine wp_cond_false (by kernel_rfl) ?_
      refine wp_skip ?_
      refine au_then ?_
      refine sR ?_
      refine pV 43 (.slice (some ⟨g2, 0, none⟩) 8 8) ?_
      refine pV 44 (.slice none 0 0) ?_
      refine pV 45 (.int .i64 0) ?_
      refine nT ?_
      refine sR ?_
      refine pV 46 (.slice (some ⟨gl2, 0, none⟩) l2.length cp2) ?_
      refine pV 47 (.int .i64 ((l2.length : Nat) : Int)) ?_
      refine pH 48 (.int .i64 ((8 - l2.length : Nat) : Int)) (fun w => Eq.trans (b := .ok (.value (.int .i64 (cv .i64 (8 - ((l2.length : Nat) : Int))))) w) (by kernel_rfl) (by rw [cv_i64 (by omega) (by omega)]; congr 3; omega)) ?_
      refine pH 49 (.slice (some ⟨g2, (8 - l2.length), none⟩) (8 - (8 - l2.length)) (8 - (8 - l2.length))) (fun w => (run_slAL 94 32 Tryz.underlying94 inz32 _ _ rfl g2 (by kernel_rfl) .i64 (8 - l2.length) (by kernel_rfl) (by omega) w).trans (by rw [show so (8 - l2.length) = 8 - l2.length from if_neg (by have := List.length_pos_iff.2 he2; omega)])) ?_
      refine pV 50 (.slice (some ⟨gl2, 0, none⟩) l2.length cp2) ?_
      refine pl_copyC M (want_no rfl) (some 51) rfl 99 99 3 32 Tryz.underlying99 inz32 2 g2 8 94 (w16 (fun _ => 0)) rfl gl2 (w16 (tgi l2)) (8 - l2.length) (8 - (8 - l2.length)) (8 - (8 - l2.length)) 0 l2.length cp2 l2.length (by show _ = min _ _; omega) (by omega) (fun w M j hj => by rw [Nat.zero_add]; exact hZ2.cell (M.get 1 rfl) (v16_at _ _ hj)) (fun _ => rfl) (w16 (cpl (fun _ => 0) (8 - l2.length) l2)) (fun j _ => cpl_w16 _ _ _ j) (fun _ => by kernel_rfl) fun u6 M => ?_
      refine nT ?_
      refine sR ?_
      refine pAz M 52 2 8 (w16 (cpl (fun _ => 0) (8 - l2.length) l2)) ?_
      refine pC M 53 90 #[.agg (av 8 (w16 (cpl (fun _ => 0) (8 - l2.length) l2)))] (.agg (av 3 (ls [.bool true, .int .u64 (adH (cpl (fun _ => 0) (8 - l2.length) l2)), .int .u64 (adL (cpl (fun _ => 0) (8 - l2.length) l2))]))) (fun w M => c_addr (cpl (fun _ => 0) (8 - l2.length) l2) w M.laid) fun u7 M => ?_
      refine pl_put M (want_no rfl) rfl 24 _ _ rfl 0 g1 0 (by kernel_rfl) 3 24 (ls [.bool false, .int .u64 0, .int .u64 0]) rfl 3 (ls [.bool true, .int .u64 (adH (cpl (fun _ => 0) (8 - l2.length) l2)), .int .u64 (adL (cpl (fun _ => 0) (8 - l2.length) l2))]) (ls [.bool true, .int .u64 (adH (cpl (fun _ => 0) (8 - l2.length) l2)), .int .u64 (adL (cpl (fun _ => 0) (8 - l2.length) l2))]) (by kernel_rfl) inz24 (by decide) (one_ls _ rfl) (fun j hj => by rw [if_pos (by omega), Nat.sub_zero]) fun u8 M => ?_
      refine pV 3 (.bool true) ?_
      refine nT ?_
      refine wp_ret ?_
      have e0 : (lk6 s).isSome = true := by rw [(show lk6 s = some (adH (g6 [] l2), adL (g6 [] l2)) by unfold lk6; rw [hN1, hN2]; exact if_neg (by simp only [List.length_nil]; omega))]; rfl
      have e1 : ((lk6 s).getD (0, 0)).1 = (adH (cpl (fun _ => 0) (8 - l2.length) l2)) := by rw [(show lk6 s = some (adH (g6 [] l2), adL (g6 [] l2)) by unfold lk6; rw [hN1, hN2]; exact if_neg (by simp only [List.length_nil]; omega))]; show adH (g6 [] l2) = _; unfold g6; rw [cpl_nil]
      have e2 : ((lk6 s).getD (0, 0)).2 = (adL (cpl (fun _ => 0) (8 - l2.length) l2)) := by rw [(show lk6 s = some (adH (g6 [] l2), adL (g6 [] l2)) by unfold lk6; rw [hN1, hN2]; exact if_neg (by simp only [List.length_nil]; omega))]; show adL (g6 [] l2) = _; unfold g6; rw [cpl_nil]
      exact bodyPost_ret (v := .tuple #[.agg (av 3 (ls [.bool true, .int .u64 (adH (cpl (fun _ => 0) (8 - l2.length) l2)), .int .u64 (adL (cpl (fun _ => 0) (8 - l2.length) l2))])), .bool true]) (results_cell_tmp Tryz.results69 _ _ g1 24 (av 3 (ls [.bool true, .int .u64 (adH (cpl (fun _ => 0) (8 - l2.length) l2)), .int .u64 (adL (cpl (fun _ => 0) (8 - l2.length) l2))])) (0, 0) _ _ (by kernel_rfl) (by kernel_rfl) (M.get 0 rfl) Tryz.underlying24 rfl (by rw [av_size]; exact inz24)) (by kernel_rfl) ⟨by rw [e0, e1, e2], below_grown M.old⟩
  ·skip
   refine pl_callL M (want_no rfl) (some 20) rfl 89 #[.string (cuA s ⟨#[58, 58]⟩), .string ⟨#[58]⟩, .int .i64 16, .int .i64 16] (fun g cap => .tuple #[.slice (some ⟨g, 0, none⟩) l1.length cap, .bool true]) (fun cap Z => SB Z cap (v16 l1)) (fun _ => by kernel_rfl) (fun w M => c_nums16L (cuA s ⟨#[58, 58]⟩) ⟨#[58]⟩ (by have := cuA_le s ⟨#[58, 58]⟩; omega) (by decide) l1 he1 hN1 w M.laid) ?_
   intro gl1 cp1 Z1 u3 hZ1 M
   refine pV 18 (.tuple #[.slice (some ⟨gl1, 0, none⟩) l1.length cp1, .bool true]) ?_
   refine pV 21 (.slice (some ⟨gl1, 0, none⟩) l1.length cp1) ?_
   refine pV 22 (.bool true) ?_
   refine pV 7 (.slice (some ⟨gl1, 0, none⟩) l1.length cp1) ?_
   refine pV 8 (.bool true) ?_
   refine nT ?_
   refine sR ?_
   refine pV 24 (.string (cuB s ⟨#[58, 58]⟩)) ?_
   rcases hN2 : nbs 16 65535 (cuB s ⟨#[58, 58]⟩) ⟨#[58]⟩ with _ | l2
   ·skip
    refine pC M 25 89 #[.string (cuB s ⟨#[58, 58]⟩), .string ⟨#[58]⟩, .int .i64 16, .int .i64 16] (.tuple #[.slice none 0 0, .bool false]) (fun w M => c_nums16N (cuB s ⟨#[58, 58]⟩) ⟨#[58]⟩ (by have := cuB_le s ⟨#[58, 58]⟩; omega) (by decide) hN2 w M.laid) fun u4 M => ?_
    refine pV 23 (.tuple #[.slice none 0 0, .bool false]) ?_
    refine pV 26 (.slice none 0 0) ?_
    refine pV 27 (.bool false) ?_
    refine pV 9 (.slice none 0 0) ?_
    refine pV 10 (.bool false) ?_
    refine nT ?_
    refine sR ?_
    refine pN M 11 (.cells (av 8 (w16 (fun _ => 0))) 94) fun g2 u5 M => ?_
    refine nT ?_
    refine wp_seq ?_
    refine sR ?_
    refine pV 28 (.bool true) ?_
    refine pV 29 (.bool false) ?_
    refine pV 30 (.bool false) ?_
    refine pl_val (want_on 2 false rfl 30 rfl (by kernel_rfl)) (some 31) rfl (.bool false) (fun _ => by kernel_rfl) ?_
    refine pl_val (want_on 2 false rfl 30 rfl (by kernel_rfl)) (some 32) rfl (.bool true) (fun _ => by kernel_rfl) ?_
    refine pV 33 (.bool true) ?_
    refine pV 34 (.bool true) ?_
    refine pl_skip (want_off 6 false rfl 34 rfl (by kernel_rfl)) (some 35) rfl ?_
    refine pl_skip (want_off 6 false rfl 34 rfl (by kernel_rfl)) (some 36) rfl ?_
    refine pl_skip (want_off 6 false rfl 34 rfl (by kernel_rfl)) (some 37) rfl ?_
    refine pl_skip (want_off 6 false rfl 34 rfl (by kernel_rfl)) (some 38) rfl ?_
    refine pl_skip (want_off 6 false rfl 34 rfl (by kernel_rfl)) (some 39) rfl ?_
    refine pl_skip (want_off 6 false rfl 34 rfl (by kernel_rfl)) (some 40) rfl ?_
    refine pV 41 (.bool true) ?_
    refine nT ?_
    refine wp_cond_true (by kernel_rfl) ?_
    refine sR ?_
    refine pV 42 (.agg (av 3 (ls [.bool false, .int .u64 0, .int .u64 0]))) ?_
    refine pl_put M (want_no rfl) rfl 24 _ _ rfl 0 g1 0 (by kernel_rfl) 3 24 (ls [.bool false, .int .u64 0, .int .u64 0]) rfl 3 (ls [.bool false, .int .u64 0, .int .u64 0]) (ls [.bool false, .int .u64 0, .int .u64 0]) (by kernel_rfl) inz24 (by decide) (one_ls _ rfl) (fun j hj => by rw [if_pos (by omega), Nat.sub_zero]) fun u6 M => ?_
    refine pV 3 (.bool false) ?_
    refine nT ?_
    refine wp_ret ?_
    refine au_then_ret ?_
    have e0 : (lk6 s).isSome = false := by rw [(show lk6 s = none by unfold lk6; rw [hN1, hN2])]; rfl
    have e1 : ((lk6 s).getD (0, 0)).1 = 0 := by rw [(show lk6 s = none by unfold lk6; rw [hN1, hN2])]; rfl
    have e2 : ((lk6 s).getD (0, 0)).2 = 0 := by rw [(show lk6 s = none by unfold lk6; rw [hN1, hN2])]; rfl
    exact bodyPost_ret (v := .tuple #[.agg (av 3 (ls [.bool false, .int .u64 0, .int .u64 0])), .bool false]) (results_cell_tmp Tryz.results69 _ _ g1 24 (av 3 (ls [.bool false, .int .u64 0, .int .u64 0])) (0, 0) _ _ (by kernel_rfl) (by kernel_rfl) (M.get 0 rfl) Tryz.underlying24 rfl (by rw [av_size]; exact inz24)) (by kernel_rfl) ⟨by rw [e0, e1, e2], below_grown M.old⟩
   ·skip
    by_cases he2 : l2 = []
    ·skip
     subst he2
     refine pC M 25 89 #[.string (cuB s ⟨#[58, 58]⟩), .string ⟨#[58]⟩, .int .i64 16, .int .i64 16] (.tuple #[.slice none 0 0, .bool true]) (fun w M => c_nums16E (cuB s ⟨#[58, 58]⟩) ⟨#[58]⟩ (by have := cuB_le s ⟨#[58, 58]⟩; omega) (by decide) hN2 w M.laid) fun u4 M => ?_
     refine pV 23 (.tuple #[.slice none 0 0, .bool true]) ?_
     refine pV 26 (.slice none 0 0) ?_
     refine pV 27 (.bool true) ?_
     refine pV 9 (.slice none 0 0) ?_
     refine pV 10 (.bool true) ?_
     refine nT ?_
     refine sR ?_
     refine pN M 11 (.cells (av 8 (w16 (fun _ => 0))) 94) fun g2 u5 M => ?_
     refine nT ?_
     refine wp_seq ?_
     refine sR ?_
     refine pV 28 (.bool true) ?_
     refine pV 29 (.bool false) ?_
     refine pV 30 (.bool false) ?_
     refine pl_val (want_on 2 false rfl 30 rfl (by kernel_rfl)) (some 31) rfl (.bool true) (fun _ => by kernel_rfl) ?_
     refine pl_val (want_on 2 false rfl 30 rfl (by kernel_rfl)) (some 32) rfl (.bool false) (fun _ => by kernel_rfl) ?_
     refine pV 33 (.bool false) ?_
     refine pV 34 (.bool false) ?_
     refine pl_val (want_on 6 false rfl 34 rfl (by kernel_rfl)) (some 35) rfl (.slice (some ⟨gl1, 0, none⟩) l1.length cp1) (fun _ => by kernel_rfl) ?_
     refine pl_val (want_on 6 false rfl 34 rfl (by kernel_rfl)) (some 36) rfl (.int .i64 ((l1.length : Nat) : Int)) (fun _ => by kernel_rfl) ?_
     refine pl_val (want_on 6 false rfl 34 rfl (by kernel_rfl)) (some 37) rfl (.slice none 0 0) (fun _ => by kernel_rfl) ?_
     refine pl_val (want_on 6 false rfl 34 rfl (by kernel_rfl)) (some 38) rfl (.int .i64 0) (fun _ => by kernel_rfl) ?_
     have hq1 := hl1 l1 hN1
     refine pl_val (want_on 6 false rfl 34 rfl (by kernel_rfl)) (some 39) rfl (.int .i64 (((l1.length : Nat) : Int) + 0)) (fun w => Eq.trans (b := .ok (.value (.int .i64 (cv .i64 (((l1.length : Nat) : Int) + 0)))) w) (by kernel_rfl) (by rw [cv_i64 (by omega) (by omega)])) ?_
     by_cases c4 : 8 < (((l1.length : Nat) : Int) + 0)
     ·skip
      refine pl_val (want_on 6 false rfl 34 rfl (by kernel_rfl)) (some 40) rfl (.bool true) (fun w => Eq.trans (b := .ok (.value (.bool (decide (8 < (((l1.length : Nat) : Int) + 0))))) w) (by kernel_rfl) (by rw [decide_eq_true (c4)])) ?_
      refine pV 41 (.bool true) ?_
      refine nT ?_
      refine wp_cond_true (by kernel_rfl) ?_
      refine sR ?_
      refine pV 42 (.agg (av 3 (ls [.bool false, .int .u64 0, .int .u64 0]))) ?_
      refine pl_put M (want_no rfl) rfl 24 _ _ rfl 0 g1 0 (by kernel_rfl) 3 24 (ls [.bool false, .int .u64 0, .int .u64 0]) rfl 3 (ls [.bool false, .int .u64 0, .int .u64 0]) (ls [.bool false, .int .u64 0, .int .u64 0]) (by kernel_rfl) inz24 (by decide) (one_ls _ rfl) (fun j hj => by rw [if_pos (by omega), Nat.sub_zero]) fun u6 M => ?_
      refine pV 3 (.bool false) ?_
      refine nT ?_
      refine wp_ret ?_
      refine au_then_ret ?_
      have e0 : (lk6 s).isSome = false := by rw [(show lk6 s = none by unfold lk6; rw [hN1, hN2]; exact if_pos (by simp only [List.length_nil]; omega))]; rfl
      have e1 : ((lk6 s).getD (0, 0)).1 = 0 := by rw [(show lk6 s = none by unfold lk6; rw [hN1, hN2]; exact if_pos (by simp only [List.length_nil]; omega))]; rfl
      have e2 : ((lk6 s).getD (0, 0)).2 = 0 := by rw [(show lk6 s = none by unfold lk6; rw [hN1, hN2]; exact if_pos (by simp only [List.length_nil]; omega))]; rfl
      exact bodyPost_ret (v := .tuple #[.agg (av 3 (ls [.bool false, .int .u64 0, .int .u64 0])), .bool false]) (results_cell_tmp Tryz.results69 _ _ g1 24 (av 3 (ls [.bool false, .int .u64 0, .int .u64 0])) (0, 0) _ _ (by kernel_rfl) (by kernel_rfl) (M.get 0 rfl) Tryz.underlying24 rfl (by rw [av_size]; exact inz24)) (by kernel_rfl) ⟨by rw [e0, e1, e2], below_grown M.old⟩
     ·skip
      refine pl_val (want_on 6 false rfl 34 rfl (by kernel_rfl)) (some 40) rfl (.bool false) (fun w => Eq.trans (b := .ok (.value (.bool (decide (8 < (((l1.length : Nat) : Int) + 0))))) w) (by kernel_rfl) (by rw [decide_eq_false (c4)])) ?_
      refine pV 41 (.bool false) ?_
      refine nT ?_
      refine wp_cond_false (by kernel_rfl) ?_
      refine wp_skip ?_
      refine au_then ?_
      refine sR ?_
      refine pV 43 (.slice (some ⟨g2, 0, none⟩) 8 8) ?_
      refine pV 44 (.slice (some ⟨gl1, 0, none⟩) l1.length cp1) ?_
      refine pl_copyC M (want_no rfl) (some 45) rfl 99 99 3 32 Tryz.underlying99 inz32 2 g2 8 94 (w16 (fun _ => 0)) rfl gl1 (w16 (tgi l1)) 0 8 8 0 l1.length cp1 l1.length (by show _ = min _ _; omega) (by omega) (fun w M j hj => by rw [Nat.zero_add]; exact hZ1.cell (M.get 1 rfl) (v16_at _ _ hj)) (fun _ => rfl) (w16 (cpl (fun _ => 0) 0 l1)) (fun j _ => cpl_w16 _ _ _ j) (fun _ => by kernel_rfl) fun u6 M => ?_
      refine nT ?_
      refine sR ?_
      refine pV 46 (.slice none 0 0) ?_
      refine pV 47 (.int .i64 0) ?_
      refine pV 48 (.int .i64 8) ?_
      refine pH 49 (.slice (some ⟨g2, 0, none⟩) 0 0) (run_slAL 94 32 Tryz.underlying94 inz32 _ _ rfl g2 (by kernel_rfl) .i64 8 (by kernel_rfl) (by decide)) ?_
      refine pV 50 (.slice none 0 0) ?_
      refine pV 51 (.int .i64 0) ?_
      refine nT ?_
      refine sR ?_
      refine pAz M 52 2 8 (w16 (cpl (fun _ => 0) 0 l1)) ?_
      refine pC M 53 90 #[.agg (av 8 (w16 (cpl (fun _ => 0) 0 l1)))] (.agg (av 3 (ls [.bool true, .int .u64 (adH (cpl (fun _ => 0) 0 l1)), .int .u64 (adL (cpl (fun _ => 0) 0 l1))]))) (fun w M => c_addr (cpl (fun _ => 0) 0 l1) w M.laid) fun u7 M => ?_
      refine pl_put M (want_no rfl) rfl 24 _ _ rfl 0 g1 0 (by kernel_rfl) 3 24 (ls [.bool false, .int .u64 0, .int .u64 0]) rfl 3 (ls [.bool true, .int .u64 (adH (cpl (fun _ => 0) 0 l1)), .int .u64 (adL (cpl (fun _ => 0) 0 l1))]) (ls [.bool true, .int .u64 (adH (cpl (fun _ => 0) 0 l1)), .int .u64 (adL (cpl (fun _ => 0) 0 l1))]) (by kernel_rfl) inz24 (by decide) (one_ls _ rfl) (fun j hj => by rw [if_pos (by omega), Nat.sub_zero]) fun u8 M => ?_
      refine pV 3 (.bool true) ?_
      refine nT ?_
      refine wp_ret ?_
      have e0 : (lk6 s).isSome = true := by rw [(show lk6 s = some (adH (g6 l1 []), adL (g6 l1 [])) by unfold lk6; rw [hN1, hN2]; exact if_neg (by simp only [List.length_nil]; omega))]; rfl
      have e1 : ((lk6 s).getD (0, 0)).1 = (adH (cpl (fun _ => 0) 0 l1)) := by rw [(show lk6 s = some (adH (g6 l1 []), adL (g6 l1 [])) by unfold lk6; rw [hN1, hN2]; exact if_neg (by simp only [List.length_nil]; omega))]; show adH (g6 l1 []) = _; unfold g6; rw [cpl_nil]
      have e2 : ((lk6 s).getD (0, 0)).2 = (adL (cpl (fun _ => 0) 0 l1)) := by rw [(show lk6 s = some (adH (g6 l1 []), adL (g6 l1 [])) by unfold lk6; rw [hN1, hN2]; exact if_neg (by simp only [List.length_nil]; omega))]; show adL (g6 l1 []) = _; unfold g6; rw [cpl_nil]
      exact bodyPost_ret (v := .tuple #[.agg (av 3 (ls [.bool true, .int .u64 (adH (cpl (fun _ => 0) 0 l1)), .int .u64 (adL (cpl (fun _ => 0) 0 l1))])), .bool true]) (results_cell_tmp Tryz.results69 _ _ g1 24 (av 3 (ls [.bool true, .int .u64 (adH (cpl (fun _ => 0) 0 l1)), .int .u64 (adL (cpl (fun _ => 0) 0 l1))])) (0, 0) _ _ (by kernel_rfl) (by kernel_rfl) (M.get 0 rfl) Tryz.underlying24 rfl (by rw [av_size]; exact inz24)) (by kernel_rfl) ⟨by rw [e0, e1, e2], below_grown M.old⟩
    ·skip
     refine pl_callL M (want_no rfl) (some 25) rfl 89 #[.string (cuB s ⟨#[58, 58]⟩), .string ⟨#[58]⟩, .int .i64 16, .int .i64 16] (fun g cap => .tuple #[.slice (some ⟨g, 0, none⟩) l2.length cap, .bool true]) (fun cap Z => SB Z cap (v16 l2)) (fun _ => by kernel_rfl) (fun w M => c_nums16L (cuB s ⟨#[58, 58]⟩) ⟨#[58]⟩ (by have := cuB_le s ⟨#[58, 58]⟩; omega) (by decide) l2 he2 hN2 w M.laid) ?_
     intro gl2 cp2 Z2 u4 hZ2 M
     refine pV 23 (.tuple #[.slice (some ⟨gl2, 0, none⟩) l2.length cp2, .bool true]) ?_
     refine pV 26 (.slice (some ⟨gl2, 0, none⟩) l2.length cp2) ?_
     refine pV 27 (.bool true) ?_
     refine pV 9 (.slice (some ⟨gl2, 0, none⟩) l2.length cp2) ?_
     refine pV 10 (.bool true) ?_
     refine nT ?_
     refine sR ?_
     refine pN M 11 (.cells (av 8 (w16 (fun _ => 0))) 94) fun g2 u5 M => ?_
     refine nT ?_
     refine wp_seq ?_
     refine sR ?_
     refine pV 28 (.bool true) ?_
     refine pV 29 (.bool false) ?_
     refine pV 30 (.bool false) ?_
     refine pl_val (want_on 2 false rfl 30 rfl (by kernel_rfl)) (some 31) rfl (.bool true) (fun _ => by kernel_rfl) ?_
     refine pl_val (want_on 2 false rfl 30 rfl (by kernel_rfl)) (some 32) rfl (.bool false) (fun _ => by kernel_rfl) ?_
     refine pV 33 (.bool false) ?_
     refine pV 34 (.bool false) ?_
     refine pl_val (want_on 6 false rfl 34 rfl (by kernel_rfl)) (some 35) rfl (.slice (some ⟨gl1, 0, none⟩) l1.length cp1) (fun _ => by kernel_rfl) ?_
     refine pl_val (want_on 6 false rfl 34 rfl (by kernel_rfl)) (some 36) rfl (.int .i64 ((l1.length : Nat) : Int)) (fun _ => by kernel_rfl) ?_
     refine pl_val (want_on 6 false rfl 34 rfl (by kernel_rfl)) (some 37) rfl (.slice (some ⟨gl2, 0, none⟩) l2.length cp2) (fun _ => by kernel_rfl) ?_
     refine pl_val (want_on 6 false rfl 34 rfl (by kernel_rfl)) (some 38) rfl (.int .i64 ((l2.length : Nat) : Int)) (fun _ => by kernel_rfl) ?_
     have hq1 := hl1 l1 hN1
     have hq2 := hl2 l2 hN2
     refine pl_val (want_on 6 false rfl 34 rfl (by kernel_rfl)) (some 39) rfl (.int .i64 (((l1.length : Nat) : Int) + ((l2.length : Nat) : Int))) (fun w => Eq.trans (b := .ok (.value (.int .i64 (cv .i64 (((l1.length : Nat) : Int) + ((l2.length : Nat) : Int))))) w) (by kernel_rfl) (by rw [cv_i64 (by omega) (by omega)])) ?_
     by_cases c4 : 8 < (((l1.length : Nat) : Int) + ((l2.length : Nat) : Int))
     ·skip
      refine pl_val (want_on 6 false rfl 34 rfl (by kernel_rfl)) (some 40) rfl (.bool true) (fun w => Eq.trans (b := .ok (.value (.bool (decide (8 < (((l1.length : Nat) : Int) + ((l2.length : Nat) : Int)))))) w) (by kernel_rfl) (by rw [decide_eq_true (c4)])) ?_
      refine pV 41 (.bool true) ?_
      refine nT ?_
      refine wp_cond_true (by kernel_rfl) ?_
      refine sR ?_
      refine pV 42 (.agg (av 3 (ls [.bool false, .int .u64 0, .int .u64 0]))) ?_
      refine pl_put M (want_no rfl) rfl 24 _ _ rfl 0 g1 0 (by kernel_rfl) 3 24 (ls [.bool false, .int .u64 0, .int .u64 0]) rfl 3 (ls [.bool false, .int .u64 0, .int .u64 0]) (ls [.bool false, .int .u64 0, .int .u64 0]) (by kernel_rfl) inz24 (by decide) (one_ls _ rfl) (fun j hj => by rw [if_pos (by omega), Nat.sub_zero]) fun u6 M => ?_
      refine pV 3 (.bool false) ?_
      refine nT ?_
      refine wp_ret ?_
      refine au_then_ret ?_
      have e0 : (lk6 s).isSome = false := by rw [(show lk6 s = none by unfold lk6; rw [hN1, hN2]; exact if_pos (by omega))]; rfl
      have e1 : ((lk6 s).getD (0, 0)).1 = 0 := by rw [(show lk6 s = none by unfold lk6; rw [hN1, hN2]; exact if_pos (by omega))]; rfl
      have e2 : ((lk6 s).getD (0, 0)).2 = 0 := by rw [(show lk6 s = none by unfold lk6; rw [hN1, hN2]; exact if_pos (by omega))]; rfl
      exact bodyPost_ret (v := .tuple #[.agg (av 3 (ls [.bool false, .int .u64 0, .int .u64 0])), .bool false]) (results_cell_tmp Tryz.results69 _ _ g1 24 (av 3 (ls [.bool false, .int .u64 0, .int .u64 0])) (0, 0) _ _ (by kernel_rfl) (by kernel_rfl) (M.get 0 rfl) Tryz.underlying24 rfl (by rw [av_size]; exact inz24)) (by kernel_rfl) ⟨by rw [e0, e1, e2], below_grown M.old⟩
     ·skip
      refine pl_val (want_on 6 false rfl 34 rfl (by kernel_rfl)) (some 40) rfl (.bool false) (fun w => Eq.trans (b := .ok (.value (.bool (decide (8 < (((l1.length : Nat) : Int) + ((l2.length : Nat) : Int)))))) w) (by kernel_rfl) (by rw [decide_eq_false (c4)])) ?_
      refine pV 41 (.bool false) ?_
      refine nT ?_
      refine wp_cond_false (by kernel_rfl) ?_
      refine wp_skip ?_
      refine au_then ?_
      refine sR ?_
      refine pV 43 (.slice (some ⟨g2, 0, none⟩) 8 8) ?_
      refine pV 44 (.slice (some ⟨gl1, 0, none⟩) l1.length cp1) ?_
      refine pl_copyC M (want_no rfl) (some 45) rfl 99 99 3 32 Tryz.underlying99 inz32 3 g2 8 94 (w16 (fun _ => 0)) rfl gl1 (w16 (tgi l1)) 0 8 8 0 l1.length cp1 l1.length (by show _ = min _ _; omega) (by omega) (fun w M j hj => by rw [Nat.zero_add]; exact hZ1.cell (M.get 1 rfl) (v16_at _ _ hj)) (fun _ => rfl) (w16 (cpl (fun _ => 0) 0 l1)) (fun j _ => cpl_w16 _ _ _ j) (fun _ => by kernel_rfl) fun u6 M => ?_
      refine nT ?_
      refine sR ?_
      refine pV 46 (.slice (some ⟨gl2, 0, none⟩) l2.length cp2) ?_
      refine pV 47 (.int .i64 ((l2.length : Nat) : Int)) ?_
      refine pH 48 (.int .i64 ((8 - l2.length : Nat) : Int)) (fun w => Eq.trans (b := .ok (.value (.int .i64 (cv .i64 (8 - ((l2.length : Nat) : Int))))) w) (by kernel_rfl) (by rw [cv_i64 (by omega) (by omega)]; congr 3; omega)) ?_
      refine pH 49 (.slice (some ⟨g2, (8 - l2.length), none⟩) (8 - (8 - l2.length)) (8 - (8 - l2.length))) (fun w => (run_slAL 94 32 Tryz.underlying94 inz32 _ _ rfl g2 (by kernel_rfl) .i64 (8 - l2.length) (by kernel_rfl) (by omega) w).trans (by rw [show so (8 - l2.length) = 8 - l2.length from if_neg (by have := List.length_pos_iff.2 he2; omega)])) ?_
      refine pV 50 (.slice (some ⟨gl2, 0, none⟩) l2.length cp2) ?_
      refine pl_copyC M (want_no rfl) (some 51) rfl 99 99 3 32 Tryz.underlying99 inz32 3 g2 8 94 (w16 (cpl (fun _ => 0) 0 l1)) rfl gl2 (w16 (tgi l2)) (8 - l2.length) (8 - (8 - l2.length)) (8 - (8 - l2.length)) 0 l2.length cp2 l2.length (by show _ = min _ _; omega) (by omega) (fun w M j hj => by rw [Nat.zero_add]; exact hZ2.cell (M.get 2 rfl) (v16_at _ _ hj)) (fun _ => rfl) (w16 (cpl (cpl (fun _ => 0) 0 l1) (8 - l2.length) l2)) (fun j _ => cpl_w16 _ _ _ j) (fun _ => by kernel_rfl) fun u7 M => ?_
      refine nT ?_
      refine sR ?_
      refine pAz M 52 3 8 (w16 (cpl (cpl (fun _ => 0) 0 l1) (8 - l2.length) l2)) ?_
      refine pC M 53 90 #[.agg (av 8 (w16 (cpl (cpl (fun _ => 0) 0 l1) (8 - l2.length) l2)))] (.agg (av 3 (ls [.bool true, .int .u64 (adH (cpl (cpl (fun _ => 0) 0 l1) (8 - l2.length) l2)), .int .u64 (adL (cpl (cpl (fun _ => 0) 0 l1) (8 - l2.length) l2))]))) (fun w M => c_addr (cpl (cpl (fun _ => 0) 0 l1) (8 - l2.length) l2) w M.laid) fun u8 M => ?_
      refine pl_put M (want_no rfl) rfl 24 _ _ rfl 0 g1 0 (by kernel_rfl) 3 24 (ls [.bool false, .int .u64 0, .int .u64 0]) rfl 3 (ls [.bool true, .int .u64 (adH (cpl (cpl (fun _ => 0) 0 l1) (8 - l2.length) l2)), .int .u64 (adL (cpl (cpl (fun _ => 0) 0 l1) (8 - l2.length) l2))]) (ls [.bool true, .int .u64 (adH (cpl (cpl (fun _ => 0) 0 l1) (8 - l2.length) l2)), .int .u64 (adL (cpl (cpl (fun _ => 0) 0 l1) (8 - l2.length) l2))]) (by kernel_rfl) inz24 (by decide) (one_ls _ rfl) (fun j hj => by rw [if_pos (by omega), Nat.sub_zero]) fun u9 M => ?_
      refine pV 3 (.bool true) ?_
      refine nT ?_
      refine wp_ret ?_
      have e0 : (lk6 s).isSome = true := by rw [(show lk6 s = some (adH (g6 l1 l2), adL (g6 l1 l2)) by unfold lk6; rw [hN1, hN2]; exact if_neg (by omega))]; rfl
      have e1 : ((lk6 s).getD (0, 0)).1 = (adH (cpl (cpl (fun _ => 0) 0 l1) (8 - l2.length) l2)) := by rw [(show lk6 s = some (adH (g6 l1 l2), adL (g6 l1 l2)) by unfold lk6; rw [hN1, hN2]; exact if_neg (by omega))]; show adH (g6 l1 l2) = _; unfold g6; rfl
      have e2 : ((lk6 s).getD (0, 0)).2 = (adL (cpl (cpl (fun _ => 0) 0 l1) (8 - l2.length) l2)) := by rw [(show lk6 s = some (adH (g6 l1 l2), adL (g6 l1 l2)) by unfold lk6; rw [hN1, hN2]; exact if_neg (by omega))]; show adL (g6 l1 l2) = _; unfold g6; rfl
      exact bodyPost_ret (v := .tuple #[.agg (av 3 (ls [.bool true, .int .u64 (adH (cpl (cpl (fun _ => 0) 0 l1) (8 - l2.length) l2)), .int .u64 (adL (cpl (cpl (fun _ => 0) 0 l1) (8 - l2.length) l2))])), .bool true]) (results_cell_tmp Tryz.results69 _ _ g1 24 (av 3 (ls [.bool true, .int .u64 (adH (cpl (cpl (fun _ => 0) 0 l1) (8 - l2.length) l2)), .int .u64 (adL (cpl (cpl (fun _ => 0) 0 l1) (8 - l2.length) l2))])) (0, 0) _ _ (by kernel_rfl) (by kernel_rfl) (M.get 0 rfl) Tryz.underlying24 rfl (by rw [av_size]; exact inz24)) (by kernel_rfl) ⟨by rw [e0, e1, e2], below_grown M.old⟩
end Go.Proofs.YtndonmdgplojnaaGreatDoor
