/- Part 7 of the walks and facts behind edwReckons_holds. -/
import Derived.Test.YtkeocdebfgcnnaaGreatCk6
/- The walk of EdwReckons. -/
namespace Go.Proofs.YtkeocdebfgcnnaaGreat
open Go.RowKit

def decQ (s : ByteArray) : Pt := if h : rdecB s = true then decPt s h else zeroP
theorem dec_both {s : ByteArray} (hc : decC s = 0) : Rep (decP s) (decQ s) ∧ RRep (rdecP s) (decQ s) := by
  have h32 : s.size = 32 := by
    refine Classical.byContradiction fun h => ?_
    unfold decC at hc
    rw [if_neg h] at hc
    cases hc
  have hB : rdecB s = true := by
    cases h : rdecB s
    · unfold decC at hc
      rw [if_pos h32, dec_eq, h] at hc
      cases hc
    · rfl
  have e : decQ s = decPt s hB := by
    unfold decQ
    rw [dif_pos hB]
  rw [e]
  exact ⟨dec_rep h32 hB, rdec_rep h32 hB⟩
theorem is_yes {p : P5} {q : RQ} {X : Pt} (hp : Rep p X) (hq : RRep q X) (w : World) : Calls Tryz.prog 10 #[.agg (arr 20 p.f), .agg (arr 64 q.f)] w fun r w' => r = .returned (.bool true) ∧ Below w.heap.size w w' := by
  have h := isF_gen p.f q.f (ptS X) (ptS X) w ⟨bytes_yes hp.ok hp.bytes, fun w => by
    have h := c_rbytes q w hq.ok
    rwa [hq.bytes] at h⟩
  simpa using h
def ofC (s : ByteArray) : Int := if s.size = 32 ∨ s.size = 64 then 0 else 2
def ofV (s : ByteArray) : Int := if s.size = 32 ∨ s.size = 64 then Ord.ofN s else 0
theorem c_of (s : ByteArray) (w : World) : Calls Tryz.prog 6 #[.string s] w fun r w' => r = .returned (.tuple #[.agg (arr 4 (Ord.d64 (ofV s))), .int .i64 (ofC s)]) ∧ Below w.heap.size w w' := by
  unfold ofV ofC
  by_cases h : s.size = 32 ∨ s.size = 64
  · rw [if_pos h, if_pos h]
    exact Ord.of_any s w (by omega) h
  · rw [if_neg h, if_neg h]
    exact Ord.of_no s w (by omega) (by omega)
theorem ofV_bd (s : ByteArray) : 0 ≤ ofV s ∧ ofV s < Ord.Lm := by
  unfold ofV
  split
  · exact Ord.ofN_bd s
  · decide
theorem c_rofO {s : ByteArray} (h : ofC s = 0) (w : World) : Calls Tryz.prog 9 #[.string s] w fun x w' => x = .returned (.agg (arr 16 (Ord.d16 (ofV s)))) ∧ Below w.heap.size w w' := by
  have hs : s.size = 32 ∨ s.size = 64 := by
    refine Classical.byContradiction fun hn => ?_
    unfold ofC at h
    rw [if_neg hn] at h
    cases h
  have h2 := Ord.rof_any s (8 * s.size) w (by omega) rfl
  rw [Ord.ov_all s s.size (8 * s.size) rfl] at h2
  unfold ofV Ord.ofN
  rw [if_pos hs]
  exact h2

structure reck1F (s t n : ByteArray)  : Prop where
  h0 : True

set_option maxRecDepth 100000 in
set_option maxHeartbeats 4000000 in
theorem reck1_gen (s t n : ByteArray)  (w : World) (_F : reck1F s t n ) (he : ¬ decC s = 0) :
    Calls Tryz.prog 3 #[.string s, .string t, .string n] w fun r w' => r = .returned (.bool true) ∧ Below w.heap.size w w' := by
  go_enter Tryz.func3, Tryz.ntmps3
  have M := Mem.start w
  refine sr ?_
  refine pv 6 (.bool false) ?_
  refine nt ?_
  refine sr ?_
  refine pv 19 (.string s) ?_
  refine pl_call M (want_no rfl) (some 20) rfl 5 #[.string s] (.tuple #[.agg (arr 20 (decP s).f), .int .i64 (decC s)]) (fun _ => by kernel_rfl) (dec_yes rfl rfl) ?_
  intro w1 M
  refine pv 18 (.tuple #[.agg (arr 20 (decP s).f), .int .i64 (decC s)]) ?_
  refine pv 21 (.agg (arr 20 (decP s).f)) ?_
  refine pv 22 (.int .i64 (decC s)) ?_
  refine pl_new M (want_no rfl) (some 7) rfl (.cells (arr 20 (fun _ => 0)) 27) (fun _ => by kernel_rfl) ?_
  intro g1 w2 M
  replace M : Mem w [⟨g1, .cells (arr 20 (fun _ => 0)) 27⟩] w2 := M
  refine pl_put M (want_no rfl) rfl 27 _ _ rfl 0 g1 (by kernel_rfl) 20 27 (fun _ => 0) (decP s).f rfl (by kernel_rfl) inz27 ?_
  intro w3 M
  replace M : Mem w [⟨g1, .cells (arr 20 (decP s).f) 27⟩] w3 := M
  refine pv 8 (.int .i64 (decC s)) ?_
  refine nt ?_
  refine sr ?_
  refine pv 24 (.string t) ?_
  refine pl_call M (want_no rfl) (some 25) rfl 5 #[.string t] (.tuple #[.agg (arr 20 (decP t).f), .int .i64 (decC t)]) (fun _ => by kernel_rfl) (dec_yes rfl rfl) ?_
  intro w4 M
  refine pv 23 (.tuple #[.agg (arr 20 (decP t).f), .int .i64 (decC t)]) ?_
  refine pv 26 (.agg (arr 20 (decP t).f)) ?_
  refine pv 27 (.int .i64 (decC t)) ?_
  refine pl_new M (want_no rfl) (some 9) rfl (.cells (arr 20 (fun _ => 0)) 27) (fun _ => by kernel_rfl) ?_
  intro g2 w5 M
  replace M : Mem w [⟨g1, .cells (arr 20 (decP s).f) 27⟩, ⟨g2, .cells (arr 20 (fun _ => 0)) 27⟩] w5 := M
  refine pl_put M (want_no rfl) rfl 27 _ _ rfl 1 g2 (by kernel_rfl) 20 27 (fun _ => 0) (decP t).f rfl (by kernel_rfl) inz27 ?_
  intro w6 M
  replace M : Mem w [⟨g1, .cells (arr 20 (decP s).f) 27⟩, ⟨g2, .cells (arr 20 (decP t).f) 27⟩] w6 := M
  refine pv 10 (.int .i64 (decC t)) ?_
  refine nt ?_
  refine sr ?_
  refine pv 29 (.string n) ?_
  refine pl_call M (want_no rfl) (some 30) rfl 6 #[.string n] (.tuple #[.agg (arr 4 (Ord.d64 (ofV n))), .int .i64 (ofC n)]) (fun _ => by kernel_rfl) (c_of n) ?_
  intro w7 M
  refine pv 28 (.tuple #[.agg (arr 4 (Ord.d64 (ofV n))), .int .i64 (ofC n)]) ?_
  refine pv 31 (.agg (arr 4 (Ord.d64 (ofV n)))) ?_
  refine pv 32 (.int .i64 (ofC n)) ?_
  refine pl_new M (want_no rfl) (some 11) rfl (.cells (arr 4 (fun _ => 0)) 34) (fun _ => by kernel_rfl) ?_
  intro g3 w8 M
  replace M : Mem w [⟨g1, .cells (arr 20 (decP s).f) 27⟩, ⟨g2, .cells (arr 20 (decP t).f) 27⟩, ⟨g3, .cells (arr 4 (fun _ => 0)) 34⟩] w8 := M
  refine pl_put M (want_no rfl) rfl 34 _ _ rfl 2 g3 (by kernel_rfl) 4 34 (fun _ => 0) (Ord.d64 (ofV n)) rfl (by kernel_rfl) inz34 ?_
  intro w9 M
  replace M : Mem w [⟨g1, .cells (arr 20 (decP s).f) 27⟩, ⟨g2, .cells (arr 20 (decP t).f) 27⟩, ⟨g3, .cells (arr 4 (Ord.d64 (ofV n))) 34⟩] w9 := M
  refine pv 12 (.int .i64 (ofC n)) ?_
  refine nt ?_
  refine wp_seq ?_
  refine sr ?_
  refine pv 33 (.int .i64 (decC s)) ?_
  refine pl_val (want_no rfl) (some 34) rfl (.bool true) (fun w => Eq.trans (b := .ok (.value (.bool (!(decide (decC s = 0))))) w) (by kernel_rfl) (by simp [he])) ?_
  refine pv 35 (.bool true) ?_
  refine pl_skip (want_off 2 false rfl 35 rfl (by kernel_rfl)) (some 36) rfl ?_
  refine pl_skip (want_off 2 false rfl 35 rfl (by kernel_rfl)) (some 37) rfl ?_
  refine pv 38 (.bool true) ?_
  refine pv 39 (.bool true) ?_
  refine pl_skip (want_off 6 false rfl 39 rfl (by kernel_rfl)) (some 40) rfl ?_
  refine pl_skip (want_off 6 false rfl 39 rfl (by kernel_rfl)) (some 41) rfl ?_
  refine pv 42 (.bool true) ?_
  refine nt ?_
  refine wp_cond_true (by kernel_rfl) ?_
  refine sr ?_
  refine pl_call M (want_no rfl) (some 43) rfl 7 #[] (.bool true) (fun _ => by kernel_rfl) alive_any ?_
  intro w10 M
  refine pv 6 (.bool true) ?_
  refine nt ?_
  refine wp_ret ?_
  refine au_then_ret ?_
  exact bodyPost_ret (v := .bool true) (results_tmp1 Tryz.results3 _ _ _ (by kernel_rfl)) (by kernel_rfl) ⟨rfl, M.old⟩

structure reck2F (s t n : ByteArray)  : Prop where
  h0 : True

set_option maxRecDepth 100000 in
set_option maxHeartbeats 4000000 in
theorem reck2_gen (s t n : ByteArray)  (w : World) (_F : reck2F s t n ) (he : decC s = 0) (hf : ¬ decC t = 0) :
    Calls Tryz.prog 3 #[.string s, .string t, .string n] w fun r w' => r = .returned (.bool true) ∧ Below w.heap.size w w' := by
  go_enter Tryz.func3, Tryz.ntmps3
  have M := Mem.start w
  refine sr ?_
  refine pv 6 (.bool false) ?_
  refine nt ?_
  refine sr ?_
  refine pv 19 (.string s) ?_
  refine pl_call M (want_no rfl) (some 20) rfl 5 #[.string s] (.tuple #[.agg (arr 20 (decP s).f), .int .i64 (decC s)]) (fun _ => by kernel_rfl) (dec_yes rfl rfl) ?_
  intro w1 M
  refine pv 18 (.tuple #[.agg (arr 20 (decP s).f), .int .i64 (decC s)]) ?_
  refine pv 21 (.agg (arr 20 (decP s).f)) ?_
  refine pv 22 (.int .i64 (decC s)) ?_
  refine pl_new M (want_no rfl) (some 7) rfl (.cells (arr 20 (fun _ => 0)) 27) (fun _ => by kernel_rfl) ?_
  intro g1 w2 M
  replace M : Mem w [⟨g1, .cells (arr 20 (fun _ => 0)) 27⟩] w2 := M
  refine pl_put M (want_no rfl) rfl 27 _ _ rfl 0 g1 (by kernel_rfl) 20 27 (fun _ => 0) (decP s).f rfl (by kernel_rfl) inz27 ?_
  intro w3 M
  replace M : Mem w [⟨g1, .cells (arr 20 (decP s).f) 27⟩] w3 := M
  refine pv 8 (.int .i64 (decC s)) ?_
  refine nt ?_
  refine sr ?_
  refine pv 24 (.string t) ?_
  refine pl_call M (want_no rfl) (some 25) rfl 5 #[.string t] (.tuple #[.agg (arr 20 (decP t).f), .int .i64 (decC t)]) (fun _ => by kernel_rfl) (dec_yes rfl rfl) ?_
  intro w4 M
  refine pv 23 (.tuple #[.agg (arr 20 (decP t).f), .int .i64 (decC t)]) ?_
  refine pv 26 (.agg (arr 20 (decP t).f)) ?_
  refine pv 27 (.int .i64 (decC t)) ?_
  refine pl_new M (want_no rfl) (some 9) rfl (.cells (arr 20 (fun _ => 0)) 27) (fun _ => by kernel_rfl) ?_
  intro g2 w5 M
  replace M : Mem w [⟨g1, .cells (arr 20 (decP s).f) 27⟩, ⟨g2, .cells (arr 20 (fun _ => 0)) 27⟩] w5 := M
  refine pl_put M (want_no rfl) rfl 27 _ _ rfl 1 g2 (by kernel_rfl) 20 27 (fun _ => 0) (decP t).f rfl (by kernel_rfl) inz27 ?_
  intro w6 M
  replace M : Mem w [⟨g1, .cells (arr 20 (decP s).f) 27⟩, ⟨g2, .cells (arr 20 (decP t).f) 27⟩] w6 := M
  refine pv 10 (.int .i64 (decC t)) ?_
  refine nt ?_
  refine sr ?_
  refine pv 29 (.string n) ?_
  refine pl_call M (want_no rfl) (some 30) rfl 6 #[.string n] (.tuple #[.agg (arr 4 (Ord.d64 (ofV n))), .int .i64 (ofC n)]) (fun _ => by kernel_rfl) (c_of n) ?_
  intro w7 M
  refine pv 28 (.tuple #[.agg (arr 4 (Ord.d64 (ofV n))), .int .i64 (ofC n)]) ?_
  refine pv 31 (.agg (arr 4 (Ord.d64 (ofV n)))) ?_
  refine pv 32 (.int .i64 (ofC n)) ?_
  refine pl_new M (want_no rfl) (some 11) rfl (.cells (arr 4 (fun _ => 0)) 34) (fun _ => by kernel_rfl) ?_
  intro g3 w8 M
  replace M : Mem w [⟨g1, .cells (arr 20 (decP s).f) 27⟩, ⟨g2, .cells (arr 20 (decP t).f) 27⟩, ⟨g3, .cells (arr 4 (fun _ => 0)) 34⟩] w8 := M
  refine pl_put M (want_no rfl) rfl 34 _ _ rfl 2 g3 (by kernel_rfl) 4 34 (fun _ => 0) (Ord.d64 (ofV n)) rfl (by kernel_rfl) inz34 ?_
  intro w9 M
  replace M : Mem w [⟨g1, .cells (arr 20 (decP s).f) 27⟩, ⟨g2, .cells (arr 20 (decP t).f) 27⟩, ⟨g3, .cells (arr 4 (Ord.d64 (ofV n))) 34⟩] w9 := M
  refine pv 12 (.int .i64 (ofC n)) ?_
  refine nt ?_
  refine wp_seq ?_
  refine sr ?_
  refine pv 33 (.int .i64 (decC s)) ?_
  refine pl_val (want_no rfl) (some 34) rfl (.bool false) (fun w => Eq.trans (b := .ok (.value (.bool (!(decide (decC s = 0))))) w) (by kernel_rfl) (by simp [he])) ?_
  refine pv 35 (.bool false) ?_
  refine pl_val (want_on 2 false rfl 35 rfl (by kernel_rfl)) (some 36) rfl (.int .i64 (decC t)) (fun _ => by kernel_rfl) ?_
  refine pl_val (want_on 2 false rfl 35 rfl (by kernel_rfl)) (some 37) rfl (.bool true) (fun w => Eq.trans (b := .ok (.value (.bool (!(decide (decC t = 0))))) w) (by kernel_rfl) (by simp [hf])) ?_
  refine pv 38 (.bool true) ?_
  refine pv 39 (.bool true) ?_
  refine pl_skip (want_off 6 false rfl 39 rfl (by kernel_rfl)) (some 40) rfl ?_
  refine pl_skip (want_off 6 false rfl 39 rfl (by kernel_rfl)) (some 41) rfl ?_
  refine pv 42 (.bool true) ?_
  refine nt ?_
  refine wp_cond_true (by kernel_rfl) ?_
  refine sr ?_
  refine pl_call M (want_no rfl) (some 43) rfl 7 #[] (.bool true) (fun _ => by kernel_rfl) alive_any ?_
  intro w10 M
  refine pv 6 (.bool true) ?_
  refine nt ?_
  refine wp_ret ?_
  refine au_then_ret ?_
  exact bodyPost_ret (v := .bool true) (results_tmp1 Tryz.results3 _ _ _ (by kernel_rfl)) (by kernel_rfl) ⟨rfl, M.old⟩

structure reck3F (s t n : ByteArray)  : Prop where
  h0 : True

set_option maxRecDepth 100000 in
set_option maxHeartbeats 4000000 in
theorem reck3_gen (s t n : ByteArray)  (w : World) (_F : reck3F s t n ) (he : decC s = 0) (hf : decC t = 0) (hg : ¬ ofC n = 0) :
    Calls Tryz.prog 3 #[.string s, .string t, .string n] w fun r w' => r = .returned (.bool true) ∧ Below w.heap.size w w' := by
  go_enter Tryz.func3, Tryz.ntmps3
  have M := Mem.start w
  refine sr ?_
  refine pv 6 (.bool false) ?_
  refine nt ?_
  refine sr ?_
  refine pv 19 (.string s) ?_
  refine pl_call M (want_no rfl) (some 20) rfl 5 #[.string s] (.tuple #[.agg (arr 20 (decP s).f), .int .i64 (decC s)]) (fun _ => by kernel_rfl) (dec_yes rfl rfl) ?_
  intro w1 M
  refine pv 18 (.tuple #[.agg (arr 20 (decP s).f), .int .i64 (decC s)]) ?_
  refine pv 21 (.agg (arr 20 (decP s).f)) ?_
  refine pv 22 (.int .i64 (decC s)) ?_
  refine pl_new M (want_no rfl) (some 7) rfl (.cells (arr 20 (fun _ => 0)) 27) (fun _ => by kernel_rfl) ?_
  intro g1 w2 M
  replace M : Mem w [⟨g1, .cells (arr 20 (fun _ => 0)) 27⟩] w2 := M
  refine pl_put M (want_no rfl) rfl 27 _ _ rfl 0 g1 (by kernel_rfl) 20 27 (fun _ => 0) (decP s).f rfl (by kernel_rfl) inz27 ?_
  intro w3 M
  replace M : Mem w [⟨g1, .cells (arr 20 (decP s).f) 27⟩] w3 := M
  refine pv 8 (.int .i64 (decC s)) ?_
  refine nt ?_
  refine sr ?_
  refine pv 24 (.string t) ?_
  refine pl_call M (want_no rfl) (some 25) rfl 5 #[.string t] (.tuple #[.agg (arr 20 (decP t).f), .int .i64 (decC t)]) (fun _ => by kernel_rfl) (dec_yes rfl rfl) ?_
  intro w4 M
  refine pv 23 (.tuple #[.agg (arr 20 (decP t).f), .int .i64 (decC t)]) ?_
  refine pv 26 (.agg (arr 20 (decP t).f)) ?_
  refine pv 27 (.int .i64 (decC t)) ?_
  refine pl_new M (want_no rfl) (some 9) rfl (.cells (arr 20 (fun _ => 0)) 27) (fun _ => by kernel_rfl) ?_
  intro g2 w5 M
  replace M : Mem w [⟨g1, .cells (arr 20 (decP s).f) 27⟩, ⟨g2, .cells (arr 20 (fun _ => 0)) 27⟩] w5 := M
  refine pl_put M (want_no rfl) rfl 27 _ _ rfl 1 g2 (by kernel_rfl) 20 27 (fun _ => 0) (decP t).f rfl (by kernel_rfl) inz27 ?_
  intro w6 M
  replace M : Mem w [⟨g1, .cells (arr 20 (decP s).f) 27⟩, ⟨g2, .cells (arr 20 (decP t).f) 27⟩] w6 := M
  refine pv 10 (.int .i64 (decC t)) ?_
  refine nt ?_
  refine sr ?_
  refine pv 29 (.string n) ?_
  refine pl_call M (want_no rfl) (some 30) rfl 6 #[.string n] (.tuple #[.agg (arr 4 (Ord.d64 (ofV n))), .int .i64 (ofC n)]) (fun _ => by kernel_rfl) (c_of n) ?_
  intro w7 M
  refine pv 28 (.tuple #[.agg (arr 4 (Ord.d64 (ofV n))), .int .i64 (ofC n)]) ?_
  refine pv 31 (.agg (arr 4 (Ord.d64 (ofV n)))) ?_
  refine pv 32 (.int .i64 (ofC n)) ?_
  refine pl_new M (want_no rfl) (some 11) rfl (.cells (arr 4 (fun _ => 0)) 34) (fun _ => by kernel_rfl) ?_
  intro g3 w8 M
  replace M : Mem w [⟨g1, .cells (arr 20 (decP s).f) 27⟩, ⟨g2, .cells (arr 20 (decP t).f) 27⟩, ⟨g3, .cells (arr 4 (fun _ => 0)) 34⟩] w8 := M
  refine pl_put M (want_no rfl) rfl 34 _ _ rfl 2 g3 (by kernel_rfl) 4 34 (fun _ => 0) (Ord.d64 (ofV n)) rfl (by kernel_rfl) inz34 ?_
  intro w9 M
  replace M : Mem w [⟨g1, .cells (arr 20 (decP s).f) 27⟩, ⟨g2, .cells (arr 20 (decP t).f) 27⟩, ⟨g3, .cells (arr 4 (Ord.d64 (ofV n))) 34⟩] w9 := M
  refine pv 12 (.int .i64 (ofC n)) ?_
  refine nt ?_
  refine wp_seq ?_
  refine sr ?_
  refine pv 33 (.int .i64 (decC s)) ?_
  refine pl_val (want_no rfl) (some 34) rfl (.bool false) (fun w => Eq.trans (b := .ok (.value (.bool (!(decide (decC s = 0))))) w) (by kernel_rfl) (by simp [he])) ?_
  refine pv 35 (.bool false) ?_
  refine pl_val (want_on 2 false rfl 35 rfl (by kernel_rfl)) (some 36) rfl (.int .i64 (decC t)) (fun _ => by kernel_rfl) ?_
  refine pl_val (want_on 2 false rfl 35 rfl (by kernel_rfl)) (some 37) rfl (.bool false) (fun w => Eq.trans (b := .ok (.value (.bool (!(decide (decC t = 0))))) w) (by kernel_rfl) (by simp [hf])) ?_
  refine pv 38 (.bool false) ?_
  refine pv 39 (.bool false) ?_
  refine pl_val (want_on 6 false rfl 39 rfl (by kernel_rfl)) (some 40) rfl (.int .i64 (ofC n)) (fun _ => by kernel_rfl) ?_
  refine pl_val (want_on 6 false rfl 39 rfl (by kernel_rfl)) (some 41) rfl (.bool true) (fun w => Eq.trans (b := .ok (.value (.bool (!(decide (ofC n = 0))))) w) (by kernel_rfl) (by simp [hg])) ?_
  refine pv 42 (.bool true) ?_
  refine nt ?_
  refine wp_cond_true (by kernel_rfl) ?_
  refine sr ?_
  refine pl_call M (want_no rfl) (some 43) rfl 7 #[] (.bool true) (fun _ => by kernel_rfl) alive_any ?_
  intro w10 M
  refine pv 6 (.bool true) ?_
  refine nt ?_
  refine wp_ret ?_
  refine au_then_ret ?_
  exact bodyPost_ret (v := .bool true) (results_tmp1 Tryz.results3 _ _ _ (by kernel_rfl)) (by kernel_rfl) ⟨rfl, M.old⟩

structure reck4F (s t n : ByteArray)  : Prop where
  h0 : True

set_option maxRecDepth 100000 in
set_option maxHeartbeats 4000000 in
theorem reck4_gen (s t n : ByteArray)  (w : World) (_F : reck4F s t n ) (he : decC s = 0) (hf : decC t = 0) (hg : ofC n = 0) :
    Calls Tryz.prog 3 #[.string s, .string t, .string n] w fun r w' => r = .returned (.bool true) ∧ Below w.heap.size w w' := by
  go_enter Tryz.func3, Tryz.ntmps3
  obtain ⟨hp, ha⟩ := dec_both he
  obtain ⟨hq, hb⟩ := dec_both hf
  have hsm : (sameV (decP s) (decP t) == rsameV (rdecP s) (rdecP t)) = true := by
    rw [beq_iff_eq, Bool.eq_iff_iff, hp.same hq, ha.same hb]
  have hrm : RRep (racc (rdecP s) (Ord.d16 (ofV n)) 256) ((decQ s).mul (ofV n).toNat) := by
    have hN := ofV_bd n
    have hL : Ord.Lm < 2 ^ 256 := by decide
    have h := ha.rmul (N := ofV n) hN.1 (by omega) 256 (Nat.le_refl _)
    rw [Nat.sub_self, Int.pow_zero, Int.ediv_one] at h
    exact h
  have M := Mem.start w
  refine sr ?_
  refine pv 6 (.bool false) ?_
  refine nt ?_
  refine sr ?_
  refine pv 19 (.string s) ?_
  refine pl_call M (want_no rfl) (some 20) rfl 5 #[.string s] (.tuple #[.agg (arr 20 (decP s).f), .int .i64 (decC s)]) (fun _ => by kernel_rfl) (dec_yes rfl rfl) ?_
  intro w1 M
  refine pv 18 (.tuple #[.agg (arr 20 (decP s).f), .int .i64 (decC s)]) ?_
  refine pv 21 (.agg (arr 20 (decP s).f)) ?_
  refine pv 22 (.int .i64 (decC s)) ?_
  refine pl_new M (want_no rfl) (some 7) rfl (.cells (arr 20 (fun _ => 0)) 27) (fun _ => by kernel_rfl) ?_
  intro g1 w2 M
  replace M : Mem w [⟨g1, .cells (arr 20 (fun _ => 0)) 27⟩] w2 := M
  refine pl_put M (want_no rfl) rfl 27 _ _ rfl 0 g1 (by kernel_rfl) 20 27 (fun _ => 0) (decP s).f rfl (by kernel_rfl) inz27 ?_
  intro w3 M
  replace M : Mem w [⟨g1, .cells (arr 20 (decP s).f) 27⟩] w3 := M
  refine pv 8 (.int .i64 (decC s)) ?_
  refine nt ?_
  refine sr ?_
  refine pv 24 (.string t) ?_
  refine pl_call M (want_no rfl) (some 25) rfl 5 #[.string t] (.tuple #[.agg (arr 20 (decP t).f), .int .i64 (decC t)]) (fun _ => by kernel_rfl) (dec_yes rfl rfl) ?_
  intro w4 M
  refine pv 23 (.tuple #[.agg (arr 20 (decP t).f), .int .i64 (decC t)]) ?_
  refine pv 26 (.agg (arr 20 (decP t).f)) ?_
  refine pv 27 (.int .i64 (decC t)) ?_
  refine pl_new M (want_no rfl) (some 9) rfl (.cells (arr 20 (fun _ => 0)) 27) (fun _ => by kernel_rfl) ?_
  intro g2 w5 M
  replace M : Mem w [⟨g1, .cells (arr 20 (decP s).f) 27⟩, ⟨g2, .cells (arr 20 (fun _ => 0)) 27⟩] w5 := M
  refine pl_put M (want_no rfl) rfl 27 _ _ rfl 1 g2 (by kernel_rfl) 20 27 (fun _ => 0) (decP t).f rfl (by kernel_rfl) inz27 ?_
  intro w6 M
  replace M : Mem w [⟨g1, .cells (arr 20 (decP s).f) 27⟩, ⟨g2, .cells (arr 20 (decP t).f) 27⟩] w6 := M
  refine pv 10 (.int .i64 (decC t)) ?_
  refine nt ?_
  refine sr ?_
  refine pv 29 (.string n) ?_
  refine pl_call M (want_no rfl) (some 30) rfl 6 #[.string n] (.tuple #[.agg (arr 4 (Ord.d64 (ofV n))), .int .i64 (ofC n)]) (fun _ => by kernel_rfl) (c_of n) ?_
  intro w7 M
  refine pv 28 (.tuple #[.agg (arr 4 (Ord.d64 (ofV n))), .int .i64 (ofC n)]) ?_
  refine pv 31 (.agg (arr 4 (Ord.d64 (ofV n)))) ?_
  refine pv 32 (.int .i64 (ofC n)) ?_
  refine pl_new M (want_no rfl) (some 11) rfl (.cells (arr 4 (fun _ => 0)) 34) (fun _ => by kernel_rfl) ?_
  intro g3 w8 M
  replace M : Mem w [⟨g1, .cells (arr 20 (decP s).f) 27⟩, ⟨g2, .cells (arr 20 (decP t).f) 27⟩, ⟨g3, .cells (arr 4 (fun _ => 0)) 34⟩] w8 := M
  refine pl_put M (want_no rfl) rfl 34 _ _ rfl 2 g3 (by kernel_rfl) 4 34 (fun _ => 0) (Ord.d64 (ofV n)) rfl (by kernel_rfl) inz34 ?_
  intro w9 M
  replace M : Mem w [⟨g1, .cells (arr 20 (decP s).f) 27⟩, ⟨g2, .cells (arr 20 (decP t).f) 27⟩, ⟨g3, .cells (arr 4 (Ord.d64 (ofV n))) 34⟩] w9 := M
  refine pv 12 (.int .i64 (ofC n)) ?_
  refine nt ?_
  refine wp_seq ?_
  refine sr ?_
  refine pv 33 (.int .i64 (decC s)) ?_
  refine pl_val (want_no rfl) (some 34) rfl (.bool false) (fun w => Eq.trans (b := .ok (.value (.bool (!(decide (decC s = 0))))) w) (by kernel_rfl) (by simp [he])) ?_
  refine pv 35 (.bool false) ?_
  refine pl_val (want_on 2 false rfl 35 rfl (by kernel_rfl)) (some 36) rfl (.int .i64 (decC t)) (fun _ => by kernel_rfl) ?_
  refine pl_val (want_on 2 false rfl 35 rfl (by kernel_rfl)) (some 37) rfl (.bool false) (fun w => Eq.trans (b := .ok (.value (.bool (!(decide (decC t = 0))))) w) (by kernel_rfl) (by simp [hf])) ?_
  refine pv 38 (.bool false) ?_
  refine pv 39 (.bool false) ?_
  refine pl_val (want_on 6 false rfl 39 rfl (by kernel_rfl)) (some 40) rfl (.int .i64 (ofC n)) (fun _ => by kernel_rfl) ?_
  refine pl_val (want_on 6 false rfl 39 rfl (by kernel_rfl)) (some 41) rfl (.bool false) (fun w => Eq.trans (b := .ok (.value (.bool (!(decide (ofC n = 0))))) w) (by kernel_rfl) (by simp [hg])) ?_
  refine pv 42 (.bool false) ?_
  refine nt ?_
  refine wp_cond_false (by kernel_rfl) ?_
  refine wp_skip ?_
  refine au_then ?_
  refine sr ?_
  refine pv 45 (.string s) ?_
  refine pl_call M (want_no rfl) (some 46) rfl 8 #[.string s] (.tuple #[.agg (arr 64 (rdecP s).f), .int .i64 (rdecC s)]) (fun _ => by kernel_rfl) (c_rdec s) ?_
  intro w10 M
  refine pv 44 (.tuple #[.agg (arr 64 (rdecP s).f), .int .i64 (rdecC s)]) ?_
  refine pv 47 (.agg (arr 64 (rdecP s).f)) ?_
  refine pv 48 (.int .i64 (rdecC s)) ?_
  refine pl_new M (want_no rfl) (some 13) rfl (.cells (arr 64 (fun _ => 0)) 41) (fun _ => by kernel_rfl) ?_
  intro g4 w11 M
  replace M : Mem w [⟨g1, .cells (arr 20 (decP s).f) 27⟩, ⟨g2, .cells (arr 20 (decP t).f) 27⟩, ⟨g3, .cells (arr 4 (Ord.d64 (ofV n))) 34⟩, ⟨g4, .cells (arr 64 (fun _ => 0)) 41⟩] w11 := M
  refine pl_put M (want_no rfl) rfl 41 _ _ rfl 3 g4 (by kernel_rfl) 64 41 (fun _ => 0) (rdecP s).f rfl (by kernel_rfl) inz41 ?_
  intro w12 M
  replace M : Mem w [⟨g1, .cells (arr 20 (decP s).f) 27⟩, ⟨g2, .cells (arr 20 (decP t).f) 27⟩, ⟨g3, .cells (arr 4 (Ord.d64 (ofV n))) 34⟩, ⟨g4, .cells (arr 64 (rdecP s).f) 41⟩] w12 := M
  refine pv 14 (.int .i64 (rdecC s)) ?_
  refine nt ?_
  refine sr ?_
  refine pv 50 (.string t) ?_
  refine pl_call M (want_no rfl) (some 51) rfl 8 #[.string t] (.tuple #[.agg (arr 64 (rdecP t).f), .int .i64 (rdecC t)]) (fun _ => by kernel_rfl) (c_rdec t) ?_
  intro w13 M
  refine pv 49 (.tuple #[.agg (arr 64 (rdecP t).f), .int .i64 (rdecC t)]) ?_
  refine pv 52 (.agg (arr 64 (rdecP t).f)) ?_
  refine pv 53 (.int .i64 (rdecC t)) ?_
  refine pl_new M (want_no rfl) (some 15) rfl (.cells (arr 64 (fun _ => 0)) 41) (fun _ => by kernel_rfl) ?_
  intro g5 w14 M
  replace M : Mem w [⟨g1, .cells (arr 20 (decP s).f) 27⟩, ⟨g2, .cells (arr 20 (decP t).f) 27⟩, ⟨g3, .cells (arr 4 (Ord.d64 (ofV n))) 34⟩, ⟨g4, .cells (arr 64 (rdecP s).f) 41⟩, ⟨g5, .cells (arr 64 (fun _ => 0)) 41⟩] w14 := M
  refine pl_put M (want_no rfl) rfl 41 _ _ rfl 4 g5 (by kernel_rfl) 64 41 (fun _ => 0) (rdecP t).f rfl (by kernel_rfl) inz41 ?_
  intro w15 M
  replace M : Mem w [⟨g1, .cells (arr 20 (decP s).f) 27⟩, ⟨g2, .cells (arr 20 (decP t).f) 27⟩, ⟨g3, .cells (arr 4 (Ord.d64 (ofV n))) 34⟩, ⟨g4, .cells (arr 64 (rdecP s).f) 41⟩, ⟨g5, .cells (arr 64 (rdecP t).f) 41⟩] w15 := M
  refine pv 16 (.int .i64 (rdecC t)) ?_
  refine nt ?_
  refine sr ?_
  refine pv 54 (.string n) ?_
  refine pl_call M (want_no rfl) (some 55) rfl 9 #[.string n] (.agg (arr 16 (Ord.d16 (ofV n)))) (fun _ => by kernel_rfl) (c_rofO hg) ?_
  intro w16 M
  refine pl_new M (want_no rfl) (some 17) rfl (.cells (arr 16 (fun _ => 0)) 39) (fun _ => by kernel_rfl) ?_
  intro g6 w17 M
  replace M : Mem w [⟨g1, .cells (arr 20 (decP s).f) 27⟩, ⟨g2, .cells (arr 20 (decP t).f) 27⟩, ⟨g3, .cells (arr 4 (Ord.d64 (ofV n))) 34⟩, ⟨g4, .cells (arr 64 (rdecP s).f) 41⟩, ⟨g5, .cells (arr 64 (rdecP t).f) 41⟩, ⟨g6, .cells (arr 16 (fun _ => 0)) 39⟩] w17 := M
  refine pl_put M (want_no rfl) rfl 39 _ _ rfl 5 g6 (by kernel_rfl) 16 39 (fun _ => 0) (Ord.d16 (ofV n)) rfl (by kernel_rfl) inz39 ?_
  intro w18 M
  replace M : Mem w [⟨g1, .cells (arr 20 (decP s).f) 27⟩, ⟨g2, .cells (arr 20 (decP t).f) 27⟩, ⟨g3, .cells (arr 4 (Ord.d64 (ofV n))) 34⟩, ⟨g4, .cells (arr 64 (rdecP s).f) 41⟩, ⟨g5, .cells (arr 64 (rdecP t).f) 41⟩, ⟨g6, .cells (arr 16 (Ord.d16 (ofV n))) 39⟩] w18 := M
  refine nt ?_
  refine wp_seq ?_
  refine rg_tail M 35 (by kernel_rfl) (by kernel_rfl) ?_
  simp only [List.take_succ_cons, List.take_zero]
  refine k_load M (want_no rfl) (some 56) rfl 27 _ rfl 0 g1 0 (by kernel_rfl) 20 27 (decP s).f rfl 20 (decP s).f (Part.all _ _) (by decide) _ Tryz.underlying27 rfl inz27 ?_
  refine k_load M (want_no rfl) (some 57) rfl 27 _ rfl 1 g2 0 (by kernel_rfl) 20 27 (decP t).f rfl 20 (decP t).f (Part.all _ _) (by decide) _ Tryz.underlying27 rfl inz27 ?_
  refine k_call (want_no rfl) (some 58) rfl 11 #[.agg (arr 20 (decP s).f), .agg (arr 20 (decP t).f)] (.agg (arr 20 (addV (decP s) (decP t)).f)) (fun _ => by kernel_rfl) (fun w => c_add (decP s) (decP t) w hp.ok hq.ok) ?_
  refine k_load M (want_no rfl) (some 59) rfl 41 _ rfl 3 g4 0 (by kernel_rfl) 64 41 (rdecP s).f rfl 64 (rdecP s).f (Part.all _ _) (by decide) _ Tryz.underlying41 rfl inz41 ?_
  refine k_load M (want_no rfl) (some 60) rfl 41 _ rfl 4 g5 0 (by kernel_rfl) 64 41 (rdecP t).f rfl 64 (rdecP t).f (Part.all _ _) (by decide) _ Tryz.underlying41 rfl inz41 ?_
  refine k_call (want_no rfl) (some 61) rfl 12 #[.agg (arr 64 (rdecP s).f), .agg (arr 64 (rdecP t).f)] (.agg (arr 64 (raddV (rdecP s) (rdecP t)).f)) (fun _ => by kernel_rfl) (fun w => c_radd (rdecP s) (rdecP t) w ha.ok hb.ok) ?_
  refine k_call (want_no rfl) (some 62) rfl 10 #[.agg (arr 20 (addV (decP s) (decP t)).f), .agg (arr 64 (raddV (rdecP s) (rdecP t)).f)] (.bool true) (fun _ => by kernel_rfl) (is_yes (hp.add hq) (ha.add hb)) ?_
  refine kv 63 (.bool true) ?_
  refine k_load M (want_on 7 true rfl 63 rfl (by kernel_rfl)) (some 64) rfl 27 _ rfl 0 g1 0 (by kernel_rfl) 20 27 (decP s).f rfl 20 (decP s).f (Part.all _ _) (by decide) _ Tryz.underlying27 rfl inz27 ?_
  refine k_call (want_on 7 true rfl 63 rfl (by kernel_rfl)) (some 65) rfl 13 #[.agg (arr 20 (decP s).f)] (.agg (arr 20 (negV (decP s)).f)) (fun _ => by kernel_rfl) (fun w => c_neg (decP s) w hp.ok) ?_
  refine k_load M (want_on 7 true rfl 63 rfl (by kernel_rfl)) (some 66) rfl 41 _ rfl 3 g4 0 (by kernel_rfl) 64 41 (rdecP s).f rfl 64 (rdecP s).f (Part.all _ _) (by decide) _ Tryz.underlying41 rfl inz41 ?_
  refine k_call (want_on 7 true rfl 63 rfl (by kernel_rfl)) (some 67) rfl 14 #[.agg (arr 64 (rdecP s).f)] (.agg (arr 64 (rnegV (rdecP s)).f)) (fun _ => by kernel_rfl) (fun w => c_rneg (rdecP s) w ha.ok) ?_
  refine k_call (want_on 7 true rfl 63 rfl (by kernel_rfl)) (some 68) rfl 10 #[.agg (arr 20 (negV (decP s)).f), .agg (arr 64 (rnegV (rdecP s)).f)] (.bool true) (fun _ => by kernel_rfl) (is_yes hp.neg ha.neg) ?_
  refine kv 69 (.bool true) ?_
  refine kv 70 (.bool true) ?_
  refine k_load M (want_on 14 true rfl 70 rfl (by kernel_rfl)) (some 71) rfl 27 _ rfl 0 g1 0 (by kernel_rfl) 20 27 (decP s).f rfl 20 (decP s).f (Part.all _ _) (by decide) _ Tryz.underlying27 rfl inz27 ?_
  refine k_load M (want_on 14 true rfl 70 rfl (by kernel_rfl)) (some 72) rfl 34 _ rfl 2 g3 0 (by kernel_rfl) 4 34 (Ord.d64 (ofV n)) rfl 4 (Ord.d64 (ofV n)) (Part.all _ _) (by decide) _ Tryz.underlying34 rfl inz34 ?_
  refine k_call (want_on 14 true rfl 70 rfl (by kernel_rfl)) (some 73) rfl 15 #[.agg (arr 20 (decP s).f), .agg (arr 4 (Ord.d64 (ofV n)))] (.agg (arr 20 (mulV (decP s) (ofV n)).f)) (fun _ => by kernel_rfl) (fun w => c_mul hp (ofV n) w) ?_
  refine k_load M (want_on 14 true rfl 70 rfl (by kernel_rfl)) (some 74) rfl 41 _ rfl 3 g4 0 (by kernel_rfl) 64 41 (rdecP s).f rfl 64 (rdecP s).f (Part.all _ _) (by decide) _ Tryz.underlying41 rfl inz41 ?_
  refine k_load M (want_on 14 true rfl 70 rfl (by kernel_rfl)) (some 75) rfl 39 _ rfl 5 g6 0 (by kernel_rfl) 16 39 (Ord.d16 (ofV n)) rfl 16 (Ord.d16 (ofV n)) (Part.all _ _) (by decide) _ Tryz.underlying39 rfl inz39 ?_
  refine k_call (want_on 14 true rfl 70 rfl (by kernel_rfl)) (some 76) rfl 16 #[.agg (arr 64 (rdecP s).f), .agg (arr 16 (Ord.d16 (ofV n)))] (.agg (arr 64 (racc (rdecP s) (Ord.d16 (ofV n)) 256).f)) (fun _ => by kernel_rfl) (fun w => c_rmul (rdecP s) (Ord.d16 (ofV n)) w ha.ok (Ord.d16_dig _ 16)) ?_
  refine k_call (want_on 14 true rfl 70 rfl (by kernel_rfl)) (some 77) rfl 10 #[.agg (arr 20 (mulV (decP s) (ofV n)).f), .agg (arr 64 (racc (rdecP s) (Ord.d16 (ofV n)) 256).f)] (.bool true) (fun _ => by kernel_rfl) (is_yes (hp.mul (ofV_bd n)) hrm) ?_
  refine kv 78 (.bool true) ?_
  refine kv 79 (.bool true) ?_
  refine k_load M (want_on 23 true rfl 79 rfl (by kernel_rfl)) (some 80) rfl 27 _ rfl 0 g1 0 (by kernel_rfl) 20 27 (decP s).f rfl 20 (decP s).f (Part.all _ _) (by decide) _ Tryz.underlying27 rfl inz27 ?_
  refine k_load M (want_on 23 true rfl 79 rfl (by kernel_rfl)) (some 81) rfl 27 _ rfl 1 g2 0 (by kernel_rfl) 20 27 (decP t).f rfl 20 (decP t).f (Part.all _ _) (by decide) _ Tryz.underlying27 rfl inz27 ?_
  refine k_call (want_on 23 true rfl 79 rfl (by kernel_rfl)) (some 82) rfl 17 #[.agg (arr 20 (decP s).f), .agg (arr 20 (decP t).f)] (.bool (sameV (decP s) (decP t))) (fun _ => by kernel_rfl) (fun w => c_same (decP s) (decP t) w hp.ok hq.ok) ?_
  refine k_load M (want_on 23 true rfl 79 rfl (by kernel_rfl)) (some 83) rfl 41 _ rfl 3 g4 0 (by kernel_rfl) 64 41 (rdecP s).f rfl 64 (rdecP s).f (Part.all _ _) (by decide) _ Tryz.underlying41 rfl inz41 ?_
  refine k_load M (want_on 23 true rfl 79 rfl (by kernel_rfl)) (some 84) rfl 41 _ rfl 4 g5 0 (by kernel_rfl) 64 41 (rdecP t).f rfl 64 (rdecP t).f (Part.all _ _) (by decide) _ Tryz.underlying41 rfl inz41 ?_
  refine k_call (want_on 23 true rfl 79 rfl (by kernel_rfl)) (some 85) rfl 18 #[.agg (arr 64 (rdecP s).f), .agg (arr 64 (rdecP t).f)] (.bool (rsameV (rdecP s) (rdecP t))) (fun _ => by kernel_rfl) (fun w => c_rsame (rdecP s) (rdecP t) w ha.ok hb.ok) ?_
  refine k_val (want_on 23 true rfl 79 rfl (by kernel_rfl)) (some 86) rfl (.bool true) (fun w => Eq.trans (b := .ok (.value (.bool (sameV (decP s) (decP t) == rsameV (rdecP s) (rdecP t)))) w) (by cases sameV (decP s) (decP t) <;> cases rsameV (rdecP s) (rdecP t) <;> kernel_rfl) (by rw [hsm])) ?_
  refine kv 87 (.bool true) ?_
  refine kv 88 (.bool true) ?_
  refine k_call (want_on 32 true rfl 88 rfl (by kernel_rfl)) (some 89) rfl 7 #[] (.bool true) (fun _ => by kernel_rfl) alive_any ?_
  refine kv 90 (.bool true) ?_
  refine kl_nil ?_
  intro w19 M
  replace M : Mem w [⟨g1, .cells (arr 20 (decP s).f) 27⟩, ⟨g2, .cells (arr 20 (decP t).f) 27⟩, ⟨g3, .cells (arr 4 (Ord.d64 (ofV n))) 34⟩, ⟨g4, .cells (arr 64 (rdecP s).f) 41⟩, ⟨g5, .cells (arr 64 (rdecP t).f) 41⟩, ⟨g6, .cells (arr 16 (Ord.d16 (ofV n))) 39⟩] w19 := M
  refine pv 6 (.bool true) ?_
  refine nt ?_
  refine wp_ret ?_
  exact bodyPost_ret (v := .bool true) (results_tmp1 Tryz.results3 _ _ _ (by kernel_rfl)) (by kernel_rfl) ⟨rfl, M.old⟩

/-- EdwReckons. -/
theorem reck_any (s t n : ByteArray) (w : World) : Calls Tryz.prog 3 #[.string s, .string t, .string n] w fun r w' => r = .returned (.bool true) ∧ Below w.heap.size w w' := by
  by_cases he : decC s = 0
  · by_cases hf : decC t = 0
    · by_cases hg : ofC n = 0
      · exact reck4_gen s t n w ⟨trivial⟩ he hf hg
      · exact reck3_gen s t n w ⟨trivial⟩ he hf hg
    · exact reck2_gen s t n w ⟨trivial⟩ he hf
  · exact reck1_gen s t n w ⟨trivial⟩ he

end Go.Proofs.YtkeocdebfgcnnaaGreat
