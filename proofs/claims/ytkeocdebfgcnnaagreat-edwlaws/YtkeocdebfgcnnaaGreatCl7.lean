/- Part 7 of the walks and facts behind edwLaws_holds. -/
import Derived.Test.YtkeocdebfgcnnaaGreatCl6
/- The walk of EdwLaws. -/
namespace Go.Proofs.YtkeocdebfgcnnaaGreat
open Go.RowKit

theorem same_t {p q : P5} {P : Pt} (hp : Rep p P) (hq : Rep q P) (w : World) : Calls Tryz.prog 17 #[.agg (arr 20 p.f), .agg (arr 20 q.f)] w fun r w' => r = .returned (.bool true) ∧ Below w.heap.size w w' :=
  same_yes hp.ok hq.ok ((hp.same hq).2 rfl) w
theorem Rep.at_ {p : P5} {P Q : Pt} (h : Rep p P) (e : P = Q) : Rep p Q := e ▸ h
/-- Multiples of the base point by numbers modulo the order. -/
theorem base_mod {A : Int} (h : 0 ≤ A) : baseQ.mul (A % Ord.Lm).toNat = baseQ.mul A.toNat := by
  have hd := div_step (B := oN) h rfl (by decide)
  rw [hd, mul_add', Nat.mul_comm, mul_mul', ord_zero, zero_mul', add_comm', add_zero', oN_Lm]
theorem l_add {M N : Int} (hM : 0 ≤ M) (hN : 0 ≤ N) : baseQ.mul ((M + N) % Ord.Lm).toNat = (baseQ.mul M.toNat).add (baseQ.mul N.toNat) := by
  rw [base_mod (by omega), ← mul_add']
  congr 1
  omega
theorem l_mul {M N : Int} (hM : 0 ≤ M) (hN : 0 ≤ N) : baseQ.mul (M * N % Ord.Lm).toNat = (baseQ.mul M.toNat).mul N.toNat := by
  rw [base_mod (Int.mul_nonneg hM hN), ← mul_mul']
  congr 1
  exact Int.toNat_mul hM hN
theorem l_neg {M : Int} (hM : 0 ≤ M) : (baseQ.mul M.toNat).add (baseQ.mul ((-M) % Ord.Lm).toNat) = zeroP := by
  have h0 := Ord.Lm_pos
  have h1 := Int.emod_nonneg (-M) (show Ord.Lm ≠ 0 by omega)
  rw [← l_add hM h1, Int.add_emod_emod, Int.add_right_neg]
  rfl

structure laws1aF (r s t m n : ByteArray)  : Prop where
  h0 : True

set_option maxRecDepth 100000 in
set_option maxHeartbeats 4000000 in
theorem laws1a_gen (r s t m n : ByteArray)  (w : World) (_F : laws1aF r s t m n ) (he : ¬ decC r = 0) (hh : ¬ ofC m = 0) :
    Calls Tryz.prog 4 #[.string r, .string s, .string t, .string m, .string n] w fun r w' => r = .returned (.bool true) ∧ Below w.heap.size w w' := by
  go_enter Tryz.func4, Tryz.ntmps4
  have M := Mem.start w
  refine sr ?_
  refine pv 10 (.bool false) ?_
  refine nt ?_
  refine sr ?_
  refine pv 25 (.string r) ?_
  refine pl_call M (want_no rfl) (some 26) rfl 5 #[.string r] (.tuple #[.agg (arr 20 (decP r).f), .int .i64 (decC r)]) (fun _ => by kernel_rfl) (dec_yes rfl rfl) ?_
  intro w1 M
  refine pv 24 (.tuple #[.agg (arr 20 (decP r).f), .int .i64 (decC r)]) ?_
  refine pv 27 (.agg (arr 20 (decP r).f)) ?_
  refine pv 28 (.int .i64 (decC r)) ?_
  refine pl_new M (want_no rfl) (some 11) rfl (.cells (arr 20 (fun _ => 0)) 27) (fun _ => by kernel_rfl) ?_
  intro g1 w2 M
  replace M : Mem w [⟨g1, .cells (arr 20 (fun _ => 0)) 27⟩] w2 := M
  refine pl_put M (want_no rfl) rfl 27 _ _ rfl 0 g1 (by kernel_rfl) 20 27 (fun _ => 0) (decP r).f rfl (by kernel_rfl) inz27 ?_
  intro w3 M
  replace M : Mem w [⟨g1, .cells (arr 20 (decP r).f) 27⟩] w3 := M
  refine pv 12 (.int .i64 (decC r)) ?_
  refine nt ?_
  refine sr ?_
  refine pv 30 (.string s) ?_
  refine pl_call M (want_no rfl) (some 31) rfl 5 #[.string s] (.tuple #[.agg (arr 20 (decP s).f), .int .i64 (decC s)]) (fun _ => by kernel_rfl) (dec_yes rfl rfl) ?_
  intro w4 M
  refine pv 29 (.tuple #[.agg (arr 20 (decP s).f), .int .i64 (decC s)]) ?_
  refine pv 32 (.agg (arr 20 (decP s).f)) ?_
  refine pv 33 (.int .i64 (decC s)) ?_
  refine pl_new M (want_no rfl) (some 13) rfl (.cells (arr 20 (fun _ => 0)) 27) (fun _ => by kernel_rfl) ?_
  intro g2 w5 M
  replace M : Mem w [⟨g1, .cells (arr 20 (decP r).f) 27⟩, ⟨g2, .cells (arr 20 (fun _ => 0)) 27⟩] w5 := M
  refine pl_put M (want_no rfl) rfl 27 _ _ rfl 1 g2 (by kernel_rfl) 20 27 (fun _ => 0) (decP s).f rfl (by kernel_rfl) inz27 ?_
  intro w6 M
  replace M : Mem w [⟨g1, .cells (arr 20 (decP r).f) 27⟩, ⟨g2, .cells (arr 20 (decP s).f) 27⟩] w6 := M
  refine pv 14 (.int .i64 (decC s)) ?_
  refine nt ?_
  refine sr ?_
  refine pv 35 (.string t) ?_
  refine pl_call M (want_no rfl) (some 36) rfl 5 #[.string t] (.tuple #[.agg (arr 20 (decP t).f), .int .i64 (decC t)]) (fun _ => by kernel_rfl) (dec_yes rfl rfl) ?_
  intro w7 M
  refine pv 34 (.tuple #[.agg (arr 20 (decP t).f), .int .i64 (decC t)]) ?_
  refine pv 37 (.agg (arr 20 (decP t).f)) ?_
  refine pv 38 (.int .i64 (decC t)) ?_
  refine pl_new M (want_no rfl) (some 15) rfl (.cells (arr 20 (fun _ => 0)) 27) (fun _ => by kernel_rfl) ?_
  intro g3 w8 M
  replace M : Mem w [⟨g1, .cells (arr 20 (decP r).f) 27⟩, ⟨g2, .cells (arr 20 (decP s).f) 27⟩, ⟨g3, .cells (arr 20 (fun _ => 0)) 27⟩] w8 := M
  refine pl_put M (want_no rfl) rfl 27 _ _ rfl 2 g3 (by kernel_rfl) 20 27 (fun _ => 0) (decP t).f rfl (by kernel_rfl) inz27 ?_
  intro w9 M
  replace M : Mem w [⟨g1, .cells (arr 20 (decP r).f) 27⟩, ⟨g2, .cells (arr 20 (decP s).f) 27⟩, ⟨g3, .cells (arr 20 (decP t).f) 27⟩] w9 := M
  refine pv 16 (.int .i64 (decC t)) ?_
  refine nt ?_
  refine wp_seq ?_
  refine sr ?_
  refine pv 39 (.int .i64 (decC r)) ?_
  refine pl_val (want_no rfl) (some 40) rfl (.bool false) (fun w => Eq.trans (b := .ok (.value (.bool (decide (decC r = 0)))) w) (by kernel_rfl) (by simp [he])) ?_
  refine pv 41 (.bool false) ?_
  refine pl_skip (want_off 2 true rfl 41 rfl (by kernel_rfl)) (some 42) rfl ?_
  refine pl_skip (want_off 2 true rfl 41 rfl (by kernel_rfl)) (some 43) rfl ?_
  refine pv 44 (.bool false) ?_
  refine pv 45 (.bool false) ?_
  refine pl_skip (want_off 6 true rfl 45 rfl (by kernel_rfl)) (some 46) rfl ?_
  refine pl_skip (want_off 6 true rfl 45 rfl (by kernel_rfl)) (some 47) rfl ?_
  refine pv 48 (.bool false) ?_
  refine nt ?_
  refine wp_cond_false (by kernel_rfl) ?_
  refine wp_skip ?_
  refine au_then ?_
  refine sr ?_
  refine pv 89 (.string m) ?_
  refine pl_call M (want_no rfl) (some 90) rfl 6 #[.string m] (.tuple #[.agg (arr 4 (Ord.d64 (ofV m))), .int .i64 (ofC m)]) (fun _ => by kernel_rfl) (c_of m) ?_
  intro w10 M
  refine pv 88 (.tuple #[.agg (arr 4 (Ord.d64 (ofV m))), .int .i64 (ofC m)]) ?_
  refine pv 91 (.agg (arr 4 (Ord.d64 (ofV m)))) ?_
  refine pv 92 (.int .i64 (ofC m)) ?_
  refine pl_new M (want_no rfl) (some 17) rfl (.cells (arr 4 (fun _ => 0)) 34) (fun _ => by kernel_rfl) ?_
  intro g4 w11 M
  replace M : Mem w [⟨g1, .cells (arr 20 (decP r).f) 27⟩, ⟨g2, .cells (arr 20 (decP s).f) 27⟩, ⟨g3, .cells (arr 20 (decP t).f) 27⟩, ⟨g4, .cells (arr 4 (fun _ => 0)) 34⟩] w11 := M
  refine pl_put M (want_no rfl) rfl 34 _ _ rfl 3 g4 (by kernel_rfl) 4 34 (fun _ => 0) (Ord.d64 (ofV m)) rfl (by kernel_rfl) inz34 ?_
  intro w12 M
  replace M : Mem w [⟨g1, .cells (arr 20 (decP r).f) 27⟩, ⟨g2, .cells (arr 20 (decP s).f) 27⟩, ⟨g3, .cells (arr 20 (decP t).f) 27⟩, ⟨g4, .cells (arr 4 (Ord.d64 (ofV m))) 34⟩] w12 := M
  refine pv 18 (.int .i64 (ofC m)) ?_
  refine nt ?_
  refine sr ?_
  refine pv 94 (.string n) ?_
  refine pl_call M (want_no rfl) (some 95) rfl 6 #[.string n] (.tuple #[.agg (arr 4 (Ord.d64 (ofV n))), .int .i64 (ofC n)]) (fun _ => by kernel_rfl) (c_of n) ?_
  intro w13 M
  refine pv 93 (.tuple #[.agg (arr 4 (Ord.d64 (ofV n))), .int .i64 (ofC n)]) ?_
  refine pv 96 (.agg (arr 4 (Ord.d64 (ofV n)))) ?_
  refine pv 97 (.int .i64 (ofC n)) ?_
  refine pl_new M (want_no rfl) (some 19) rfl (.cells (arr 4 (fun _ => 0)) 34) (fun _ => by kernel_rfl) ?_
  intro g5 w14 M
  replace M : Mem w [⟨g1, .cells (arr 20 (decP r).f) 27⟩, ⟨g2, .cells (arr 20 (decP s).f) 27⟩, ⟨g3, .cells (arr 20 (decP t).f) 27⟩, ⟨g4, .cells (arr 4 (Ord.d64 (ofV m))) 34⟩, ⟨g5, .cells (arr 4 (fun _ => 0)) 34⟩] w14 := M
  refine pl_put M (want_no rfl) rfl 34 _ _ rfl 4 g5 (by kernel_rfl) 4 34 (fun _ => 0) (Ord.d64 (ofV n)) rfl (by kernel_rfl) inz34 ?_
  intro w15 M
  replace M : Mem w [⟨g1, .cells (arr 20 (decP r).f) 27⟩, ⟨g2, .cells (arr 20 (decP s).f) 27⟩, ⟨g3, .cells (arr 20 (decP t).f) 27⟩, ⟨g4, .cells (arr 4 (Ord.d64 (ofV m))) 34⟩, ⟨g5, .cells (arr 4 (Ord.d64 (ofV n))) 34⟩] w15 := M
  refine pv 20 (.int .i64 (ofC n)) ?_
  refine nt ?_
  refine wp_seq ?_
  refine sr ?_
  refine pv 98 (.int .i64 (ofC m)) ?_
  refine pl_val (want_no rfl) (some 99) rfl (.bool true) (fun w => Eq.trans (b := .ok (.value (.bool (!(decide (ofC m = 0))))) w) (by kernel_rfl) (by simp [hh])) ?_
  refine pv 100 (.bool true) ?_
  refine pl_skip (want_off 2 false rfl 100 rfl (by kernel_rfl)) (some 101) rfl ?_
  refine pl_skip (want_off 2 false rfl 100 rfl (by kernel_rfl)) (some 102) rfl ?_
  refine pv 103 (.bool true) ?_
  refine nt ?_
  refine wp_cond_true (by kernel_rfl) ?_
  refine sr ?_
  refine pl_call M (want_no rfl) (some 104) rfl 7 #[] (.bool true) (fun _ => by kernel_rfl) alive_any ?_
  intro w16 M
  refine pv 10 (.bool true) ?_
  refine nt ?_
  refine wp_ret ?_
  refine au_then_ret ?_
  exact bodyPost_ret (v := .bool true) (results_tmp1 Tryz.results4 _ _ _ (by kernel_rfl)) (by kernel_rfl) ⟨rfl, M.old⟩

structure laws1bF (r s t m n : ByteArray)  : Prop where
  h0 : True

set_option maxRecDepth 100000 in
set_option maxHeartbeats 4000000 in
theorem laws1b_gen (r s t m n : ByteArray)  (w : World) (_F : laws1bF r s t m n ) (he : ¬ decC r = 0) (hh : ofC m = 0) (hi : ¬ ofC n = 0) :
    Calls Tryz.prog 4 #[.string r, .string s, .string t, .string m, .string n] w fun r w' => r = .returned (.bool true) ∧ Below w.heap.size w w' := by
  go_enter Tryz.func4, Tryz.ntmps4
  have M := Mem.start w
  refine sr ?_
  refine pv 10 (.bool false) ?_
  refine nt ?_
  refine sr ?_
  refine pv 25 (.string r) ?_
  refine pl_call M (want_no rfl) (some 26) rfl 5 #[.string r] (.tuple #[.agg (arr 20 (decP r).f), .int .i64 (decC r)]) (fun _ => by kernel_rfl) (dec_yes rfl rfl) ?_
  intro w1 M
  refine pv 24 (.tuple #[.agg (arr 20 (decP r).f), .int .i64 (decC r)]) ?_
  refine pv 27 (.agg (arr 20 (decP r).f)) ?_
  refine pv 28 (.int .i64 (decC r)) ?_
  refine pl_new M (want_no rfl) (some 11) rfl (.cells (arr 20 (fun _ => 0)) 27) (fun _ => by kernel_rfl) ?_
  intro g1 w2 M
  replace M : Mem w [⟨g1, .cells (arr 20 (fun _ => 0)) 27⟩] w2 := M
  refine pl_put M (want_no rfl) rfl 27 _ _ rfl 0 g1 (by kernel_rfl) 20 27 (fun _ => 0) (decP r).f rfl (by kernel_rfl) inz27 ?_
  intro w3 M
  replace M : Mem w [⟨g1, .cells (arr 20 (decP r).f) 27⟩] w3 := M
  refine pv 12 (.int .i64 (decC r)) ?_
  refine nt ?_
  refine sr ?_
  refine pv 30 (.string s) ?_
  refine pl_call M (want_no rfl) (some 31) rfl 5 #[.string s] (.tuple #[.agg (arr 20 (decP s).f), .int .i64 (decC s)]) (fun _ => by kernel_rfl) (dec_yes rfl rfl) ?_
  intro w4 M
  refine pv 29 (.tuple #[.agg (arr 20 (decP s).f), .int .i64 (decC s)]) ?_
  refine pv 32 (.agg (arr 20 (decP s).f)) ?_
  refine pv 33 (.int .i64 (decC s)) ?_
  refine pl_new M (want_no rfl) (some 13) rfl (.cells (arr 20 (fun _ => 0)) 27) (fun _ => by kernel_rfl) ?_
  intro g2 w5 M
  replace M : Mem w [⟨g1, .cells (arr 20 (decP r).f) 27⟩, ⟨g2, .cells (arr 20 (fun _ => 0)) 27⟩] w5 := M
  refine pl_put M (want_no rfl) rfl 27 _ _ rfl 1 g2 (by kernel_rfl) 20 27 (fun _ => 0) (decP s).f rfl (by kernel_rfl) inz27 ?_
  intro w6 M
  replace M : Mem w [⟨g1, .cells (arr 20 (decP r).f) 27⟩, ⟨g2, .cells (arr 20 (decP s).f) 27⟩] w6 := M
  refine pv 14 (.int .i64 (decC s)) ?_
  refine nt ?_
  refine sr ?_
  refine pv 35 (.string t) ?_
  refine pl_call M (want_no rfl) (some 36) rfl 5 #[.string t] (.tuple #[.agg (arr 20 (decP t).f), .int .i64 (decC t)]) (fun _ => by kernel_rfl) (dec_yes rfl rfl) ?_
  intro w7 M
  refine pv 34 (.tuple #[.agg (arr 20 (decP t).f), .int .i64 (decC t)]) ?_
  refine pv 37 (.agg (arr 20 (decP t).f)) ?_
  refine pv 38 (.int .i64 (decC t)) ?_
  refine pl_new M (want_no rfl) (some 15) rfl (.cells (arr 20 (fun _ => 0)) 27) (fun _ => by kernel_rfl) ?_
  intro g3 w8 M
  replace M : Mem w [⟨g1, .cells (arr 20 (decP r).f) 27⟩, ⟨g2, .cells (arr 20 (decP s).f) 27⟩, ⟨g3, .cells (arr 20 (fun _ => 0)) 27⟩] w8 := M
  refine pl_put M (want_no rfl) rfl 27 _ _ rfl 2 g3 (by kernel_rfl) 20 27 (fun _ => 0) (decP t).f rfl (by kernel_rfl) inz27 ?_
  intro w9 M
  replace M : Mem w [⟨g1, .cells (arr 20 (decP r).f) 27⟩, ⟨g2, .cells (arr 20 (decP s).f) 27⟩, ⟨g3, .cells (arr 20 (decP t).f) 27⟩] w9 := M
  refine pv 16 (.int .i64 (decC t)) ?_
  refine nt ?_
  refine wp_seq ?_
  refine sr ?_
  refine pv 39 (.int .i64 (decC r)) ?_
  refine pl_val (want_no rfl) (some 40) rfl (.bool false) (fun w => Eq.trans (b := .ok (.value (.bool (decide (decC r = 0)))) w) (by kernel_rfl) (by simp [he])) ?_
  refine pv 41 (.bool false) ?_
  refine pl_skip (want_off 2 true rfl 41 rfl (by kernel_rfl)) (some 42) rfl ?_
  refine pl_skip (want_off 2 true rfl 41 rfl (by kernel_rfl)) (some 43) rfl ?_
  refine pv 44 (.bool false) ?_
  refine pv 45 (.bool false) ?_
  refine pl_skip (want_off 6 true rfl 45 rfl (by kernel_rfl)) (some 46) rfl ?_
  refine pl_skip (want_off 6 true rfl 45 rfl (by kernel_rfl)) (some 47) rfl ?_
  refine pv 48 (.bool false) ?_
  refine nt ?_
  refine wp_cond_false (by kernel_rfl) ?_
  refine wp_skip ?_
  refine au_then ?_
  refine sr ?_
  refine pv 89 (.string m) ?_
  refine pl_call M (want_no rfl) (some 90) rfl 6 #[.string m] (.tuple #[.agg (arr 4 (Ord.d64 (ofV m))), .int .i64 (ofC m)]) (fun _ => by kernel_rfl) (c_of m) ?_
  intro w10 M
  refine pv 88 (.tuple #[.agg (arr 4 (Ord.d64 (ofV m))), .int .i64 (ofC m)]) ?_
  refine pv 91 (.agg (arr 4 (Ord.d64 (ofV m)))) ?_
  refine pv 92 (.int .i64 (ofC m)) ?_
  refine pl_new M (want_no rfl) (some 17) rfl (.cells (arr 4 (fun _ => 0)) 34) (fun _ => by kernel_rfl) ?_
  intro g4 w11 M
  replace M : Mem w [⟨g1, .cells (arr 20 (decP r).f) 27⟩, ⟨g2, .cells (arr 20 (decP s).f) 27⟩, ⟨g3, .cells (arr 20 (decP t).f) 27⟩, ⟨g4, .cells (arr 4 (fun _ => 0)) 34⟩] w11 := M
  refine pl_put M (want_no rfl) rfl 34 _ _ rfl 3 g4 (by kernel_rfl) 4 34 (fun _ => 0) (Ord.d64 (ofV m)) rfl (by kernel_rfl) inz34 ?_
  intro w12 M
  replace M : Mem w [⟨g1, .cells (arr 20 (decP r).f) 27⟩, ⟨g2, .cells (arr 20 (decP s).f) 27⟩, ⟨g3, .cells (arr 20 (decP t).f) 27⟩, ⟨g4, .cells (arr 4 (Ord.d64 (ofV m))) 34⟩] w12 := M
  refine pv 18 (.int .i64 (ofC m)) ?_
  refine nt ?_
  refine sr ?_
  refine pv 94 (.string n) ?_
  refine pl_call M (want_no rfl) (some 95) rfl 6 #[.string n] (.tuple #[.agg (arr 4 (Ord.d64 (ofV n))), .int .i64 (ofC n)]) (fun _ => by kernel_rfl) (c_of n) ?_
  intro w13 M
  refine pv 93 (.tuple #[.agg (arr 4 (Ord.d64 (ofV n))), .int .i64 (ofC n)]) ?_
  refine pv 96 (.agg (arr 4 (Ord.d64 (ofV n)))) ?_
  refine pv 97 (.int .i64 (ofC n)) ?_
  refine pl_new M (want_no rfl) (some 19) rfl (.cells (arr 4 (fun _ => 0)) 34) (fun _ => by kernel_rfl) ?_
  intro g5 w14 M
  replace M : Mem w [⟨g1, .cells (arr 20 (decP r).f) 27⟩, ⟨g2, .cells (arr 20 (decP s).f) 27⟩, ⟨g3, .cells (arr 20 (decP t).f) 27⟩, ⟨g4, .cells (arr 4 (Ord.d64 (ofV m))) 34⟩, ⟨g5, .cells (arr 4 (fun _ => 0)) 34⟩] w14 := M
  refine pl_put M (want_no rfl) rfl 34 _ _ rfl 4 g5 (by kernel_rfl) 4 34 (fun _ => 0) (Ord.d64 (ofV n)) rfl (by kernel_rfl) inz34 ?_
  intro w15 M
  replace M : Mem w [⟨g1, .cells (arr 20 (decP r).f) 27⟩, ⟨g2, .cells (arr 20 (decP s).f) 27⟩, ⟨g3, .cells (arr 20 (decP t).f) 27⟩, ⟨g4, .cells (arr 4 (Ord.d64 (ofV m))) 34⟩, ⟨g5, .cells (arr 4 (Ord.d64 (ofV n))) 34⟩] w15 := M
  refine pv 20 (.int .i64 (ofC n)) ?_
  refine nt ?_
  refine wp_seq ?_
  refine sr ?_
  refine pv 98 (.int .i64 (ofC m)) ?_
  refine pl_val (want_no rfl) (some 99) rfl (.bool false) (fun w => Eq.trans (b := .ok (.value (.bool (!(decide (ofC m = 0))))) w) (by kernel_rfl) (by simp [hh])) ?_
  refine pv 100 (.bool false) ?_
  refine pl_val (want_on 2 false rfl 100 rfl (by kernel_rfl)) (some 101) rfl (.int .i64 (ofC n)) (fun _ => by kernel_rfl) ?_
  refine pl_val (want_on 2 false rfl 100 rfl (by kernel_rfl)) (some 102) rfl (.bool true) (fun w => Eq.trans (b := .ok (.value (.bool (!(decide (ofC n = 0))))) w) (by kernel_rfl) (by simp [hi])) ?_
  refine pv 103 (.bool true) ?_
  refine nt ?_
  refine wp_cond_true (by kernel_rfl) ?_
  refine sr ?_
  refine pl_call M (want_no rfl) (some 104) rfl 7 #[] (.bool true) (fun _ => by kernel_rfl) alive_any ?_
  intro w16 M
  refine pv 10 (.bool true) ?_
  refine nt ?_
  refine wp_ret ?_
  refine au_then_ret ?_
  exact bodyPost_ret (v := .bool true) (results_tmp1 Tryz.results4 _ _ _ (by kernel_rfl)) (by kernel_rfl) ⟨rfl, M.old⟩

structure laws1cF (r s t m n : ByteArray)  : Prop where
  h0 : True

set_option maxRecDepth 100000 in
set_option maxHeartbeats 4000000 in
theorem laws1c_gen (r s t m n : ByteArray)  (w : World) (_F : laws1cF r s t m n ) (he : ¬ decC r = 0) (hh : ofC m = 0) (hi : ofC n = 0) :
    Calls Tryz.prog 4 #[.string r, .string s, .string t, .string m, .string n] w fun r w' => r = .returned (.bool true) ∧ Below w.heap.size w w' := by
  go_enter Tryz.func4, Tryz.ntmps4
  have M := Mem.start w
  refine sr ?_
  refine pv 10 (.bool false) ?_
  refine nt ?_
  refine sr ?_
  refine pv 25 (.string r) ?_
  refine pl_call M (want_no rfl) (some 26) rfl 5 #[.string r] (.tuple #[.agg (arr 20 (decP r).f), .int .i64 (decC r)]) (fun _ => by kernel_rfl) (dec_yes rfl rfl) ?_
  intro w1 M
  refine pv 24 (.tuple #[.agg (arr 20 (decP r).f), .int .i64 (decC r)]) ?_
  refine pv 27 (.agg (arr 20 (decP r).f)) ?_
  refine pv 28 (.int .i64 (decC r)) ?_
  refine pl_new M (want_no rfl) (some 11) rfl (.cells (arr 20 (fun _ => 0)) 27) (fun _ => by kernel_rfl) ?_
  intro g1 w2 M
  replace M : Mem w [⟨g1, .cells (arr 20 (fun _ => 0)) 27⟩] w2 := M
  refine pl_put M (want_no rfl) rfl 27 _ _ rfl 0 g1 (by kernel_rfl) 20 27 (fun _ => 0) (decP r).f rfl (by kernel_rfl) inz27 ?_
  intro w3 M
  replace M : Mem w [⟨g1, .cells (arr 20 (decP r).f) 27⟩] w3 := M
  refine pv 12 (.int .i64 (decC r)) ?_
  refine nt ?_
  refine sr ?_
  refine pv 30 (.string s) ?_
  refine pl_call M (want_no rfl) (some 31) rfl 5 #[.string s] (.tuple #[.agg (arr 20 (decP s).f), .int .i64 (decC s)]) (fun _ => by kernel_rfl) (dec_yes rfl rfl) ?_
  intro w4 M
  refine pv 29 (.tuple #[.agg (arr 20 (decP s).f), .int .i64 (decC s)]) ?_
  refine pv 32 (.agg (arr 20 (decP s).f)) ?_
  refine pv 33 (.int .i64 (decC s)) ?_
  refine pl_new M (want_no rfl) (some 13) rfl (.cells (arr 20 (fun _ => 0)) 27) (fun _ => by kernel_rfl) ?_
  intro g2 w5 M
  replace M : Mem w [⟨g1, .cells (arr 20 (decP r).f) 27⟩, ⟨g2, .cells (arr 20 (fun _ => 0)) 27⟩] w5 := M
  refine pl_put M (want_no rfl) rfl 27 _ _ rfl 1 g2 (by kernel_rfl) 20 27 (fun _ => 0) (decP s).f rfl (by kernel_rfl) inz27 ?_
  intro w6 M
  replace M : Mem w [⟨g1, .cells (arr 20 (decP r).f) 27⟩, ⟨g2, .cells (arr 20 (decP s).f) 27⟩] w6 := M
  refine pv 14 (.int .i64 (decC s)) ?_
  refine nt ?_
  refine sr ?_
  refine pv 35 (.string t) ?_
  refine pl_call M (want_no rfl) (some 36) rfl 5 #[.string t] (.tuple #[.agg (arr 20 (decP t).f), .int .i64 (decC t)]) (fun _ => by kernel_rfl) (dec_yes rfl rfl) ?_
  intro w7 M
  refine pv 34 (.tuple #[.agg (arr 20 (decP t).f), .int .i64 (decC t)]) ?_
  refine pv 37 (.agg (arr 20 (decP t).f)) ?_
  refine pv 38 (.int .i64 (decC t)) ?_
  refine pl_new M (want_no rfl) (some 15) rfl (.cells (arr 20 (fun _ => 0)) 27) (fun _ => by kernel_rfl) ?_
  intro g3 w8 M
  replace M : Mem w [⟨g1, .cells (arr 20 (decP r).f) 27⟩, ⟨g2, .cells (arr 20 (decP s).f) 27⟩, ⟨g3, .cells (arr 20 (fun _ => 0)) 27⟩] w8 := M
  refine pl_put M (want_no rfl) rfl 27 _ _ rfl 2 g3 (by kernel_rfl) 20 27 (fun _ => 0) (decP t).f rfl (by kernel_rfl) inz27 ?_
  intro w9 M
  replace M : Mem w [⟨g1, .cells (arr 20 (decP r).f) 27⟩, ⟨g2, .cells (arr 20 (decP s).f) 27⟩, ⟨g3, .cells (arr 20 (decP t).f) 27⟩] w9 := M
  refine pv 16 (.int .i64 (decC t)) ?_
  refine nt ?_
  refine wp_seq ?_
  refine sr ?_
  refine pv 39 (.int .i64 (decC r)) ?_
  refine pl_val (want_no rfl) (some 40) rfl (.bool false) (fun w => Eq.trans (b := .ok (.value (.bool (decide (decC r = 0)))) w) (by kernel_rfl) (by simp [he])) ?_
  refine pv 41 (.bool false) ?_
  refine pl_skip (want_off 2 true rfl 41 rfl (by kernel_rfl)) (some 42) rfl ?_
  refine pl_skip (want_off 2 true rfl 41 rfl (by kernel_rfl)) (some 43) rfl ?_
  refine pv 44 (.bool false) ?_
  refine pv 45 (.bool false) ?_
  refine pl_skip (want_off 6 true rfl 45 rfl (by kernel_rfl)) (some 46) rfl ?_
  refine pl_skip (want_off 6 true rfl 45 rfl (by kernel_rfl)) (some 47) rfl ?_
  refine pv 48 (.bool false) ?_
  refine nt ?_
  refine wp_cond_false (by kernel_rfl) ?_
  refine wp_skip ?_
  refine au_then ?_
  refine sr ?_
  refine pv 89 (.string m) ?_
  refine pl_call M (want_no rfl) (some 90) rfl 6 #[.string m] (.tuple #[.agg (arr 4 (Ord.d64 (ofV m))), .int .i64 (ofC m)]) (fun _ => by kernel_rfl) (c_of m) ?_
  intro w10 M
  refine pv 88 (.tuple #[.agg (arr 4 (Ord.d64 (ofV m))), .int .i64 (ofC m)]) ?_
  refine pv 91 (.agg (arr 4 (Ord.d64 (ofV m)))) ?_
  refine pv 92 (.int .i64 (ofC m)) ?_
  refine pl_new M (want_no rfl) (some 17) rfl (.cells (arr 4 (fun _ => 0)) 34) (fun _ => by kernel_rfl) ?_
  intro g4 w11 M
  replace M : Mem w [⟨g1, .cells (arr 20 (decP r).f) 27⟩, ⟨g2, .cells (arr 20 (decP s).f) 27⟩, ⟨g3, .cells (arr 20 (decP t).f) 27⟩, ⟨g4, .cells (arr 4 (fun _ => 0)) 34⟩] w11 := M
  refine pl_put M (want_no rfl) rfl 34 _ _ rfl 3 g4 (by kernel_rfl) 4 34 (fun _ => 0) (Ord.d64 (ofV m)) rfl (by kernel_rfl) inz34 ?_
  intro w12 M
  replace M : Mem w [⟨g1, .cells (arr 20 (decP r).f) 27⟩, ⟨g2, .cells (arr 20 (decP s).f) 27⟩, ⟨g3, .cells (arr 20 (decP t).f) 27⟩, ⟨g4, .cells (arr 4 (Ord.d64 (ofV m))) 34⟩] w12 := M
  refine pv 18 (.int .i64 (ofC m)) ?_
  refine nt ?_
  refine sr ?_
  refine pv 94 (.string n) ?_
  refine pl_call M (want_no rfl) (some 95) rfl 6 #[.string n] (.tuple #[.agg (arr 4 (Ord.d64 (ofV n))), .int .i64 (ofC n)]) (fun _ => by kernel_rfl) (c_of n) ?_
  intro w13 M
  refine pv 93 (.tuple #[.agg (arr 4 (Ord.d64 (ofV n))), .int .i64 (ofC n)]) ?_
  refine pv 96 (.agg (arr 4 (Ord.d64 (ofV n)))) ?_
  refine pv 97 (.int .i64 (ofC n)) ?_
  refine pl_new M (want_no rfl) (some 19) rfl (.cells (arr 4 (fun _ => 0)) 34) (fun _ => by kernel_rfl) ?_
  intro g5 w14 M
  replace M : Mem w [⟨g1, .cells (arr 20 (decP r).f) 27⟩, ⟨g2, .cells (arr 20 (decP s).f) 27⟩, ⟨g3, .cells (arr 20 (decP t).f) 27⟩, ⟨g4, .cells (arr 4 (Ord.d64 (ofV m))) 34⟩, ⟨g5, .cells (arr 4 (fun _ => 0)) 34⟩] w14 := M
  refine pl_put M (want_no rfl) rfl 34 _ _ rfl 4 g5 (by kernel_rfl) 4 34 (fun _ => 0) (Ord.d64 (ofV n)) rfl (by kernel_rfl) inz34 ?_
  intro w15 M
  replace M : Mem w [⟨g1, .cells (arr 20 (decP r).f) 27⟩, ⟨g2, .cells (arr 20 (decP s).f) 27⟩, ⟨g3, .cells (arr 20 (decP t).f) 27⟩, ⟨g4, .cells (arr 4 (Ord.d64 (ofV m))) 34⟩, ⟨g5, .cells (arr 4 (Ord.d64 (ofV n))) 34⟩] w15 := M
  refine pv 20 (.int .i64 (ofC n)) ?_
  refine nt ?_
  refine wp_seq ?_
  refine sr ?_
  refine pv 98 (.int .i64 (ofC m)) ?_
  refine pl_val (want_no rfl) (some 99) rfl (.bool false) (fun w => Eq.trans (b := .ok (.value (.bool (!(decide (ofC m = 0))))) w) (by kernel_rfl) (by simp [hh])) ?_
  refine pv 100 (.bool false) ?_
  refine pl_val (want_on 2 false rfl 100 rfl (by kernel_rfl)) (some 101) rfl (.int .i64 (ofC n)) (fun _ => by kernel_rfl) ?_
  refine pl_val (want_on 2 false rfl 100 rfl (by kernel_rfl)) (some 102) rfl (.bool false) (fun w => Eq.trans (b := .ok (.value (.bool (!(decide (ofC n = 0))))) w) (by kernel_rfl) (by simp [hi])) ?_
  refine pv 103 (.bool false) ?_
  refine nt ?_
  refine wp_cond_false (by kernel_rfl) ?_
  refine wp_skip ?_
  refine au_then ?_
  refine sr ?_
  refine pl_call M (want_no rfl) (some 105) rfl 20 #[] (.agg (arr 20 base5.f)) (fun _ => by kernel_rfl) c_base ?_
  intro w16 M
  refine pl_new M (want_no rfl) (some 21) rfl (.cells (arr 20 (fun _ => 0)) 27) (fun _ => by kernel_rfl) ?_
  intro g6 w17 M
  replace M : Mem w [⟨g1, .cells (arr 20 (decP r).f) 27⟩, ⟨g2, .cells (arr 20 (decP s).f) 27⟩, ⟨g3, .cells (arr 20 (decP t).f) 27⟩, ⟨g4, .cells (arr 4 (Ord.d64 (ofV m))) 34⟩, ⟨g5, .cells (arr 4 (Ord.d64 (ofV n))) 34⟩, ⟨g6, .cells (arr 20 (fun _ => 0)) 27⟩] w17 := M
  refine pl_put M (want_no rfl) rfl 27 _ _ rfl 5 g6 (by kernel_rfl) 20 27 (fun _ => 0) base5.f rfl (by kernel_rfl) inz27 ?_
  intro w18 M
  replace M : Mem w [⟨g1, .cells (arr 20 (decP r).f) 27⟩, ⟨g2, .cells (arr 20 (decP s).f) 27⟩, ⟨g3, .cells (arr 20 (decP t).f) 27⟩, ⟨g4, .cells (arr 4 (Ord.d64 (ofV m))) 34⟩, ⟨g5, .cells (arr 4 (Ord.d64 (ofV n))) 34⟩, ⟨g6, .cells (arr 20 base5.f) 27⟩] w18 := M
  refine nt ?_
  refine sr ?_
  refine pl_load M (want_no rfl) (some 106) rfl 27 _ rfl 5 g6 0 (by kernel_rfl) 20 27 base5.f rfl 20 base5.f (Part.all _ _) (by decide) _ Tryz.underlying27 rfl inz27 ?_
  refine pl_load M (want_no rfl) (some 107) rfl 34 _ rfl 3 g4 0 (by kernel_rfl) 4 34 (Ord.d64 (ofV m)) rfl 4 (Ord.d64 (ofV m)) (Part.all _ _) (by decide) _ Tryz.underlying34 rfl inz34 ?_
  refine pl_call M (want_no rfl) (some 108) rfl 15 #[.agg (arr 20 base5.f), .agg (arr 4 (Ord.d64 (ofV m)))] (.agg (arr 20 (mulV base5 (ofV m)).f)) (fun _ => by kernel_rfl) (fun w => c_mul base_rep (ofV m) w) ?_
  intro w19 M
  refine pl_new M (want_no rfl) (some 22) rfl (.cells (arr 20 (fun _ => 0)) 27) (fun _ => by kernel_rfl) ?_
  intro g7 w20 M
  replace M : Mem w [⟨g1, .cells (arr 20 (decP r).f) 27⟩, ⟨g2, .cells (arr 20 (decP s).f) 27⟩, ⟨g3, .cells (arr 20 (decP t).f) 27⟩, ⟨g4, .cells (arr 4 (Ord.d64 (ofV m))) 34⟩, ⟨g5, .cells (arr 4 (Ord.d64 (ofV n))) 34⟩, ⟨g6, .cells (arr 20 base5.f) 27⟩, ⟨g7, .cells (arr 20 (fun _ => 0)) 27⟩] w20 := M
  refine pl_put M (want_no rfl) rfl 27 _ _ rfl 6 g7 (by kernel_rfl) 20 27 (fun _ => 0) (mulV base5 (ofV m)).f rfl (by kernel_rfl) inz27 ?_
  intro w21 M
  replace M : Mem w [⟨g1, .cells (arr 20 (decP r).f) 27⟩, ⟨g2, .cells (arr 20 (decP s).f) 27⟩, ⟨g3, .cells (arr 20 (decP t).f) 27⟩, ⟨g4, .cells (arr 4 (Ord.d64 (ofV m))) 34⟩, ⟨g5, .cells (arr 4 (Ord.d64 (ofV n))) 34⟩, ⟨g6, .cells (arr 20 base5.f) 27⟩, ⟨g7, .cells (arr 20 (mulV base5 (ofV m)).f) 27⟩] w21 := M
  refine nt ?_
  refine sr ?_
  refine pl_load M (want_no rfl) (some 109) rfl 27 _ rfl 5 g6 0 (by kernel_rfl) 20 27 base5.f rfl 20 base5.f (Part.all _ _) (by decide) _ Tryz.underlying27 rfl inz27 ?_
  refine pl_load M (want_no rfl) (some 110) rfl 34 _ rfl 4 g5 0 (by kernel_rfl) 4 34 (Ord.d64 (ofV n)) rfl 4 (Ord.d64 (ofV n)) (Part.all _ _) (by decide) _ Tryz.underlying34 rfl inz34 ?_
  refine pl_call M (want_no rfl) (some 111) rfl 15 #[.agg (arr 20 base5.f), .agg (arr 4 (Ord.d64 (ofV n)))] (.agg (arr 20 (mulV base5 (ofV n)).f)) (fun _ => by kernel_rfl) (fun w => c_mul base_rep (ofV n) w) ?_
  intro w22 M
  refine pl_new M (want_no rfl) (some 23) rfl (.cells (arr 20 (fun _ => 0)) 27) (fun _ => by kernel_rfl) ?_
  intro g8 w23 M
  replace M : Mem w [⟨g1, .cells (arr 20 (decP r).f) 27⟩, ⟨g2, .cells (arr 20 (decP s).f) 27⟩, ⟨g3, .cells (arr 20 (decP t).f) 27⟩, ⟨g4, .cells (arr 4 (Ord.d64 (ofV m))) 34⟩, ⟨g5, .cells (arr 4 (Ord.d64 (ofV n))) 34⟩, ⟨g6, .cells (arr 20 base5.f) 27⟩, ⟨g7, .cells (arr 20 (mulV base5 (ofV m)).f) 27⟩, ⟨g8, .cells (arr 20 (fun _ => 0)) 27⟩] w23 := M
  refine pl_put M (want_no rfl) rfl 27 _ _ rfl 7 g8 (by kernel_rfl) 20 27 (fun _ => 0) (mulV base5 (ofV n)).f rfl (by kernel_rfl) inz27 ?_
  intro w24 M
  replace M : Mem w [⟨g1, .cells (arr 20 (decP r).f) 27⟩, ⟨g2, .cells (arr 20 (decP s).f) 27⟩, ⟨g3, .cells (arr 20 (decP t).f) 27⟩, ⟨g4, .cells (arr 4 (Ord.d64 (ofV m))) 34⟩, ⟨g5, .cells (arr 4 (Ord.d64 (ofV n))) 34⟩, ⟨g6, .cells (arr 20 base5.f) 27⟩, ⟨g7, .cells (arr 20 (mulV base5 (ofV m)).f) 27⟩, ⟨g8, .cells (arr 20 (mulV base5 (ofV n)).f) 27⟩] w24 := M
  refine nt ?_
  refine wp_seq ?_
  refine rg_tail M 42 (by kernel_rfl) (by kernel_rfl) ?_
  simp only [List.take_succ_cons, List.take_zero]
  refine k_load M (want_no rfl) (some 112) rfl 27 _ rfl 6 g7 0 (by kernel_rfl) 20 27 (mulV base5 (ofV m)).f rfl 20 (mulV base5 (ofV m)).f (Part.all _ _) (by decide) _ Tryz.underlying27 rfl inz27 ?_
  refine k_load M (want_no rfl) (some 113) rfl 27 _ rfl 7 g8 0 (by kernel_rfl) 20 27 (mulV base5 (ofV n)).f rfl 20 (mulV base5 (ofV n)).f (Part.all _ _) (by decide) _ Tryz.underlying27 rfl inz27 ?_
  refine k_call (want_no rfl) (some 114) rfl 11 #[.agg (arr 20 (mulV base5 (ofV m)).f), .agg (arr 20 (mulV base5 (ofV n)).f)] (.agg (arr 20 (addV (mulV base5 (ofV m)) (mulV base5 (ofV n))).f)) (fun _ => by kernel_rfl) (fun w => c_add (mulV base5 (ofV m)) (mulV base5 (ofV n)) w (base_rep.mul (ofV_bd m)).ok (base_rep.mul (ofV_bd n)).ok) ?_
  refine k_load M (want_no rfl) (some 115) rfl 27 _ rfl 5 g6 0 (by kernel_rfl) 20 27 base5.f rfl 20 base5.f (Part.all _ _) (by decide) _ Tryz.underlying27 rfl inz27 ?_
  refine k_load M (want_no rfl) (some 116) rfl 34 _ rfl 3 g4 0 (by kernel_rfl) 4 34 (Ord.d64 (ofV m)) rfl 4 (Ord.d64 (ofV m)) (Part.all _ _) (by decide) _ Tryz.underlying34 rfl inz34 ?_
  refine k_load M (want_no rfl) (some 117) rfl 34 _ rfl 4 g5 0 (by kernel_rfl) 4 34 (Ord.d64 (ofV n)) rfl 4 (Ord.d64 (ofV n)) (Part.all _ _) (by decide) _ Tryz.underlying34 rfl inz34 ?_
  refine k_call (want_no rfl) (some 118) rfl 21 #[.agg (arr 4 (Ord.d64 (ofV m))), .agg (arr 4 (Ord.d64 (ofV n)))] (.agg (arr 4 (Ord.d64 ((ofV m + ofV n) % Ord.Lm)))) (fun _ => by kernel_rfl) (fun w => Ord.add_any (ofV m) (ofV n) w (ofV_bd m) (ofV_bd n)) ?_
  refine k_call (want_no rfl) (some 119) rfl 15 #[.agg (arr 20 base5.f), .agg (arr 4 (Ord.d64 ((ofV m + ofV n) % Ord.Lm)))] (.agg (arr 20 (mulV base5 ((ofV m + ofV n) % Ord.Lm)).f)) (fun _ => by kernel_rfl) (fun w => c_mul base_rep ((ofV m + ofV n) % Ord.Lm) w) ?_
  refine k_call (want_no rfl) (some 120) rfl 17 #[.agg (arr 20 (addV (mulV base5 (ofV m)) (mulV base5 (ofV n))).f), .agg (arr 20 (mulV base5 ((ofV m + ofV n) % Ord.Lm)).f)] (.bool true) (fun _ => by kernel_rfl) (same_t (((base_rep.mul (ofV_bd m)).add (base_rep.mul (ofV_bd n))).at_ (l_add (ofV_bd m).1 (ofV_bd n).1).symm) (base_rep.mul (Ord.lmod _))) ?_
  refine kv 121 (.bool true) ?_
  refine k_load M (want_on 9 true rfl 121 rfl (by kernel_rfl)) (some 122) rfl 27 _ rfl 6 g7 0 (by kernel_rfl) 20 27 (mulV base5 (ofV m)).f rfl 20 (mulV base5 (ofV m)).f (Part.all _ _) (by decide) _ Tryz.underlying27 rfl inz27 ?_
  refine k_load M (want_on 9 true rfl 121 rfl (by kernel_rfl)) (some 123) rfl 34 _ rfl 4 g5 0 (by kernel_rfl) 4 34 (Ord.d64 (ofV n)) rfl 4 (Ord.d64 (ofV n)) (Part.all _ _) (by decide) _ Tryz.underlying34 rfl inz34 ?_
  refine k_call (want_on 9 true rfl 121 rfl (by kernel_rfl)) (some 124) rfl 15 #[.agg (arr 20 (mulV base5 (ofV m)).f), .agg (arr 4 (Ord.d64 (ofV n)))] (.agg (arr 20 (mulV (mulV base5 (ofV m)) (ofV n)).f)) (fun _ => by kernel_rfl) (fun w => c_mul (base_rep.mul (ofV_bd m)) (ofV n) w) ?_
  refine k_load M (want_on 9 true rfl 121 rfl (by kernel_rfl)) (some 125) rfl 27 _ rfl 7 g8 0 (by kernel_rfl) 20 27 (mulV base5 (ofV n)).f rfl 20 (mulV base5 (ofV n)).f (Part.all _ _) (by decide) _ Tryz.underlying27 rfl inz27 ?_
  refine k_load M (want_on 9 true rfl 121 rfl (by kernel_rfl)) (some 126) rfl 34 _ rfl 3 g4 0 (by kernel_rfl) 4 34 (Ord.d64 (ofV m)) rfl 4 (Ord.d64 (ofV m)) (Part.all _ _) (by decide) _ Tryz.underlying34 rfl inz34 ?_
  refine k_call (want_on 9 true rfl 121 rfl (by kernel_rfl)) (some 127) rfl 15 #[.agg (arr 20 (mulV base5 (ofV n)).f), .agg (arr 4 (Ord.d64 (ofV m)))] (.agg (arr 20 (mulV (mulV base5 (ofV n)) (ofV m)).f)) (fun _ => by kernel_rfl) (fun w => c_mul (base_rep.mul (ofV_bd n)) (ofV m) w) ?_
  refine k_call (want_on 9 true rfl 121 rfl (by kernel_rfl)) (some 128) rfl 17 #[.agg (arr 20 (mulV (mulV base5 (ofV m)) (ofV n)).f), .agg (arr 20 (mulV (mulV base5 (ofV n)) (ofV m)).f)] (.bool true) (fun _ => by kernel_rfl) (same_t (((base_rep.mul (ofV_bd m)).mul (ofV_bd n)).at_ (mul_swap _ _ _)) ((base_rep.mul (ofV_bd n)).mul (ofV_bd m))) ?_
  refine kv 129 (.bool true) ?_
  refine kv 130 (.bool true) ?_
  refine k_load M (want_on 18 true rfl 130 rfl (by kernel_rfl)) (some 131) rfl 27 _ rfl 6 g7 0 (by kernel_rfl) 20 27 (mulV base5 (ofV m)).f rfl 20 (mulV base5 (ofV m)).f (Part.all _ _) (by decide) _ Tryz.underlying27 rfl inz27 ?_
  refine k_load M (want_on 18 true rfl 130 rfl (by kernel_rfl)) (some 132) rfl 34 _ rfl 4 g5 0 (by kernel_rfl) 4 34 (Ord.d64 (ofV n)) rfl 4 (Ord.d64 (ofV n)) (Part.all _ _) (by decide) _ Tryz.underlying34 rfl inz34 ?_
  refine k_call (want_on 18 true rfl 130 rfl (by kernel_rfl)) (some 133) rfl 15 #[.agg (arr 20 (mulV base5 (ofV m)).f), .agg (arr 4 (Ord.d64 (ofV n)))] (.agg (arr 20 (mulV (mulV base5 (ofV m)) (ofV n)).f)) (fun _ => by kernel_rfl) (fun w => c_mul (base_rep.mul (ofV_bd m)) (ofV n) w) ?_
  refine k_load M (want_on 18 true rfl 130 rfl (by kernel_rfl)) (some 134) rfl 27 _ rfl 5 g6 0 (by kernel_rfl) 20 27 base5.f rfl 20 base5.f (Part.all _ _) (by decide) _ Tryz.underlying27 rfl inz27 ?_
  refine k_load M (want_on 18 true rfl 130 rfl (by kernel_rfl)) (some 135) rfl 34 _ rfl 3 g4 0 (by kernel_rfl) 4 34 (Ord.d64 (ofV m)) rfl 4 (Ord.d64 (ofV m)) (Part.all _ _) (by decide) _ Tryz.underlying34 rfl inz34 ?_
  refine k_load M (want_on 18 true rfl 130 rfl (by kernel_rfl)) (some 136) rfl 34 _ rfl 4 g5 0 (by kernel_rfl) 4 34 (Ord.d64 (ofV n)) rfl 4 (Ord.d64 (ofV n)) (Part.all _ _) (by decide) _ Tryz.underlying34 rfl inz34 ?_
  refine k_call (want_on 18 true rfl 130 rfl (by kernel_rfl)) (some 137) rfl 22 #[.agg (arr 4 (Ord.d64 (ofV m))), .agg (arr 4 (Ord.d64 (ofV n)))] (.agg (arr 4 (Ord.d64 (ofV m * ofV n % Ord.Lm)))) (fun _ => by kernel_rfl) (fun w => Ord.mul_any (ofV m) (ofV n) w (ofV_bd m) (ofV_bd n)) ?_
  refine k_call (want_on 18 true rfl 130 rfl (by kernel_rfl)) (some 138) rfl 15 #[.agg (arr 20 base5.f), .agg (arr 4 (Ord.d64 (ofV m * ofV n % Ord.Lm)))] (.agg (arr 20 (mulV base5 (ofV m * ofV n % Ord.Lm)).f)) (fun _ => by kernel_rfl) (fun w => c_mul base_rep (ofV m * ofV n % Ord.Lm) w) ?_
  refine k_call (want_on 18 true rfl 130 rfl (by kernel_rfl)) (some 139) rfl 17 #[.agg (arr 20 (mulV (mulV base5 (ofV m)) (ofV n)).f), .agg (arr 20 (mulV base5 (ofV m * ofV n % Ord.Lm)).f)] (.bool true) (fun _ => by kernel_rfl) (same_t (((base_rep.mul (ofV_bd m)).mul (ofV_bd n)).at_ (l_mul (ofV_bd m).1 (ofV_bd n).1).symm) (base_rep.mul (Ord.lmod _))) ?_
  refine kv 140 (.bool true) ?_
  refine kv 141 (.bool true) ?_
  refine k_load M (want_on 29 true rfl 141 rfl (by kernel_rfl)) (some 142) rfl 27 _ rfl 6 g7 0 (by kernel_rfl) 20 27 (mulV base5 (ofV m)).f rfl 20 (mulV base5 (ofV m)).f (Part.all _ _) (by decide) _ Tryz.underlying27 rfl inz27 ?_
  refine k_load M (want_on 29 true rfl 141 rfl (by kernel_rfl)) (some 143) rfl 27 _ rfl 5 g6 0 (by kernel_rfl) 20 27 base5.f rfl 20 base5.f (Part.all _ _) (by decide) _ Tryz.underlying27 rfl inz27 ?_
  refine k_load M (want_on 29 true rfl 141 rfl (by kernel_rfl)) (some 144) rfl 34 _ rfl 3 g4 0 (by kernel_rfl) 4 34 (Ord.d64 (ofV m)) rfl 4 (Ord.d64 (ofV m)) (Part.all _ _) (by decide) _ Tryz.underlying34 rfl inz34 ?_
  refine k_call (want_on 29 true rfl 141 rfl (by kernel_rfl)) (some 145) rfl 23 #[.agg (arr 4 (Ord.d64 (ofV m)))] (.agg (arr 4 (Ord.d64 ((-ofV m) % Ord.Lm)))) (fun _ => by kernel_rfl) (fun w => Ord.neg_any (ofV m) w (ofV_bd m)) ?_
  refine k_call (want_on 29 true rfl 141 rfl (by kernel_rfl)) (some 146) rfl 15 #[.agg (arr 20 base5.f), .agg (arr 4 (Ord.d64 ((-ofV m) % Ord.Lm)))] (.agg (arr 20 (mulV base5 ((-ofV m) % Ord.Lm)).f)) (fun _ => by kernel_rfl) (fun w => c_mul base_rep ((-ofV m) % Ord.Lm) w) ?_
  refine k_call (want_on 29 true rfl 141 rfl (by kernel_rfl)) (some 147) rfl 11 #[.agg (arr 20 (mulV base5 (ofV m)).f), .agg (arr 20 (mulV base5 ((-ofV m) % Ord.Lm)).f)] (.agg (arr 20 (addV (mulV base5 (ofV m)) (mulV base5 ((-ofV m) % Ord.Lm))).f)) (fun _ => by kernel_rfl) (fun w => c_add (mulV base5 (ofV m)) (mulV base5 ((-ofV m) % Ord.Lm)) w (base_rep.mul (ofV_bd m)).ok (base_rep.mul (Ord.lmod _)).ok) ?_
  refine k_call (want_on 29 true rfl 141 rfl (by kernel_rfl)) (some 148) rfl 19 #[] (.agg (arr 20 zero5.f)) (fun _ => by kernel_rfl) c_zero ?_
  refine k_call (want_on 29 true rfl 141 rfl (by kernel_rfl)) (some 149) rfl 17 #[.agg (arr 20 (addV (mulV base5 (ofV m)) (mulV base5 ((-ofV m) % Ord.Lm))).f), .agg (arr 20 zero5.f)] (.bool true) (fun _ => by kernel_rfl) (same_t (((base_rep.mul (ofV_bd m)).add (base_rep.mul (Ord.lmod _))).at_ (l_neg (ofV_bd m).1)) zero5_rep) ?_
  refine kv 150 (.bool true) ?_
  refine kv 151 (.bool true) ?_
  refine k_call (want_on 39 true rfl 151 rfl (by kernel_rfl)) (some 152) rfl 7 #[] (.bool true) (fun _ => by kernel_rfl) alive_any ?_
  refine kv 153 (.bool true) ?_
  refine kl_nil ?_
  intro w25 M
  replace M : Mem w [⟨g1, .cells (arr 20 (decP r).f) 27⟩, ⟨g2, .cells (arr 20 (decP s).f) 27⟩, ⟨g3, .cells (arr 20 (decP t).f) 27⟩, ⟨g4, .cells (arr 4 (Ord.d64 (ofV m))) 34⟩, ⟨g5, .cells (arr 4 (Ord.d64 (ofV n))) 34⟩, ⟨g6, .cells (arr 20 base5.f) 27⟩, ⟨g7, .cells (arr 20 (mulV base5 (ofV m)).f) 27⟩, ⟨g8, .cells (arr 20 (mulV base5 (ofV n)).f) 27⟩] w25 := M
  refine pv 10 (.bool true) ?_
  refine nt ?_
  refine wp_ret ?_
  exact bodyPost_ret (v := .bool true) (results_tmp1 Tryz.results4 _ _ _ (by kernel_rfl)) (by kernel_rfl) ⟨rfl, M.old⟩

structure laws2aF (r s t m n : ByteArray)  : Prop where
  h0 : True

set_option maxRecDepth 100000 in
set_option maxHeartbeats 4000000 in
theorem laws2a_gen (r s t m n : ByteArray)  (w : World) (_F : laws2aF r s t m n ) (he : decC r = 0) (hf : ¬ decC s = 0) (hh : ¬ ofC m = 0) :
    Calls Tryz.prog 4 #[.string r, .string s, .string t, .string m, .string n] w fun r w' => r = .returned (.bool true) ∧ Below w.heap.size w w' := by
  go_enter Tryz.func4, Tryz.ntmps4
  have M := Mem.start w
  refine sr ?_
  refine pv 10 (.bool false) ?_
  refine nt ?_
  refine sr ?_
  refine pv 25 (.string r) ?_
  refine pl_call M (want_no rfl) (some 26) rfl 5 #[.string r] (.tuple #[.agg (arr 20 (decP r).f), .int .i64 (decC r)]) (fun _ => by kernel_rfl) (dec_yes rfl rfl) ?_
  intro w1 M
  refine pv 24 (.tuple #[.agg (arr 20 (decP r).f), .int .i64 (decC r)]) ?_
  refine pv 27 (.agg (arr 20 (decP r).f)) ?_
  refine pv 28 (.int .i64 (decC r)) ?_
  refine pl_new M (want_no rfl) (some 11) rfl (.cells (arr 20 (fun _ => 0)) 27) (fun _ => by kernel_rfl) ?_
  intro g1 w2 M
  replace M : Mem w [⟨g1, .cells (arr 20 (fun _ => 0)) 27⟩] w2 := M
  refine pl_put M (want_no rfl) rfl 27 _ _ rfl 0 g1 (by kernel_rfl) 20 27 (fun _ => 0) (decP r).f rfl (by kernel_rfl) inz27 ?_
  intro w3 M
  replace M : Mem w [⟨g1, .cells (arr 20 (decP r).f) 27⟩] w3 := M
  refine pv 12 (.int .i64 (decC r)) ?_
  refine nt ?_
  refine sr ?_
  refine pv 30 (.string s) ?_
  refine pl_call M (want_no rfl) (some 31) rfl 5 #[.string s] (.tuple #[.agg (arr 20 (decP s).f), .int .i64 (decC s)]) (fun _ => by kernel_rfl) (dec_yes rfl rfl) ?_
  intro w4 M
  refine pv 29 (.tuple #[.agg (arr 20 (decP s).f), .int .i64 (decC s)]) ?_
  refine pv 32 (.agg (arr 20 (decP s).f)) ?_
  refine pv 33 (.int .i64 (decC s)) ?_
  refine pl_new M (want_no rfl) (some 13) rfl (.cells (arr 20 (fun _ => 0)) 27) (fun _ => by kernel_rfl) ?_
  intro g2 w5 M
  replace M : Mem w [⟨g1, .cells (arr 20 (decP r).f) 27⟩, ⟨g2, .cells (arr 20 (fun _ => 0)) 27⟩] w5 := M
  refine pl_put M (want_no rfl) rfl 27 _ _ rfl 1 g2 (by kernel_rfl) 20 27 (fun _ => 0) (decP s).f rfl (by kernel_rfl) inz27 ?_
  intro w6 M
  replace M : Mem w [⟨g1, .cells (arr 20 (decP r).f) 27⟩, ⟨g2, .cells (arr 20 (decP s).f) 27⟩] w6 := M
  refine pv 14 (.int .i64 (decC s)) ?_
  refine nt ?_
  refine sr ?_
  refine pv 35 (.string t) ?_
  refine pl_call M (want_no rfl) (some 36) rfl 5 #[.string t] (.tuple #[.agg (arr 20 (decP t).f), .int .i64 (decC t)]) (fun _ => by kernel_rfl) (dec_yes rfl rfl) ?_
  intro w7 M
  refine pv 34 (.tuple #[.agg (arr 20 (decP t).f), .int .i64 (decC t)]) ?_
  refine pv 37 (.agg (arr 20 (decP t).f)) ?_
  refine pv 38 (.int .i64 (decC t)) ?_
  refine pl_new M (want_no rfl) (some 15) rfl (.cells (arr 20 (fun _ => 0)) 27) (fun _ => by kernel_rfl) ?_
  intro g3 w8 M
  replace M : Mem w [⟨g1, .cells (arr 20 (decP r).f) 27⟩, ⟨g2, .cells (arr 20 (decP s).f) 27⟩, ⟨g3, .cells (arr 20 (fun _ => 0)) 27⟩] w8 := M
  refine pl_put M (want_no rfl) rfl 27 _ _ rfl 2 g3 (by kernel_rfl) 20 27 (fun _ => 0) (decP t).f rfl (by kernel_rfl) inz27 ?_
  intro w9 M
  replace M : Mem w [⟨g1, .cells (arr 20 (decP r).f) 27⟩, ⟨g2, .cells (arr 20 (decP s).f) 27⟩, ⟨g3, .cells (arr 20 (decP t).f) 27⟩] w9 := M
  refine pv 16 (.int .i64 (decC t)) ?_
  refine nt ?_
  refine wp_seq ?_
  refine sr ?_
  refine pv 39 (.int .i64 (decC r)) ?_
  refine pl_val (want_no rfl) (some 40) rfl (.bool true) (fun w => Eq.trans (b := .ok (.value (.bool (decide (decC r = 0)))) w) (by kernel_rfl) (by simp [he])) ?_
  refine pv 41 (.bool true) ?_
  refine pl_val (want_on 2 true rfl 41 rfl (by kernel_rfl)) (some 42) rfl (.int .i64 (decC s)) (fun _ => by kernel_rfl) ?_
  refine pl_val (want_on 2 true rfl 41 rfl (by kernel_rfl)) (some 43) rfl (.bool false) (fun w => Eq.trans (b := .ok (.value (.bool (decide (decC s = 0)))) w) (by kernel_rfl) (by simp [hf])) ?_
  refine pv 44 (.bool false) ?_
  refine pv 45 (.bool false) ?_
  refine pl_skip (want_off 6 true rfl 45 rfl (by kernel_rfl)) (some 46) rfl ?_
  refine pl_skip (want_off 6 true rfl 45 rfl (by kernel_rfl)) (some 47) rfl ?_
  refine pv 48 (.bool false) ?_
  refine nt ?_
  refine wp_cond_false (by kernel_rfl) ?_
  refine wp_skip ?_
  refine au_then ?_
  refine sr ?_
  refine pv 89 (.string m) ?_
  refine pl_call M (want_no rfl) (some 90) rfl 6 #[.string m] (.tuple #[.agg (arr 4 (Ord.d64 (ofV m))), .int .i64 (ofC m)]) (fun _ => by kernel_rfl) (c_of m) ?_
  intro w10 M
  refine pv 88 (.tuple #[.agg (arr 4 (Ord.d64 (ofV m))), .int .i64 (ofC m)]) ?_
  refine pv 91 (.agg (arr 4 (Ord.d64 (ofV m)))) ?_
  refine pv 92 (.int .i64 (ofC m)) ?_
  refine pl_new M (want_no rfl) (some 17) rfl (.cells (arr 4 (fun _ => 0)) 34) (fun _ => by kernel_rfl) ?_
  intro g4 w11 M
  replace M : Mem w [⟨g1, .cells (arr 20 (decP r).f) 27⟩, ⟨g2, .cells (arr 20 (decP s).f) 27⟩, ⟨g3, .cells (arr 20 (decP t).f) 27⟩, ⟨g4, .cells (arr 4 (fun _ => 0)) 34⟩] w11 := M
  refine pl_put M (want_no rfl) rfl 34 _ _ rfl 3 g4 (by kernel_rfl) 4 34 (fun _ => 0) (Ord.d64 (ofV m)) rfl (by kernel_rfl) inz34 ?_
  intro w12 M
  replace M : Mem w [⟨g1, .cells (arr 20 (decP r).f) 27⟩, ⟨g2, .cells (arr 20 (decP s).f) 27⟩, ⟨g3, .cells (arr 20 (decP t).f) 27⟩, ⟨g4, .cells (arr 4 (Ord.d64 (ofV m))) 34⟩] w12 := M
  refine pv 18 (.int .i64 (ofC m)) ?_
  refine nt ?_
  refine sr ?_
  refine pv 94 (.string n) ?_
  refine pl_call M (want_no rfl) (some 95) rfl 6 #[.string n] (.tuple #[.agg (arr 4 (Ord.d64 (ofV n))), .int .i64 (ofC n)]) (fun _ => by kernel_rfl) (c_of n) ?_
  intro w13 M
  refine pv 93 (.tuple #[.agg (arr 4 (Ord.d64 (ofV n))), .int .i64 (ofC n)]) ?_
  refine pv 96 (.agg (arr 4 (Ord.d64 (ofV n)))) ?_
  refine pv 97 (.int .i64 (ofC n)) ?_
  refine pl_new M (want_no rfl) (some 19) rfl (.cells (arr 4 (fun _ => 0)) 34) (fun _ => by kernel_rfl) ?_
  intro g5 w14 M
  replace M : Mem w [⟨g1, .cells (arr 20 (decP r).f) 27⟩, ⟨g2, .cells (arr 20 (decP s).f) 27⟩, ⟨g3, .cells (arr 20 (decP t).f) 27⟩, ⟨g4, .cells (arr 4 (Ord.d64 (ofV m))) 34⟩, ⟨g5, .cells (arr 4 (fun _ => 0)) 34⟩] w14 := M
  refine pl_put M (want_no rfl) rfl 34 _ _ rfl 4 g5 (by kernel_rfl) 4 34 (fun _ => 0) (Ord.d64 (ofV n)) rfl (by kernel_rfl) inz34 ?_
  intro w15 M
  replace M : Mem w [⟨g1, .cells (arr 20 (decP r).f) 27⟩, ⟨g2, .cells (arr 20 (decP s).f) 27⟩, ⟨g3, .cells (arr 20 (decP t).f) 27⟩, ⟨g4, .cells (arr 4 (Ord.d64 (ofV m))) 34⟩, ⟨g5, .cells (arr 4 (Ord.d64 (ofV n))) 34⟩] w15 := M
  refine pv 20 (.int .i64 (ofC n)) ?_
  refine nt ?_
  refine wp_seq ?_
  refine sr ?_
  refine pv 98 (.int .i64 (ofC m)) ?_
  refine pl_val (want_no rfl) (some 99) rfl (.bool true) (fun w => Eq.trans (b := .ok (.value (.bool (!(decide (ofC m = 0))))) w) (by kernel_rfl) (by simp [hh])) ?_
  refine pv 100 (.bool true) ?_
  refine pl_skip (want_off 2 false rfl 100 rfl (by kernel_rfl)) (some 101) rfl ?_
  refine pl_skip (want_off 2 false rfl 100 rfl (by kernel_rfl)) (some 102) rfl ?_
  refine pv 103 (.bool true) ?_
  refine nt ?_
  refine wp_cond_true (by kernel_rfl) ?_
  refine sr ?_
  refine pl_call M (want_no rfl) (some 104) rfl 7 #[] (.bool true) (fun _ => by kernel_rfl) alive_any ?_
  intro w16 M
  refine pv 10 (.bool true) ?_
  refine nt ?_
  refine wp_ret ?_
  refine au_then_ret ?_
  exact bodyPost_ret (v := .bool true) (results_tmp1 Tryz.results4 _ _ _ (by kernel_rfl)) (by kernel_rfl) ⟨rfl, M.old⟩

structure laws2bF (r s t m n : ByteArray)  : Prop where
  h0 : True

set_option maxRecDepth 100000 in
set_option maxHeartbeats 4000000 in
theorem laws2b_gen (r s t m n : ByteArray)  (w : World) (_F : laws2bF r s t m n ) (he : decC r = 0) (hf : ¬ decC s = 0) (hh : ofC m = 0) (hi : ¬ ofC n = 0) :
    Calls Tryz.prog 4 #[.string r, .string s, .string t, .string m, .string n] w fun r w' => r = .returned (.bool true) ∧ Below w.heap.size w w' := by
  go_enter Tryz.func4, Tryz.ntmps4
  have M := Mem.start w
  refine sr ?_
  refine pv 10 (.bool false) ?_
  refine nt ?_
  refine sr ?_
  refine pv 25 (.string r) ?_
  refine pl_call M (want_no rfl) (some 26) rfl 5 #[.string r] (.tuple #[.agg (arr 20 (decP r).f), .int .i64 (decC r)]) (fun _ => by kernel_rfl) (dec_yes rfl rfl) ?_
  intro w1 M
  refine pv 24 (.tuple #[.agg (arr 20 (decP r).f), .int .i64 (decC r)]) ?_
  refine pv 27 (.agg (arr 20 (decP r).f)) ?_
  refine pv 28 (.int .i64 (decC r)) ?_
  refine pl_new M (want_no rfl) (some 11) rfl (.cells (arr 20 (fun _ => 0)) 27) (fun _ => by kernel_rfl) ?_
  intro g1 w2 M
  replace M : Mem w [⟨g1, .cells (arr 20 (fun _ => 0)) 27⟩] w2 := M
  refine pl_put M (want_no rfl) rfl 27 _ _ rfl 0 g1 (by kernel_rfl) 20 27 (fun _ => 0) (decP r).f rfl (by kernel_rfl) inz27 ?_
  intro w3 M
  replace M : Mem w [⟨g1, .cells (arr 20 (decP r).f) 27⟩] w3 := M
  refine pv 12 (.int .i64 (decC r)) ?_
  refine nt ?_
  refine sr ?_
  refine pv 30 (.string s) ?_
  refine pl_call M (want_no rfl) (some 31) rfl 5 #[.string s] (.tuple #[.agg (arr 20 (decP s).f), .int .i64 (decC s)]) (fun _ => by kernel_rfl) (dec_yes rfl rfl) ?_
  intro w4 M
  refine pv 29 (.tuple #[.agg (arr 20 (decP s).f), .int .i64 (decC s)]) ?_
  refine pv 32 (.agg (arr 20 (decP s).f)) ?_
  refine pv 33 (.int .i64 (decC s)) ?_
  refine pl_new M (want_no rfl) (some 13) rfl (.cells (arr 20 (fun _ => 0)) 27) (fun _ => by kernel_rfl) ?_
  intro g2 w5 M
  replace M : Mem w [⟨g1, .cells (arr 20 (decP r).f) 27⟩, ⟨g2, .cells (arr 20 (fun _ => 0)) 27⟩] w5 := M
  refine pl_put M (want_no rfl) rfl 27 _ _ rfl 1 g2 (by kernel_rfl) 20 27 (fun _ => 0) (decP s).f rfl (by kernel_rfl) inz27 ?_
  intro w6 M
  replace M : Mem w [⟨g1, .cells (arr 20 (decP r).f) 27⟩, ⟨g2, .cells (arr 20 (decP s).f) 27⟩] w6 := M
  refine pv 14 (.int .i64 (decC s)) ?_
  refine nt ?_
  refine sr ?_
  refine pv 35 (.string t) ?_
  refine pl_call M (want_no rfl) (some 36) rfl 5 #[.string t] (.tuple #[.agg (arr 20 (decP t).f), .int .i64 (decC t)]) (fun _ => by kernel_rfl) (dec_yes rfl rfl) ?_
  intro w7 M
  refine pv 34 (.tuple #[.agg (arr 20 (decP t).f), .int .i64 (decC t)]) ?_
  refine pv 37 (.agg (arr 20 (decP t).f)) ?_
  refine pv 38 (.int .i64 (decC t)) ?_
  refine pl_new M (want_no rfl) (some 15) rfl (.cells (arr 20 (fun _ => 0)) 27) (fun _ => by kernel_rfl) ?_
  intro g3 w8 M
  replace M : Mem w [⟨g1, .cells (arr 20 (decP r).f) 27⟩, ⟨g2, .cells (arr 20 (decP s).f) 27⟩, ⟨g3, .cells (arr 20 (fun _ => 0)) 27⟩] w8 := M
  refine pl_put M (want_no rfl) rfl 27 _ _ rfl 2 g3 (by kernel_rfl) 20 27 (fun _ => 0) (decP t).f rfl (by kernel_rfl) inz27 ?_
  intro w9 M
  replace M : Mem w [⟨g1, .cells (arr 20 (decP r).f) 27⟩, ⟨g2, .cells (arr 20 (decP s).f) 27⟩, ⟨g3, .cells (arr 20 (decP t).f) 27⟩] w9 := M
  refine pv 16 (.int .i64 (decC t)) ?_
  refine nt ?_
  refine wp_seq ?_
  refine sr ?_
  refine pv 39 (.int .i64 (decC r)) ?_
  refine pl_val (want_no rfl) (some 40) rfl (.bool true) (fun w => Eq.trans (b := .ok (.value (.bool (decide (decC r = 0)))) w) (by kernel_rfl) (by simp [he])) ?_
  refine pv 41 (.bool true) ?_
  refine pl_val (want_on 2 true rfl 41 rfl (by kernel_rfl)) (some 42) rfl (.int .i64 (decC s)) (fun _ => by kernel_rfl) ?_
  refine pl_val (want_on 2 true rfl 41 rfl (by kernel_rfl)) (some 43) rfl (.bool false) (fun w => Eq.trans (b := .ok (.value (.bool (decide (decC s = 0)))) w) (by kernel_rfl) (by simp [hf])) ?_
  refine pv 44 (.bool false) ?_
  refine pv 45 (.bool false) ?_
  refine pl_skip (want_off 6 true rfl 45 rfl (by kernel_rfl)) (some 46) rfl ?_
  refine pl_skip (want_off 6 true rfl 45 rfl (by kernel_rfl)) (some 47) rfl ?_
  refine pv 48 (.bool false) ?_
  refine nt ?_
  refine wp_cond_false (by kernel_rfl) ?_
  refine wp_skip ?_
  refine au_then ?_
  refine sr ?_
  refine pv 89 (.string m) ?_
  refine pl_call M (want_no rfl) (some 90) rfl 6 #[.string m] (.tuple #[.agg (arr 4 (Ord.d64 (ofV m))), .int .i64 (ofC m)]) (fun _ => by kernel_rfl) (c_of m) ?_
  intro w10 M
  refine pv 88 (.tuple #[.agg (arr 4 (Ord.d64 (ofV m))), .int .i64 (ofC m)]) ?_
  refine pv 91 (.agg (arr 4 (Ord.d64 (ofV m)))) ?_
  refine pv 92 (.int .i64 (ofC m)) ?_
  refine pl_new M (want_no rfl) (some 17) rfl (.cells (arr 4 (fun _ => 0)) 34) (fun _ => by kernel_rfl) ?_
  intro g4 w11 M
  replace M : Mem w [⟨g1, .cells (arr 20 (decP r).f) 27⟩, ⟨g2, .cells (arr 20 (decP s).f) 27⟩, ⟨g3, .cells (arr 20 (decP t).f) 27⟩, ⟨g4, .cells (arr 4 (fun _ => 0)) 34⟩] w11 := M
  refine pl_put M (want_no rfl) rfl 34 _ _ rfl 3 g4 (by kernel_rfl) 4 34 (fun _ => 0) (Ord.d64 (ofV m)) rfl (by kernel_rfl) inz34 ?_
  intro w12 M
  replace M : Mem w [⟨g1, .cells (arr 20 (decP r).f) 27⟩, ⟨g2, .cells (arr 20 (decP s).f) 27⟩, ⟨g3, .cells (arr 20 (decP t).f) 27⟩, ⟨g4, .cells (arr 4 (Ord.d64 (ofV m))) 34⟩] w12 := M
  refine pv 18 (.int .i64 (ofC m)) ?_
  refine nt ?_
  refine sr ?_
  refine pv 94 (.string n) ?_
  refine pl_call M (want_no rfl) (some 95) rfl 6 #[.string n] (.tuple #[.agg (arr 4 (Ord.d64 (ofV n))), .int .i64 (ofC n)]) (fun _ => by kernel_rfl) (c_of n) ?_
  intro w13 M
  refine pv 93 (.tuple #[.agg (arr 4 (Ord.d64 (ofV n))), .int .i64 (ofC n)]) ?_
  refine pv 96 (.agg (arr 4 (Ord.d64 (ofV n)))) ?_
  refine pv 97 (.int .i64 (ofC n)) ?_
  refine pl_new M (want_no rfl) (some 19) rfl (.cells (arr 4 (fun _ => 0)) 34) (fun _ => by kernel_rfl) ?_
  intro g5 w14 M
  replace M : Mem w [⟨g1, .cells (arr 20 (decP r).f) 27⟩, ⟨g2, .cells (arr 20 (decP s).f) 27⟩, ⟨g3, .cells (arr 20 (decP t).f) 27⟩, ⟨g4, .cells (arr 4 (Ord.d64 (ofV m))) 34⟩, ⟨g5, .cells (arr 4 (fun _ => 0)) 34⟩] w14 := M
  refine pl_put M (want_no rfl) rfl 34 _ _ rfl 4 g5 (by kernel_rfl) 4 34 (fun _ => 0) (Ord.d64 (ofV n)) rfl (by kernel_rfl) inz34 ?_
  intro w15 M
  replace M : Mem w [⟨g1, .cells (arr 20 (decP r).f) 27⟩, ⟨g2, .cells (arr 20 (decP s).f) 27⟩, ⟨g3, .cells (arr 20 (decP t).f) 27⟩, ⟨g4, .cells (arr 4 (Ord.d64 (ofV m))) 34⟩, ⟨g5, .cells (arr 4 (Ord.d64 (ofV n))) 34⟩] w15 := M
  refine pv 20 (.int .i64 (ofC n)) ?_
  refine nt ?_
  refine wp_seq ?_
  refine sr ?_
  refine pv 98 (.int .i64 (ofC m)) ?_
  refine pl_val (want_no rfl) (some 99) rfl (.bool false) (fun w => Eq.trans (b := .ok (.value (.bool (!(decide (ofC m = 0))))) w) (by kernel_rfl) (by simp [hh])) ?_
  refine pv 100 (.bool false) ?_
  refine pl_val (want_on 2 false rfl 100 rfl (by kernel_rfl)) (some 101) rfl (.int .i64 (ofC n)) (fun _ => by kernel_rfl) ?_
  refine pl_val (want_on 2 false rfl 100 rfl (by kernel_rfl)) (some 102) rfl (.bool true) (fun w => Eq.trans (b := .ok (.value (.bool (!(decide (ofC n = 0))))) w) (by kernel_rfl) (by simp [hi])) ?_
  refine pv 103 (.bool true) ?_
  refine nt ?_
  refine wp_cond_true (by kernel_rfl) ?_
  refine sr ?_
  refine pl_call M (want_no rfl) (some 104) rfl 7 #[] (.bool true) (fun _ => by kernel_rfl) alive_any ?_
  intro w16 M
  refine pv 10 (.bool true) ?_
  refine nt ?_
  refine wp_ret ?_
  refine au_then_ret ?_
  exact bodyPost_ret (v := .bool true) (results_tmp1 Tryz.results4 _ _ _ (by kernel_rfl)) (by kernel_rfl) ⟨rfl, M.old⟩

structure laws2cF (r s t m n : ByteArray)  : Prop where
  h0 : True

set_option maxRecDepth 100000 in
set_option maxHeartbeats 4000000 in
theorem laws2c_gen (r s t m n : ByteArray)  (w : World) (_F : laws2cF r s t m n ) (he : decC r = 0) (hf : ¬ decC s = 0) (hh : ofC m = 0) (hi : ofC n = 0) :
    Calls Tryz.prog 4 #[.string r, .string s, .string t, .string m, .string n] w fun r w' => r = .returned (.bool true) ∧ Below w.heap.size w w' := by
  go_enter Tryz.func4, Tryz.ntmps4
  have M := Mem.start w
  refine sr ?_
  refine pv 10 (.bool false) ?_
  refine nt ?_
  refine sr ?_
  refine pv 25 (.string r) ?_
  refine pl_call M (want_no rfl) (some 26) rfl 5 #[.string r] (.tuple #[.agg (arr 20 (decP r).f), .int .i64 (decC r)]) (fun _ => by kernel_rfl) (dec_yes rfl rfl) ?_
  intro w1 M
  refine pv 24 (.tuple #[.agg (arr 20 (decP r).f), .int .i64 (decC r)]) ?_
  refine pv 27 (.agg (arr 20 (decP r).f)) ?_
  refine pv 28 (.int .i64 (decC r)) ?_
  refine pl_new M (want_no rfl) (some 11) rfl (.cells (arr 20 (fun _ => 0)) 27) (fun _ => by kernel_rfl) ?_
  intro g1 w2 M
  replace M : Mem w [⟨g1, .cells (arr 20 (fun _ => 0)) 27⟩] w2 := M
  refine pl_put M (want_no rfl) rfl 27 _ _ rfl 0 g1 (by kernel_rfl) 20 27 (fun _ => 0) (decP r).f rfl (by kernel_rfl) inz27 ?_
  intro w3 M
  replace M : Mem w [⟨g1, .cells (arr 20 (decP r).f) 27⟩] w3 := M
  refine pv 12 (.int .i64 (decC r)) ?_
  refine nt ?_
  refine sr ?_
  refine pv 30 (.string s) ?_
  refine pl_call M (want_no rfl) (some 31) rfl 5 #[.string s] (.tuple #[.agg (arr 20 (decP s).f), .int .i64 (decC s)]) (fun _ => by kernel_rfl) (dec_yes rfl rfl) ?_
  intro w4 M
  refine pv 29 (.tuple #[.agg (arr 20 (decP s).f), .int .i64 (decC s)]) ?_
  refine pv 32 (.agg (arr 20 (decP s).f)) ?_
  refine pv 33 (.int .i64 (decC s)) ?_
  refine pl_new M (want_no rfl) (some 13) rfl (.cells (arr 20 (fun _ => 0)) 27) (fun _ => by kernel_rfl) ?_
  intro g2 w5 M
  replace M : Mem w [⟨g1, .cells (arr 20 (decP r).f) 27⟩, ⟨g2, .cells (arr 20 (fun _ => 0)) 27⟩] w5 := M
  refine pl_put M (want_no rfl) rfl 27 _ _ rfl 1 g2 (by kernel_rfl) 20 27 (fun _ => 0) (decP s).f rfl (by kernel_rfl) inz27 ?_
  intro w6 M
  replace M : Mem w [⟨g1, .cells (arr 20 (decP r).f) 27⟩, ⟨g2, .cells (arr 20 (decP s).f) 27⟩] w6 := M
  refine pv 14 (.int .i64 (decC s)) ?_
  refine nt ?_
  refine sr ?_
  refine pv 35 (.string t) ?_
  refine pl_call M (want_no rfl) (some 36) rfl 5 #[.string t] (.tuple #[.agg (arr 20 (decP t).f), .int .i64 (decC t)]) (fun _ => by kernel_rfl) (dec_yes rfl rfl) ?_
  intro w7 M
  refine pv 34 (.tuple #[.agg (arr 20 (decP t).f), .int .i64 (decC t)]) ?_
  refine pv 37 (.agg (arr 20 (decP t).f)) ?_
  refine pv 38 (.int .i64 (decC t)) ?_
  refine pl_new M (want_no rfl) (some 15) rfl (.cells (arr 20 (fun _ => 0)) 27) (fun _ => by kernel_rfl) ?_
  intro g3 w8 M
  replace M : Mem w [⟨g1, .cells (arr 20 (decP r).f) 27⟩, ⟨g2, .cells (arr 20 (decP s).f) 27⟩, ⟨g3, .cells (arr 20 (fun _ => 0)) 27⟩] w8 := M
  refine pl_put M (want_no rfl) rfl 27 _ _ rfl 2 g3 (by kernel_rfl) 20 27 (fun _ => 0) (decP t).f rfl (by kernel_rfl) inz27 ?_
  intro w9 M
  replace M : Mem w [⟨g1, .cells (arr 20 (decP r).f) 27⟩, ⟨g2, .cells (arr 20 (decP s).f) 27⟩, ⟨g3, .cells (arr 20 (decP t).f) 27⟩] w9 := M
  refine pv 16 (.int .i64 (decC t)) ?_
  refine nt ?_
  refine wp_seq ?_
  refine sr ?_
  refine pv 39 (.int .i64 (decC r)) ?_
  refine pl_val (want_no rfl) (some 40) rfl (.bool true) (fun w => Eq.trans (b := .ok (.value (.bool (decide (decC r = 0)))) w) (by kernel_rfl) (by simp [he])) ?_
  refine pv 41 (.bool true) ?_
  refine pl_val (want_on 2 true rfl 41 rfl (by kernel_rfl)) (some 42) rfl (.int .i64 (decC s)) (fun _ => by kernel_rfl) ?_
  refine pl_val (want_on 2 true rfl 41 rfl (by kernel_rfl)) (some 43) rfl (.bool false) (fun w => Eq.trans (b := .ok (.value (.bool (decide (decC s = 0)))) w) (by kernel_rfl) (by simp [hf])) ?_
  refine pv 44 (.bool false) ?_
  refine pv 45 (.bool false) ?_
  refine pl_skip (want_off 6 true rfl 45 rfl (by kernel_rfl)) (some 46) rfl ?_
  refine pl_skip (want_off 6 true rfl 45 rfl (by kernel_rfl)) (some 47) rfl ?_
  refine pv 48 (.bool false) ?_
  refine nt ?_
  refine wp_cond_false (by kernel_rfl) ?_
  refine wp_skip ?_
  refine au_then ?_
  refine sr ?_
  refine pv 89 (.string m) ?_
  refine pl_call M (want_no rfl) (some 90) rfl 6 #[.string m] (.tuple #[.agg (arr 4 (Ord.d64 (ofV m))), .int .i64 (ofC m)]) (fun _ => by kernel_rfl) (c_of m) ?_
  intro w10 M
  refine pv 88 (.tuple #[.agg (arr 4 (Ord.d64 (ofV m))), .int .i64 (ofC m)]) ?_
  refine pv 91 (.agg (arr 4 (Ord.d64 (ofV m)))) ?_
  refine pv 92 (.int .i64 (ofC m)) ?_
  refine pl_new M (want_no rfl) (some 17) rfl (.cells (arr 4 (fun _ => 0)) 34) (fun _ => by kernel_rfl) ?_
  intro g4 w11 M
  replace M : Mem w [⟨g1, .cells (arr 20 (decP r).f) 27⟩, ⟨g2, .cells (arr 20 (decP s).f) 27⟩, ⟨g3, .cells (arr 20 (decP t).f) 27⟩, ⟨g4, .cells (arr 4 (fun _ => 0)) 34⟩] w11 := M
  refine pl_put M (want_no rfl) rfl 34 _ _ rfl 3 g4 (by kernel_rfl) 4 34 (fun _ => 0) (Ord.d64 (ofV m)) rfl (by kernel_rfl) inz34 ?_
  intro w12 M
  replace M : Mem w [⟨g1, .cells (arr 20 (decP r).f) 27⟩, ⟨g2, .cells (arr 20 (decP s).f) 27⟩, ⟨g3, .cells (arr 20 (decP t).f) 27⟩, ⟨g4, .cells (arr 4 (Ord.d64 (ofV m))) 34⟩] w12 := M
  refine pv 18 (.int .i64 (ofC m)) ?_
  refine nt ?_
  refine sr ?_
  refine pv 94 (.string n) ?_
  refine pl_call M (want_no rfl) (some 95) rfl 6 #[.string n] (.tuple #[.agg (arr 4 (Ord.d64 (ofV n))), .int .i64 (ofC n)]) (fun _ => by kernel_rfl) (c_of n) ?_
  intro w13 M
  refine pv 93 (.tuple #[.agg (arr 4 (Ord.d64 (ofV n))), .int .i64 (ofC n)]) ?_
  refine pv 96 (.agg (arr 4 (Ord.d64 (ofV n)))) ?_
  refine pv 97 (.int .i64 (ofC n)) ?_
  refine pl_new M (want_no rfl) (some 19) rfl (.cells (arr 4 (fun _ => 0)) 34) (fun _ => by kernel_rfl) ?_
  intro g5 w14 M
  replace M : Mem w [⟨g1, .cells (arr 20 (decP r).f) 27⟩, ⟨g2, .cells (arr 20 (decP s).f) 27⟩, ⟨g3, .cells (arr 20 (decP t).f) 27⟩, ⟨g4, .cells (arr 4 (Ord.d64 (ofV m))) 34⟩, ⟨g5, .cells (arr 4 (fun _ => 0)) 34⟩] w14 := M
  refine pl_put M (want_no rfl) rfl 34 _ _ rfl 4 g5 (by kernel_rfl) 4 34 (fun _ => 0) (Ord.d64 (ofV n)) rfl (by kernel_rfl) inz34 ?_
  intro w15 M
  replace M : Mem w [⟨g1, .cells (arr 20 (decP r).f) 27⟩, ⟨g2, .cells (arr 20 (decP s).f) 27⟩, ⟨g3, .cells (arr 20 (decP t).f) 27⟩, ⟨g4, .cells (arr 4 (Ord.d64 (ofV m))) 34⟩, ⟨g5, .cells (arr 4 (Ord.d64 (ofV n))) 34⟩] w15 := M
  refine pv 20 (.int .i64 (ofC n)) ?_
  refine nt ?_
  refine wp_seq ?_
  refine sr ?_
  refine pv 98 (.int .i64 (ofC m)) ?_
  refine pl_val (want_no rfl) (some 99) rfl (.bool false) (fun w => Eq.trans (b := .ok (.value (.bool (!(decide (ofC m = 0))))) w) (by kernel_rfl) (by simp [hh])) ?_
  refine pv 100 (.bool false) ?_
  refine pl_val (want_on 2 false rfl 100 rfl (by kernel_rfl)) (some 101) rfl (.int .i64 (ofC n)) (fun _ => by kernel_rfl) ?_
  refine pl_val (want_on 2 false rfl 100 rfl (by kernel_rfl)) (some 102) rfl (.bool false) (fun w => Eq.trans (b := .ok (.value (.bool (!(decide (ofC n = 0))))) w) (by kernel_rfl) (by simp [hi])) ?_
  refine pv 103 (.bool false) ?_
  refine nt ?_
  refine wp_cond_false (by kernel_rfl) ?_
  refine wp_skip ?_
  refine au_then ?_
  refine sr ?_
  refine pl_call M (want_no rfl) (some 105) rfl 20 #[] (.agg (arr 20 base5.f)) (fun _ => by kernel_rfl) c_base ?_
  intro w16 M
  refine pl_new M (want_no rfl) (some 21) rfl (.cells (arr 20 (fun _ => 0)) 27) (fun _ => by kernel_rfl) ?_
  intro g6 w17 M
  replace M : Mem w [⟨g1, .cells (arr 20 (decP r).f) 27⟩, ⟨g2, .cells (arr 20 (decP s).f) 27⟩, ⟨g3, .cells (arr 20 (decP t).f) 27⟩, ⟨g4, .cells (arr 4 (Ord.d64 (ofV m))) 34⟩, ⟨g5, .cells (arr 4 (Ord.d64 (ofV n))) 34⟩, ⟨g6, .cells (arr 20 (fun _ => 0)) 27⟩] w17 := M
  refine pl_put M (want_no rfl) rfl 27 _ _ rfl 5 g6 (by kernel_rfl) 20 27 (fun _ => 0) base5.f rfl (by kernel_rfl) inz27 ?_
  intro w18 M
  replace M : Mem w [⟨g1, .cells (arr 20 (decP r).f) 27⟩, ⟨g2, .cells (arr 20 (decP s).f) 27⟩, ⟨g3, .cells (arr 20 (decP t).f) 27⟩, ⟨g4, .cells (arr 4 (Ord.d64 (ofV m))) 34⟩, ⟨g5, .cells (arr 4 (Ord.d64 (ofV n))) 34⟩, ⟨g6, .cells (arr 20 base5.f) 27⟩] w18 := M
  refine nt ?_
  refine sr ?_
  refine pl_load M (want_no rfl) (some 106) rfl 27 _ rfl 5 g6 0 (by kernel_rfl) 20 27 base5.f rfl 20 base5.f (Part.all _ _) (by decide) _ Tryz.underlying27 rfl inz27 ?_
  refine pl_load M (want_no rfl) (some 107) rfl 34 _ rfl 3 g4 0 (by kernel_rfl) 4 34 (Ord.d64 (ofV m)) rfl 4 (Ord.d64 (ofV m)) (Part.all _ _) (by decide) _ Tryz.underlying34 rfl inz34 ?_
  refine pl_call M (want_no rfl) (some 108) rfl 15 #[.agg (arr 20 base5.f), .agg (arr 4 (Ord.d64 (ofV m)))] (.agg (arr 20 (mulV base5 (ofV m)).f)) (fun _ => by kernel_rfl) (fun w => c_mul base_rep (ofV m) w) ?_
  intro w19 M
  refine pl_new M (want_no rfl) (some 22) rfl (.cells (arr 20 (fun _ => 0)) 27) (fun _ => by kernel_rfl) ?_
  intro g7 w20 M
  replace M : Mem w [⟨g1, .cells (arr 20 (decP r).f) 27⟩, ⟨g2, .cells (arr 20 (decP s).f) 27⟩, ⟨g3, .cells (arr 20 (decP t).f) 27⟩, ⟨g4, .cells (arr 4 (Ord.d64 (ofV m))) 34⟩, ⟨g5, .cells (arr 4 (Ord.d64 (ofV n))) 34⟩, ⟨g6, .cells (arr 20 base5.f) 27⟩, ⟨g7, .cells (arr 20 (fun _ => 0)) 27⟩] w20 := M
  refine pl_put M (want_no rfl) rfl 27 _ _ rfl 6 g7 (by kernel_rfl) 20 27 (fun _ => 0) (mulV base5 (ofV m)).f rfl (by kernel_rfl) inz27 ?_
  intro w21 M
  replace M : Mem w [⟨g1, .cells (arr 20 (decP r).f) 27⟩, ⟨g2, .cells (arr 20 (decP s).f) 27⟩, ⟨g3, .cells (arr 20 (decP t).f) 27⟩, ⟨g4, .cells (arr 4 (Ord.d64 (ofV m))) 34⟩, ⟨g5, .cells (arr 4 (Ord.d64 (ofV n))) 34⟩, ⟨g6, .cells (arr 20 base5.f) 27⟩, ⟨g7, .cells (arr 20 (mulV base5 (ofV m)).f) 27⟩] w21 := M
  refine nt ?_
  refine sr ?_
  refine pl_load M (want_no rfl) (some 109) rfl 27 _ rfl 5 g6 0 (by kernel_rfl) 20 27 base5.f rfl 20 base5.f (Part.all _ _) (by decide) _ Tryz.underlying27 rfl inz27 ?_
  refine pl_load M (want_no rfl) (some 110) rfl 34 _ rfl 4 g5 0 (by kernel_rfl) 4 34 (Ord.d64 (ofV n)) rfl 4 (Ord.d64 (ofV n)) (Part.all _ _) (by decide) _ Tryz.underlying34 rfl inz34 ?_
  refine pl_call M (want_no rfl) (some 111) rfl 15 #[.agg (arr 20 base5.f), .agg (arr 4 (Ord.d64 (ofV n)))] (.agg (arr 20 (mulV base5 (ofV n)).f)) (fun _ => by kernel_rfl) (fun w => c_mul base_rep (ofV n) w) ?_
  intro w22 M
  refine pl_new M (want_no rfl) (some 23) rfl (.cells (arr 20 (fun _ => 0)) 27) (fun _ => by kernel_rfl) ?_
  intro g8 w23 M
  replace M : Mem w [⟨g1, .cells (arr 20 (decP r).f) 27⟩, ⟨g2, .cells (arr 20 (decP s).f) 27⟩, ⟨g3, .cells (arr 20 (decP t).f) 27⟩, ⟨g4, .cells (arr 4 (Ord.d64 (ofV m))) 34⟩, ⟨g5, .cells (arr 4 (Ord.d64 (ofV n))) 34⟩, ⟨g6, .cells (arr 20 base5.f) 27⟩, ⟨g7, .cells (arr 20 (mulV base5 (ofV m)).f) 27⟩, ⟨g8, .cells (arr 20 (fun _ => 0)) 27⟩] w23 := M
  refine pl_put M (want_no rfl) rfl 27 _ _ rfl 7 g8 (by kernel_rfl) 20 27 (fun _ => 0) (mulV base5 (ofV n)).f rfl (by kernel_rfl) inz27 ?_
  intro w24 M
  replace M : Mem w [⟨g1, .cells (arr 20 (decP r).f) 27⟩, ⟨g2, .cells (arr 20 (decP s).f) 27⟩, ⟨g3, .cells (arr 20 (decP t).f) 27⟩, ⟨g4, .cells (arr 4 (Ord.d64 (ofV m))) 34⟩, ⟨g5, .cells (arr 4 (Ord.d64 (ofV n))) 34⟩, ⟨g6, .cells (arr 20 base5.f) 27⟩, ⟨g7, .cells (arr 20 (mulV base5 (ofV m)).f) 27⟩, ⟨g8, .cells (arr 20 (mulV base5 (ofV n)).f) 27⟩] w24 := M
  refine nt ?_
  refine wp_seq ?_
  refine rg_tail M 42 (by kernel_rfl) (by kernel_rfl) ?_
  simp only [List.take_succ_cons, List.take_zero]
  refine k_load M (want_no rfl) (some 112) rfl 27 _ rfl 6 g7 0 (by kernel_rfl) 20 27 (mulV base5 (ofV m)).f rfl 20 (mulV base5 (ofV m)).f (Part.all _ _) (by decide) _ Tryz.underlying27 rfl inz27 ?_
  refine k_load M (want_no rfl) (some 113) rfl 27 _ rfl 7 g8 0 (by kernel_rfl) 20 27 (mulV base5 (ofV n)).f rfl 20 (mulV base5 (ofV n)).f (Part.all _ _) (by decide) _ Tryz.underlying27 rfl inz27 ?_
  refine k_call (want_no rfl) (some 114) rfl 11 #[.agg (arr 20 (mulV base5 (ofV m)).f), .agg (arr 20 (mulV base5 (ofV n)).f)] (.agg (arr 20 (addV (mulV base5 (ofV m)) (mulV base5 (ofV n))).f)) (fun _ => by kernel_rfl) (fun w => c_add (mulV base5 (ofV m)) (mulV base5 (ofV n)) w (base_rep.mul (ofV_bd m)).ok (base_rep.mul (ofV_bd n)).ok) ?_
  refine k_load M (want_no rfl) (some 115) rfl 27 _ rfl 5 g6 0 (by kernel_rfl) 20 27 base5.f rfl 20 base5.f (Part.all _ _) (by decide) _ Tryz.underlying27 rfl inz27 ?_
  refine k_load M (want_no rfl) (some 116) rfl 34 _ rfl 3 g4 0 (by kernel_rfl) 4 34 (Ord.d64 (ofV m)) rfl 4 (Ord.d64 (ofV m)) (Part.all _ _) (by decide) _ Tryz.underlying34 rfl inz34 ?_
  refine k_load M (want_no rfl) (some 117) rfl 34 _ rfl 4 g5 0 (by kernel_rfl) 4 34 (Ord.d64 (ofV n)) rfl 4 (Ord.d64 (ofV n)) (Part.all _ _) (by decide) _ Tryz.underlying34 rfl inz34 ?_
  refine k_call (want_no rfl) (some 118) rfl 21 #[.agg (arr 4 (Ord.d64 (ofV m))), .agg (arr 4 (Ord.d64 (ofV n)))] (.agg (arr 4 (Ord.d64 ((ofV m + ofV n) % Ord.Lm)))) (fun _ => by kernel_rfl) (fun w => Ord.add_any (ofV m) (ofV n) w (ofV_bd m) (ofV_bd n)) ?_
  refine k_call (want_no rfl) (some 119) rfl 15 #[.agg (arr 20 base5.f), .agg (arr 4 (Ord.d64 ((ofV m + ofV n) % Ord.Lm)))] (.agg (arr 20 (mulV base5 ((ofV m + ofV n) % Ord.Lm)).f)) (fun _ => by kernel_rfl) (fun w => c_mul base_rep ((ofV m + ofV n) % Ord.Lm) w) ?_
  refine k_call (want_no rfl) (some 120) rfl 17 #[.agg (arr 20 (addV (mulV base5 (ofV m)) (mulV base5 (ofV n))).f), .agg (arr 20 (mulV base5 ((ofV m + ofV n) % Ord.Lm)).f)] (.bool true) (fun _ => by kernel_rfl) (same_t (((base_rep.mul (ofV_bd m)).add (base_rep.mul (ofV_bd n))).at_ (l_add (ofV_bd m).1 (ofV_bd n).1).symm) (base_rep.mul (Ord.lmod _))) ?_
  refine kv 121 (.bool true) ?_
  refine k_load M (want_on 9 true rfl 121 rfl (by kernel_rfl)) (some 122) rfl 27 _ rfl 6 g7 0 (by kernel_rfl) 20 27 (mulV base5 (ofV m)).f rfl 20 (mulV base5 (ofV m)).f (Part.all _ _) (by decide) _ Tryz.underlying27 rfl inz27 ?_
  refine k_load M (want_on 9 true rfl 121 rfl (by kernel_rfl)) (some 123) rfl 34 _ rfl 4 g5 0 (by kernel_rfl) 4 34 (Ord.d64 (ofV n)) rfl 4 (Ord.d64 (ofV n)) (Part.all _ _) (by decide) _ Tryz.underlying34 rfl inz34 ?_
  refine k_call (want_on 9 true rfl 121 rfl (by kernel_rfl)) (some 124) rfl 15 #[.agg (arr 20 (mulV base5 (ofV m)).f), .agg (arr 4 (Ord.d64 (ofV n)))] (.agg (arr 20 (mulV (mulV base5 (ofV m)) (ofV n)).f)) (fun _ => by kernel_rfl) (fun w => c_mul (base_rep.mul (ofV_bd m)) (ofV n) w) ?_
  refine k_load M (want_on 9 true rfl 121 rfl (by kernel_rfl)) (some 125) rfl 27 _ rfl 7 g8 0 (by kernel_rfl) 20 27 (mulV base5 (ofV n)).f rfl 20 (mulV base5 (ofV n)).f (Part.all _ _) (by decide) _ Tryz.underlying27 rfl inz27 ?_
  refine k_load M (want_on 9 true rfl 121 rfl (by kernel_rfl)) (some 126) rfl 34 _ rfl 3 g4 0 (by kernel_rfl) 4 34 (Ord.d64 (ofV m)) rfl 4 (Ord.d64 (ofV m)) (Part.all _ _) (by decide) _ Tryz.underlying34 rfl inz34 ?_
  refine k_call (want_on 9 true rfl 121 rfl (by kernel_rfl)) (some 127) rfl 15 #[.agg (arr 20 (mulV base5 (ofV n)).f), .agg (arr 4 (Ord.d64 (ofV m)))] (.agg (arr 20 (mulV (mulV base5 (ofV n)) (ofV m)).f)) (fun _ => by kernel_rfl) (fun w => c_mul (base_rep.mul (ofV_bd n)) (ofV m) w) ?_
  refine k_call (want_on 9 true rfl 121 rfl (by kernel_rfl)) (some 128) rfl 17 #[.agg (arr 20 (mulV (mulV base5 (ofV m)) (ofV n)).f), .agg (arr 20 (mulV (mulV base5 (ofV n)) (ofV m)).f)] (.bool true) (fun _ => by kernel_rfl) (same_t (((base_rep.mul (ofV_bd m)).mul (ofV_bd n)).at_ (mul_swap _ _ _)) ((base_rep.mul (ofV_bd n)).mul (ofV_bd m))) ?_
  refine kv 129 (.bool true) ?_
  refine kv 130 (.bool true) ?_
  refine k_load M (want_on 18 true rfl 130 rfl (by kernel_rfl)) (some 131) rfl 27 _ rfl 6 g7 0 (by kernel_rfl) 20 27 (mulV base5 (ofV m)).f rfl 20 (mulV base5 (ofV m)).f (Part.all _ _) (by decide) _ Tryz.underlying27 rfl inz27 ?_
  refine k_load M (want_on 18 true rfl 130 rfl (by kernel_rfl)) (some 132) rfl 34 _ rfl 4 g5 0 (by kernel_rfl) 4 34 (Ord.d64 (ofV n)) rfl 4 (Ord.d64 (ofV n)) (Part.all _ _) (by decide) _ Tryz.underlying34 rfl inz34 ?_
  refine k_call (want_on 18 true rfl 130 rfl (by kernel_rfl)) (some 133) rfl 15 #[.agg (arr 20 (mulV base5 (ofV m)).f), .agg (arr 4 (Ord.d64 (ofV n)))] (.agg (arr 20 (mulV (mulV base5 (ofV m)) (ofV n)).f)) (fun _ => by kernel_rfl) (fun w => c_mul (base_rep.mul (ofV_bd m)) (ofV n) w) ?_
  refine k_load M (want_on 18 true rfl 130 rfl (by kernel_rfl)) (some 134) rfl 27 _ rfl 5 g6 0 (by kernel_rfl) 20 27 base5.f rfl 20 base5.f (Part.all _ _) (by decide) _ Tryz.underlying27 rfl inz27 ?_
  refine k_load M (want_on 18 true rfl 130 rfl (by kernel_rfl)) (some 135) rfl 34 _ rfl 3 g4 0 (by kernel_rfl) 4 34 (Ord.d64 (ofV m)) rfl 4 (Ord.d64 (ofV m)) (Part.all _ _) (by decide) _ Tryz.underlying34 rfl inz34 ?_
  refine k_load M (want_on 18 true rfl 130 rfl (by kernel_rfl)) (some 136) rfl 34 _ rfl 4 g5 0 (by kernel_rfl) 4 34 (Ord.d64 (ofV n)) rfl 4 (Ord.d64 (ofV n)) (Part.all _ _) (by decide) _ Tryz.underlying34 rfl inz34 ?_
  refine k_call (want_on 18 true rfl 130 rfl (by kernel_rfl)) (some 137) rfl 22 #[.agg (arr 4 (Ord.d64 (ofV m))), .agg (arr 4 (Ord.d64 (ofV n)))] (.agg (arr 4 (Ord.d64 (ofV m * ofV n % Ord.Lm)))) (fun _ => by kernel_rfl) (fun w => Ord.mul_any (ofV m) (ofV n) w (ofV_bd m) (ofV_bd n)) ?_
  refine k_call (want_on 18 true rfl 130 rfl (by kernel_rfl)) (some 138) rfl 15 #[.agg (arr 20 base5.f), .agg (arr 4 (Ord.d64 (ofV m * ofV n % Ord.Lm)))] (.agg (arr 20 (mulV base5 (ofV m * ofV n % Ord.Lm)).f)) (fun _ => by kernel_rfl) (fun w => c_mul base_rep (ofV m * ofV n % Ord.Lm) w) ?_
  refine k_call (want_on 18 true rfl 130 rfl (by kernel_rfl)) (some 139) rfl 17 #[.agg (arr 20 (mulV (mulV base5 (ofV m)) (ofV n)).f), .agg (arr 20 (mulV base5 (ofV m * ofV n % Ord.Lm)).f)] (.bool true) (fun _ => by kernel_rfl) (same_t (((base_rep.mul (ofV_bd m)).mul (ofV_bd n)).at_ (l_mul (ofV_bd m).1 (ofV_bd n).1).symm) (base_rep.mul (Ord.lmod _))) ?_
  refine kv 140 (.bool true) ?_
  refine kv 141 (.bool true) ?_
  refine k_load M (want_on 29 true rfl 141 rfl (by kernel_rfl)) (some 142) rfl 27 _ rfl 6 g7 0 (by kernel_rfl) 20 27 (mulV base5 (ofV m)).f rfl 20 (mulV base5 (ofV m)).f (Part.all _ _) (by decide) _ Tryz.underlying27 rfl inz27 ?_
  refine k_load M (want_on 29 true rfl 141 rfl (by kernel_rfl)) (some 143) rfl 27 _ rfl 5 g6 0 (by kernel_rfl) 20 27 base5.f rfl 20 base5.f (Part.all _ _) (by decide) _ Tryz.underlying27 rfl inz27 ?_
  refine k_load M (want_on 29 true rfl 141 rfl (by kernel_rfl)) (some 144) rfl 34 _ rfl 3 g4 0 (by kernel_rfl) 4 34 (Ord.d64 (ofV m)) rfl 4 (Ord.d64 (ofV m)) (Part.all _ _) (by decide) _ Tryz.underlying34 rfl inz34 ?_
  refine k_call (want_on 29 true rfl 141 rfl (by kernel_rfl)) (some 145) rfl 23 #[.agg (arr 4 (Ord.d64 (ofV m)))] (.agg (arr 4 (Ord.d64 ((-ofV m) % Ord.Lm)))) (fun _ => by kernel_rfl) (fun w => Ord.neg_any (ofV m) w (ofV_bd m)) ?_
  refine k_call (want_on 29 true rfl 141 rfl (by kernel_rfl)) (some 146) rfl 15 #[.agg (arr 20 base5.f), .agg (arr 4 (Ord.d64 ((-ofV m) % Ord.Lm)))] (.agg (arr 20 (mulV base5 ((-ofV m) % Ord.Lm)).f)) (fun _ => by kernel_rfl) (fun w => c_mul base_rep ((-ofV m) % Ord.Lm) w) ?_
  refine k_call (want_on 29 true rfl 141 rfl (by kernel_rfl)) (some 147) rfl 11 #[.agg (arr 20 (mulV base5 (ofV m)).f), .agg (arr 20 (mulV base5 ((-ofV m) % Ord.Lm)).f)] (.agg (arr 20 (addV (mulV base5 (ofV m)) (mulV base5 ((-ofV m) % Ord.Lm))).f)) (fun _ => by kernel_rfl) (fun w => c_add (mulV base5 (ofV m)) (mulV base5 ((-ofV m) % Ord.Lm)) w (base_rep.mul (ofV_bd m)).ok (base_rep.mul (Ord.lmod _)).ok) ?_
  refine k_call (want_on 29 true rfl 141 rfl (by kernel_rfl)) (some 148) rfl 19 #[] (.agg (arr 20 zero5.f)) (fun _ => by kernel_rfl) c_zero ?_
  refine k_call (want_on 29 true rfl 141 rfl (by kernel_rfl)) (some 149) rfl 17 #[.agg (arr 20 (addV (mulV base5 (ofV m)) (mulV base5 ((-ofV m) % Ord.Lm))).f), .agg (arr 20 zero5.f)] (.bool true) (fun _ => by kernel_rfl) (same_t (((base_rep.mul (ofV_bd m)).add (base_rep.mul (Ord.lmod _))).at_ (l_neg (ofV_bd m).1)) zero5_rep) ?_
  refine kv 150 (.bool true) ?_
  refine kv 151 (.bool true) ?_
  refine k_call (want_on 39 true rfl 151 rfl (by kernel_rfl)) (some 152) rfl 7 #[] (.bool true) (fun _ => by kernel_rfl) alive_any ?_
  refine kv 153 (.bool true) ?_
  refine kl_nil ?_
  intro w25 M
  replace M : Mem w [⟨g1, .cells (arr 20 (decP r).f) 27⟩, ⟨g2, .cells (arr 20 (decP s).f) 27⟩, ⟨g3, .cells (arr 20 (decP t).f) 27⟩, ⟨g4, .cells (arr 4 (Ord.d64 (ofV m))) 34⟩, ⟨g5, .cells (arr 4 (Ord.d64 (ofV n))) 34⟩, ⟨g6, .cells (arr 20 base5.f) 27⟩, ⟨g7, .cells (arr 20 (mulV base5 (ofV m)).f) 27⟩, ⟨g8, .cells (arr 20 (mulV base5 (ofV n)).f) 27⟩] w25 := M
  refine pv 10 (.bool true) ?_
  refine nt ?_
  refine wp_ret ?_
  exact bodyPost_ret (v := .bool true) (results_tmp1 Tryz.results4 _ _ _ (by kernel_rfl)) (by kernel_rfl) ⟨rfl, M.old⟩

structure laws3aF (r s t m n : ByteArray)  : Prop where
  h0 : True

set_option maxRecDepth 100000 in
set_option maxHeartbeats 4000000 in
theorem laws3a_gen (r s t m n : ByteArray)  (w : World) (_F : laws3aF r s t m n ) (he : decC r = 0) (hf : decC s = 0) (hg : ¬ decC t = 0) (hh : ¬ ofC m = 0) :
    Calls Tryz.prog 4 #[.string r, .string s, .string t, .string m, .string n] w fun r w' => r = .returned (.bool true) ∧ Below w.heap.size w w' := by
  go_enter Tryz.func4, Tryz.ntmps4
  have M := Mem.start w
  refine sr ?_
  refine pv 10 (.bool false) ?_
  refine nt ?_
  refine sr ?_
  refine pv 25 (.string r) ?_
  refine pl_call M (want_no rfl) (some 26) rfl 5 #[.string r] (.tuple #[.agg (arr 20 (decP r).f), .int .i64 (decC r)]) (fun _ => by kernel_rfl) (dec_yes rfl rfl) ?_
  intro w1 M
  refine pv 24 (.tuple #[.agg (arr 20 (decP r).f), .int .i64 (decC r)]) ?_
  refine pv 27 (.agg (arr 20 (decP r).f)) ?_
  refine pv 28 (.int .i64 (decC r)) ?_
  refine pl_new M (want_no rfl) (some 11) rfl (.cells (arr 20 (fun _ => 0)) 27) (fun _ => by kernel_rfl) ?_
  intro g1 w2 M
  replace M : Mem w [⟨g1, .cells (arr 20 (fun _ => 0)) 27⟩] w2 := M
  refine pl_put M (want_no rfl) rfl 27 _ _ rfl 0 g1 (by kernel_rfl) 20 27 (fun _ => 0) (decP r).f rfl (by kernel_rfl) inz27 ?_
  intro w3 M
  replace M : Mem w [⟨g1, .cells (arr 20 (decP r).f) 27⟩] w3 := M
  refine pv 12 (.int .i64 (decC r)) ?_
  refine nt ?_
  refine sr ?_
  refine pv 30 (.string s) ?_
  refine pl_call M (want_no rfl) (some 31) rfl 5 #[.string s] (.tuple #[.agg (arr 20 (decP s).f), .int .i64 (decC s)]) (fun _ => by kernel_rfl) (dec_yes rfl rfl) ?_
  intro w4 M
  refine pv 29 (.tuple #[.agg (arr 20 (decP s).f), .int .i64 (decC s)]) ?_
  refine pv 32 (.agg (arr 20 (decP s).f)) ?_
  refine pv 33 (.int .i64 (decC s)) ?_
  refine pl_new M (want_no rfl) (some 13) rfl (.cells (arr 20 (fun _ => 0)) 27) (fun _ => by kernel_rfl) ?_
  intro g2 w5 M
  replace M : Mem w [⟨g1, .cells (arr 20 (decP r).f) 27⟩, ⟨g2, .cells (arr 20 (fun _ => 0)) 27⟩] w5 := M
  refine pl_put M (want_no rfl) rfl 27 _ _ rfl 1 g2 (by kernel_rfl) 20 27 (fun _ => 0) (decP s).f rfl (by kernel_rfl) inz27 ?_
  intro w6 M
  replace M : Mem w [⟨g1, .cells (arr 20 (decP r).f) 27⟩, ⟨g2, .cells (arr 20 (decP s).f) 27⟩] w6 := M
  refine pv 14 (.int .i64 (decC s)) ?_
  refine nt ?_
  refine sr ?_
  refine pv 35 (.string t) ?_
  refine pl_call M (want_no rfl) (some 36) rfl 5 #[.string t] (.tuple #[.agg (arr 20 (decP t).f), .int .i64 (decC t)]) (fun _ => by kernel_rfl) (dec_yes rfl rfl) ?_
  intro w7 M
  refine pv 34 (.tuple #[.agg (arr 20 (decP t).f), .int .i64 (decC t)]) ?_
  refine pv 37 (.agg (arr 20 (decP t).f)) ?_
  refine pv 38 (.int .i64 (decC t)) ?_
  refine pl_new M (want_no rfl) (some 15) rfl (.cells (arr 20 (fun _ => 0)) 27) (fun _ => by kernel_rfl) ?_
  intro g3 w8 M
  replace M : Mem w [⟨g1, .cells (arr 20 (decP r).f) 27⟩, ⟨g2, .cells (arr 20 (decP s).f) 27⟩, ⟨g3, .cells (arr 20 (fun _ => 0)) 27⟩] w8 := M
  refine pl_put M (want_no rfl) rfl 27 _ _ rfl 2 g3 (by kernel_rfl) 20 27 (fun _ => 0) (decP t).f rfl (by kernel_rfl) inz27 ?_
  intro w9 M
  replace M : Mem w [⟨g1, .cells (arr 20 (decP r).f) 27⟩, ⟨g2, .cells (arr 20 (decP s).f) 27⟩, ⟨g3, .cells (arr 20 (decP t).f) 27⟩] w9 := M
  refine pv 16 (.int .i64 (decC t)) ?_
  refine nt ?_
  refine wp_seq ?_
  refine sr ?_
  refine pv 39 (.int .i64 (decC r)) ?_
  refine pl_val (want_no rfl) (some 40) rfl (.bool true) (fun w => Eq.trans (b := .ok (.value (.bool (decide (decC r = 0)))) w) (by kernel_rfl) (by simp [he])) ?_
  refine pv 41 (.bool true) ?_
  refine pl_val (want_on 2 true rfl 41 rfl (by kernel_rfl)) (some 42) rfl (.int .i64 (decC s)) (fun _ => by kernel_rfl) ?_
  refine pl_val (want_on 2 true rfl 41 rfl (by kernel_rfl)) (some 43) rfl (.bool true) (fun w => Eq.trans (b := .ok (.value (.bool (decide (decC s = 0)))) w) (by kernel_rfl) (by simp [hf])) ?_
  refine pv 44 (.bool true) ?_
  refine pv 45 (.bool true) ?_
  refine pl_val (want_on 6 true rfl 45 rfl (by kernel_rfl)) (some 46) rfl (.int .i64 (decC t)) (fun _ => by kernel_rfl) ?_
  refine pl_val (want_on 6 true rfl 45 rfl (by kernel_rfl)) (some 47) rfl (.bool false) (fun w => Eq.trans (b := .ok (.value (.bool (decide (decC t = 0)))) w) (by kernel_rfl) (by simp [hg])) ?_
  refine pv 48 (.bool false) ?_
  refine nt ?_
  refine wp_cond_false (by kernel_rfl) ?_
  refine wp_skip ?_
  refine au_then ?_
  refine sr ?_
  refine pv 89 (.string m) ?_
  refine pl_call M (want_no rfl) (some 90) rfl 6 #[.string m] (.tuple #[.agg (arr 4 (Ord.d64 (ofV m))), .int .i64 (ofC m)]) (fun _ => by kernel_rfl) (c_of m) ?_
  intro w10 M
  refine pv 88 (.tuple #[.agg (arr 4 (Ord.d64 (ofV m))), .int .i64 (ofC m)]) ?_
  refine pv 91 (.agg (arr 4 (Ord.d64 (ofV m)))) ?_
  refine pv 92 (.int .i64 (ofC m)) ?_
  refine pl_new M (want_no rfl) (some 17) rfl (.cells (arr 4 (fun _ => 0)) 34) (fun _ => by kernel_rfl) ?_
  intro g4 w11 M
  replace M : Mem w [⟨g1, .cells (arr 20 (decP r).f) 27⟩, ⟨g2, .cells (arr 20 (decP s).f) 27⟩, ⟨g3, .cells (arr 20 (decP t).f) 27⟩, ⟨g4, .cells (arr 4 (fun _ => 0)) 34⟩] w11 := M
  refine pl_put M (want_no rfl) rfl 34 _ _ rfl 3 g4 (by kernel_rfl) 4 34 (fun _ => 0) (Ord.d64 (ofV m)) rfl (by kernel_rfl) inz34 ?_
  intro w12 M
  replace M : Mem w [⟨g1, .cells (arr 20 (decP r).f) 27⟩, ⟨g2, .cells (arr 20 (decP s).f) 27⟩, ⟨g3, .cells (arr 20 (decP t).f) 27⟩, ⟨g4, .cells (arr 4 (Ord.d64 (ofV m))) 34⟩] w12 := M
  refine pv 18 (.int .i64 (ofC m)) ?_
  refine nt ?_
  refine sr ?_
  refine pv 94 (.string n) ?_
  refine pl_call M (want_no rfl) (some 95) rfl 6 #[.string n] (.tuple #[.agg (arr 4 (Ord.d64 (ofV n))), .int .i64 (ofC n)]) (fun _ => by kernel_rfl) (c_of n) ?_
  intro w13 M
  refine pv 93 (.tuple #[.agg (arr 4 (Ord.d64 (ofV n))), .int .i64 (ofC n)]) ?_
  refine pv 96 (.agg (arr 4 (Ord.d64 (ofV n)))) ?_
  refine pv 97 (.int .i64 (ofC n)) ?_
  refine pl_new M (want_no rfl) (some 19) rfl (.cells (arr 4 (fun _ => 0)) 34) (fun _ => by kernel_rfl) ?_
  intro g5 w14 M
  replace M : Mem w [⟨g1, .cells (arr 20 (decP r).f) 27⟩, ⟨g2, .cells (arr 20 (decP s).f) 27⟩, ⟨g3, .cells (arr 20 (decP t).f) 27⟩, ⟨g4, .cells (arr 4 (Ord.d64 (ofV m))) 34⟩, ⟨g5, .cells (arr 4 (fun _ => 0)) 34⟩] w14 := M
  refine pl_put M (want_no rfl) rfl 34 _ _ rfl 4 g5 (by kernel_rfl) 4 34 (fun _ => 0) (Ord.d64 (ofV n)) rfl (by kernel_rfl) inz34 ?_
  intro w15 M
  replace M : Mem w [⟨g1, .cells (arr 20 (decP r).f) 27⟩, ⟨g2, .cells (arr 20 (decP s).f) 27⟩, ⟨g3, .cells (arr 20 (decP t).f) 27⟩, ⟨g4, .cells (arr 4 (Ord.d64 (ofV m))) 34⟩, ⟨g5, .cells (arr 4 (Ord.d64 (ofV n))) 34⟩] w15 := M
  refine pv 20 (.int .i64 (ofC n)) ?_
  refine nt ?_
  refine wp_seq ?_
  refine sr ?_
  refine pv 98 (.int .i64 (ofC m)) ?_
  refine pl_val (want_no rfl) (some 99) rfl (.bool true) (fun w => Eq.trans (b := .ok (.value (.bool (!(decide (ofC m = 0))))) w) (by kernel_rfl) (by simp [hh])) ?_
  refine pv 100 (.bool true) ?_
  refine pl_skip (want_off 2 false rfl 100 rfl (by kernel_rfl)) (some 101) rfl ?_
  refine pl_skip (want_off 2 false rfl 100 rfl (by kernel_rfl)) (some 102) rfl ?_
  refine pv 103 (.bool true) ?_
  refine nt ?_
  refine wp_cond_true (by kernel_rfl) ?_
  refine sr ?_
  refine pl_call M (want_no rfl) (some 104) rfl 7 #[] (.bool true) (fun _ => by kernel_rfl) alive_any ?_
  intro w16 M
  refine pv 10 (.bool true) ?_
  refine nt ?_
  refine wp_ret ?_
  refine au_then_ret ?_
  exact bodyPost_ret (v := .bool true) (results_tmp1 Tryz.results4 _ _ _ (by kernel_rfl)) (by kernel_rfl) ⟨rfl, M.old⟩

structure laws3bF (r s t m n : ByteArray)  : Prop where
  h0 : True

set_option maxRecDepth 100000 in
set_option maxHeartbeats 4000000 in
theorem laws3b_gen (r s t m n : ByteArray)  (w : World) (_F : laws3bF r s t m n ) (he : decC r = 0) (hf : decC s = 0) (hg : ¬ decC t = 0) (hh : ofC m = 0) (hi : ¬ ofC n = 0) :
    Calls Tryz.prog 4 #[.string r, .string s, .string t, .string m, .string n] w fun r w' => r = .returned (.bool true) ∧ Below w.heap.size w w' := by
  go_enter Tryz.func4, Tryz.ntmps4
  have M := Mem.start w
  refine sr ?_
  refine pv 10 (.bool false) ?_
  refine nt ?_
  refine sr ?_
  refine pv 25 (.string r) ?_
  refine pl_call M (want_no rfl) (some 26) rfl 5 #[.string r] (.tuple #[.agg (arr 20 (decP r).f), .int .i64 (decC r)]) (fun _ => by kernel_rfl) (dec_yes rfl rfl) ?_
  intro w1 M
  refine pv 24 (.tuple #[.agg (arr 20 (decP r).f), .int .i64 (decC r)]) ?_
  refine pv 27 (.agg (arr 20 (decP r).f)) ?_
  refine pv 28 (.int .i64 (decC r)) ?_
  refine pl_new M (want_no rfl) (some 11) rfl (.cells (arr 20 (fun _ => 0)) 27) (fun _ => by kernel_rfl) ?_
  intro g1 w2 M
  replace M : Mem w [⟨g1, .cells (arr 20 (fun _ => 0)) 27⟩] w2 := M
  refine pl_put M (want_no rfl) rfl 27 _ _ rfl 0 g1 (by kernel_rfl) 20 27 (fun _ => 0) (decP r).f rfl (by kernel_rfl) inz27 ?_
  intro w3 M
  replace M : Mem w [⟨g1, .cells (arr 20 (decP r).f) 27⟩] w3 := M
  refine pv 12 (.int .i64 (decC r)) ?_
  refine nt ?_
  refine sr ?_
  refine pv 30 (.string s) ?_
  refine pl_call M (want_no rfl) (some 31) rfl 5 #[.string s] (.tuple #[.agg (arr 20 (decP s).f), .int .i64 (decC s)]) (fun _ => by kernel_rfl) (dec_yes rfl rfl) ?_
  intro w4 M
  refine pv 29 (.tuple #[.agg (arr 20 (decP s).f), .int .i64 (decC s)]) ?_
  refine pv 32 (.agg (arr 20 (decP s).f)) ?_
  refine pv 33 (.int .i64 (decC s)) ?_
  refine pl_new M (want_no rfl) (some 13) rfl (.cells (arr 20 (fun _ => 0)) 27) (fun _ => by kernel_rfl) ?_
  intro g2 w5 M
  replace M : Mem w [⟨g1, .cells (arr 20 (decP r).f) 27⟩, ⟨g2, .cells (arr 20 (fun _ => 0)) 27⟩] w5 := M
  refine pl_put M (want_no rfl) rfl 27 _ _ rfl 1 g2 (by kernel_rfl) 20 27 (fun _ => 0) (decP s).f rfl (by kernel_rfl) inz27 ?_
  intro w6 M
  replace M : Mem w [⟨g1, .cells (arr 20 (decP r).f) 27⟩, ⟨g2, .cells (arr 20 (decP s).f) 27⟩] w6 := M
  refine pv 14 (.int .i64 (decC s)) ?_
  refine nt ?_
  refine sr ?_
  refine pv 35 (.string t) ?_
  refine pl_call M (want_no rfl) (some 36) rfl 5 #[.string t] (.tuple #[.agg (arr 20 (decP t).f), .int .i64 (decC t)]) (fun _ => by kernel_rfl) (dec_yes rfl rfl) ?_
  intro w7 M
  refine pv 34 (.tuple #[.agg (arr 20 (decP t).f), .int .i64 (decC t)]) ?_
  refine pv 37 (.agg (arr 20 (decP t).f)) ?_
  refine pv 38 (.int .i64 (decC t)) ?_
  refine pl_new M (want_no rfl) (some 15) rfl (.cells (arr 20 (fun _ => 0)) 27) (fun _ => by kernel_rfl) ?_
  intro g3 w8 M
  replace M : Mem w [⟨g1, .cells (arr 20 (decP r).f) 27⟩, ⟨g2, .cells (arr 20 (decP s).f) 27⟩, ⟨g3, .cells (arr 20 (fun _ => 0)) 27⟩] w8 := M
  refine pl_put M (want_no rfl) rfl 27 _ _ rfl 2 g3 (by kernel_rfl) 20 27 (fun _ => 0) (decP t).f rfl (by kernel_rfl) inz27 ?_
  intro w9 M
  replace M : Mem w [⟨g1, .cells (arr 20 (decP r).f) 27⟩, ⟨g2, .cells (arr 20 (decP s).f) 27⟩, ⟨g3, .cells (arr 20 (decP t).f) 27⟩] w9 := M
  refine pv 16 (.int .i64 (decC t)) ?_
  refine nt ?_
  refine wp_seq ?_
  refine sr ?_
  refine pv 39 (.int .i64 (decC r)) ?_
  refine pl_val (want_no rfl) (some 40) rfl (.bool true) (fun w => Eq.trans (b := .ok (.value (.bool (decide (decC r = 0)))) w) (by kernel_rfl) (by simp [he])) ?_
  refine pv 41 (.bool true) ?_
  refine pl_val (want_on 2 true rfl 41 rfl (by kernel_rfl)) (some 42) rfl (.int .i64 (decC s)) (fun _ => by kernel_rfl) ?_
  refine pl_val (want_on 2 true rfl 41 rfl (by kernel_rfl)) (some 43) rfl (.bool true) (fun w => Eq.trans (b := .ok (.value (.bool (decide (decC s = 0)))) w) (by kernel_rfl) (by simp [hf])) ?_
  refine pv 44 (.bool true) ?_
  refine pv 45 (.bool true) ?_
  refine pl_val (want_on 6 true rfl 45 rfl (by kernel_rfl)) (some 46) rfl (.int .i64 (decC t)) (fun _ => by kernel_rfl) ?_
  refine pl_val (want_on 6 true rfl 45 rfl (by kernel_rfl)) (some 47) rfl (.bool false) (fun w => Eq.trans (b := .ok (.value (.bool (decide (decC t = 0)))) w) (by kernel_rfl) (by simp [hg])) ?_
  refine pv 48 (.bool false) ?_
  refine nt ?_
  refine wp_cond_false (by kernel_rfl) ?_
  refine wp_skip ?_
  refine au_then ?_
  refine sr ?_
  refine pv 89 (.string m) ?_
  refine pl_call M (want_no rfl) (some 90) rfl 6 #[.string m] (.tuple #[.agg (arr 4 (Ord.d64 (ofV m))), .int .i64 (ofC m)]) (fun _ => by kernel_rfl) (c_of m) ?_
  intro w10 M
  refine pv 88 (.tuple #[.agg (arr 4 (Ord.d64 (ofV m))), .int .i64 (ofC m)]) ?_
  refine pv 91 (.agg (arr 4 (Ord.d64 (ofV m)))) ?_
  refine pv 92 (.int .i64 (ofC m)) ?_
  refine pl_new M (want_no rfl) (some 17) rfl (.cells (arr 4 (fun _ => 0)) 34) (fun _ => by kernel_rfl) ?_
  intro g4 w11 M
  replace M : Mem w [⟨g1, .cells (arr 20 (decP r).f) 27⟩, ⟨g2, .cells (arr 20 (decP s).f) 27⟩, ⟨g3, .cells (arr 20 (decP t).f) 27⟩, ⟨g4, .cells (arr 4 (fun _ => 0)) 34⟩] w11 := M
  refine pl_put M (want_no rfl) rfl 34 _ _ rfl 3 g4 (by kernel_rfl) 4 34 (fun _ => 0) (Ord.d64 (ofV m)) rfl (by kernel_rfl) inz34 ?_
  intro w12 M
  replace M : Mem w [⟨g1, .cells (arr 20 (decP r).f) 27⟩, ⟨g2, .cells (arr 20 (decP s).f) 27⟩, ⟨g3, .cells (arr 20 (decP t).f) 27⟩, ⟨g4, .cells (arr 4 (Ord.d64 (ofV m))) 34⟩] w12 := M
  refine pv 18 (.int .i64 (ofC m)) ?_
  refine nt ?_
  refine sr ?_
  refine pv 94 (.string n) ?_
  refine pl_call M (want_no rfl) (some 95) rfl 6 #[.string n] (.tuple #[.agg (arr 4 (Ord.d64 (ofV n))), .int .i64 (ofC n)]) (fun _ => by kernel_rfl) (c_of n) ?_
  intro w13 M
  refine pv 93 (.tuple #[.agg (arr 4 (Ord.d64 (ofV n))), .int .i64 (ofC n)]) ?_
  refine pv 96 (.agg (arr 4 (Ord.d64 (ofV n)))) ?_
  refine pv 97 (.int .i64 (ofC n)) ?_
  refine pl_new M (want_no rfl) (some 19) rfl (.cells (arr 4 (fun _ => 0)) 34) (fun _ => by kernel_rfl) ?_
  intro g5 w14 M
  replace M : Mem w [⟨g1, .cells (arr 20 (decP r).f) 27⟩, ⟨g2, .cells (arr 20 (decP s).f) 27⟩, ⟨g3, .cells (arr 20 (decP t).f) 27⟩, ⟨g4, .cells (arr 4 (Ord.d64 (ofV m))) 34⟩, ⟨g5, .cells (arr 4 (fun _ => 0)) 34⟩] w14 := M
  refine pl_put M (want_no rfl) rfl 34 _ _ rfl 4 g5 (by kernel_rfl) 4 34 (fun _ => 0) (Ord.d64 (ofV n)) rfl (by kernel_rfl) inz34 ?_
  intro w15 M
  replace M : Mem w [⟨g1, .cells (arr 20 (decP r).f) 27⟩, ⟨g2, .cells (arr 20 (decP s).f) 27⟩, ⟨g3, .cells (arr 20 (decP t).f) 27⟩, ⟨g4, .cells (arr 4 (Ord.d64 (ofV m))) 34⟩, ⟨g5, .cells (arr 4 (Ord.d64 (ofV n))) 34⟩] w15 := M
  refine pv 20 (.int .i64 (ofC n)) ?_
  refine nt ?_
  refine wp_seq ?_
  refine sr ?_
  refine pv 98 (.int .i64 (ofC m)) ?_
  refine pl_val (want_no rfl) (some 99) rfl (.bool false) (fun w => Eq.trans (b := .ok (.value (.bool (!(decide (ofC m = 0))))) w) (by kernel_rfl) (by simp [hh])) ?_
  refine pv 100 (.bool false) ?_
  refine pl_val (want_on 2 false rfl 100 rfl (by kernel_rfl)) (some 101) rfl (.int .i64 (ofC n)) (fun _ => by kernel_rfl) ?_
  refine pl_val (want_on 2 false rfl 100 rfl (by kernel_rfl)) (some 102) rfl (.bool true) (fun w => Eq.trans (b := .ok (.value (.bool (!(decide (ofC n = 0))))) w) (by kernel_rfl) (by simp [hi])) ?_
  refine pv 103 (.bool true) ?_
  refine nt ?_
  refine wp_cond_true (by kernel_rfl) ?_
  refine sr ?_
  refine pl_call M (want_no rfl) (some 104) rfl 7 #[] (.bool true) (fun _ => by kernel_rfl) alive_any ?_
  intro w16 M
  refine pv 10 (.bool true) ?_
  refine nt ?_
  refine wp_ret ?_
  refine au_then_ret ?_
  exact bodyPost_ret (v := .bool true) (results_tmp1 Tryz.results4 _ _ _ (by kernel_rfl)) (by kernel_rfl) ⟨rfl, M.old⟩

structure laws3cF (r s t m n : ByteArray)  : Prop where
  h0 : True

set_option maxRecDepth 100000 in
set_option maxHeartbeats 4000000 in
theorem laws3c_gen (r s t m n : ByteArray)  (w : World) (_F : laws3cF r s t m n ) (he : decC r = 0) (hf : decC s = 0) (hg : ¬ decC t = 0) (hh : ofC m = 0) (hi : ofC n = 0) :
    Calls Tryz.prog 4 #[.string r, .string s, .string t, .string m, .string n] w fun r w' => r = .returned (.bool true) ∧ Below w.heap.size w w' := by
  go_enter Tryz.func4, Tryz.ntmps4
  have M := Mem.start w
  refine sr ?_
  refine pv 10 (.bool false) ?_
  refine nt ?_
  refine sr ?_
  refine pv 25 (.string r) ?_
  refine pl_call M (want_no rfl) (some 26) rfl 5 #[.string r] (.tuple #[.agg (arr 20 (decP r).f), .int .i64 (decC r)]) (fun _ => by kernel_rfl) (dec_yes rfl rfl) ?_
  intro w1 M
  refine pv 24 (.tuple #[.agg (arr 20 (decP r).f), .int .i64 (decC r)]) ?_
  refine pv 27 (.agg (arr 20 (decP r).f)) ?_
  refine pv 28 (.int .i64 (decC r)) ?_
  refine pl_new M (want_no rfl) (some 11) rfl (.cells (arr 20 (fun _ => 0)) 27) (fun _ => by kernel_rfl) ?_
  intro g1 w2 M
  replace M : Mem w [⟨g1, .cells (arr 20 (fun _ => 0)) 27⟩] w2 := M
  refine pl_put M (want_no rfl) rfl 27 _ _ rfl 0 g1 (by kernel_rfl) 20 27 (fun _ => 0) (decP r).f rfl (by kernel_rfl) inz27 ?_
  intro w3 M
  replace M : Mem w [⟨g1, .cells (arr 20 (decP r).f) 27⟩] w3 := M
  refine pv 12 (.int .i64 (decC r)) ?_
  refine nt ?_
  refine sr ?_
  refine pv 30 (.string s) ?_
  refine pl_call M (want_no rfl) (some 31) rfl 5 #[.string s] (.tuple #[.agg (arr 20 (decP s).f), .int .i64 (decC s)]) (fun _ => by kernel_rfl) (dec_yes rfl rfl) ?_
  intro w4 M
  refine pv 29 (.tuple #[.agg (arr 20 (decP s).f), .int .i64 (decC s)]) ?_
  refine pv 32 (.agg (arr 20 (decP s).f)) ?_
  refine pv 33 (.int .i64 (decC s)) ?_
  refine pl_new M (want_no rfl) (some 13) rfl (.cells (arr 20 (fun _ => 0)) 27) (fun _ => by kernel_rfl) ?_
  intro g2 w5 M
  replace M : Mem w [⟨g1, .cells (arr 20 (decP r).f) 27⟩, ⟨g2, .cells (arr 20 (fun _ => 0)) 27⟩] w5 := M
  refine pl_put M (want_no rfl) rfl 27 _ _ rfl 1 g2 (by kernel_rfl) 20 27 (fun _ => 0) (decP s).f rfl (by kernel_rfl) inz27 ?_
  intro w6 M
  replace M : Mem w [⟨g1, .cells (arr 20 (decP r).f) 27⟩, ⟨g2, .cells (arr 20 (decP s).f) 27⟩] w6 := M
  refine pv 14 (.int .i64 (decC s)) ?_
  refine nt ?_
  refine sr ?_
  refine pv 35 (.string t) ?_
  refine pl_call M (want_no rfl) (some 36) rfl 5 #[.string t] (.tuple #[.agg (arr 20 (decP t).f), .int .i64 (decC t)]) (fun _ => by kernel_rfl) (dec_yes rfl rfl) ?_
  intro w7 M
  refine pv 34 (.tuple #[.agg (arr 20 (decP t).f), .int .i64 (decC t)]) ?_
  refine pv 37 (.agg (arr 20 (decP t).f)) ?_
  refine pv 38 (.int .i64 (decC t)) ?_
  refine pl_new M (want_no rfl) (some 15) rfl (.cells (arr 20 (fun _ => 0)) 27) (fun _ => by kernel_rfl) ?_
  intro g3 w8 M
  replace M : Mem w [⟨g1, .cells (arr 20 (decP r).f) 27⟩, ⟨g2, .cells (arr 20 (decP s).f) 27⟩, ⟨g3, .cells (arr 20 (fun _ => 0)) 27⟩] w8 := M
  refine pl_put M (want_no rfl) rfl 27 _ _ rfl 2 g3 (by kernel_rfl) 20 27 (fun _ => 0) (decP t).f rfl (by kernel_rfl) inz27 ?_
  intro w9 M
  replace M : Mem w [⟨g1, .cells (arr 20 (decP r).f) 27⟩, ⟨g2, .cells (arr 20 (decP s).f) 27⟩, ⟨g3, .cells (arr 20 (decP t).f) 27⟩] w9 := M
  refine pv 16 (.int .i64 (decC t)) ?_
  refine nt ?_
  refine wp_seq ?_
  refine sr ?_
  refine pv 39 (.int .i64 (decC r)) ?_
  refine pl_val (want_no rfl) (some 40) rfl (.bool true) (fun w => Eq.trans (b := .ok (.value (.bool (decide (decC r = 0)))) w) (by kernel_rfl) (by simp [he])) ?_
  refine pv 41 (.bool true) ?_
  refine pl_val (want_on 2 true rfl 41 rfl (by kernel_rfl)) (some 42) rfl (.int .i64 (decC s)) (fun _ => by kernel_rfl) ?_
  refine pl_val (want_on 2 true rfl 41 rfl (by kernel_rfl)) (some 43) rfl (.bool true) (fun w => Eq.trans (b := .ok (.value (.bool (decide (decC s = 0)))) w) (by kernel_rfl) (by simp [hf])) ?_
  refine pv 44 (.bool true) ?_
  refine pv 45 (.bool true) ?_
  refine pl_val (want_on 6 true rfl 45 rfl (by kernel_rfl)) (some 46) rfl (.int .i64 (decC t)) (fun _ => by kernel_rfl) ?_
  refine pl_val (want_on 6 true rfl 45 rfl (by kernel_rfl)) (some 47) rfl (.bool false) (fun w => Eq.trans (b := .ok (.value (.bool (decide (decC t = 0)))) w) (by kernel_rfl) (by simp [hg])) ?_
  refine pv 48 (.bool false) ?_
  refine nt ?_
  refine wp_cond_false (by kernel_rfl) ?_
  refine wp_skip ?_
  refine au_then ?_
  refine sr ?_
  refine pv 89 (.string m) ?_
  refine pl_call M (want_no rfl) (some 90) rfl 6 #[.string m] (.tuple #[.agg (arr 4 (Ord.d64 (ofV m))), .int .i64 (ofC m)]) (fun _ => by kernel_rfl) (c_of m) ?_
  intro w10 M
  refine pv 88 (.tuple #[.agg (arr 4 (Ord.d64 (ofV m))), .int .i64 (ofC m)]) ?_
  refine pv 91 (.agg (arr 4 (Ord.d64 (ofV m)))) ?_
  refine pv 92 (.int .i64 (ofC m)) ?_
  refine pl_new M (want_no rfl) (some 17) rfl (.cells (arr 4 (fun _ => 0)) 34) (fun _ => by kernel_rfl) ?_
  intro g4 w11 M
  replace M : Mem w [⟨g1, .cells (arr 20 (decP r).f) 27⟩, ⟨g2, .cells (arr 20 (decP s).f) 27⟩, ⟨g3, .cells (arr 20 (decP t).f) 27⟩, ⟨g4, .cells (arr 4 (fun _ => 0)) 34⟩] w11 := M
  refine pl_put M (want_no rfl) rfl 34 _ _ rfl 3 g4 (by kernel_rfl) 4 34 (fun _ => 0) (Ord.d64 (ofV m)) rfl (by kernel_rfl) inz34 ?_
  intro w12 M
  replace M : Mem w [⟨g1, .cells (arr 20 (decP r).f) 27⟩, ⟨g2, .cells (arr 20 (decP s).f) 27⟩, ⟨g3, .cells (arr 20 (decP t).f) 27⟩, ⟨g4, .cells (arr 4 (Ord.d64 (ofV m))) 34⟩] w12 := M
  refine pv 18 (.int .i64 (ofC m)) ?_
  refine nt ?_
  refine sr ?_
  refine pv 94 (.string n) ?_
  refine pl_call M (want_no rfl) (some 95) rfl 6 #[.string n] (.tuple #[.agg (arr 4 (Ord.d64 (ofV n))), .int .i64 (ofC n)]) (fun _ => by kernel_rfl) (c_of n) ?_
  intro w13 M
  refine pv 93 (.tuple #[.agg (arr 4 (Ord.d64 (ofV n))), .int .i64 (ofC n)]) ?_
  refine pv 96 (.agg (arr 4 (Ord.d64 (ofV n)))) ?_
  refine pv 97 (.int .i64 (ofC n)) ?_
  refine pl_new M (want_no rfl) (some 19) rfl (.cells (arr 4 (fun _ => 0)) 34) (fun _ => by kernel_rfl) ?_
  intro g5 w14 M
  replace M : Mem w [⟨g1, .cells (arr 20 (decP r).f) 27⟩, ⟨g2, .cells (arr 20 (decP s).f) 27⟩, ⟨g3, .cells (arr 20 (decP t).f) 27⟩, ⟨g4, .cells (arr 4 (Ord.d64 (ofV m))) 34⟩, ⟨g5, .cells (arr 4 (fun _ => 0)) 34⟩] w14 := M
  refine pl_put M (want_no rfl) rfl 34 _ _ rfl 4 g5 (by kernel_rfl) 4 34 (fun _ => 0) (Ord.d64 (ofV n)) rfl (by kernel_rfl) inz34 ?_
  intro w15 M
  replace M : Mem w [⟨g1, .cells (arr 20 (decP r).f) 27⟩, ⟨g2, .cells (arr 20 (decP s).f) 27⟩, ⟨g3, .cells (arr 20 (decP t).f) 27⟩, ⟨g4, .cells (arr 4 (Ord.d64 (ofV m))) 34⟩, ⟨g5, .cells (arr 4 (Ord.d64 (ofV n))) 34⟩] w15 := M
  refine pv 20 (.int .i64 (ofC n)) ?_
  refine nt ?_
  refine wp_seq ?_
  refine sr ?_
  refine pv 98 (.int .i64 (ofC m)) ?_
  refine pl_val (want_no rfl) (some 99) rfl (.bool false) (fun w => Eq.trans (b := .ok (.value (.bool (!(decide (ofC m = 0))))) w) (by kernel_rfl) (by simp [hh])) ?_
  refine pv 100 (.bool false) ?_
  refine pl_val (want_on 2 false rfl 100 rfl (by kernel_rfl)) (some 101) rfl (.int .i64 (ofC n)) (fun _ => by kernel_rfl) ?_
  refine pl_val (want_on 2 false rfl 100 rfl (by kernel_rfl)) (some 102) rfl (.bool false) (fun w => Eq.trans (b := .ok (.value (.bool (!(decide (ofC n = 0))))) w) (by kernel_rfl) (by simp [hi])) ?_
  refine pv 103 (.bool false) ?_
  refine nt ?_
  refine wp_cond_false (by kernel_rfl) ?_
  refine wp_skip ?_
  refine au_then ?_
  refine sr ?_
  refine pl_call M (want_no rfl) (some 105) rfl 20 #[] (.agg (arr 20 base5.f)) (fun _ => by kernel_rfl) c_base ?_
  intro w16 M
  refine pl_new M (want_no rfl) (some 21) rfl (.cells (arr 20 (fun _ => 0)) 27) (fun _ => by kernel_rfl) ?_
  intro g6 w17 M
  replace M : Mem w [⟨g1, .cells (arr 20 (decP r).f) 27⟩, ⟨g2, .cells (arr 20 (decP s).f) 27⟩, ⟨g3, .cells (arr 20 (decP t).f) 27⟩, ⟨g4, .cells (arr 4 (Ord.d64 (ofV m))) 34⟩, ⟨g5, .cells (arr 4 (Ord.d64 (ofV n))) 34⟩, ⟨g6, .cells (arr 20 (fun _ => 0)) 27⟩] w17 := M
  refine pl_put M (want_no rfl) rfl 27 _ _ rfl 5 g6 (by kernel_rfl) 20 27 (fun _ => 0) base5.f rfl (by kernel_rfl) inz27 ?_
  intro w18 M
  replace M : Mem w [⟨g1, .cells (arr 20 (decP r).f) 27⟩, ⟨g2, .cells (arr 20 (decP s).f) 27⟩, ⟨g3, .cells (arr 20 (decP t).f) 27⟩, ⟨g4, .cells (arr 4 (Ord.d64 (ofV m))) 34⟩, ⟨g5, .cells (arr 4 (Ord.d64 (ofV n))) 34⟩, ⟨g6, .cells (arr 20 base5.f) 27⟩] w18 := M
  refine nt ?_
  refine sr ?_
  refine pl_load M (want_no rfl) (some 106) rfl 27 _ rfl 5 g6 0 (by kernel_rfl) 20 27 base5.f rfl 20 base5.f (Part.all _ _) (by decide) _ Tryz.underlying27 rfl inz27 ?_
  refine pl_load M (want_no rfl) (some 107) rfl 34 _ rfl 3 g4 0 (by kernel_rfl) 4 34 (Ord.d64 (ofV m)) rfl 4 (Ord.d64 (ofV m)) (Part.all _ _) (by decide) _ Tryz.underlying34 rfl inz34 ?_
  refine pl_call M (want_no rfl) (some 108) rfl 15 #[.agg (arr 20 base5.f), .agg (arr 4 (Ord.d64 (ofV m)))] (.agg (arr 20 (mulV base5 (ofV m)).f)) (fun _ => by kernel_rfl) (fun w => c_mul base_rep (ofV m) w) ?_
  intro w19 M
  refine pl_new M (want_no rfl) (some 22) rfl (.cells (arr 20 (fun _ => 0)) 27) (fun _ => by kernel_rfl) ?_
  intro g7 w20 M
  replace M : Mem w [⟨g1, .cells (arr 20 (decP r).f) 27⟩, ⟨g2, .cells (arr 20 (decP s).f) 27⟩, ⟨g3, .cells (arr 20 (decP t).f) 27⟩, ⟨g4, .cells (arr 4 (Ord.d64 (ofV m))) 34⟩, ⟨g5, .cells (arr 4 (Ord.d64 (ofV n))) 34⟩, ⟨g6, .cells (arr 20 base5.f) 27⟩, ⟨g7, .cells (arr 20 (fun _ => 0)) 27⟩] w20 := M
  refine pl_put M (want_no rfl) rfl 27 _ _ rfl 6 g7 (by kernel_rfl) 20 27 (fun _ => 0) (mulV base5 (ofV m)).f rfl (by kernel_rfl) inz27 ?_
  intro w21 M
  replace M : Mem w [⟨g1, .cells (arr 20 (decP r).f) 27⟩, ⟨g2, .cells (arr 20 (decP s).f) 27⟩, ⟨g3, .cells (arr 20 (decP t).f) 27⟩, ⟨g4, .cells (arr 4 (Ord.d64 (ofV m))) 34⟩, ⟨g5, .cells (arr 4 (Ord.d64 (ofV n))) 34⟩, ⟨g6, .cells (arr 20 base5.f) 27⟩, ⟨g7, .cells (arr 20 (mulV base5 (ofV m)).f) 27⟩] w21 := M
  refine nt ?_
  refine sr ?_
  refine pl_load M (want_no rfl) (some 109) rfl 27 _ rfl 5 g6 0 (by kernel_rfl) 20 27 base5.f rfl 20 base5.f (Part.all _ _) (by decide) _ Tryz.underlying27 rfl inz27 ?_
  refine pl_load M (want_no rfl) (some 110) rfl 34 _ rfl 4 g5 0 (by kernel_rfl) 4 34 (Ord.d64 (ofV n)) rfl 4 (Ord.d64 (ofV n)) (Part.all _ _) (by decide) _ Tryz.underlying34 rfl inz34 ?_
  refine pl_call M (want_no rfl) (some 111) rfl 15 #[.agg (arr 20 base5.f), .agg (arr 4 (Ord.d64 (ofV n)))] (.agg (arr 20 (mulV base5 (ofV n)).f)) (fun _ => by kernel_rfl) (fun w => c_mul base_rep (ofV n) w) ?_
  intro w22 M
  refine pl_new M (want_no rfl) (some 23) rfl (.cells (arr 20 (fun _ => 0)) 27) (fun _ => by kernel_rfl) ?_
  intro g8 w23 M
  replace M : Mem w [⟨g1, .cells (arr 20 (decP r).f) 27⟩, ⟨g2, .cells (arr 20 (decP s).f) 27⟩, ⟨g3, .cells (arr 20 (decP t).f) 27⟩, ⟨g4, .cells (arr 4 (Ord.d64 (ofV m))) 34⟩, ⟨g5, .cells (arr 4 (Ord.d64 (ofV n))) 34⟩, ⟨g6, .cells (arr 20 base5.f) 27⟩, ⟨g7, .cells (arr 20 (mulV base5 (ofV m)).f) 27⟩, ⟨g8, .cells (arr 20 (fun _ => 0)) 27⟩] w23 := M
  refine pl_put M (want_no rfl) rfl 27 _ _ rfl 7 g8 (by kernel_rfl) 20 27 (fun _ => 0) (mulV base5 (ofV n)).f rfl (by kernel_rfl) inz27 ?_
  intro w24 M
  replace M : Mem w [⟨g1, .cells (arr 20 (decP r).f) 27⟩, ⟨g2, .cells (arr 20 (decP s).f) 27⟩, ⟨g3, .cells (arr 20 (decP t).f) 27⟩, ⟨g4, .cells (arr 4 (Ord.d64 (ofV m))) 34⟩, ⟨g5, .cells (arr 4 (Ord.d64 (ofV n))) 34⟩, ⟨g6, .cells (arr 20 base5.f) 27⟩, ⟨g7, .cells (arr 20 (mulV base5 (ofV m)).f) 27⟩, ⟨g8, .cells (arr 20 (mulV base5 (ofV n)).f) 27⟩] w24 := M
  refine nt ?_
  refine wp_seq ?_
  refine rg_tail M 42 (by kernel_rfl) (by kernel_rfl) ?_
  simp only [List.take_succ_cons, List.take_zero]
  refine k_load M (want_no rfl) (some 112) rfl 27 _ rfl 6 g7 0 (by kernel_rfl) 20 27 (mulV base5 (ofV m)).f rfl 20 (mulV base5 (ofV m)).f (Part.all _ _) (by decide) _ Tryz.underlying27 rfl inz27 ?_
  refine k_load M (want_no rfl) (some 113) rfl 27 _ rfl 7 g8 0 (by kernel_rfl) 20 27 (mulV base5 (ofV n)).f rfl 20 (mulV base5 (ofV n)).f (Part.all _ _) (by decide) _ Tryz.underlying27 rfl inz27 ?_
  refine k_call (want_no rfl) (some 114) rfl 11 #[.agg (arr 20 (mulV base5 (ofV m)).f), .agg (arr 20 (mulV base5 (ofV n)).f)] (.agg (arr 20 (addV (mulV base5 (ofV m)) (mulV base5 (ofV n))).f)) (fun _ => by kernel_rfl) (fun w => c_add (mulV base5 (ofV m)) (mulV base5 (ofV n)) w (base_rep.mul (ofV_bd m)).ok (base_rep.mul (ofV_bd n)).ok) ?_
  refine k_load M (want_no rfl) (some 115) rfl 27 _ rfl 5 g6 0 (by kernel_rfl) 20 27 base5.f rfl 20 base5.f (Part.all _ _) (by decide) _ Tryz.underlying27 rfl inz27 ?_
  refine k_load M (want_no rfl) (some 116) rfl 34 _ rfl 3 g4 0 (by kernel_rfl) 4 34 (Ord.d64 (ofV m)) rfl 4 (Ord.d64 (ofV m)) (Part.all _ _) (by decide) _ Tryz.underlying34 rfl inz34 ?_
  refine k_load M (want_no rfl) (some 117) rfl 34 _ rfl 4 g5 0 (by kernel_rfl) 4 34 (Ord.d64 (ofV n)) rfl 4 (Ord.d64 (ofV n)) (Part.all _ _) (by decide) _ Tryz.underlying34 rfl inz34 ?_
  refine k_call (want_no rfl) (some 118) rfl 21 #[.agg (arr 4 (Ord.d64 (ofV m))), .agg (arr 4 (Ord.d64 (ofV n)))] (.agg (arr 4 (Ord.d64 ((ofV m + ofV n) % Ord.Lm)))) (fun _ => by kernel_rfl) (fun w => Ord.add_any (ofV m) (ofV n) w (ofV_bd m) (ofV_bd n)) ?_
  refine k_call (want_no rfl) (some 119) rfl 15 #[.agg (arr 20 base5.f), .agg (arr 4 (Ord.d64 ((ofV m + ofV n) % Ord.Lm)))] (.agg (arr 20 (mulV base5 ((ofV m + ofV n) % Ord.Lm)).f)) (fun _ => by kernel_rfl) (fun w => c_mul base_rep ((ofV m + ofV n) % Ord.Lm) w) ?_
  refine k_call (want_no rfl) (some 120) rfl 17 #[.agg (arr 20 (addV (mulV base5 (ofV m)) (mulV base5 (ofV n))).f), .agg (arr 20 (mulV base5 ((ofV m + ofV n) % Ord.Lm)).f)] (.bool true) (fun _ => by kernel_rfl) (same_t (((base_rep.mul (ofV_bd m)).add (base_rep.mul (ofV_bd n))).at_ (l_add (ofV_bd m).1 (ofV_bd n).1).symm) (base_rep.mul (Ord.lmod _))) ?_
  refine kv 121 (.bool true) ?_
  refine k_load M (want_on 9 true rfl 121 rfl (by kernel_rfl)) (some 122) rfl 27 _ rfl 6 g7 0 (by kernel_rfl) 20 27 (mulV base5 (ofV m)).f rfl 20 (mulV base5 (ofV m)).f (Part.all _ _) (by decide) _ Tryz.underlying27 rfl inz27 ?_
  refine k_load M (want_on 9 true rfl 121 rfl (by kernel_rfl)) (some 123) rfl 34 _ rfl 4 g5 0 (by kernel_rfl) 4 34 (Ord.d64 (ofV n)) rfl 4 (Ord.d64 (ofV n)) (Part.all _ _) (by decide) _ Tryz.underlying34 rfl inz34 ?_
  refine k_call (want_on 9 true rfl 121 rfl (by kernel_rfl)) (some 124) rfl 15 #[.agg (arr 20 (mulV base5 (ofV m)).f), .agg (arr 4 (Ord.d64 (ofV n)))] (.agg (arr 20 (mulV (mulV base5 (ofV m)) (ofV n)).f)) (fun _ => by kernel_rfl) (fun w => c_mul (base_rep.mul (ofV_bd m)) (ofV n) w) ?_
  refine k_load M (want_on 9 true rfl 121 rfl (by kernel_rfl)) (some 125) rfl 27 _ rfl 7 g8 0 (by kernel_rfl) 20 27 (mulV base5 (ofV n)).f rfl 20 (mulV base5 (ofV n)).f (Part.all _ _) (by decide) _ Tryz.underlying27 rfl inz27 ?_
  refine k_load M (want_on 9 true rfl 121 rfl (by kernel_rfl)) (some 126) rfl 34 _ rfl 3 g4 0 (by kernel_rfl) 4 34 (Ord.d64 (ofV m)) rfl 4 (Ord.d64 (ofV m)) (Part.all _ _) (by decide) _ Tryz.underlying34 rfl inz34 ?_
  refine k_call (want_on 9 true rfl 121 rfl (by kernel_rfl)) (some 127) rfl 15 #[.agg (arr 20 (mulV base5 (ofV n)).f), .agg (arr 4 (Ord.d64 (ofV m)))] (.agg (arr 20 (mulV (mulV base5 (ofV n)) (ofV m)).f)) (fun _ => by kernel_rfl) (fun w => c_mul (base_rep.mul (ofV_bd n)) (ofV m) w) ?_
  refine k_call (want_on 9 true rfl 121 rfl (by kernel_rfl)) (some 128) rfl 17 #[.agg (arr 20 (mulV (mulV base5 (ofV m)) (ofV n)).f), .agg (arr 20 (mulV (mulV base5 (ofV n)) (ofV m)).f)] (.bool true) (fun _ => by kernel_rfl) (same_t (((base_rep.mul (ofV_bd m)).mul (ofV_bd n)).at_ (mul_swap _ _ _)) ((base_rep.mul (ofV_bd n)).mul (ofV_bd m))) ?_
  refine kv 129 (.bool true) ?_
  refine kv 130 (.bool true) ?_
  refine k_load M (want_on 18 true rfl 130 rfl (by kernel_rfl)) (some 131) rfl 27 _ rfl 6 g7 0 (by kernel_rfl) 20 27 (mulV base5 (ofV m)).f rfl 20 (mulV base5 (ofV m)).f (Part.all _ _) (by decide) _ Tryz.underlying27 rfl inz27 ?_
  refine k_load M (want_on 18 true rfl 130 rfl (by kernel_rfl)) (some 132) rfl 34 _ rfl 4 g5 0 (by kernel_rfl) 4 34 (Ord.d64 (ofV n)) rfl 4 (Ord.d64 (ofV n)) (Part.all _ _) (by decide) _ Tryz.underlying34 rfl inz34 ?_
  refine k_call (want_on 18 true rfl 130 rfl (by kernel_rfl)) (some 133) rfl 15 #[.agg (arr 20 (mulV base5 (ofV m)).f), .agg (arr 4 (Ord.d64 (ofV n)))] (.agg (arr 20 (mulV (mulV base5 (ofV m)) (ofV n)).f)) (fun _ => by kernel_rfl) (fun w => c_mul (base_rep.mul (ofV_bd m)) (ofV n) w) ?_
  refine k_load M (want_on 18 true rfl 130 rfl (by kernel_rfl)) (some 134) rfl 27 _ rfl 5 g6 0 (by kernel_rfl) 20 27 base5.f rfl 20 base5.f (Part.all _ _) (by decide) _ Tryz.underlying27 rfl inz27 ?_
  refine k_load M (want_on 18 true rfl 130 rfl (by kernel_rfl)) (some 135) rfl 34 _ rfl 3 g4 0 (by kernel_rfl) 4 34 (Ord.d64 (ofV m)) rfl 4 (Ord.d64 (ofV m)) (Part.all _ _) (by decide) _ Tryz.underlying34 rfl inz34 ?_
  refine k_load M (want_on 18 true rfl 130 rfl (by kernel_rfl)) (some 136) rfl 34 _ rfl 4 g5 0 (by kernel_rfl) 4 34 (Ord.d64 (ofV n)) rfl 4 (Ord.d64 (ofV n)) (Part.all _ _) (by decide) _ Tryz.underlying34 rfl inz34 ?_
  refine k_call (want_on 18 true rfl 130 rfl (by kernel_rfl)) (some 137) rfl 22 #[.agg (arr 4 (Ord.d64 (ofV m))), .agg (arr 4 (Ord.d64 (ofV n)))] (.agg (arr 4 (Ord.d64 (ofV m * ofV n % Ord.Lm)))) (fun _ => by kernel_rfl) (fun w => Ord.mul_any (ofV m) (ofV n) w (ofV_bd m) (ofV_bd n)) ?_
  refine k_call (want_on 18 true rfl 130 rfl (by kernel_rfl)) (some 138) rfl 15 #[.agg (arr 20 base5.f), .agg (arr 4 (Ord.d64 (ofV m * ofV n % Ord.Lm)))] (.agg (arr 20 (mulV base5 (ofV m * ofV n % Ord.Lm)).f)) (fun _ => by kernel_rfl) (fun w => c_mul base_rep (ofV m * ofV n % Ord.Lm) w) ?_
  refine k_call (want_on 18 true rfl 130 rfl (by kernel_rfl)) (some 139) rfl 17 #[.agg (arr 20 (mulV (mulV base5 (ofV m)) (ofV n)).f), .agg (arr 20 (mulV base5 (ofV m * ofV n % Ord.Lm)).f)] (.bool true) (fun _ => by kernel_rfl) (same_t (((base_rep.mul (ofV_bd m)).mul (ofV_bd n)).at_ (l_mul (ofV_bd m).1 (ofV_bd n).1).symm) (base_rep.mul (Ord.lmod _))) ?_
  refine kv 140 (.bool true) ?_
  refine kv 141 (.bool true) ?_
  refine k_load M (want_on 29 true rfl 141 rfl (by kernel_rfl)) (some 142) rfl 27 _ rfl 6 g7 0 (by kernel_rfl) 20 27 (mulV base5 (ofV m)).f rfl 20 (mulV base5 (ofV m)).f (Part.all _ _) (by decide) _ Tryz.underlying27 rfl inz27 ?_
  refine k_load M (want_on 29 true rfl 141 rfl (by kernel_rfl)) (some 143) rfl 27 _ rfl 5 g6 0 (by kernel_rfl) 20 27 base5.f rfl 20 base5.f (Part.all _ _) (by decide) _ Tryz.underlying27 rfl inz27 ?_
  refine k_load M (want_on 29 true rfl 141 rfl (by kernel_rfl)) (some 144) rfl 34 _ rfl 3 g4 0 (by kernel_rfl) 4 34 (Ord.d64 (ofV m)) rfl 4 (Ord.d64 (ofV m)) (Part.all _ _) (by decide) _ Tryz.underlying34 rfl inz34 ?_
  refine k_call (want_on 29 true rfl 141 rfl (by kernel_rfl)) (some 145) rfl 23 #[.agg (arr 4 (Ord.d64 (ofV m)))] (.agg (arr 4 (Ord.d64 ((-ofV m) % Ord.Lm)))) (fun _ => by kernel_rfl) (fun w => Ord.neg_any (ofV m) w (ofV_bd m)) ?_
  refine k_call (want_on 29 true rfl 141 rfl (by kernel_rfl)) (some 146) rfl 15 #[.agg (arr 20 base5.f), .agg (arr 4 (Ord.d64 ((-ofV m) % Ord.Lm)))] (.agg (arr 20 (mulV base5 ((-ofV m) % Ord.Lm)).f)) (fun _ => by kernel_rfl) (fun w => c_mul base_rep ((-ofV m) % Ord.Lm) w) ?_
  refine k_call (want_on 29 true rfl 141 rfl (by kernel_rfl)) (some 147) rfl 11 #[.agg (arr 20 (mulV base5 (ofV m)).f), .agg (arr 20 (mulV base5 ((-ofV m) % Ord.Lm)).f)] (.agg (arr 20 (addV (mulV base5 (ofV m)) (mulV base5 ((-ofV m) % Ord.Lm))).f)) (fun _ => by kernel_rfl) (fun w => c_add (mulV base5 (ofV m)) (mulV base5 ((-ofV m) % Ord.Lm)) w (base_rep.mul (ofV_bd m)).ok (base_rep.mul (Ord.lmod _)).ok) ?_
  refine k_call (want_on 29 true rfl 141 rfl (by kernel_rfl)) (some 148) rfl 19 #[] (.agg (arr 20 zero5.f)) (fun _ => by kernel_rfl) c_zero ?_
  refine k_call (want_on 29 true rfl 141 rfl (by kernel_rfl)) (some 149) rfl 17 #[.agg (arr 20 (addV (mulV base5 (ofV m)) (mulV base5 ((-ofV m) % Ord.Lm))).f), .agg (arr 20 zero5.f)] (.bool true) (fun _ => by kernel_rfl) (same_t (((base_rep.mul (ofV_bd m)).add (base_rep.mul (Ord.lmod _))).at_ (l_neg (ofV_bd m).1)) zero5_rep) ?_
  refine kv 150 (.bool true) ?_
  refine kv 151 (.bool true) ?_
  refine k_call (want_on 39 true rfl 151 rfl (by kernel_rfl)) (some 152) rfl 7 #[] (.bool true) (fun _ => by kernel_rfl) alive_any ?_
  refine kv 153 (.bool true) ?_
  refine kl_nil ?_
  intro w25 M
  replace M : Mem w [⟨g1, .cells (arr 20 (decP r).f) 27⟩, ⟨g2, .cells (arr 20 (decP s).f) 27⟩, ⟨g3, .cells (arr 20 (decP t).f) 27⟩, ⟨g4, .cells (arr 4 (Ord.d64 (ofV m))) 34⟩, ⟨g5, .cells (arr 4 (Ord.d64 (ofV n))) 34⟩, ⟨g6, .cells (arr 20 base5.f) 27⟩, ⟨g7, .cells (arr 20 (mulV base5 (ofV m)).f) 27⟩, ⟨g8, .cells (arr 20 (mulV base5 (ofV n)).f) 27⟩] w25 := M
  refine pv 10 (.bool true) ?_
  refine nt ?_
  refine wp_ret ?_
  exact bodyPost_ret (v := .bool true) (results_tmp1 Tryz.results4 _ _ _ (by kernel_rfl)) (by kernel_rfl) ⟨rfl, M.old⟩

structure laws4aF (r s t m n : ByteArray)  : Prop where
  h0 : True

set_option maxRecDepth 100000 in
set_option maxHeartbeats 4000000 in
theorem laws4a_gen (r s t m n : ByteArray)  (w : World) (_F : laws4aF r s t m n ) (he : decC r = 0) (hf : decC s = 0) (hg : decC t = 0) (hh : ¬ ofC m = 0) :
    Calls Tryz.prog 4 #[.string r, .string s, .string t, .string m, .string n] w fun r w' => r = .returned (.bool true) ∧ Below w.heap.size w w' := by
  go_enter Tryz.func4, Tryz.ntmps4
  have hp := (dec_both he).1
  have hq := (dec_both hf).1
  have hu := (dec_both hg).1
  have M := Mem.start w
  refine sr ?_
  refine pv 10 (.bool false) ?_
  refine nt ?_
  refine sr ?_
  refine pv 25 (.string r) ?_
  refine pl_call M (want_no rfl) (some 26) rfl 5 #[.string r] (.tuple #[.agg (arr 20 (decP r).f), .int .i64 (decC r)]) (fun _ => by kernel_rfl) (dec_yes rfl rfl) ?_
  intro w1 M
  refine pv 24 (.tuple #[.agg (arr 20 (decP r).f), .int .i64 (decC r)]) ?_
  refine pv 27 (.agg (arr 20 (decP r).f)) ?_
  refine pv 28 (.int .i64 (decC r)) ?_
  refine pl_new M (want_no rfl) (some 11) rfl (.cells (arr 20 (fun _ => 0)) 27) (fun _ => by kernel_rfl) ?_
  intro g1 w2 M
  replace M : Mem w [⟨g1, .cells (arr 20 (fun _ => 0)) 27⟩] w2 := M
  refine pl_put M (want_no rfl) rfl 27 _ _ rfl 0 g1 (by kernel_rfl) 20 27 (fun _ => 0) (decP r).f rfl (by kernel_rfl) inz27 ?_
  intro w3 M
  replace M : Mem w [⟨g1, .cells (arr 20 (decP r).f) 27⟩] w3 := M
  refine pv 12 (.int .i64 (decC r)) ?_
  refine nt ?_
  refine sr ?_
  refine pv 30 (.string s) ?_
  refine pl_call M (want_no rfl) (some 31) rfl 5 #[.string s] (.tuple #[.agg (arr 20 (decP s).f), .int .i64 (decC s)]) (fun _ => by kernel_rfl) (dec_yes rfl rfl) ?_
  intro w4 M
  refine pv 29 (.tuple #[.agg (arr 20 (decP s).f), .int .i64 (decC s)]) ?_
  refine pv 32 (.agg (arr 20 (decP s).f)) ?_
  refine pv 33 (.int .i64 (decC s)) ?_
  refine pl_new M (want_no rfl) (some 13) rfl (.cells (arr 20 (fun _ => 0)) 27) (fun _ => by kernel_rfl) ?_
  intro g2 w5 M
  replace M : Mem w [⟨g1, .cells (arr 20 (decP r).f) 27⟩, ⟨g2, .cells (arr 20 (fun _ => 0)) 27⟩] w5 := M
  refine pl_put M (want_no rfl) rfl 27 _ _ rfl 1 g2 (by kernel_rfl) 20 27 (fun _ => 0) (decP s).f rfl (by kernel_rfl) inz27 ?_
  intro w6 M
  replace M : Mem w [⟨g1, .cells (arr 20 (decP r).f) 27⟩, ⟨g2, .cells (arr 20 (decP s).f) 27⟩] w6 := M
  refine pv 14 (.int .i64 (decC s)) ?_
  refine nt ?_
  refine sr ?_
  refine pv 35 (.string t) ?_
  refine pl_call M (want_no rfl) (some 36) rfl 5 #[.string t] (.tuple #[.agg (arr 20 (decP t).f), .int .i64 (decC t)]) (fun _ => by kernel_rfl) (dec_yes rfl rfl) ?_
  intro w7 M
  refine pv 34 (.tuple #[.agg (arr 20 (decP t).f), .int .i64 (decC t)]) ?_
  refine pv 37 (.agg (arr 20 (decP t).f)) ?_
  refine pv 38 (.int .i64 (decC t)) ?_
  refine pl_new M (want_no rfl) (some 15) rfl (.cells (arr 20 (fun _ => 0)) 27) (fun _ => by kernel_rfl) ?_
  intro g3 w8 M
  replace M : Mem w [⟨g1, .cells (arr 20 (decP r).f) 27⟩, ⟨g2, .cells (arr 20 (decP s).f) 27⟩, ⟨g3, .cells (arr 20 (fun _ => 0)) 27⟩] w8 := M
  refine pl_put M (want_no rfl) rfl 27 _ _ rfl 2 g3 (by kernel_rfl) 20 27 (fun _ => 0) (decP t).f rfl (by kernel_rfl) inz27 ?_
  intro w9 M
  replace M : Mem w [⟨g1, .cells (arr 20 (decP r).f) 27⟩, ⟨g2, .cells (arr 20 (decP s).f) 27⟩, ⟨g3, .cells (arr 20 (decP t).f) 27⟩] w9 := M
  refine pv 16 (.int .i64 (decC t)) ?_
  refine nt ?_
  refine wp_seq ?_
  refine sr ?_
  refine pv 39 (.int .i64 (decC r)) ?_
  refine pl_val (want_no rfl) (some 40) rfl (.bool true) (fun w => Eq.trans (b := .ok (.value (.bool (decide (decC r = 0)))) w) (by kernel_rfl) (by simp [he])) ?_
  refine pv 41 (.bool true) ?_
  refine pl_val (want_on 2 true rfl 41 rfl (by kernel_rfl)) (some 42) rfl (.int .i64 (decC s)) (fun _ => by kernel_rfl) ?_
  refine pl_val (want_on 2 true rfl 41 rfl (by kernel_rfl)) (some 43) rfl (.bool true) (fun w => Eq.trans (b := .ok (.value (.bool (decide (decC s = 0)))) w) (by kernel_rfl) (by simp [hf])) ?_
  refine pv 44 (.bool true) ?_
  refine pv 45 (.bool true) ?_
  refine pl_val (want_on 6 true rfl 45 rfl (by kernel_rfl)) (some 46) rfl (.int .i64 (decC t)) (fun _ => by kernel_rfl) ?_
  refine pl_val (want_on 6 true rfl 45 rfl (by kernel_rfl)) (some 47) rfl (.bool true) (fun w => Eq.trans (b := .ok (.value (.bool (decide (decC t = 0)))) w) (by kernel_rfl) (by simp [hg])) ?_
  refine pv 48 (.bool true) ?_
  refine nt ?_
  refine wp_cond_true (by kernel_rfl) ?_
  refine wp_seq ?_
  refine rg_tail M 38 (by kernel_rfl) (by kernel_rfl) ?_
  simp only [List.take_succ_cons, List.take_zero]
  refine k_load M (want_no rfl) (some 49) rfl 27 _ rfl 0 g1 0 (by kernel_rfl) 20 27 (decP r).f rfl 20 (decP r).f (Part.all _ _) (by decide) _ Tryz.underlying27 rfl inz27 ?_
  refine k_load M (want_no rfl) (some 50) rfl 27 _ rfl 1 g2 0 (by kernel_rfl) 20 27 (decP s).f rfl 20 (decP s).f (Part.all _ _) (by decide) _ Tryz.underlying27 rfl inz27 ?_
  refine k_call (want_no rfl) (some 51) rfl 11 #[.agg (arr 20 (decP r).f), .agg (arr 20 (decP s).f)] (.agg (arr 20 (addV (decP r) (decP s)).f)) (fun _ => by kernel_rfl) (fun w => c_add (decP r) (decP s) w hp.ok hq.ok) ?_
  refine k_load M (want_no rfl) (some 52) rfl 27 _ rfl 1 g2 0 (by kernel_rfl) 20 27 (decP s).f rfl 20 (decP s).f (Part.all _ _) (by decide) _ Tryz.underlying27 rfl inz27 ?_
  refine k_load M (want_no rfl) (some 53) rfl 27 _ rfl 0 g1 0 (by kernel_rfl) 20 27 (decP r).f rfl 20 (decP r).f (Part.all _ _) (by decide) _ Tryz.underlying27 rfl inz27 ?_
  refine k_call (want_no rfl) (some 54) rfl 11 #[.agg (arr 20 (decP s).f), .agg (arr 20 (decP r).f)] (.agg (arr 20 (addV (decP s) (decP r)).f)) (fun _ => by kernel_rfl) (fun w => c_add (decP s) (decP r) w hq.ok hp.ok) ?_
  refine k_call (want_no rfl) (some 55) rfl 17 #[.agg (arr 20 (addV (decP r) (decP s)).f), .agg (arr 20 (addV (decP s) (decP r)).f)] (.bool true) (fun _ => by kernel_rfl) (same_t ((hp.add hq).at_ (add_comm' _ _)) (hq.add hp)) ?_
  refine kv 56 (.bool false) ?_
  refine kv 57 (.bool false) ?_
  refine k_load M (want_on 8 false rfl 57 rfl (by kernel_rfl)) (some 58) rfl 27 _ rfl 0 g1 0 (by kernel_rfl) 20 27 (decP r).f rfl 20 (decP r).f (Part.all _ _) (by decide) _ Tryz.underlying27 rfl inz27 ?_
  refine k_load M (want_on 8 false rfl 57 rfl (by kernel_rfl)) (some 59) rfl 27 _ rfl 1 g2 0 (by kernel_rfl) 20 27 (decP s).f rfl 20 (decP s).f (Part.all _ _) (by decide) _ Tryz.underlying27 rfl inz27 ?_
  refine k_call (want_on 8 false rfl 57 rfl (by kernel_rfl)) (some 60) rfl 11 #[.agg (arr 20 (decP r).f), .agg (arr 20 (decP s).f)] (.agg (arr 20 (addV (decP r) (decP s)).f)) (fun _ => by kernel_rfl) (fun w => c_add (decP r) (decP s) w hp.ok hq.ok) ?_
  refine k_load M (want_on 8 false rfl 57 rfl (by kernel_rfl)) (some 61) rfl 27 _ rfl 2 g3 0 (by kernel_rfl) 20 27 (decP t).f rfl 20 (decP t).f (Part.all _ _) (by decide) _ Tryz.underlying27 rfl inz27 ?_
  refine k_call (want_on 8 false rfl 57 rfl (by kernel_rfl)) (some 62) rfl 11 #[.agg (arr 20 (addV (decP r) (decP s)).f), .agg (arr 20 (decP t).f)] (.agg (arr 20 (addV (addV (decP r) (decP s)) (decP t)).f)) (fun _ => by kernel_rfl) (fun w => c_add (addV (decP r) (decP s)) (decP t) w (hp.add hq).ok hu.ok) ?_
  refine k_load M (want_on 8 false rfl 57 rfl (by kernel_rfl)) (some 63) rfl 27 _ rfl 0 g1 0 (by kernel_rfl) 20 27 (decP r).f rfl 20 (decP r).f (Part.all _ _) (by decide) _ Tryz.underlying27 rfl inz27 ?_
  refine k_load M (want_on 8 false rfl 57 rfl (by kernel_rfl)) (some 64) rfl 27 _ rfl 1 g2 0 (by kernel_rfl) 20 27 (decP s).f rfl 20 (decP s).f (Part.all _ _) (by decide) _ Tryz.underlying27 rfl inz27 ?_
  refine k_load M (want_on 8 false rfl 57 rfl (by kernel_rfl)) (some 65) rfl 27 _ rfl 2 g3 0 (by kernel_rfl) 20 27 (decP t).f rfl 20 (decP t).f (Part.all _ _) (by decide) _ Tryz.underlying27 rfl inz27 ?_
  refine k_call (want_on 8 false rfl 57 rfl (by kernel_rfl)) (some 66) rfl 11 #[.agg (arr 20 (decP s).f), .agg (arr 20 (decP t).f)] (.agg (arr 20 (addV (decP s) (decP t)).f)) (fun _ => by kernel_rfl) (fun w => c_add (decP s) (decP t) w hq.ok hu.ok) ?_
  refine k_call (want_on 8 false rfl 57 rfl (by kernel_rfl)) (some 67) rfl 11 #[.agg (arr 20 (decP r).f), .agg (arr 20 (addV (decP s) (decP t)).f)] (.agg (arr 20 (addV (decP r) (addV (decP s) (decP t))).f)) (fun _ => by kernel_rfl) (fun w => c_add (decP r) (addV (decP s) (decP t)) w hp.ok (hq.add hu).ok) ?_
  refine k_call (want_on 8 false rfl 57 rfl (by kernel_rfl)) (some 68) rfl 17 #[.agg (arr 20 (addV (addV (decP r) (decP s)) (decP t)).f), .agg (arr 20 (addV (decP r) (addV (decP s) (decP t))).f)] (.bool true) (fun _ => by kernel_rfl) (same_t (((hp.add hq).add hu).at_ (add_assoc' _ _ _)) (hp.add (hq.add hu))) ?_
  refine k_val (want_on 8 false rfl 57 rfl (by kernel_rfl)) (some 69) rfl (.bool false) (fun _ => by kernel_rfl) ?_
  refine kv 70 (.bool false) ?_
  refine kv 71 (.bool false) ?_
  refine k_load M (want_on 22 false rfl 71 rfl (by kernel_rfl)) (some 72) rfl 27 _ rfl 0 g1 0 (by kernel_rfl) 20 27 (decP r).f rfl 20 (decP r).f (Part.all _ _) (by decide) _ Tryz.underlying27 rfl inz27 ?_
  refine k_load M (want_on 22 false rfl 71 rfl (by kernel_rfl)) (some 73) rfl 27 _ rfl 0 g1 0 (by kernel_rfl) 20 27 (decP r).f rfl 20 (decP r).f (Part.all _ _) (by decide) _ Tryz.underlying27 rfl inz27 ?_
  refine k_call (want_on 22 false rfl 71 rfl (by kernel_rfl)) (some 74) rfl 13 #[.agg (arr 20 (decP r).f)] (.agg (arr 20 (negV (decP r)).f)) (fun _ => by kernel_rfl) (fun w => c_neg (decP r) w hp.ok) ?_
  refine k_call (want_on 22 false rfl 71 rfl (by kernel_rfl)) (some 75) rfl 11 #[.agg (arr 20 (decP r).f), .agg (arr 20 (negV (decP r)).f)] (.agg (arr 20 (addV (decP r) (negV (decP r))).f)) (fun _ => by kernel_rfl) (fun w => c_add (decP r) (negV (decP r)) w hp.ok hp.neg.ok) ?_
  refine k_call (want_on 22 false rfl 71 rfl (by kernel_rfl)) (some 76) rfl 19 #[] (.agg (arr 20 zero5.f)) (fun _ => by kernel_rfl) c_zero ?_
  refine k_call (want_on 22 false rfl 71 rfl (by kernel_rfl)) (some 77) rfl 17 #[.agg (arr 20 (addV (decP r) (negV (decP r))).f), .agg (arr 20 zero5.f)] (.bool true) (fun _ => by kernel_rfl) (same_t ((hp.add hp.neg).at_ (add_neg' _)) zero5_rep) ?_
  refine k_val (want_on 22 false rfl 71 rfl (by kernel_rfl)) (some 78) rfl (.bool false) (fun _ => by kernel_rfl) ?_
  refine kv 79 (.bool false) ?_
  refine kv 80 (.bool false) ?_
  refine k_load M (want_on 31 false rfl 80 rfl (by kernel_rfl)) (some 81) rfl 27 _ rfl 0 g1 0 (by kernel_rfl) 20 27 (decP r).f rfl 20 (decP r).f (Part.all _ _) (by decide) _ Tryz.underlying27 rfl inz27 ?_
  refine k_call (want_on 31 false rfl 80 rfl (by kernel_rfl)) (some 82) rfl 19 #[] (.agg (arr 20 zero5.f)) (fun _ => by kernel_rfl) c_zero ?_
  refine k_call (want_on 31 false rfl 80 rfl (by kernel_rfl)) (some 83) rfl 11 #[.agg (arr 20 (decP r).f), .agg (arr 20 zero5.f)] (.agg (arr 20 (addV (decP r) zero5).f)) (fun _ => by kernel_rfl) (fun w => c_add (decP r) zero5 w hp.ok zero5_rep.ok) ?_
  refine k_load M (want_on 31 false rfl 80 rfl (by kernel_rfl)) (some 84) rfl 27 _ rfl 0 g1 0 (by kernel_rfl) 20 27 (decP r).f rfl 20 (decP r).f (Part.all _ _) (by decide) _ Tryz.underlying27 rfl inz27 ?_
  refine k_call (want_on 31 false rfl 80 rfl (by kernel_rfl)) (some 85) rfl 17 #[.agg (arr 20 (addV (decP r) zero5).f), .agg (arr 20 (decP r).f)] (.bool true) (fun _ => by kernel_rfl) (same_t ((hp.add zero5_rep).at_ (add_zero' _)) hp) ?_
  refine k_val (want_on 31 false rfl 80 rfl (by kernel_rfl)) (some 86) rfl (.bool false) (fun _ => by kernel_rfl) ?_
  refine kl_nil ?_
  intro w10 M
  replace M : Mem w [⟨g1, .cells (arr 20 (decP r).f) 27⟩, ⟨g2, .cells (arr 20 (decP s).f) 27⟩, ⟨g3, .cells (arr 20 (decP t).f) 27⟩] w10 := M
  refine pv 87 (.bool false) ?_
  refine nt ?_
  refine wp_cond_false (by kernel_rfl) ?_
  refine wp_skip ?_
  refine au_then ?_
  refine sr ?_
  refine pv 89 (.string m) ?_
  refine pl_call M (want_no rfl) (some 90) rfl 6 #[.string m] (.tuple #[.agg (arr 4 (Ord.d64 (ofV m))), .int .i64 (ofC m)]) (fun _ => by kernel_rfl) (c_of m) ?_
  intro w11 M
  refine pv 88 (.tuple #[.agg (arr 4 (Ord.d64 (ofV m))), .int .i64 (ofC m)]) ?_
  refine pv 91 (.agg (arr 4 (Ord.d64 (ofV m)))) ?_
  refine pv 92 (.int .i64 (ofC m)) ?_
  refine pl_new M (want_no rfl) (some 17) rfl (.cells (arr 4 (fun _ => 0)) 34) (fun _ => by kernel_rfl) ?_
  intro g4 w12 M
  replace M : Mem w [⟨g1, .cells (arr 20 (decP r).f) 27⟩, ⟨g2, .cells (arr 20 (decP s).f) 27⟩, ⟨g3, .cells (arr 20 (decP t).f) 27⟩, ⟨g4, .cells (arr 4 (fun _ => 0)) 34⟩] w12 := M
  refine pl_put M (want_no rfl) rfl 34 _ _ rfl 3 g4 (by kernel_rfl) 4 34 (fun _ => 0) (Ord.d64 (ofV m)) rfl (by kernel_rfl) inz34 ?_
  intro w13 M
  replace M : Mem w [⟨g1, .cells (arr 20 (decP r).f) 27⟩, ⟨g2, .cells (arr 20 (decP s).f) 27⟩, ⟨g3, .cells (arr 20 (decP t).f) 27⟩, ⟨g4, .cells (arr 4 (Ord.d64 (ofV m))) 34⟩] w13 := M
  refine pv 18 (.int .i64 (ofC m)) ?_
  refine nt ?_
  refine sr ?_
  refine pv 94 (.string n) ?_
  refine pl_call M (want_no rfl) (some 95) rfl 6 #[.string n] (.tuple #[.agg (arr 4 (Ord.d64 (ofV n))), .int .i64 (ofC n)]) (fun _ => by kernel_rfl) (c_of n) ?_
  intro w14 M
  refine pv 93 (.tuple #[.agg (arr 4 (Ord.d64 (ofV n))), .int .i64 (ofC n)]) ?_
  refine pv 96 (.agg (arr 4 (Ord.d64 (ofV n)))) ?_
  refine pv 97 (.int .i64 (ofC n)) ?_
  refine pl_new M (want_no rfl) (some 19) rfl (.cells (arr 4 (fun _ => 0)) 34) (fun _ => by kernel_rfl) ?_
  intro g5 w15 M
  replace M : Mem w [⟨g1, .cells (arr 20 (decP r).f) 27⟩, ⟨g2, .cells (arr 20 (decP s).f) 27⟩, ⟨g3, .cells (arr 20 (decP t).f) 27⟩, ⟨g4, .cells (arr 4 (Ord.d64 (ofV m))) 34⟩, ⟨g5, .cells (arr 4 (fun _ => 0)) 34⟩] w15 := M
  refine pl_put M (want_no rfl) rfl 34 _ _ rfl 4 g5 (by kernel_rfl) 4 34 (fun _ => 0) (Ord.d64 (ofV n)) rfl (by kernel_rfl) inz34 ?_
  intro w16 M
  replace M : Mem w [⟨g1, .cells (arr 20 (decP r).f) 27⟩, ⟨g2, .cells (arr 20 (decP s).f) 27⟩, ⟨g3, .cells (arr 20 (decP t).f) 27⟩, ⟨g4, .cells (arr 4 (Ord.d64 (ofV m))) 34⟩, ⟨g5, .cells (arr 4 (Ord.d64 (ofV n))) 34⟩] w16 := M
  refine pv 20 (.int .i64 (ofC n)) ?_
  refine nt ?_
  refine wp_seq ?_
  refine sr ?_
  refine pv 98 (.int .i64 (ofC m)) ?_
  refine pl_val (want_no rfl) (some 99) rfl (.bool true) (fun w => Eq.trans (b := .ok (.value (.bool (!(decide (ofC m = 0))))) w) (by kernel_rfl) (by simp [hh])) ?_
  refine pv 100 (.bool true) ?_
  refine pl_skip (want_off 2 false rfl 100 rfl (by kernel_rfl)) (some 101) rfl ?_
  refine pl_skip (want_off 2 false rfl 100 rfl (by kernel_rfl)) (some 102) rfl ?_
  refine pv 103 (.bool true) ?_
  refine nt ?_
  refine wp_cond_true (by kernel_rfl) ?_
  refine sr ?_
  refine pl_call M (want_no rfl) (some 104) rfl 7 #[] (.bool true) (fun _ => by kernel_rfl) alive_any ?_
  intro w17 M
  refine pv 10 (.bool true) ?_
  refine nt ?_
  refine wp_ret ?_
  refine au_then_ret ?_
  exact bodyPost_ret (v := .bool true) (results_tmp1 Tryz.results4 _ _ _ (by kernel_rfl)) (by kernel_rfl) ⟨rfl, M.old⟩

structure laws4bF (r s t m n : ByteArray)  : Prop where
  h0 : True

set_option maxRecDepth 100000 in
set_option maxHeartbeats 4000000 in
theorem laws4b_gen (r s t m n : ByteArray)  (w : World) (_F : laws4bF r s t m n ) (he : decC r = 0) (hf : decC s = 0) (hg : decC t = 0) (hh : ofC m = 0) (hi : ¬ ofC n = 0) :
    Calls Tryz.prog 4 #[.string r, .string s, .string t, .string m, .string n] w fun r w' => r = .returned (.bool true) ∧ Below w.heap.size w w' := by
  go_enter Tryz.func4, Tryz.ntmps4
  have hp := (dec_both he).1
  have hq := (dec_both hf).1
  have hu := (dec_both hg).1
  have M := Mem.start w
  refine sr ?_
  refine pv 10 (.bool false) ?_
  refine nt ?_
  refine sr ?_
  refine pv 25 (.string r) ?_
  refine pl_call M (want_no rfl) (some 26) rfl 5 #[.string r] (.tuple #[.agg (arr 20 (decP r).f), .int .i64 (decC r)]) (fun _ => by kernel_rfl) (dec_yes rfl rfl) ?_
  intro w1 M
  refine pv 24 (.tuple #[.agg (arr 20 (decP r).f), .int .i64 (decC r)]) ?_
  refine pv 27 (.agg (arr 20 (decP r).f)) ?_
  refine pv 28 (.int .i64 (decC r)) ?_
  refine pl_new M (want_no rfl) (some 11) rfl (.cells (arr 20 (fun _ => 0)) 27) (fun _ => by kernel_rfl) ?_
  intro g1 w2 M
  replace M : Mem w [⟨g1, .cells (arr 20 (fun _ => 0)) 27⟩] w2 := M
  refine pl_put M (want_no rfl) rfl 27 _ _ rfl 0 g1 (by kernel_rfl) 20 27 (fun _ => 0) (decP r).f rfl (by kernel_rfl) inz27 ?_
  intro w3 M
  replace M : Mem w [⟨g1, .cells (arr 20 (decP r).f) 27⟩] w3 := M
  refine pv 12 (.int .i64 (decC r)) ?_
  refine nt ?_
  refine sr ?_
  refine pv 30 (.string s) ?_
  refine pl_call M (want_no rfl) (some 31) rfl 5 #[.string s] (.tuple #[.agg (arr 20 (decP s).f), .int .i64 (decC s)]) (fun _ => by kernel_rfl) (dec_yes rfl rfl) ?_
  intro w4 M
  refine pv 29 (.tuple #[.agg (arr 20 (decP s).f), .int .i64 (decC s)]) ?_
  refine pv 32 (.agg (arr 20 (decP s).f)) ?_
  refine pv 33 (.int .i64 (decC s)) ?_
  refine pl_new M (want_no rfl) (some 13) rfl (.cells (arr 20 (fun _ => 0)) 27) (fun _ => by kernel_rfl) ?_
  intro g2 w5 M
  replace M : Mem w [⟨g1, .cells (arr 20 (decP r).f) 27⟩, ⟨g2, .cells (arr 20 (fun _ => 0)) 27⟩] w5 := M
  refine pl_put M (want_no rfl) rfl 27 _ _ rfl 1 g2 (by kernel_rfl) 20 27 (fun _ => 0) (decP s).f rfl (by kernel_rfl) inz27 ?_
  intro w6 M
  replace M : Mem w [⟨g1, .cells (arr 20 (decP r).f) 27⟩, ⟨g2, .cells (arr 20 (decP s).f) 27⟩] w6 := M
  refine pv 14 (.int .i64 (decC s)) ?_
  refine nt ?_
  refine sr ?_
  refine pv 35 (.string t) ?_
  refine pl_call M (want_no rfl) (some 36) rfl 5 #[.string t] (.tuple #[.agg (arr 20 (decP t).f), .int .i64 (decC t)]) (fun _ => by kernel_rfl) (dec_yes rfl rfl) ?_
  intro w7 M
  refine pv 34 (.tuple #[.agg (arr 20 (decP t).f), .int .i64 (decC t)]) ?_
  refine pv 37 (.agg (arr 20 (decP t).f)) ?_
  refine pv 38 (.int .i64 (decC t)) ?_
  refine pl_new M (want_no rfl) (some 15) rfl (.cells (arr 20 (fun _ => 0)) 27) (fun _ => by kernel_rfl) ?_
  intro g3 w8 M
  replace M : Mem w [⟨g1, .cells (arr 20 (decP r).f) 27⟩, ⟨g2, .cells (arr 20 (decP s).f) 27⟩, ⟨g3, .cells (arr 20 (fun _ => 0)) 27⟩] w8 := M
  refine pl_put M (want_no rfl) rfl 27 _ _ rfl 2 g3 (by kernel_rfl) 20 27 (fun _ => 0) (decP t).f rfl (by kernel_rfl) inz27 ?_
  intro w9 M
  replace M : Mem w [⟨g1, .cells (arr 20 (decP r).f) 27⟩, ⟨g2, .cells (arr 20 (decP s).f) 27⟩, ⟨g3, .cells (arr 20 (decP t).f) 27⟩] w9 := M
  refine pv 16 (.int .i64 (decC t)) ?_
  refine nt ?_
  refine wp_seq ?_
  refine sr ?_
  refine pv 39 (.int .i64 (decC r)) ?_
  refine pl_val (want_no rfl) (some 40) rfl (.bool true) (fun w => Eq.trans (b := .ok (.value (.bool (decide (decC r = 0)))) w) (by kernel_rfl) (by simp [he])) ?_
  refine pv 41 (.bool true) ?_
  refine pl_val (want_on 2 true rfl 41 rfl (by kernel_rfl)) (some 42) rfl (.int .i64 (decC s)) (fun _ => by kernel_rfl) ?_
  refine pl_val (want_on 2 true rfl 41 rfl (by kernel_rfl)) (some 43) rfl (.bool true) (fun w => Eq.trans (b := .ok (.value (.bool (decide (decC s = 0)))) w) (by kernel_rfl) (by simp [hf])) ?_
  refine pv 44 (.bool true) ?_
  refine pv 45 (.bool true) ?_
  refine pl_val (want_on 6 true rfl 45 rfl (by kernel_rfl)) (some 46) rfl (.int .i64 (decC t)) (fun _ => by kernel_rfl) ?_
  refine pl_val (want_on 6 true rfl 45 rfl (by kernel_rfl)) (some 47) rfl (.bool true) (fun w => Eq.trans (b := .ok (.value (.bool (decide (decC t = 0)))) w) (by kernel_rfl) (by simp [hg])) ?_
  refine pv 48 (.bool true) ?_
  refine nt ?_
  refine wp_cond_true (by kernel_rfl) ?_
  refine wp_seq ?_
  refine rg_tail M 38 (by kernel_rfl) (by kernel_rfl) ?_
  simp only [List.take_succ_cons, List.take_zero]
  refine k_load M (want_no rfl) (some 49) rfl 27 _ rfl 0 g1 0 (by kernel_rfl) 20 27 (decP r).f rfl 20 (decP r).f (Part.all _ _) (by decide) _ Tryz.underlying27 rfl inz27 ?_
  refine k_load M (want_no rfl) (some 50) rfl 27 _ rfl 1 g2 0 (by kernel_rfl) 20 27 (decP s).f rfl 20 (decP s).f (Part.all _ _) (by decide) _ Tryz.underlying27 rfl inz27 ?_
  refine k_call (want_no rfl) (some 51) rfl 11 #[.agg (arr 20 (decP r).f), .agg (arr 20 (decP s).f)] (.agg (arr 20 (addV (decP r) (decP s)).f)) (fun _ => by kernel_rfl) (fun w => c_add (decP r) (decP s) w hp.ok hq.ok) ?_
  refine k_load M (want_no rfl) (some 52) rfl 27 _ rfl 1 g2 0 (by kernel_rfl) 20 27 (decP s).f rfl 20 (decP s).f (Part.all _ _) (by decide) _ Tryz.underlying27 rfl inz27 ?_
  refine k_load M (want_no rfl) (some 53) rfl 27 _ rfl 0 g1 0 (by kernel_rfl) 20 27 (decP r).f rfl 20 (decP r).f (Part.all _ _) (by decide) _ Tryz.underlying27 rfl inz27 ?_
  refine k_call (want_no rfl) (some 54) rfl 11 #[.agg (arr 20 (decP s).f), .agg (arr 20 (decP r).f)] (.agg (arr 20 (addV (decP s) (decP r)).f)) (fun _ => by kernel_rfl) (fun w => c_add (decP s) (decP r) w hq.ok hp.ok) ?_
  refine k_call (want_no rfl) (some 55) rfl 17 #[.agg (arr 20 (addV (decP r) (decP s)).f), .agg (arr 20 (addV (decP s) (decP r)).f)] (.bool true) (fun _ => by kernel_rfl) (same_t ((hp.add hq).at_ (add_comm' _ _)) (hq.add hp)) ?_
  refine kv 56 (.bool false) ?_
  refine kv 57 (.bool false) ?_
  refine k_load M (want_on 8 false rfl 57 rfl (by kernel_rfl)) (some 58) rfl 27 _ rfl 0 g1 0 (by kernel_rfl) 20 27 (decP r).f rfl 20 (decP r).f (Part.all _ _) (by decide) _ Tryz.underlying27 rfl inz27 ?_
  refine k_load M (want_on 8 false rfl 57 rfl (by kernel_rfl)) (some 59) rfl 27 _ rfl 1 g2 0 (by kernel_rfl) 20 27 (decP s).f rfl 20 (decP s).f (Part.all _ _) (by decide) _ Tryz.underlying27 rfl inz27 ?_
  refine k_call (want_on 8 false rfl 57 rfl (by kernel_rfl)) (some 60) rfl 11 #[.agg (arr 20 (decP r).f), .agg (arr 20 (decP s).f)] (.agg (arr 20 (addV (decP r) (decP s)).f)) (fun _ => by kernel_rfl) (fun w => c_add (decP r) (decP s) w hp.ok hq.ok) ?_
  refine k_load M (want_on 8 false rfl 57 rfl (by kernel_rfl)) (some 61) rfl 27 _ rfl 2 g3 0 (by kernel_rfl) 20 27 (decP t).f rfl 20 (decP t).f (Part.all _ _) (by decide) _ Tryz.underlying27 rfl inz27 ?_
  refine k_call (want_on 8 false rfl 57 rfl (by kernel_rfl)) (some 62) rfl 11 #[.agg (arr 20 (addV (decP r) (decP s)).f), .agg (arr 20 (decP t).f)] (.agg (arr 20 (addV (addV (decP r) (decP s)) (decP t)).f)) (fun _ => by kernel_rfl) (fun w => c_add (addV (decP r) (decP s)) (decP t) w (hp.add hq).ok hu.ok) ?_
  refine k_load M (want_on 8 false rfl 57 rfl (by kernel_rfl)) (some 63) rfl 27 _ rfl 0 g1 0 (by kernel_rfl) 20 27 (decP r).f rfl 20 (decP r).f (Part.all _ _) (by decide) _ Tryz.underlying27 rfl inz27 ?_
  refine k_load M (want_on 8 false rfl 57 rfl (by kernel_rfl)) (some 64) rfl 27 _ rfl 1 g2 0 (by kernel_rfl) 20 27 (decP s).f rfl 20 (decP s).f (Part.all _ _) (by decide) _ Tryz.underlying27 rfl inz27 ?_
  refine k_load M (want_on 8 false rfl 57 rfl (by kernel_rfl)) (some 65) rfl 27 _ rfl 2 g3 0 (by kernel_rfl) 20 27 (decP t).f rfl 20 (decP t).f (Part.all _ _) (by decide) _ Tryz.underlying27 rfl inz27 ?_
  refine k_call (want_on 8 false rfl 57 rfl (by kernel_rfl)) (some 66) rfl 11 #[.agg (arr 20 (decP s).f), .agg (arr 20 (decP t).f)] (.agg (arr 20 (addV (decP s) (decP t)).f)) (fun _ => by kernel_rfl) (fun w => c_add (decP s) (decP t) w hq.ok hu.ok) ?_
  refine k_call (want_on 8 false rfl 57 rfl (by kernel_rfl)) (some 67) rfl 11 #[.agg (arr 20 (decP r).f), .agg (arr 20 (addV (decP s) (decP t)).f)] (.agg (arr 20 (addV (decP r) (addV (decP s) (decP t))).f)) (fun _ => by kernel_rfl) (fun w => c_add (decP r) (addV (decP s) (decP t)) w hp.ok (hq.add hu).ok) ?_
  refine k_call (want_on 8 false rfl 57 rfl (by kernel_rfl)) (some 68) rfl 17 #[.agg (arr 20 (addV (addV (decP r) (decP s)) (decP t)).f), .agg (arr 20 (addV (decP r) (addV (decP s) (decP t))).f)] (.bool true) (fun _ => by kernel_rfl) (same_t (((hp.add hq).add hu).at_ (add_assoc' _ _ _)) (hp.add (hq.add hu))) ?_
  refine k_val (want_on 8 false rfl 57 rfl (by kernel_rfl)) (some 69) rfl (.bool false) (fun _ => by kernel_rfl) ?_
  refine kv 70 (.bool false) ?_
  refine kv 71 (.bool false) ?_
  refine k_load M (want_on 22 false rfl 71 rfl (by kernel_rfl)) (some 72) rfl 27 _ rfl 0 g1 0 (by kernel_rfl) 20 27 (decP r).f rfl 20 (decP r).f (Part.all _ _) (by decide) _ Tryz.underlying27 rfl inz27 ?_
  refine k_load M (want_on 22 false rfl 71 rfl (by kernel_rfl)) (some 73) rfl 27 _ rfl 0 g1 0 (by kernel_rfl) 20 27 (decP r).f rfl 20 (decP r).f (Part.all _ _) (by decide) _ Tryz.underlying27 rfl inz27 ?_
  refine k_call (want_on 22 false rfl 71 rfl (by kernel_rfl)) (some 74) rfl 13 #[.agg (arr 20 (decP r).f)] (.agg (arr 20 (negV (decP r)).f)) (fun _ => by kernel_rfl) (fun w => c_neg (decP r) w hp.ok) ?_
  refine k_call (want_on 22 false rfl 71 rfl (by kernel_rfl)) (some 75) rfl 11 #[.agg (arr 20 (decP r).f), .agg (arr 20 (negV (decP r)).f)] (.agg (arr 20 (addV (decP r) (negV (decP r))).f)) (fun _ => by kernel_rfl) (fun w => c_add (decP r) (negV (decP r)) w hp.ok hp.neg.ok) ?_
  refine k_call (want_on 22 false rfl 71 rfl (by kernel_rfl)) (some 76) rfl 19 #[] (.agg (arr 20 zero5.f)) (fun _ => by kernel_rfl) c_zero ?_
  refine k_call (want_on 22 false rfl 71 rfl (by kernel_rfl)) (some 77) rfl 17 #[.agg (arr 20 (addV (decP r) (negV (decP r))).f), .agg (arr 20 zero5.f)] (.bool true) (fun _ => by kernel_rfl) (same_t ((hp.add hp.neg).at_ (add_neg' _)) zero5_rep) ?_
  refine k_val (want_on 22 false rfl 71 rfl (by kernel_rfl)) (some 78) rfl (.bool false) (fun _ => by kernel_rfl) ?_
  refine kv 79 (.bool false) ?_
  refine kv 80 (.bool false) ?_
  refine k_load M (want_on 31 false rfl 80 rfl (by kernel_rfl)) (some 81) rfl 27 _ rfl 0 g1 0 (by kernel_rfl) 20 27 (decP r).f rfl 20 (decP r).f (Part.all _ _) (by decide) _ Tryz.underlying27 rfl inz27 ?_
  refine k_call (want_on 31 false rfl 80 rfl (by kernel_rfl)) (some 82) rfl 19 #[] (.agg (arr 20 zero5.f)) (fun _ => by kernel_rfl) c_zero ?_
  refine k_call (want_on 31 false rfl 80 rfl (by kernel_rfl)) (some 83) rfl 11 #[.agg (arr 20 (decP r).f), .agg (arr 20 zero5.f)] (.agg (arr 20 (addV (decP r) zero5).f)) (fun _ => by kernel_rfl) (fun w => c_add (decP r) zero5 w hp.ok zero5_rep.ok) ?_
  refine k_load M (want_on 31 false rfl 80 rfl (by kernel_rfl)) (some 84) rfl 27 _ rfl 0 g1 0 (by kernel_rfl) 20 27 (decP r).f rfl 20 (decP r).f (Part.all _ _) (by decide) _ Tryz.underlying27 rfl inz27 ?_
  refine k_call (want_on 31 false rfl 80 rfl (by kernel_rfl)) (some 85) rfl 17 #[.agg (arr 20 (addV (decP r) zero5).f), .agg (arr 20 (decP r).f)] (.bool true) (fun _ => by kernel_rfl) (same_t ((hp.add zero5_rep).at_ (add_zero' _)) hp) ?_
  refine k_val (want_on 31 false rfl 80 rfl (by kernel_rfl)) (some 86) rfl (.bool false) (fun _ => by kernel_rfl) ?_
  refine kl_nil ?_
  intro w10 M
  replace M : Mem w [⟨g1, .cells (arr 20 (decP r).f) 27⟩, ⟨g2, .cells (arr 20 (decP s).f) 27⟩, ⟨g3, .cells (arr 20 (decP t).f) 27⟩] w10 := M
  refine pv 87 (.bool false) ?_
  refine nt ?_
  refine wp_cond_false (by kernel_rfl) ?_
  refine wp_skip ?_
  refine au_then ?_
  refine sr ?_
  refine pv 89 (.string m) ?_
  refine pl_call M (want_no rfl) (some 90) rfl 6 #[.string m] (.tuple #[.agg (arr 4 (Ord.d64 (ofV m))), .int .i64 (ofC m)]) (fun _ => by kernel_rfl) (c_of m) ?_
  intro w11 M
  refine pv 88 (.tuple #[.agg (arr 4 (Ord.d64 (ofV m))), .int .i64 (ofC m)]) ?_
  refine pv 91 (.agg (arr 4 (Ord.d64 (ofV m)))) ?_
  refine pv 92 (.int .i64 (ofC m)) ?_
  refine pl_new M (want_no rfl) (some 17) rfl (.cells (arr 4 (fun _ => 0)) 34) (fun _ => by kernel_rfl) ?_
  intro g4 w12 M
  replace M : Mem w [⟨g1, .cells (arr 20 (decP r).f) 27⟩, ⟨g2, .cells (arr 20 (decP s).f) 27⟩, ⟨g3, .cells (arr 20 (decP t).f) 27⟩, ⟨g4, .cells (arr 4 (fun _ => 0)) 34⟩] w12 := M
  refine pl_put M (want_no rfl) rfl 34 _ _ rfl 3 g4 (by kernel_rfl) 4 34 (fun _ => 0) (Ord.d64 (ofV m)) rfl (by kernel_rfl) inz34 ?_
  intro w13 M
  replace M : Mem w [⟨g1, .cells (arr 20 (decP r).f) 27⟩, ⟨g2, .cells (arr 20 (decP s).f) 27⟩, ⟨g3, .cells (arr 20 (decP t).f) 27⟩, ⟨g4, .cells (arr 4 (Ord.d64 (ofV m))) 34⟩] w13 := M
  refine pv 18 (.int .i64 (ofC m)) ?_
  refine nt ?_
  refine sr ?_
  refine pv 94 (.string n) ?_
  refine pl_call M (want_no rfl) (some 95) rfl 6 #[.string n] (.tuple #[.agg (arr 4 (Ord.d64 (ofV n))), .int .i64 (ofC n)]) (fun _ => by kernel_rfl) (c_of n) ?_
  intro w14 M
  refine pv 93 (.tuple #[.agg (arr 4 (Ord.d64 (ofV n))), .int .i64 (ofC n)]) ?_
  refine pv 96 (.agg (arr 4 (Ord.d64 (ofV n)))) ?_
  refine pv 97 (.int .i64 (ofC n)) ?_
  refine pl_new M (want_no rfl) (some 19) rfl (.cells (arr 4 (fun _ => 0)) 34) (fun _ => by kernel_rfl) ?_
  intro g5 w15 M
  replace M : Mem w [⟨g1, .cells (arr 20 (decP r).f) 27⟩, ⟨g2, .cells (arr 20 (decP s).f) 27⟩, ⟨g3, .cells (arr 20 (decP t).f) 27⟩, ⟨g4, .cells (arr 4 (Ord.d64 (ofV m))) 34⟩, ⟨g5, .cells (arr 4 (fun _ => 0)) 34⟩] w15 := M
  refine pl_put M (want_no rfl) rfl 34 _ _ rfl 4 g5 (by kernel_rfl) 4 34 (fun _ => 0) (Ord.d64 (ofV n)) rfl (by kernel_rfl) inz34 ?_
  intro w16 M
  replace M : Mem w [⟨g1, .cells (arr 20 (decP r).f) 27⟩, ⟨g2, .cells (arr 20 (decP s).f) 27⟩, ⟨g3, .cells (arr 20 (decP t).f) 27⟩, ⟨g4, .cells (arr 4 (Ord.d64 (ofV m))) 34⟩, ⟨g5, .cells (arr 4 (Ord.d64 (ofV n))) 34⟩] w16 := M
  refine pv 20 (.int .i64 (ofC n)) ?_
  refine nt ?_
  refine wp_seq ?_
  refine sr ?_
  refine pv 98 (.int .i64 (ofC m)) ?_
  refine pl_val (want_no rfl) (some 99) rfl (.bool false) (fun w => Eq.trans (b := .ok (.value (.bool (!(decide (ofC m = 0))))) w) (by kernel_rfl) (by simp [hh])) ?_
  refine pv 100 (.bool false) ?_
  refine pl_val (want_on 2 false rfl 100 rfl (by kernel_rfl)) (some 101) rfl (.int .i64 (ofC n)) (fun _ => by kernel_rfl) ?_
  refine pl_val (want_on 2 false rfl 100 rfl (by kernel_rfl)) (some 102) rfl (.bool true) (fun w => Eq.trans (b := .ok (.value (.bool (!(decide (ofC n = 0))))) w) (by kernel_rfl) (by simp [hi])) ?_
  refine pv 103 (.bool true) ?_
  refine nt ?_
  refine wp_cond_true (by kernel_rfl) ?_
  refine sr ?_
  refine pl_call M (want_no rfl) (some 104) rfl 7 #[] (.bool true) (fun _ => by kernel_rfl) alive_any ?_
  intro w17 M
  refine pv 10 (.bool true) ?_
  refine nt ?_
  refine wp_ret ?_
  refine au_then_ret ?_
  exact bodyPost_ret (v := .bool true) (results_tmp1 Tryz.results4 _ _ _ (by kernel_rfl)) (by kernel_rfl) ⟨rfl, M.old⟩

structure laws4cF (r s t m n : ByteArray)  : Prop where
  h0 : True

set_option maxRecDepth 100000 in
set_option maxHeartbeats 4000000 in
theorem laws4c_gen (r s t m n : ByteArray)  (w : World) (_F : laws4cF r s t m n ) (he : decC r = 0) (hf : decC s = 0) (hg : decC t = 0) (hh : ofC m = 0) (hi : ofC n = 0) :
    Calls Tryz.prog 4 #[.string r, .string s, .string t, .string m, .string n] w fun r w' => r = .returned (.bool true) ∧ Below w.heap.size w w' := by
  go_enter Tryz.func4, Tryz.ntmps4
  have hp := (dec_both he).1
  have hq := (dec_both hf).1
  have hu := (dec_both hg).1
  have M := Mem.start w
  refine sr ?_
  refine pv 10 (.bool false) ?_
  refine nt ?_
  refine sr ?_
  refine pv 25 (.string r) ?_
  refine pl_call M (want_no rfl) (some 26) rfl 5 #[.string r] (.tuple #[.agg (arr 20 (decP r).f), .int .i64 (decC r)]) (fun _ => by kernel_rfl) (dec_yes rfl rfl) ?_
  intro w1 M
  refine pv 24 (.tuple #[.agg (arr 20 (decP r).f), .int .i64 (decC r)]) ?_
  refine pv 27 (.agg (arr 20 (decP r).f)) ?_
  refine pv 28 (.int .i64 (decC r)) ?_
  refine pl_new M (want_no rfl) (some 11) rfl (.cells (arr 20 (fun _ => 0)) 27) (fun _ => by kernel_rfl) ?_
  intro g1 w2 M
  replace M : Mem w [⟨g1, .cells (arr 20 (fun _ => 0)) 27⟩] w2 := M
  refine pl_put M (want_no rfl) rfl 27 _ _ rfl 0 g1 (by kernel_rfl) 20 27 (fun _ => 0) (decP r).f rfl (by kernel_rfl) inz27 ?_
  intro w3 M
  replace M : Mem w [⟨g1, .cells (arr 20 (decP r).f) 27⟩] w3 := M
  refine pv 12 (.int .i64 (decC r)) ?_
  refine nt ?_
  refine sr ?_
  refine pv 30 (.string s) ?_
  refine pl_call M (want_no rfl) (some 31) rfl 5 #[.string s] (.tuple #[.agg (arr 20 (decP s).f), .int .i64 (decC s)]) (fun _ => by kernel_rfl) (dec_yes rfl rfl) ?_
  intro w4 M
  refine pv 29 (.tuple #[.agg (arr 20 (decP s).f), .int .i64 (decC s)]) ?_
  refine pv 32 (.agg (arr 20 (decP s).f)) ?_
  refine pv 33 (.int .i64 (decC s)) ?_
  refine pl_new M (want_no rfl) (some 13) rfl (.cells (arr 20 (fun _ => 0)) 27) (fun _ => by kernel_rfl) ?_
  intro g2 w5 M
  replace M : Mem w [⟨g1, .cells (arr 20 (decP r).f) 27⟩, ⟨g2, .cells (arr 20 (fun _ => 0)) 27⟩] w5 := M
  refine pl_put M (want_no rfl) rfl 27 _ _ rfl 1 g2 (by kernel_rfl) 20 27 (fun _ => 0) (decP s).f rfl (by kernel_rfl) inz27 ?_
  intro w6 M
  replace M : Mem w [⟨g1, .cells (arr 20 (decP r).f) 27⟩, ⟨g2, .cells (arr 20 (decP s).f) 27⟩] w6 := M
  refine pv 14 (.int .i64 (decC s)) ?_
  refine nt ?_
  refine sr ?_
  refine pv 35 (.string t) ?_
  refine pl_call M (want_no rfl) (some 36) rfl 5 #[.string t] (.tuple #[.agg (arr 20 (decP t).f), .int .i64 (decC t)]) (fun _ => by kernel_rfl) (dec_yes rfl rfl) ?_
  intro w7 M
  refine pv 34 (.tuple #[.agg (arr 20 (decP t).f), .int .i64 (decC t)]) ?_
  refine pv 37 (.agg (arr 20 (decP t).f)) ?_
  refine pv 38 (.int .i64 (decC t)) ?_
  refine pl_new M (want_no rfl) (some 15) rfl (.cells (arr 20 (fun _ => 0)) 27) (fun _ => by kernel_rfl) ?_
  intro g3 w8 M
  replace M : Mem w [⟨g1, .cells (arr 20 (decP r).f) 27⟩, ⟨g2, .cells (arr 20 (decP s).f) 27⟩, ⟨g3, .cells (arr 20 (fun _ => 0)) 27⟩] w8 := M
  refine pl_put M (want_no rfl) rfl 27 _ _ rfl 2 g3 (by kernel_rfl) 20 27 (fun _ => 0) (decP t).f rfl (by kernel_rfl) inz27 ?_
  intro w9 M
  replace M : Mem w [⟨g1, .cells (arr 20 (decP r).f) 27⟩, ⟨g2, .cells (arr 20 (decP s).f) 27⟩, ⟨g3, .cells (arr 20 (decP t).f) 27⟩] w9 := M
  refine pv 16 (.int .i64 (decC t)) ?_
  refine nt ?_
  refine wp_seq ?_
  refine sr ?_
  refine pv 39 (.int .i64 (decC r)) ?_
  refine pl_val (want_no rfl) (some 40) rfl (.bool true) (fun w => Eq.trans (b := .ok (.value (.bool (decide (decC r = 0)))) w) (by kernel_rfl) (by simp [he])) ?_
  refine pv 41 (.bool true) ?_
  refine pl_val (want_on 2 true rfl 41 rfl (by kernel_rfl)) (some 42) rfl (.int .i64 (decC s)) (fun _ => by kernel_rfl) ?_
  refine pl_val (want_on 2 true rfl 41 rfl (by kernel_rfl)) (some 43) rfl (.bool true) (fun w => Eq.trans (b := .ok (.value (.bool (decide (decC s = 0)))) w) (by kernel_rfl) (by simp [hf])) ?_
  refine pv 44 (.bool true) ?_
  refine pv 45 (.bool true) ?_
  refine pl_val (want_on 6 true rfl 45 rfl (by kernel_rfl)) (some 46) rfl (.int .i64 (decC t)) (fun _ => by kernel_rfl) ?_
  refine pl_val (want_on 6 true rfl 45 rfl (by kernel_rfl)) (some 47) rfl (.bool true) (fun w => Eq.trans (b := .ok (.value (.bool (decide (decC t = 0)))) w) (by kernel_rfl) (by simp [hg])) ?_
  refine pv 48 (.bool true) ?_
  refine nt ?_
  refine wp_cond_true (by kernel_rfl) ?_
  refine wp_seq ?_
  refine rg_tail M 38 (by kernel_rfl) (by kernel_rfl) ?_
  simp only [List.take_succ_cons, List.take_zero]
  refine k_load M (want_no rfl) (some 49) rfl 27 _ rfl 0 g1 0 (by kernel_rfl) 20 27 (decP r).f rfl 20 (decP r).f (Part.all _ _) (by decide) _ Tryz.underlying27 rfl inz27 ?_
  refine k_load M (want_no rfl) (some 50) rfl 27 _ rfl 1 g2 0 (by kernel_rfl) 20 27 (decP s).f rfl 20 (decP s).f (Part.all _ _) (by decide) _ Tryz.underlying27 rfl inz27 ?_
  refine k_call (want_no rfl) (some 51) rfl 11 #[.agg (arr 20 (decP r).f), .agg (arr 20 (decP s).f)] (.agg (arr 20 (addV (decP r) (decP s)).f)) (fun _ => by kernel_rfl) (fun w => c_add (decP r) (decP s) w hp.ok hq.ok) ?_
  refine k_load M (want_no rfl) (some 52) rfl 27 _ rfl 1 g2 0 (by kernel_rfl) 20 27 (decP s).f rfl 20 (decP s).f (Part.all _ _) (by decide) _ Tryz.underlying27 rfl inz27 ?_
  refine k_load M (want_no rfl) (some 53) rfl 27 _ rfl 0 g1 0 (by kernel_rfl) 20 27 (decP r).f rfl 20 (decP r).f (Part.all _ _) (by decide) _ Tryz.underlying27 rfl inz27 ?_
  refine k_call (want_no rfl) (some 54) rfl 11 #[.agg (arr 20 (decP s).f), .agg (arr 20 (decP r).f)] (.agg (arr 20 (addV (decP s) (decP r)).f)) (fun _ => by kernel_rfl) (fun w => c_add (decP s) (decP r) w hq.ok hp.ok) ?_
  refine k_call (want_no rfl) (some 55) rfl 17 #[.agg (arr 20 (addV (decP r) (decP s)).f), .agg (arr 20 (addV (decP s) (decP r)).f)] (.bool true) (fun _ => by kernel_rfl) (same_t ((hp.add hq).at_ (add_comm' _ _)) (hq.add hp)) ?_
  refine kv 56 (.bool false) ?_
  refine kv 57 (.bool false) ?_
  refine k_load M (want_on 8 false rfl 57 rfl (by kernel_rfl)) (some 58) rfl 27 _ rfl 0 g1 0 (by kernel_rfl) 20 27 (decP r).f rfl 20 (decP r).f (Part.all _ _) (by decide) _ Tryz.underlying27 rfl inz27 ?_
  refine k_load M (want_on 8 false rfl 57 rfl (by kernel_rfl)) (some 59) rfl 27 _ rfl 1 g2 0 (by kernel_rfl) 20 27 (decP s).f rfl 20 (decP s).f (Part.all _ _) (by decide) _ Tryz.underlying27 rfl inz27 ?_
  refine k_call (want_on 8 false rfl 57 rfl (by kernel_rfl)) (some 60) rfl 11 #[.agg (arr 20 (decP r).f), .agg (arr 20 (decP s).f)] (.agg (arr 20 (addV (decP r) (decP s)).f)) (fun _ => by kernel_rfl) (fun w => c_add (decP r) (decP s) w hp.ok hq.ok) ?_
  refine k_load M (want_on 8 false rfl 57 rfl (by kernel_rfl)) (some 61) rfl 27 _ rfl 2 g3 0 (by kernel_rfl) 20 27 (decP t).f rfl 20 (decP t).f (Part.all _ _) (by decide) _ Tryz.underlying27 rfl inz27 ?_
  refine k_call (want_on 8 false rfl 57 rfl (by kernel_rfl)) (some 62) rfl 11 #[.agg (arr 20 (addV (decP r) (decP s)).f), .agg (arr 20 (decP t).f)] (.agg (arr 20 (addV (addV (decP r) (decP s)) (decP t)).f)) (fun _ => by kernel_rfl) (fun w => c_add (addV (decP r) (decP s)) (decP t) w (hp.add hq).ok hu.ok) ?_
  refine k_load M (want_on 8 false rfl 57 rfl (by kernel_rfl)) (some 63) rfl 27 _ rfl 0 g1 0 (by kernel_rfl) 20 27 (decP r).f rfl 20 (decP r).f (Part.all _ _) (by decide) _ Tryz.underlying27 rfl inz27 ?_
  refine k_load M (want_on 8 false rfl 57 rfl (by kernel_rfl)) (some 64) rfl 27 _ rfl 1 g2 0 (by kernel_rfl) 20 27 (decP s).f rfl 20 (decP s).f (Part.all _ _) (by decide) _ Tryz.underlying27 rfl inz27 ?_
  refine k_load M (want_on 8 false rfl 57 rfl (by kernel_rfl)) (some 65) rfl 27 _ rfl 2 g3 0 (by kernel_rfl) 20 27 (decP t).f rfl 20 (decP t).f (Part.all _ _) (by decide) _ Tryz.underlying27 rfl inz27 ?_
  refine k_call (want_on 8 false rfl 57 rfl (by kernel_rfl)) (some 66) rfl 11 #[.agg (arr 20 (decP s).f), .agg (arr 20 (decP t).f)] (.agg (arr 20 (addV (decP s) (decP t)).f)) (fun _ => by kernel_rfl) (fun w => c_add (decP s) (decP t) w hq.ok hu.ok) ?_
  refine k_call (want_on 8 false rfl 57 rfl (by kernel_rfl)) (some 67) rfl 11 #[.agg (arr 20 (decP r).f), .agg (arr 20 (addV (decP s) (decP t)).f)] (.agg (arr 20 (addV (decP r) (addV (decP s) (decP t))).f)) (fun _ => by kernel_rfl) (fun w => c_add (decP r) (addV (decP s) (decP t)) w hp.ok (hq.add hu).ok) ?_
  refine k_call (want_on 8 false rfl 57 rfl (by kernel_rfl)) (some 68) rfl 17 #[.agg (arr 20 (addV (addV (decP r) (decP s)) (decP t)).f), .agg (arr 20 (addV (decP r) (addV (decP s) (decP t))).f)] (.bool true) (fun _ => by kernel_rfl) (same_t (((hp.add hq).add hu).at_ (add_assoc' _ _ _)) (hp.add (hq.add hu))) ?_
  refine k_val (want_on 8 false rfl 57 rfl (by kernel_rfl)) (some 69) rfl (.bool false) (fun _ => by kernel_rfl) ?_
  refine kv 70 (.bool false) ?_
  refine kv 71 (.bool false) ?_
  refine k_load M (want_on 22 false rfl 71 rfl (by kernel_rfl)) (some 72) rfl 27 _ rfl 0 g1 0 (by kernel_rfl) 20 27 (decP r).f rfl 20 (decP r).f (Part.all _ _) (by decide) _ Tryz.underlying27 rfl inz27 ?_
  refine k_load M (want_on 22 false rfl 71 rfl (by kernel_rfl)) (some 73) rfl 27 _ rfl 0 g1 0 (by kernel_rfl) 20 27 (decP r).f rfl 20 (decP r).f (Part.all _ _) (by decide) _ Tryz.underlying27 rfl inz27 ?_
  refine k_call (want_on 22 false rfl 71 rfl (by kernel_rfl)) (some 74) rfl 13 #[.agg (arr 20 (decP r).f)] (.agg (arr 20 (negV (decP r)).f)) (fun _ => by kernel_rfl) (fun w => c_neg (decP r) w hp.ok) ?_
  refine k_call (want_on 22 false rfl 71 rfl (by kernel_rfl)) (some 75) rfl 11 #[.agg (arr 20 (decP r).f), .agg (arr 20 (negV (decP r)).f)] (.agg (arr 20 (addV (decP r) (negV (decP r))).f)) (fun _ => by kernel_rfl) (fun w => c_add (decP r) (negV (decP r)) w hp.ok hp.neg.ok) ?_
  refine k_call (want_on 22 false rfl 71 rfl (by kernel_rfl)) (some 76) rfl 19 #[] (.agg (arr 20 zero5.f)) (fun _ => by kernel_rfl) c_zero ?_
  refine k_call (want_on 22 false rfl 71 rfl (by kernel_rfl)) (some 77) rfl 17 #[.agg (arr 20 (addV (decP r) (negV (decP r))).f), .agg (arr 20 zero5.f)] (.bool true) (fun _ => by kernel_rfl) (same_t ((hp.add hp.neg).at_ (add_neg' _)) zero5_rep) ?_
  refine k_val (want_on 22 false rfl 71 rfl (by kernel_rfl)) (some 78) rfl (.bool false) (fun _ => by kernel_rfl) ?_
  refine kv 79 (.bool false) ?_
  refine kv 80 (.bool false) ?_
  refine k_load M (want_on 31 false rfl 80 rfl (by kernel_rfl)) (some 81) rfl 27 _ rfl 0 g1 0 (by kernel_rfl) 20 27 (decP r).f rfl 20 (decP r).f (Part.all _ _) (by decide) _ Tryz.underlying27 rfl inz27 ?_
  refine k_call (want_on 31 false rfl 80 rfl (by kernel_rfl)) (some 82) rfl 19 #[] (.agg (arr 20 zero5.f)) (fun _ => by kernel_rfl) c_zero ?_
  refine k_call (want_on 31 false rfl 80 rfl (by kernel_rfl)) (some 83) rfl 11 #[.agg (arr 20 (decP r).f), .agg (arr 20 zero5.f)] (.agg (arr 20 (addV (decP r) zero5).f)) (fun _ => by kernel_rfl) (fun w => c_add (decP r) zero5 w hp.ok zero5_rep.ok) ?_
  refine k_load M (want_on 31 false rfl 80 rfl (by kernel_rfl)) (some 84) rfl 27 _ rfl 0 g1 0 (by kernel_rfl) 20 27 (decP r).f rfl 20 (decP r).f (Part.all _ _) (by decide) _ Tryz.underlying27 rfl inz27 ?_
  refine k_call (want_on 31 false rfl 80 rfl (by kernel_rfl)) (some 85) rfl 17 #[.agg (arr 20 (addV (decP r) zero5).f), .agg (arr 20 (decP r).f)] (.bool true) (fun _ => by kernel_rfl) (same_t ((hp.add zero5_rep).at_ (add_zero' _)) hp) ?_
  refine k_val (want_on 31 false rfl 80 rfl (by kernel_rfl)) (some 86) rfl (.bool false) (fun _ => by kernel_rfl) ?_
  refine kl_nil ?_
  intro w10 M
  replace M : Mem w [⟨g1, .cells (arr 20 (decP r).f) 27⟩, ⟨g2, .cells (arr 20 (decP s).f) 27⟩, ⟨g3, .cells (arr 20 (decP t).f) 27⟩] w10 := M
  refine pv 87 (.bool false) ?_
  refine nt ?_
  refine wp_cond_false (by kernel_rfl) ?_
  refine wp_skip ?_
  refine au_then ?_
  refine sr ?_
  refine pv 89 (.string m) ?_
  refine pl_call M (want_no rfl) (some 90) rfl 6 #[.string m] (.tuple #[.agg (arr 4 (Ord.d64 (ofV m))), .int .i64 (ofC m)]) (fun _ => by kernel_rfl) (c_of m) ?_
  intro w11 M
  refine pv 88 (.tuple #[.agg (arr 4 (Ord.d64 (ofV m))), .int .i64 (ofC m)]) ?_
  refine pv 91 (.agg (arr 4 (Ord.d64 (ofV m)))) ?_
  refine pv 92 (.int .i64 (ofC m)) ?_
  refine pl_new M (want_no rfl) (some 17) rfl (.cells (arr 4 (fun _ => 0)) 34) (fun _ => by kernel_rfl) ?_
  intro g4 w12 M
  replace M : Mem w [⟨g1, .cells (arr 20 (decP r).f) 27⟩, ⟨g2, .cells (arr 20 (decP s).f) 27⟩, ⟨g3, .cells (arr 20 (decP t).f) 27⟩, ⟨g4, .cells (arr 4 (fun _ => 0)) 34⟩] w12 := M
  refine pl_put M (want_no rfl) rfl 34 _ _ rfl 3 g4 (by kernel_rfl) 4 34 (fun _ => 0) (Ord.d64 (ofV m)) rfl (by kernel_rfl) inz34 ?_
  intro w13 M
  replace M : Mem w [⟨g1, .cells (arr 20 (decP r).f) 27⟩, ⟨g2, .cells (arr 20 (decP s).f) 27⟩, ⟨g3, .cells (arr 20 (decP t).f) 27⟩, ⟨g4, .cells (arr 4 (Ord.d64 (ofV m))) 34⟩] w13 := M
  refine pv 18 (.int .i64 (ofC m)) ?_
  refine nt ?_
  refine sr ?_
  refine pv 94 (.string n) ?_
  refine pl_call M (want_no rfl) (some 95) rfl 6 #[.string n] (.tuple #[.agg (arr 4 (Ord.d64 (ofV n))), .int .i64 (ofC n)]) (fun _ => by kernel_rfl) (c_of n) ?_
  intro w14 M
  refine pv 93 (.tuple #[.agg (arr 4 (Ord.d64 (ofV n))), .int .i64 (ofC n)]) ?_
  refine pv 96 (.agg (arr 4 (Ord.d64 (ofV n)))) ?_
  refine pv 97 (.int .i64 (ofC n)) ?_
  refine pl_new M (want_no rfl) (some 19) rfl (.cells (arr 4 (fun _ => 0)) 34) (fun _ => by kernel_rfl) ?_
  intro g5 w15 M
  replace M : Mem w [⟨g1, .cells (arr 20 (decP r).f) 27⟩, ⟨g2, .cells (arr 20 (decP s).f) 27⟩, ⟨g3, .cells (arr 20 (decP t).f) 27⟩, ⟨g4, .cells (arr 4 (Ord.d64 (ofV m))) 34⟩, ⟨g5, .cells (arr 4 (fun _ => 0)) 34⟩] w15 := M
  refine pl_put M (want_no rfl) rfl 34 _ _ rfl 4 g5 (by kernel_rfl) 4 34 (fun _ => 0) (Ord.d64 (ofV n)) rfl (by kernel_rfl) inz34 ?_
  intro w16 M
  replace M : Mem w [⟨g1, .cells (arr 20 (decP r).f) 27⟩, ⟨g2, .cells (arr 20 (decP s).f) 27⟩, ⟨g3, .cells (arr 20 (decP t).f) 27⟩, ⟨g4, .cells (arr 4 (Ord.d64 (ofV m))) 34⟩, ⟨g5, .cells (arr 4 (Ord.d64 (ofV n))) 34⟩] w16 := M
  refine pv 20 (.int .i64 (ofC n)) ?_
  refine nt ?_
  refine wp_seq ?_
  refine sr ?_
  refine pv 98 (.int .i64 (ofC m)) ?_
  refine pl_val (want_no rfl) (some 99) rfl (.bool false) (fun w => Eq.trans (b := .ok (.value (.bool (!(decide (ofC m = 0))))) w) (by kernel_rfl) (by simp [hh])) ?_
  refine pv 100 (.bool false) ?_
  refine pl_val (want_on 2 false rfl 100 rfl (by kernel_rfl)) (some 101) rfl (.int .i64 (ofC n)) (fun _ => by kernel_rfl) ?_
  refine pl_val (want_on 2 false rfl 100 rfl (by kernel_rfl)) (some 102) rfl (.bool false) (fun w => Eq.trans (b := .ok (.value (.bool (!(decide (ofC n = 0))))) w) (by kernel_rfl) (by simp [hi])) ?_
  refine pv 103 (.bool false) ?_
  refine nt ?_
  refine wp_cond_false (by kernel_rfl) ?_
  refine wp_skip ?_
  refine au_then ?_
  refine sr ?_
  refine pl_call M (want_no rfl) (some 105) rfl 20 #[] (.agg (arr 20 base5.f)) (fun _ => by kernel_rfl) c_base ?_
  intro w17 M
  refine pl_new M (want_no rfl) (some 21) rfl (.cells (arr 20 (fun _ => 0)) 27) (fun _ => by kernel_rfl) ?_
  intro g6 w18 M
  replace M : Mem w [⟨g1, .cells (arr 20 (decP r).f) 27⟩, ⟨g2, .cells (arr 20 (decP s).f) 27⟩, ⟨g3, .cells (arr 20 (decP t).f) 27⟩, ⟨g4, .cells (arr 4 (Ord.d64 (ofV m))) 34⟩, ⟨g5, .cells (arr 4 (Ord.d64 (ofV n))) 34⟩, ⟨g6, .cells (arr 20 (fun _ => 0)) 27⟩] w18 := M
  refine pl_put M (want_no rfl) rfl 27 _ _ rfl 5 g6 (by kernel_rfl) 20 27 (fun _ => 0) base5.f rfl (by kernel_rfl) inz27 ?_
  intro w19 M
  replace M : Mem w [⟨g1, .cells (arr 20 (decP r).f) 27⟩, ⟨g2, .cells (arr 20 (decP s).f) 27⟩, ⟨g3, .cells (arr 20 (decP t).f) 27⟩, ⟨g4, .cells (arr 4 (Ord.d64 (ofV m))) 34⟩, ⟨g5, .cells (arr 4 (Ord.d64 (ofV n))) 34⟩, ⟨g6, .cells (arr 20 base5.f) 27⟩] w19 := M
  refine nt ?_
  refine sr ?_
  refine pl_load M (want_no rfl) (some 106) rfl 27 _ rfl 5 g6 0 (by kernel_rfl) 20 27 base5.f rfl 20 base5.f (Part.all _ _) (by decide) _ Tryz.underlying27 rfl inz27 ?_
  refine pl_load M (want_no rfl) (some 107) rfl 34 _ rfl 3 g4 0 (by kernel_rfl) 4 34 (Ord.d64 (ofV m)) rfl 4 (Ord.d64 (ofV m)) (Part.all _ _) (by decide) _ Tryz.underlying34 rfl inz34 ?_
  refine pl_call M (want_no rfl) (some 108) rfl 15 #[.agg (arr 20 base5.f), .agg (arr 4 (Ord.d64 (ofV m)))] (.agg (arr 20 (mulV base5 (ofV m)).f)) (fun _ => by kernel_rfl) (fun w => c_mul base_rep (ofV m) w) ?_
  intro w20 M
  refine pl_new M (want_no rfl) (some 22) rfl (.cells (arr 20 (fun _ => 0)) 27) (fun _ => by kernel_rfl) ?_
  intro g7 w21 M
  replace M : Mem w [⟨g1, .cells (arr 20 (decP r).f) 27⟩, ⟨g2, .cells (arr 20 (decP s).f) 27⟩, ⟨g3, .cells (arr 20 (decP t).f) 27⟩, ⟨g4, .cells (arr 4 (Ord.d64 (ofV m))) 34⟩, ⟨g5, .cells (arr 4 (Ord.d64 (ofV n))) 34⟩, ⟨g6, .cells (arr 20 base5.f) 27⟩, ⟨g7, .cells (arr 20 (fun _ => 0)) 27⟩] w21 := M
  refine pl_put M (want_no rfl) rfl 27 _ _ rfl 6 g7 (by kernel_rfl) 20 27 (fun _ => 0) (mulV base5 (ofV m)).f rfl (by kernel_rfl) inz27 ?_
  intro w22 M
  replace M : Mem w [⟨g1, .cells (arr 20 (decP r).f) 27⟩, ⟨g2, .cells (arr 20 (decP s).f) 27⟩, ⟨g3, .cells (arr 20 (decP t).f) 27⟩, ⟨g4, .cells (arr 4 (Ord.d64 (ofV m))) 34⟩, ⟨g5, .cells (arr 4 (Ord.d64 (ofV n))) 34⟩, ⟨g6, .cells (arr 20 base5.f) 27⟩, ⟨g7, .cells (arr 20 (mulV base5 (ofV m)).f) 27⟩] w22 := M
  refine nt ?_
  refine sr ?_
  refine pl_load M (want_no rfl) (some 109) rfl 27 _ rfl 5 g6 0 (by kernel_rfl) 20 27 base5.f rfl 20 base5.f (Part.all _ _) (by decide) _ Tryz.underlying27 rfl inz27 ?_
  refine pl_load M (want_no rfl) (some 110) rfl 34 _ rfl 4 g5 0 (by kernel_rfl) 4 34 (Ord.d64 (ofV n)) rfl 4 (Ord.d64 (ofV n)) (Part.all _ _) (by decide) _ Tryz.underlying34 rfl inz34 ?_
  refine pl_call M (want_no rfl) (some 111) rfl 15 #[.agg (arr 20 base5.f), .agg (arr 4 (Ord.d64 (ofV n)))] (.agg (arr 20 (mulV base5 (ofV n)).f)) (fun _ => by kernel_rfl) (fun w => c_mul base_rep (ofV n) w) ?_
  intro w23 M
  refine pl_new M (want_no rfl) (some 23) rfl (.cells (arr 20 (fun _ => 0)) 27) (fun _ => by kernel_rfl) ?_
  intro g8 w24 M
  replace M : Mem w [⟨g1, .cells (arr 20 (decP r).f) 27⟩, ⟨g2, .cells (arr 20 (decP s).f) 27⟩, ⟨g3, .cells (arr 20 (decP t).f) 27⟩, ⟨g4, .cells (arr 4 (Ord.d64 (ofV m))) 34⟩, ⟨g5, .cells (arr 4 (Ord.d64 (ofV n))) 34⟩, ⟨g6, .cells (arr 20 base5.f) 27⟩, ⟨g7, .cells (arr 20 (mulV base5 (ofV m)).f) 27⟩, ⟨g8, .cells (arr 20 (fun _ => 0)) 27⟩] w24 := M
  refine pl_put M (want_no rfl) rfl 27 _ _ rfl 7 g8 (by kernel_rfl) 20 27 (fun _ => 0) (mulV base5 (ofV n)).f rfl (by kernel_rfl) inz27 ?_
  intro w25 M
  replace M : Mem w [⟨g1, .cells (arr 20 (decP r).f) 27⟩, ⟨g2, .cells (arr 20 (decP s).f) 27⟩, ⟨g3, .cells (arr 20 (decP t).f) 27⟩, ⟨g4, .cells (arr 4 (Ord.d64 (ofV m))) 34⟩, ⟨g5, .cells (arr 4 (Ord.d64 (ofV n))) 34⟩, ⟨g6, .cells (arr 20 base5.f) 27⟩, ⟨g7, .cells (arr 20 (mulV base5 (ofV m)).f) 27⟩, ⟨g8, .cells (arr 20 (mulV base5 (ofV n)).f) 27⟩] w25 := M
  refine nt ?_
  refine wp_seq ?_
  refine rg_tail M 42 (by kernel_rfl) (by kernel_rfl) ?_
  simp only [List.take_succ_cons, List.take_zero]
  refine k_load M (want_no rfl) (some 112) rfl 27 _ rfl 6 g7 0 (by kernel_rfl) 20 27 (mulV base5 (ofV m)).f rfl 20 (mulV base5 (ofV m)).f (Part.all _ _) (by decide) _ Tryz.underlying27 rfl inz27 ?_
  refine k_load M (want_no rfl) (some 113) rfl 27 _ rfl 7 g8 0 (by kernel_rfl) 20 27 (mulV base5 (ofV n)).f rfl 20 (mulV base5 (ofV n)).f (Part.all _ _) (by decide) _ Tryz.underlying27 rfl inz27 ?_
  refine k_call (want_no rfl) (some 114) rfl 11 #[.agg (arr 20 (mulV base5 (ofV m)).f), .agg (arr 20 (mulV base5 (ofV n)).f)] (.agg (arr 20 (addV (mulV base5 (ofV m)) (mulV base5 (ofV n))).f)) (fun _ => by kernel_rfl) (fun w => c_add (mulV base5 (ofV m)) (mulV base5 (ofV n)) w (base_rep.mul (ofV_bd m)).ok (base_rep.mul (ofV_bd n)).ok) ?_
  refine k_load M (want_no rfl) (some 115) rfl 27 _ rfl 5 g6 0 (by kernel_rfl) 20 27 base5.f rfl 20 base5.f (Part.all _ _) (by decide) _ Tryz.underlying27 rfl inz27 ?_
  refine k_load M (want_no rfl) (some 116) rfl 34 _ rfl 3 g4 0 (by kernel_rfl) 4 34 (Ord.d64 (ofV m)) rfl 4 (Ord.d64 (ofV m)) (Part.all _ _) (by decide) _ Tryz.underlying34 rfl inz34 ?_
  refine k_load M (want_no rfl) (some 117) rfl 34 _ rfl 4 g5 0 (by kernel_rfl) 4 34 (Ord.d64 (ofV n)) rfl 4 (Ord.d64 (ofV n)) (Part.all _ _) (by decide) _ Tryz.underlying34 rfl inz34 ?_
  refine k_call (want_no rfl) (some 118) rfl 21 #[.agg (arr 4 (Ord.d64 (ofV m))), .agg (arr 4 (Ord.d64 (ofV n)))] (.agg (arr 4 (Ord.d64 ((ofV m + ofV n) % Ord.Lm)))) (fun _ => by kernel_rfl) (fun w => Ord.add_any (ofV m) (ofV n) w (ofV_bd m) (ofV_bd n)) ?_
  refine k_call (want_no rfl) (some 119) rfl 15 #[.agg (arr 20 base5.f), .agg (arr 4 (Ord.d64 ((ofV m + ofV n) % Ord.Lm)))] (.agg (arr 20 (mulV base5 ((ofV m + ofV n) % Ord.Lm)).f)) (fun _ => by kernel_rfl) (fun w => c_mul base_rep ((ofV m + ofV n) % Ord.Lm) w) ?_
  refine k_call (want_no rfl) (some 120) rfl 17 #[.agg (arr 20 (addV (mulV base5 (ofV m)) (mulV base5 (ofV n))).f), .agg (arr 20 (mulV base5 ((ofV m + ofV n) % Ord.Lm)).f)] (.bool true) (fun _ => by kernel_rfl) (same_t (((base_rep.mul (ofV_bd m)).add (base_rep.mul (ofV_bd n))).at_ (l_add (ofV_bd m).1 (ofV_bd n).1).symm) (base_rep.mul (Ord.lmod _))) ?_
  refine kv 121 (.bool true) ?_
  refine k_load M (want_on 9 true rfl 121 rfl (by kernel_rfl)) (some 122) rfl 27 _ rfl 6 g7 0 (by kernel_rfl) 20 27 (mulV base5 (ofV m)).f rfl 20 (mulV base5 (ofV m)).f (Part.all _ _) (by decide) _ Tryz.underlying27 rfl inz27 ?_
  refine k_load M (want_on 9 true rfl 121 rfl (by kernel_rfl)) (some 123) rfl 34 _ rfl 4 g5 0 (by kernel_rfl) 4 34 (Ord.d64 (ofV n)) rfl 4 (Ord.d64 (ofV n)) (Part.all _ _) (by decide) _ Tryz.underlying34 rfl inz34 ?_
  refine k_call (want_on 9 true rfl 121 rfl (by kernel_rfl)) (some 124) rfl 15 #[.agg (arr 20 (mulV base5 (ofV m)).f), .agg (arr 4 (Ord.d64 (ofV n)))] (.agg (arr 20 (mulV (mulV base5 (ofV m)) (ofV n)).f)) (fun _ => by kernel_rfl) (fun w => c_mul (base_rep.mul (ofV_bd m)) (ofV n) w) ?_
  refine k_load M (want_on 9 true rfl 121 rfl (by kernel_rfl)) (some 125) rfl 27 _ rfl 7 g8 0 (by kernel_rfl) 20 27 (mulV base5 (ofV n)).f rfl 20 (mulV base5 (ofV n)).f (Part.all _ _) (by decide) _ Tryz.underlying27 rfl inz27 ?_
  refine k_load M (want_on 9 true rfl 121 rfl (by kernel_rfl)) (some 126) rfl 34 _ rfl 3 g4 0 (by kernel_rfl) 4 34 (Ord.d64 (ofV m)) rfl 4 (Ord.d64 (ofV m)) (Part.all _ _) (by decide) _ Tryz.underlying34 rfl inz34 ?_
  refine k_call (want_on 9 true rfl 121 rfl (by kernel_rfl)) (some 127) rfl 15 #[.agg (arr 20 (mulV base5 (ofV n)).f), .agg (arr 4 (Ord.d64 (ofV m)))] (.agg (arr 20 (mulV (mulV base5 (ofV n)) (ofV m)).f)) (fun _ => by kernel_rfl) (fun w => c_mul (base_rep.mul (ofV_bd n)) (ofV m) w) ?_
  refine k_call (want_on 9 true rfl 121 rfl (by kernel_rfl)) (some 128) rfl 17 #[.agg (arr 20 (mulV (mulV base5 (ofV m)) (ofV n)).f), .agg (arr 20 (mulV (mulV base5 (ofV n)) (ofV m)).f)] (.bool true) (fun _ => by kernel_rfl) (same_t (((base_rep.mul (ofV_bd m)).mul (ofV_bd n)).at_ (mul_swap _ _ _)) ((base_rep.mul (ofV_bd n)).mul (ofV_bd m))) ?_
  refine kv 129 (.bool true) ?_
  refine kv 130 (.bool true) ?_
  refine k_load M (want_on 18 true rfl 130 rfl (by kernel_rfl)) (some 131) rfl 27 _ rfl 6 g7 0 (by kernel_rfl) 20 27 (mulV base5 (ofV m)).f rfl 20 (mulV base5 (ofV m)).f (Part.all _ _) (by decide) _ Tryz.underlying27 rfl inz27 ?_
  refine k_load M (want_on 18 true rfl 130 rfl (by kernel_rfl)) (some 132) rfl 34 _ rfl 4 g5 0 (by kernel_rfl) 4 34 (Ord.d64 (ofV n)) rfl 4 (Ord.d64 (ofV n)) (Part.all _ _) (by decide) _ Tryz.underlying34 rfl inz34 ?_
  refine k_call (want_on 18 true rfl 130 rfl (by kernel_rfl)) (some 133) rfl 15 #[.agg (arr 20 (mulV base5 (ofV m)).f), .agg (arr 4 (Ord.d64 (ofV n)))] (.agg (arr 20 (mulV (mulV base5 (ofV m)) (ofV n)).f)) (fun _ => by kernel_rfl) (fun w => c_mul (base_rep.mul (ofV_bd m)) (ofV n) w) ?_
  refine k_load M (want_on 18 true rfl 130 rfl (by kernel_rfl)) (some 134) rfl 27 _ rfl 5 g6 0 (by kernel_rfl) 20 27 base5.f rfl 20 base5.f (Part.all _ _) (by decide) _ Tryz.underlying27 rfl inz27 ?_
  refine k_load M (want_on 18 true rfl 130 rfl (by kernel_rfl)) (some 135) rfl 34 _ rfl 3 g4 0 (by kernel_rfl) 4 34 (Ord.d64 (ofV m)) rfl 4 (Ord.d64 (ofV m)) (Part.all _ _) (by decide) _ Tryz.underlying34 rfl inz34 ?_
  refine k_load M (want_on 18 true rfl 130 rfl (by kernel_rfl)) (some 136) rfl 34 _ rfl 4 g5 0 (by kernel_rfl) 4 34 (Ord.d64 (ofV n)) rfl 4 (Ord.d64 (ofV n)) (Part.all _ _) (by decide) _ Tryz.underlying34 rfl inz34 ?_
  refine k_call (want_on 18 true rfl 130 rfl (by kernel_rfl)) (some 137) rfl 22 #[.agg (arr 4 (Ord.d64 (ofV m))), .agg (arr 4 (Ord.d64 (ofV n)))] (.agg (arr 4 (Ord.d64 (ofV m * ofV n % Ord.Lm)))) (fun _ => by kernel_rfl) (fun w => Ord.mul_any (ofV m) (ofV n) w (ofV_bd m) (ofV_bd n)) ?_
  refine k_call (want_on 18 true rfl 130 rfl (by kernel_rfl)) (some 138) rfl 15 #[.agg (arr 20 base5.f), .agg (arr 4 (Ord.d64 (ofV m * ofV n % Ord.Lm)))] (.agg (arr 20 (mulV base5 (ofV m * ofV n % Ord.Lm)).f)) (fun _ => by kernel_rfl) (fun w => c_mul base_rep (ofV m * ofV n % Ord.Lm) w) ?_
  refine k_call (want_on 18 true rfl 130 rfl (by kernel_rfl)) (some 139) rfl 17 #[.agg (arr 20 (mulV (mulV base5 (ofV m)) (ofV n)).f), .agg (arr 20 (mulV base5 (ofV m * ofV n % Ord.Lm)).f)] (.bool true) (fun _ => by kernel_rfl) (same_t (((base_rep.mul (ofV_bd m)).mul (ofV_bd n)).at_ (l_mul (ofV_bd m).1 (ofV_bd n).1).symm) (base_rep.mul (Ord.lmod _))) ?_
  refine kv 140 (.bool true) ?_
  refine kv 141 (.bool true) ?_
  refine k_load M (want_on 29 true rfl 141 rfl (by kernel_rfl)) (some 142) rfl 27 _ rfl 6 g7 0 (by kernel_rfl) 20 27 (mulV base5 (ofV m)).f rfl 20 (mulV base5 (ofV m)).f (Part.all _ _) (by decide) _ Tryz.underlying27 rfl inz27 ?_
  refine k_load M (want_on 29 true rfl 141 rfl (by kernel_rfl)) (some 143) rfl 27 _ rfl 5 g6 0 (by kernel_rfl) 20 27 base5.f rfl 20 base5.f (Part.all _ _) (by decide) _ Tryz.underlying27 rfl inz27 ?_
  refine k_load M (want_on 29 true rfl 141 rfl (by kernel_rfl)) (some 144) rfl 34 _ rfl 3 g4 0 (by kernel_rfl) 4 34 (Ord.d64 (ofV m)) rfl 4 (Ord.d64 (ofV m)) (Part.all _ _) (by decide) _ Tryz.underlying34 rfl inz34 ?_
  refine k_call (want_on 29 true rfl 141 rfl (by kernel_rfl)) (some 145) rfl 23 #[.agg (arr 4 (Ord.d64 (ofV m)))] (.agg (arr 4 (Ord.d64 ((-ofV m) % Ord.Lm)))) (fun _ => by kernel_rfl) (fun w => Ord.neg_any (ofV m) w (ofV_bd m)) ?_
  refine k_call (want_on 29 true rfl 141 rfl (by kernel_rfl)) (some 146) rfl 15 #[.agg (arr 20 base5.f), .agg (arr 4 (Ord.d64 ((-ofV m) % Ord.Lm)))] (.agg (arr 20 (mulV base5 ((-ofV m) % Ord.Lm)).f)) (fun _ => by kernel_rfl) (fun w => c_mul base_rep ((-ofV m) % Ord.Lm) w) ?_
  refine k_call (want_on 29 true rfl 141 rfl (by kernel_rfl)) (some 147) rfl 11 #[.agg (arr 20 (mulV base5 (ofV m)).f), .agg (arr 20 (mulV base5 ((-ofV m) % Ord.Lm)).f)] (.agg (arr 20 (addV (mulV base5 (ofV m)) (mulV base5 ((-ofV m) % Ord.Lm))).f)) (fun _ => by kernel_rfl) (fun w => c_add (mulV base5 (ofV m)) (mulV base5 ((-ofV m) % Ord.Lm)) w (base_rep.mul (ofV_bd m)).ok (base_rep.mul (Ord.lmod _)).ok) ?_
  refine k_call (want_on 29 true rfl 141 rfl (by kernel_rfl)) (some 148) rfl 19 #[] (.agg (arr 20 zero5.f)) (fun _ => by kernel_rfl) c_zero ?_
  refine k_call (want_on 29 true rfl 141 rfl (by kernel_rfl)) (some 149) rfl 17 #[.agg (arr 20 (addV (mulV base5 (ofV m)) (mulV base5 ((-ofV m) % Ord.Lm))).f), .agg (arr 20 zero5.f)] (.bool true) (fun _ => by kernel_rfl) (same_t (((base_rep.mul (ofV_bd m)).add (base_rep.mul (Ord.lmod _))).at_ (l_neg (ofV_bd m).1)) zero5_rep) ?_
  refine kv 150 (.bool true) ?_
  refine kv 151 (.bool true) ?_
  refine k_call (want_on 39 true rfl 151 rfl (by kernel_rfl)) (some 152) rfl 7 #[] (.bool true) (fun _ => by kernel_rfl) alive_any ?_
  refine kv 153 (.bool true) ?_
  refine kl_nil ?_
  intro w26 M
  replace M : Mem w [⟨g1, .cells (arr 20 (decP r).f) 27⟩, ⟨g2, .cells (arr 20 (decP s).f) 27⟩, ⟨g3, .cells (arr 20 (decP t).f) 27⟩, ⟨g4, .cells (arr 4 (Ord.d64 (ofV m))) 34⟩, ⟨g5, .cells (arr 4 (Ord.d64 (ofV n))) 34⟩, ⟨g6, .cells (arr 20 base5.f) 27⟩, ⟨g7, .cells (arr 20 (mulV base5 (ofV m)).f) 27⟩, ⟨g8, .cells (arr 20 (mulV base5 (ofV n)).f) 27⟩] w26 := M
  refine pv 10 (.bool true) ?_
  refine nt ?_
  refine wp_ret ?_
  exact bodyPost_ret (v := .bool true) (results_tmp1 Tryz.results4 _ _ _ (by kernel_rfl)) (by kernel_rfl) ⟨rfl, M.old⟩

/-- EdwLaws. -/
theorem laws_any (r s t m n : ByteArray) (w : World) : Calls Tryz.prog 4 #[.string r, .string s, .string t, .string m, .string n] w fun x w' => x = .returned (.bool true) ∧ Below w.heap.size w w' := by
  by_cases he : decC r = 0
  · by_cases hf : decC s = 0
    · by_cases hg : decC t = 0
      · by_cases hh : ofC m = 0
        · by_cases hi : ofC n = 0
          · exact laws4c_gen r s t m n w ⟨trivial⟩ he hf hg hh hi
          · exact laws4b_gen r s t m n w ⟨trivial⟩ he hf hg hh hi
        · exact laws4a_gen r s t m n w ⟨trivial⟩ he hf hg hh
      · by_cases hh : ofC m = 0
        · by_cases hi : ofC n = 0
          · exact laws3c_gen r s t m n w ⟨trivial⟩ he hf hg hh hi
          · exact laws3b_gen r s t m n w ⟨trivial⟩ he hf hg hh hi
        · exact laws3a_gen r s t m n w ⟨trivial⟩ he hf hg hh
    · by_cases hh : ofC m = 0
      · by_cases hi : ofC n = 0
        · exact laws2c_gen r s t m n w ⟨trivial⟩ he hf hh hi
        · exact laws2b_gen r s t m n w ⟨trivial⟩ he hf hh hi
      · exact laws2a_gen r s t m n w ⟨trivial⟩ he hf hh
  · by_cases hh : ofC m = 0
    · by_cases hi : ofC n = 0
      · exact laws1c_gen r s t m n w ⟨trivial⟩ he hh hi
      · exact laws1b_gen r s t m n w ⟨trivial⟩ he hh hi
    · exact laws1a_gen r s t m n w ⟨trivial⟩ he hh

end Go.Proofs.YtkeocdebfgcnnaaGreat
