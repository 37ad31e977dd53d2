/- The document: times. -/
import Derived.Test.YtnglfpekdedgfaaDoorR0
namespace Go.Proofs.YtnglfpekdedgfaaDoor
open Go.RowKit

theorem nf_upd (t : Nat → Nat) (m v : Nat) (x : Int) (h : x = (v : Int)) : upd (nf t) m x = nf (upd t m v) := by
  subst h
  funext j
  show (if j = m then (v : Int) else ((t j : Nat) : Int)) = (((if j = m then v else t j) : Nat) : Int)
  split <;> rfl
/-- One part more of the sum. -/
theorem inner_step (A B i k V0 : Nat) (t : Nat → Nat) (hik : i + k < 16) (hb : ∀ m, m < 16 → t m ≤ i * 4294967296 + (if m < i + k then 4294967296 else 0)) (hv : valN t 16 = V0 + A / 65536 ^ i % 65536 * 65536 ^ i * (B % 65536 ^ k)) :
    ua (nf t (i + k)) (um (dg A i) (dg B k)) = ((t (i + k) + A / 65536 ^ i % 65536 * (B / 65536 ^ k % 65536) : Nat) : Int) ∧
    (∀ m, m < 16 → upd t (i + k) (t (i + k) + A / 65536 ^ i % 65536 * (B / 65536 ^ k % 65536)) m ≤ i * 4294967296 + (if m < i + (k + 1) then 4294967296 else 0)) ∧
    valN (upd t (i + k) (t (i + k) + A / 65536 ^ i % 65536 * (B / 65536 ^ k % 65536))) 16 = V0 + A / 65536 ^ i % 65536 * 65536 ^ i * (B % 65536 ^ (k + 1)) := by
  have hm := dg_mul_lt A B i k
  have h0 := hb (i + k) hik
  rw [if_neg (by omega)] at h0
  refine ⟨?_, fun m hm16 => ?_, ?_⟩
  · unfold nf dg
    rw [um_nat _ _ (by omega), ua_nat _ _ (by omega)]
  · unfold upd
    have h1 := hb m hm16
    by_cases e : m = i + k
    · subst e
      rw [if_pos rfl, if_pos (by omega)]
      omega
    · rw [if_neg e]
      by_cases e2 : m < i + k
      · rw [if_pos e2] at h1
        rw [if_pos (by omega)]
        exact h1
      · rw [if_neg e2] at h1
        rw [if_neg (by omega)]
        exact h1
  · rw [valN_upd t (i + k) _ 16 hik, hv, Nat.mod_pow_succ, Nat.mul_add, Nat.pow_add]
    generalize A / 65536 ^ i % 65536 = x
    generalize B / 65536 ^ k % 65536 = y
    generalize (65536 : Nat) ^ i = P
    generalize (65536 : Nat) ^ k = R
    rw [Nat.add_assoc, show x * y * (P * R) = x * P * (R * y) by rw [Nat.mul_assoc, Nat.mul_assoc, ← Nat.mul_assoc y, Nat.mul_comm y P, Nat.mul_assoc P, Nat.mul_comm y R]]
/-- The carry and the part at one place. -/
theorem carry_step (T : Nat → Nat) (i : Nat) (hT : T i ≤ 68719476736) (hc : valN T i / 65536 ^ i ≤ 68719476736) :
    T i + valN T i / 65536 ^ i = valN T (i + 1) / 65536 ^ i ∧ (T i + valN T i / 65536 ^ i) / 65536 = valN T (i + 1) / 65536 ^ (i + 1) ∧ valN T (i + 1) / 65536 ^ (i + 1) ≤ 68719476736 := by
  have e1 : T i + valN T i / 65536 ^ i = valN T (i + 1) / 65536 ^ i := by
    show _ = (valN T i + T i * 65536 ^ i) / 65536 ^ i
    rw [Nat.add_mul_div_right _ _ (Nat.pow_pos (by decide))]
    omega
  have e2 : valN T (i + 1) / 65536 ^ (i + 1) = (T i + valN T i / 65536 ^ i) / 65536 := by rw [e1, Nat.pow_succ, Nat.div_div_eq_div_mul]
  exact ⟨e1, e2.symm, by rw [e2]; omega⟩
theorem dg_of (T : Nat → Nat) (A B m : Nat) (hm : m < 16) (h : valN T 16 % 65536 ^ 16 = (A % 65536 ^ 16 * B) % 65536 ^ 16) : ((valN T (m + 1) / 65536 ^ m % 65536 : Nat) : Int) = dg (A * B) m := by
  unfold dg
  congr 1
  have hAB : (A % 65536 ^ 16 * B) % 65536 ^ 16 = (A * B) % 65536 ^ 16 := by
    conv => lhs; rw [Nat.mul_mod, Nat.mod_mod, ← Nat.mul_mod]
  rw [← part_mod (A * B) m hm, ← hAB, ← h, part_mod _ m hm]
  obtain ⟨r, hr⟩ := valN_split T (m + 1) 16 (by omega)
  rw [hr]
  generalize valN T (m + 1) = y
  rw [Nat.pow_succ, Nat.mul_assoc, Nat.add_mul_div_left _ _ (Nat.pow_pos (by decide)), Nat.add_mul_mod_self_left]
theorem carry_h1 (f t3 : Nat → Nat) (i v : Nat) (h1 : ∀ m, m < i → t3 m = f m) (hv : v = f i) : ∀ m, m < i + 1 → upd t3 i v m = f m := fun m hm => by
  unfold upd
  by_cases e : m = i
  · rw [if_pos e, e, hv]
  · rw [if_neg e]
    exact h1 m (by omega)
theorem carry_h2 (t t3 : Nat → Nat) (i v : Nat) (h2 : ∀ m, i ≤ m → m < 16 → t3 m = t m) : ∀ m, i + 1 ≤ m → m < 16 → upd t3 i v m = t m := fun m h3 h4 => by
  unfold upd
  rw [if_neg (by omega)]
  exact h2 m (by omega) h4

set_option maxRecDepth 100000 in
set_option maxHeartbeats 4000000 in
theorem c_times (A B : Nat) (w : World) (hL : Laid w)  :
    Calls Tryd.prog 37 #[.agg (av 16 (w64 (dg A))), .agg (av 16 (w64 (dg B)))] w fun r w' => r = .returned (.agg (av 16 (w64 (dg (A * B))))) ∧ Below w.heap.size w w' := by
  go_enter Tryd.func37, Tryd.ntmps37
  have M := Mem.start hL
  refine wp_seq ?_
  refine rg_lit ?_
  refine pl_new M (want_no rfl) (some 2) rfl (.cells (av 16 (w64 (dg A))) 79) (fun _ => by kernel_rfl) ?_
  intro g1 u1 M
  replace M : Mem ⟨w, []⟩ [⟨g1, .cells (av 16 (w64 (dg A))) 79⟩] u1 := M
  refine pl_new M (want_no rfl) (some 3) rfl (.cells (av 16 (w64 (dg B))) 79) (fun _ => by kernel_rfl) ?_
  intro g2 u2 M
  replace M : Mem ⟨w, []⟩ [⟨g1, .cells (av 16 (w64 (dg A))) 79⟩, ⟨g2, .cells (av 16 (w64 (dg B))) 79⟩] u2 := M
  refine pl_new M (want_no rfl) (some 4) rfl (.cells (av 16 (w64 (fun _ => 0))) 79) (fun _ => by kernel_rfl) ?_
  intro g3 u3 M
  replace M : Mem ⟨w, []⟩ [⟨g1, .cells (av 16 (w64 (dg A))) 79⟩, ⟨g2, .cells (av 16 (w64 (dg B))) 79⟩, ⟨g3, .cells (av 16 (w64 (fun _ => 0))) 79⟩] u3 := M
  refine pl_nil ?_
  refine au_then ?_
  refine wp_seq ?_
  refine rg_lit ?_
  refine pl_new M (want_no rfl) (some 5) rfl (.cells (av 16 (w64 (fun _ => 0))) 79) (fun _ => by kernel_rfl) ?_
  intro g4 u4 M
  replace M : Mem ⟨w, []⟩ [⟨g1, .cells (av 16 (w64 (dg A))) 79⟩, ⟨g2, .cells (av 16 (w64 (dg B))) 79⟩, ⟨g3, .cells (av 16 (w64 (fun _ => 0))) 79⟩, ⟨g4, .cells (av 16 (w64 (fun _ => 0))) 79⟩] u4 := M
  refine pl_nil ?_
  refine au_then ?_
  refine wp_seq ?_
  refine wp_seq ?_
  refine rg_lit ?_
  refine pl_val (want_no rfl) (some 6) rfl (.int .i64 0) (fun _ => by kernel_rfl) ?_
  refine pl_nil ?_
  refine au_then ?_
  refine wp_block ?_
  refine au_loop (fun i a w' => ∃ (v1 : Nat → Value) (t : Nat → Nat), a = ⟨#[.agg (av 16 (w64 (dg A))), .agg (av 16 (w64 (dg B))), .pointer (some ⟨g1, 0, none⟩), .pointer (some ⟨g2, 0, none⟩), .pointer (some ⟨g3, 0, none⟩), .pointer (some ⟨g4, 0, none⟩), .int .i64 (i : Int), v1 7, undef, undef, undef, v1 11, v1 12, v1 13, v1 14, v1 15, v1 16, v1 17, v1 18, v1 19, v1 20, v1 21, v1 22, v1 23, v1 24, v1 25, v1 26, v1 27, v1 28, v1 29, v1 30, v1 31, v1 32, v1 33, v1 34, v1 35, v1 36, v1 37, undef, undef, undef, undef, undef, undef, undef, undef, undef, undef, undef, undef, undef, undef, undef, undef], []⟩ ∧ (∀ m, m < 16 → t m ≤ i * 4294967296) ∧ valN t 16 % 65536 ^ 16 = (A % 65536 ^ i * B) % 65536 ^ 16 ∧ Mem ⟨w, []⟩ [⟨g1, .cells (av 16 (w64 (dg A))) 79⟩, ⟨g2, .cells (av 16 (w64 (dg B))) 79⟩, ⟨g3, .cells (av 16 (w64 (fun _ => 0))) 79⟩, ⟨g4, .cells (av 16 (w64 (nf t))) 79⟩] w') 16 ⟨fun k_ => ([undef, undef, undef, undef, undef, undef, undef, undef, undef, undef, undef, undef, undef, undef, undef, undef, undef, undef, undef, undef, undef, undef, undef, undef, undef, undef, undef, undef, undef, undef, undef] : List Value).getD (k_ - 7) undef, fun _ => 0, by kernel_rfl, (fun _ _ => Nat.zero_le _), (by rw [Nat.pow_zero, Nat.mod_one, Nat.zero_mul]; rfl), M⟩ ?_ ?_
  · intro i a u0 hj hI
    obtain ⟨v1, t, rfl, hb, hv, M⟩ := hI
    refine wp_seq ?_
    refine wp_seq ?_
    refine rg_lit ?_
    refine pl_val (want_no rfl) (some 11) rfl (.int .i64 (i : Int)) (fun _ => by kernel_rfl) ?_
    refine pl_val (want_no rfl) (some 12) rfl (.bool true) (fun w => Eq.trans (b := .ok (.value (.bool (decide ((i : Int) < 16)))) w) (by kernel_rfl) (by rw [decide_eq_true (by omega)])) ?_
    refine pl_nil ?_
    refine au_then ?_
    refine wp_cond_true (by kernel_rfl) ?_
    refine wp_skip ?_
    refine au_then ?_
    refine wp_seq ?_
    refine wp_block ?_
    refine wp_seq ?_
    refine rg_lit ?_
    refine pl_val (want_no rfl) (some 7) rfl (.int .i64 0) (fun _ => by kernel_rfl) ?_
    refine pl_nil ?_
    refine au_then ?_
    refine wp_block ?_
    refine au_loop (fun k a w' => ∃ (v2 : Nat → Value) (t2 : Nat → Nat), a = ⟨#[.agg (av 16 (w64 (dg A))), .agg (av 16 (w64 (dg B))), .pointer (some ⟨g1, 0, none⟩), .pointer (some ⟨g2, 0, none⟩), .pointer (some ⟨g3, 0, none⟩), .pointer (some ⟨g4, 0, none⟩), .int .i64 (i : Int), .int .i64 (k : Int), undef, undef, undef, .int .i64 (i : Int), .bool true, v1 13, v1 14, v2 15, v2 16, v2 17, v2 18, v2 19, v2 20, v2 21, v2 22, v2 23, v2 24, v2 25, v2 26, v2 27, v2 28, v2 29, v2 30, v2 31, v2 32, v2 33, v2 34, v2 35, v2 36, v2 37, undef, undef, undef, undef, undef, undef, undef, undef, undef, undef, undef, undef, undef, undef, undef, undef], []⟩ ∧ (∀ m, m < 16 → t2 m ≤ i * 4294967296 + (if m < i + k then 4294967296 else 0)) ∧ valN t2 16 = valN t 16 + (A / 65536 ^ i % 65536) * 65536 ^ i * (B % 65536 ^ k) ∧ Mem ⟨w, []⟩ [⟨g1, .cells (av 16 (w64 (dg A))) 79⟩, ⟨g2, .cells (av 16 (w64 (dg B))) 79⟩, ⟨g3, .cells (av 16 (w64 (fun _ => 0))) 79⟩, ⟨g4, .cells (av 16 (w64 (nf t2))) 79⟩] w') (16 - i) ⟨fun k_ => ([v1 15, v1 16, v1 17, v1 18, v1 19, v1 20, v1 21, v1 22, v1 23, v1 24, v1 25, v1 26, v1 27, v1 28, v1 29, v1 30, v1 31, v1 32, v1 33, v1 34, v1 35, v1 36, v1 37] : List Value).getD (k_ - 15) undef, t, by kernel_rfl, (fun m hm => Nat.le_trans (hb m hm) (Nat.le_add_right _ _)), (by rw [Nat.pow_zero, Nat.mod_one, Nat.mul_zero, Nat.add_zero]), M⟩ ?_ ?_
    · intro k a u0 hk hI
      obtain ⟨v2, t2, rfl, hb2, hv2, M⟩ := hI
      refine wp_seq ?_
      refine wp_seq ?_
      refine rg_lit ?_
      refine pl_val (want_no rfl) (some 15) rfl (.int .i64 (i : Int)) (fun _ => by kernel_rfl) ?_
      refine pl_val (want_no rfl) (some 16) rfl (.int .i64 (k : Int)) (fun _ => by kernel_rfl) ?_
      refine pl_val (want_no rfl) (some 17) rfl (.int .i64 ((i + k : Nat) : Int)) (fun w => Eq.trans (b := .ok (.value (.int .i64 (IntKind.wrap .i64 ((i : Int) + (k : Int))))) w) (by kernel_rfl) (by rw [wrap64 (by omega) (by omega)]; congr 3 <;> omega)) ?_
      refine pl_val (want_no rfl) (some 18) rfl (.bool true) (fun w => Eq.trans (b := .ok (.value (.bool (decide (((i + k : Nat) : Int) < 16)))) w) (by kernel_rfl) (by rw [decide_eq_true (by omega)])) ?_
      refine pl_nil ?_
      refine au_then ?_
      refine wp_cond_true (by kernel_rfl) ?_
      refine wp_skip ?_
      refine au_then ?_
      refine wp_seq ?_
      refine wp_block ?_
      refine rg_tail M 17 (by kernel_rfl) (by kernel_rfl) ?_
      simp only [List.take_succ_cons, List.take_zero]
      refine k_val (want_no rfl) (some 21) rfl (.int .i64 (i : Int)) (fun _ => by kernel_rfl) ?_
      refine k_val (want_no rfl) (some 22) rfl (.int .i64 (k : Int)) (fun _ => by kernel_rfl) ?_
      refine k_val (want_no rfl) (some 23) rfl (.int .i64 ((i + k : Nat) : Int)) (fun w => Eq.trans (b := .ok (.value (.int .i64 (IntKind.wrap .i64 ((i : Int) + (k : Int))))) w) (by kernel_rfl) (by rw [wrap64 (by omega) (by omega)]; congr 3 <;> omega)) ?_
      refine k_val (want_no rfl) (some 24) rfl (.int .i64 (i : Int)) (fun _ => by kernel_rfl) ?_
      refine k_val (want_no rfl) (some 25) rfl (.int .i64 (k : Int)) (fun _ => by kernel_rfl) ?_
      refine k_val (want_no rfl) (some 26) rfl (.int .i64 ((i + k : Nat) : Int)) (fun w => Eq.trans (b := .ok (.value (.int .i64 (IntKind.wrap .i64 ((i : Int) + (k : Int))))) w) (by kernel_rfl) (by rw [wrap64 (by omega) (by omega)]; congr 3 <;> omega)) ?_
      refine k_val (want_no rfl) (some 27) rfl (.pointer (some ⟨g4, ((i + k : Nat)), none⟩)) (run_ix1 79 16 40 Tryd.underlying79 inz40 _ _ rfl g4 (by kernel_rfl) .i64 ((i + k : Nat)) (by kernel_rfl) (by omega)) ?_
      refine k_cell M (want_no rfl) (some 28) rfl 40 _ rfl g4 ((i + k : Nat)) (by kernel_rfl) (.int .u64 ((nf t2) ((i + k : Nat)))) (fun _ => by kernel_rfl) (fun w M => M.cell 3 rfl (by omega) rfl) ?_
      refine k_val (want_no rfl) (some 29) rfl (.int .i64 (i : Int)) (fun _ => by kernel_rfl) ?_
      refine k_val (want_no rfl) (some 30) rfl (.pointer (some ⟨g1, i, none⟩)) (run_ix1 79 16 40 Tryd.underlying79 inz40 _ _ rfl g1 (by kernel_rfl) .i64 (i) (by kernel_rfl) (by omega)) ?_
      refine k_cell M (want_no rfl) (some 31) rfl 40 _ rfl g1 i (by kernel_rfl) (.int .u64 ((dg A) i)) (fun _ => by kernel_rfl) (fun w M => M.cell 0 rfl (by omega) rfl) ?_
      refine k_val (want_no rfl) (some 32) rfl (.int .i64 (k : Int)) (fun _ => by kernel_rfl) ?_
      refine k_val (want_no rfl) (some 33) rfl (.pointer (some ⟨g2, k, none⟩)) (run_ix1 79 16 40 Tryd.underlying79 inz40 _ _ rfl g2 (by kernel_rfl) .i64 (k) (by kernel_rfl) (by omega)) ?_
      refine k_cell M (want_no rfl) (some 34) rfl 40 _ rfl g2 k (by kernel_rfl) (.int .u64 ((dg B) k)) (fun _ => by kernel_rfl) (fun w M => M.cell 1 rfl (by omega) rfl) ?_
      refine k_val (want_no rfl) (some 35) rfl (.int .u64 (um ((dg A) i) ((dg B) k))) (fun _ => by kernel_rfl) ?_
      refine k_val (want_no rfl) (some 36) rfl (.int .u64 (ua ((nf t2) ((i + k : Nat))) (um ((dg A) i) ((dg B) k)))) (fun _ => by kernel_rfl) ?_
      refine k_val (want_no rfl) (some 37) rfl (.pointer (some ⟨g4, ((i + k : Nat)), none⟩)) (run_ix1 79 16 40 Tryd.underlying79 inz40 _ _ rfl g4 (by kernel_rfl) .i64 ((i + k : Nat)) (by kernel_rfl) (by omega)) ?_
      refine kl_nil ?_
      intro u5 M
      replace M : Mem ⟨w, []⟩ [⟨g1, .cells (av 16 (w64 (dg A))) 79⟩, ⟨g2, .cells (av 16 (w64 (dg B))) 79⟩, ⟨g3, .cells (av 16 (w64 (fun _ => 0))) 79⟩, ⟨g4, .cells (av 16 (w64 (nf t2))) 79⟩] u5 := M
      refine pl_put1 M (want_no rfl) rfl 40 _ _ rfl 3 g4 ((i + k : Nat)) (by kernel_rfl) 16 79 (w64 (nf t2)) rfl (.int .u64 (ua ((nf t2) ((i + k : Nat))) (um ((dg A) i) ((dg B) k)))) (w64 (upd (nf t2) ((i + k : Nat)) (ua ((nf t2) ((i + k : Nat))) (um ((dg A) i) ((dg B) k))))) (by kernel_rfl) inz40 (by omega) rfl rfl (fun j _ => put_w64 _ _ _ j) ?_
      intro u6 M
      replace M : Mem ⟨w, []⟩ [⟨g1, .cells (av 16 (w64 (dg A))) 79⟩, ⟨g2, .cells (av 16 (w64 (dg B))) 79⟩, ⟨g3, .cells (av 16 (w64 (fun _ => 0))) 79⟩, ⟨g4, .cells (av 16 (w64 (upd (nf t2) ((i + k : Nat)) (ua ((nf t2) ((i + k : Nat))) (um ((dg A) i) ((dg B) k)))))) 79⟩] u6 := M
      refine pl_nil ?_
      refine au_block ?_
      refine au_then ?_
      refine rg_lit ?_
      refine pl_val (want_no rfl) (some 19) rfl (.int .i64 (k : Int)) (fun _ => by kernel_rfl) ?_
      refine pl_val (want_no rfl) (some 20) rfl (.int .i64 ((k + 1 : Nat) : Int)) (fun w => Eq.trans (b := .ok (.value (.int .i64 (IntKind.wrap .i64 ((k : Int) + 1)))) w) (by kernel_rfl) (by rw [wrap64 (by omega) (by omega)]; congr 3)) ?_
      refine pl_val (want_no rfl) (some 7) rfl (.int .i64 ((k + 1 : Nat) : Int)) (fun _ => by kernel_rfl) ?_
      refine pl_nil ?_
      refine au_then ?_
      obtain ⟨q1, q2, q3⟩ := inner_step A B i k (valN t 16) t2 (by omega) hb2 hv2
      rw [nf_upd t2 (i + k) _ _ q1] at M
      exact ⟨fun k_ => ([.int .i64 (i : Int), .int .i64 (k : Int), .int .i64 ((i + k : Nat) : Int), .bool true, .int .i64 (k : Int), .int .i64 ((k + 1 : Nat) : Int), .int .i64 (i : Int), .int .i64 (k : Int), .int .i64 ((i + k : Nat) : Int), .int .i64 (i : Int), .int .i64 (k : Int), .int .i64 ((i + k : Nat) : Int), .pointer (some ⟨g4, ((i + k : Nat)), none⟩), .int .u64 ((nf t2) ((i + k : Nat))), .int .i64 (i : Int), .pointer (some ⟨g1, i, none⟩), .int .u64 ((dg A) i), .int .i64 (k : Int), .pointer (some ⟨g2, k, none⟩), .int .u64 ((dg B) k), .int .u64 (um ((dg A) i) ((dg B) k)), .int .u64 (ua ((nf t2) ((i + k : Nat))) (um ((dg A) i) ((dg B) k))), .pointer (some ⟨g4, ((i + k : Nat)), none⟩)] : List Value).getD (k_ - 15) undef, upd t2 (i + k) (t2 (i + k) + (A / 65536 ^ i % 65536) * (B / 65536 ^ k % 65536)), by kernel_rfl, q2, q3, M⟩
    · intro a u0 hI
      obtain ⟨v2, t2, rfl, hb2, hv2, M⟩ := hI
      refine wp_seq ?_
      refine wp_seq ?_
      refine rg_lit ?_
      refine pl_val (want_no rfl) (some 15) rfl (.int .i64 (i : Int)) (fun _ => by kernel_rfl) ?_
      refine pl_val (want_no rfl) (some 16) rfl (.int .i64 (((16 - i) : Nat) : Int)) (fun _ => by kernel_rfl) ?_
      refine pl_val (want_no rfl) (some 17) rfl (.int .i64 (16 : Int)) (fun w => Eq.trans (b := .ok (.value (.int .i64 (IntKind.wrap .i64 ((i : Int) + ((16 - i : Nat) : Int))))) w) (by kernel_rfl) (by rw [wrap64 (by omega) (by omega)]; congr 3; omega)) ?_
      refine pl_val (want_no rfl) (some 18) rfl (.bool false) (fun w => Eq.trans (b := .ok (.value (.bool (decide ((16 : Int) < 16)))) w) (by kernel_rfl) (by rw [decide_eq_false (by omega)])) ?_
      refine pl_nil ?_
      refine au_then ?_
      refine wp_cond_false (by kernel_rfl) ?_
      refine wp_exit ?_
      refine au_then_exit ?_
      refine au_then_exit ?_
      refine au_block_exit ?_
      refine au_block ?_
      refine au_then ?_
      refine rg_lit ?_
      refine pl_val (want_no rfl) (some 13) rfl (.int .i64 (i : Int)) (fun _ => by kernel_rfl) ?_
      refine pl_val (want_no rfl) (some 14) rfl (.int .i64 ((i + 1 : Nat) : Int)) (fun w => Eq.trans (b := .ok (.value (.int .i64 (IntKind.wrap .i64 ((i : Int) + 1)))) w) (by kernel_rfl) (by rw [wrap64 (by omega) (by omega)]; congr 3)) ?_
      refine pl_val (want_no rfl) (some 6) rfl (.int .i64 ((i + 1 : Nat) : Int)) (fun _ => by kernel_rfl) ?_
      refine pl_nil ?_
      refine au_then ?_
      exact ⟨fun k_ => ([.int .i64 (((16 - i) : Nat) : Int), undef, undef, undef, .int .i64 (i : Int), .bool true, .int .i64 (i : Int), .int .i64 ((i + 1 : Nat) : Int), .int .i64 (i : Int), .int .i64 (((16 - i) : Nat) : Int), .int .i64 (16 : Int), .bool false, v2 19, v2 20, v2 21, v2 22, v2 23, v2 24, v2 25, v2 26, v2 27, v2 28, v2 29, v2 30, v2 31, v2 32, v2 33, v2 34, v2 35, v2 36, v2 37] : List Value).getD (k_ - 7) undef, t2, by kernel_rfl, (fun m hm => by have h := hb2 m hm; split at h <;> omega), (by rw [hv2]; exact row_step A B (valN t 16) i hj hv), M⟩
  · intro a u0 hI
    obtain ⟨v1, t, rfl, hb, hv, M⟩ := hI
    refine wp_seq ?_
    refine wp_seq ?_
    refine rg_lit ?_
    refine pl_val (want_no rfl) (some 11) rfl (.int .i64 (16 : Int)) (fun _ => by kernel_rfl) ?_
    refine pl_val (want_no rfl) (some 12) rfl (.bool false) (fun w => Eq.trans (b := .ok (.value (.bool (decide (16 < 16)))) w) (by kernel_rfl) (by rw [decide_eq_false (by omega)])) ?_
    refine pl_nil ?_
    refine au_then ?_
    refine wp_cond_false (by kernel_rfl) ?_
    refine wp_exit ?_
    refine au_then_exit ?_
    refine au_then_exit ?_
    refine au_block_exit ?_
    refine au_then ?_
    refine wp_seq ?_
    refine rg_lit ?_
    refine pl_val (want_no rfl) (some 8) rfl (.int .u64 0) (fun _ => by kernel_rfl) ?_
    refine pl_nil ?_
    refine au_then ?_
    refine wp_seq ?_
    refine wp_seq ?_
    refine rg_lit ?_
    refine pl_val (want_no rfl) (some 9) rfl (.int .i64 0) (fun _ => by kernel_rfl) ?_
    refine pl_nil ?_
    refine au_then ?_
    refine wp_block ?_
    refine au_loop (fun i a w' => ∃ (v4 : Nat → Value) (t3 : Nat → Nat) (cr : Nat), a = ⟨#[.agg (av 16 (w64 (dg A))), .agg (av 16 (w64 (dg B))), .pointer (some ⟨g1, 0, none⟩), .pointer (some ⟨g2, 0, none⟩), .pointer (some ⟨g3, 0, none⟩), .pointer (some ⟨g4, 0, none⟩), .int .i64 (16 : Int), v1 7, .int .u64 (cr : Int), .int .i64 (i : Int), v4 10, .int .i64 (16 : Int), .bool false, v1 13, v1 14, v1 15, v1 16, v1 17, v1 18, v1 19, v1 20, v1 21, v1 22, v1 23, v1 24, v1 25, v1 26, v1 27, v1 28, v1 29, v1 30, v1 31, v1 32, v1 33, v1 34, v1 35, v1 36, v1 37, v4 38, v4 39, v4 40, v4 41, v4 42, v4 43, v4 44, v4 45, v4 46, v4 47, v4 48, v4 49, v4 50, v4 51, v4 52, undef], []⟩ ∧ (∀ m, m < i → t3 m = valN t (m + 1) / 65536 ^ m % 65536) ∧ (∀ m, i ≤ m → m < 16 → t3 m = t m) ∧ cr = valN t i / 65536 ^ i ∧ cr ≤ 68719476736 ∧ Mem ⟨w, []⟩ [⟨g1, .cells (av 16 (w64 (dg A))) 79⟩, ⟨g2, .cells (av 16 (w64 (dg B))) 79⟩, ⟨g3, .cells (av 16 (w64 (fun _ => 0))) 79⟩, ⟨g4, .cells (av 16 (w64 (nf t3))) 79⟩] w') 16 ⟨fun k_ => ([undef, undef, undef, undef, undef, undef, undef, undef, undef, undef, undef, undef, undef, undef, undef, undef, undef, undef, undef, undef, undef, undef, undef, undef, undef, undef, undef, undef, undef, undef, undef, undef, undef, undef, undef, undef, undef, undef, undef, undef, undef, undef, undef] : List Value).getD (k_ - 10) undef, t, 0, by kernel_rfl, (fun m h => absurd h (by omega)), (fun _ _ _ => rfl), (by simp [valN]), (by decide), M⟩ ?_ ?_
    · intro i a u0 hj hI
      obtain ⟨v4, t3, cr, rfl, h1, h2, hcr, hcb, M⟩ := hI
      have hT := hb i hj
      have ht3 := h2 i (Nat.le_refl _) hj
      obtain ⟨c1, c2, c3⟩ := carry_step t i (by omega) (by omega)
      obtain ⟨x, hx⟩ : ∃ x, x = t i + valN t i / 65536 ^ i := ⟨_, rfl⟩
      have hx1 : ua (nf t3 i) (cr : Int) = (x : Int) := by unfold nf; rw [ht3, ua_nat _ _ (by omega), hx, hcr]
      refine wp_seq ?_
      refine wp_seq ?_
      refine rg_lit ?_
      refine pl_val (want_no rfl) (some 38) rfl (.int .i64 (i : Int)) (fun _ => by kernel_rfl) ?_
      refine pl_val (want_no rfl) (some 39) rfl (.bool true) (fun w => Eq.trans (b := .ok (.value (.bool (decide ((i : Int) < 16)))) w) (by kernel_rfl) (by rw [decide_eq_true (by omega)])) ?_
      refine pl_nil ?_
      refine au_then ?_
      refine wp_cond_true (by kernel_rfl) ?_
      refine wp_skip ?_
      refine au_then ?_
      refine wp_seq ?_
      refine wp_block ?_
      refine wp_seq ?_
      refine rg_lit ?_
      refine pl_val (want_no rfl) (some 42) rfl (.int .i64 (i : Int)) (fun _ => by kernel_rfl) ?_
      refine pl_val (want_no rfl) (some 43) rfl (.pointer (some ⟨g4, i, none⟩)) (run_ix1 79 16 40 Tryd.underlying79 inz40 _ _ rfl g4 (by kernel_rfl) .i64 (i) (by kernel_rfl) (by omega)) ?_
      refine pl_cell M (want_no rfl) (some 44) rfl 40 _ rfl g4 i (by kernel_rfl) (.int .u64 ((nf t3) i)) (fun _ => by kernel_rfl) (fun w M => M.cell 3 rfl (by omega) rfl) ?_
      refine pl_val (want_no rfl) (some 45) rfl (.int .u64 (cr : Int)) (fun _ => by kernel_rfl) ?_
      refine pl_val (want_no rfl) (some 46) rfl (.int .u64 (x : Int)) (fun w => Eq.trans (b := .ok (.value (.int .u64 (ua (nf t3 i) (cr : Int)))) w) (by kernel_rfl) (by rw [hx1])) ?_
      refine pl_val (want_no rfl) (some 10) rfl (.int .u64 (x : Int)) (fun _ => by kernel_rfl) ?_
      refine pl_nil ?_
      refine au_then ?_
      refine wp_seq ?_
      refine rg_lit ?_
      refine pl_val (want_no rfl) (some 47) rfl (.int .i64 (i : Int)) (fun _ => by kernel_rfl) ?_
      refine pl_val (want_no rfl) (some 48) rfl (.int .u64 (x : Int)) (fun _ => by kernel_rfl) ?_
      refine pl_val (want_no rfl) (some 49) rfl (.int .u64 (un (x : Int) 65535)) (fun _ => by kernel_rfl) ?_
      refine pl_val (want_no rfl) (some 50) rfl (.pointer (some ⟨g4, i, none⟩)) (run_ix1 79 16 40 Tryd.underlying79 inz40 _ _ rfl g4 (by kernel_rfl) .i64 (i) (by kernel_rfl) (by omega)) ?_
      refine pl_put1 M (want_no rfl) rfl 40 _ _ rfl 3 g4 i (by kernel_rfl) 16 79 (w64 (nf t3)) rfl (.int .u64 (un (x : Int) 65535)) (w64 (upd (nf t3) i (un (x : Int) 65535))) (by kernel_rfl) inz40 (by omega) rfl rfl (fun j _ => put_w64 _ _ _ j) ?_
      intro u7 M
      replace M : Mem ⟨w, []⟩ [⟨g1, .cells (av 16 (w64 (dg A))) 79⟩, ⟨g2, .cells (av 16 (w64 (dg B))) 79⟩, ⟨g3, .cells (av 16 (w64 (fun _ => 0))) 79⟩, ⟨g4, .cells (av 16 (w64 (upd (nf t3) i (un (x : Int) 65535)))) 79⟩] u7 := M
      refine pl_nil ?_
      refine au_then ?_
      refine rg_lit ?_
      refine pl_val (want_no rfl) (some 51) rfl (.int .u64 (x : Int)) (fun _ => by kernel_rfl) ?_
      refine pl_val (want_no rfl) (some 52) rfl (.int .u64 (((t i + valN t i / 65536 ^ i) / 65536 : Nat) : Int)) (fun w => Eq.trans (b := .ok (.value (.int .u64 (sr (x : Int) 16))) w) (by kernel_rfl) (by rw [sr_nat, hx])) ?_
      refine pl_val (want_no rfl) (some 8) rfl (.int .u64 (((t i + valN t i / 65536 ^ i) / 65536 : Nat) : Int)) (fun _ => by kernel_rfl) ?_
      refine pl_nil ?_
      refine au_block ?_
      refine au_then ?_
      refine rg_lit ?_
      refine pl_val (want_no rfl) (some 40) rfl (.int .i64 (i : Int)) (fun _ => by kernel_rfl) ?_
      refine pl_val (want_no rfl) (some 41) rfl (.int .i64 ((i + 1 : Nat) : Int)) (fun w => Eq.trans (b := .ok (.value (.int .i64 (IntKind.wrap .i64 ((i : Int) + 1)))) w) (by kernel_rfl) (by rw [wrap64 (by omega) (by omega)]; congr 3)) ?_
      refine pl_val (want_no rfl) (some 9) rfl (.int .i64 ((i + 1 : Nat) : Int)) (fun _ => by kernel_rfl) ?_
      refine pl_nil ?_
      refine au_then ?_
      rw [nf_upd t3 i (x % 65536) (un (x : Int) 65535) (bit16 x (by omega))] at M
      exact ⟨fun k_ => ([.int .u64 (x : Int), undef, undef, undef, undef, undef, undef, undef, undef, undef, undef, undef, undef, undef, undef, undef, undef, undef, undef, undef, undef, undef, undef, undef, undef, undef, undef, undef, .int .i64 (i : Int), .bool true, .int .i64 (i : Int), .int .i64 ((i + 1 : Nat) : Int), .int .i64 (i : Int), .pointer (some ⟨g4, i, none⟩), .int .u64 ((nf t3) i), .int .u64 (cr : Int), .int .u64 (x : Int), .int .i64 (i : Int), .int .u64 (x : Int), .int .u64 (un (x : Int) 65535), .pointer (some ⟨g4, i, none⟩), .int .u64 (x : Int), .int .u64 (((t i + valN t i / 65536 ^ i) / 65536 : Nat) : Int)] : List Value).getD (k_ - 10) undef, upd t3 i (x % 65536), ((t i + valN t i / 65536 ^ i) / 65536), by kernel_rfl, (carry_h1 (fun m => valN t (m + 1) / 65536 ^ m % 65536) t3 i _ h1 (by rw [hx, c1])), (carry_h2 t t3 i _ h2), c2, (by rw [c2]; exact c3), M⟩
    · intro a u0 hI
      obtain ⟨v4, t3, cr, rfl, h1, h2, hcr, hcb, M⟩ := hI
      have hfin : av 16 (w64 (nf t3)) = av 16 (w64 (dg (A * B))) := av_congr fun m hm => by unfold w64 nf; rw [h1 m hm, dg_of t A B m hm hv]
      refine wp_seq ?_
      refine wp_seq ?_
      refine rg_lit ?_
      refine pl_val (want_no rfl) (some 38) rfl (.int .i64 (16 : Int)) (fun _ => by kernel_rfl) ?_
      refine pl_val (want_no rfl) (some 39) rfl (.bool false) (fun w => Eq.trans (b := .ok (.value (.bool (decide (16 < 16)))) w) (by kernel_rfl) (by rw [decide_eq_false (by omega)])) ?_
      refine pl_nil ?_
      refine au_then ?_
      refine wp_cond_false (by kernel_rfl) ?_
      refine wp_exit ?_
      refine au_then_exit ?_
      refine au_then_exit ?_
      refine au_block_exit ?_
      refine au_then ?_
      refine wp_seq ?_
      refine rg_lit ?_
      refine pl_load M (want_no rfl) (some 53) rfl 79 _ rfl 3 g4 0 (by kernel_rfl) 16 79 (w64 (nf t3)) rfl 16 (w64 (nf t3)) (fun j _ => by rw [Nat.zero_add]) (by decide) _ Tryd.underlying79 rfl inz79 ?_
      refine pl_put M (want_no rfl) rfl 79 _ _ rfl 2 g3 0 (by kernel_rfl) 16 79 (w64 (fun _ => 0)) rfl 16 (w64 (nf t3)) (w64 (nf t3)) (by kernel_rfl) inz79 (by decide) (fun _ _ => rfl) (fun j hj => by rw [if_pos (by omega), Nat.sub_zero]) ?_
      intro u8 M
      replace M : Mem ⟨w, []⟩ [⟨g1, .cells (av 16 (w64 (dg A))) 79⟩, ⟨g2, .cells (av 16 (w64 (dg B))) 79⟩, ⟨g3, .cells (av 16 (w64 (nf t3))) 79⟩, ⟨g4, .cells (av 16 (w64 (nf t3))) 79⟩] u8 := M
      refine pl_nil ?_
      refine au_then ?_
      refine wp_ret ?_
      refine bodyPost_ret (v := .agg (av 16 (w64 (dg (A * B))))) (Eq.trans (b := .ok (.agg (av 16 (w64 (nf t3)))) _) (results_cell_row Tryd.results37 _ _ g3 79 (av 16 (w64 (nf t3))) (0, 0) _ (by kernel_rfl) (M.get 2 rfl) Tryd.underlying79 rfl (by rw [av_size]; exact inz79)) (by rw [hfin])) (by kernel_rfl) ⟨rfl, below_grown M.old⟩


end Go.Proofs.YtnglfpekdedgfaaDoor
