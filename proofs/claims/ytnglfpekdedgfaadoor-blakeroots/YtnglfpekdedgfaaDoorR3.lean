/- The document: root. -/
import Derived.Test.YtnglfpekdedgfaaDoorR2
namespace Go.Proofs.YtnglfpekdedgfaaDoor
open Go.RowKit

theorem lt16r {p : Nat → Prop} (h : p 0 ∧ p 1 ∧ p 2 ∧ p 3 ∧ p 4 ∧ p 5 ∧ p 6 ∧ p 7 ∧ p 8 ∧ p 9 ∧ p 10 ∧ p 11 ∧ p 12 ∧ p 13 ∧ p 14 ∧ p 15) : ∀ i, i < 16 → p i := by
  obtain ⟨h0, h1, h2, h3, h4, h5, h6, h7, h8, h9, h10, h11, h12, h13, h14, h15⟩ := h
  intro i hi
  match i, hi with
  | 0, _ => exact h0
  | 1, _ => exact h1
  | 2, _ => exact h2
  | 3, _ => exact h3
  | 4, _ => exact h4
  | 5, _ => exact h5
  | 6, _ => exact h6
  | 7, _ => exact h7
  | 8, _ => exact h8
  | 9, _ => exact h9
  | 10, _ => exact h10
  | 11, _ => exact h11
  | 12, _ => exact h12
  | 13, _ => exact h13
  | 14, _ => exact h14
  | 15, _ => exact h15
  | n + 16, h => omega
theorem aim2 (p : Nat) (hp : p < 65536) : av 16 (w64 (upd (fun _ => 0) 8 (p : Int))) = av 16 (w64 (dg (p * 65536 ^ 8))) := by
  refine av_congr fun m hm => ?_
  unfold w64
  congr 1
  revert m
  refine lt16r ?_
  simp only [upd, dg]
  refine ⟨?_, ?_, ?_, ?_, ?_, ?_, ?_, ?_, ?_, ?_, ?_, ?_, ?_, ?_, ?_, ?_⟩ <;> simp <;> omega
theorem aim3 (p : Nat) (hp : p < 65536) : av 16 (w64 (upd (upd (upd (fun _ => 0) 8 (p : Int)) 8 0) 12 (p : Int))) = av 16 (w64 (dg (p * 65536 ^ 12))) := by
  refine av_congr fun m hm => ?_
  unfold w64
  congr 1
  revert m
  refine lt16r ?_
  simp only [upd, dg]
  refine ⟨?_, ?_, ?_, ?_, ?_, ?_, ?_, ?_, ?_, ?_, ?_, ?_, ?_, ?_, ?_, ?_⟩ <;> simp <;> omega
theorem zero16 : av 16 (w64 fun _ => 0) = av 16 (w64 (dg 0)) := av_congr fun m _ => by
  unfold w64 dg
  simp
theorem uo_nat (a b : Nat) (ha : a < 18446744073709551616) (hb : b < 18446744073709551616) : uo (a : Int) (b : Int) = ((a ||| b : Nat) : Int) := by
  unfold uo
  have e1 : BitVec.ofInt 64 (a : Int) = BitVec.ofNat 64 a := by simp
  have e2 : BitVec.ofInt 64 (b : Int) = BitVec.ofNat 64 b := by simp
  rw [e1, e2, BitVec.toNat_or, BitVec.toNat_ofNat, BitVec.toNat_ofNat, Nat.mod_eq_of_lt (by simpa using ha), Nat.mod_eq_of_lt (by simpa using hb)]
  have h : a ||| b < 2 ^ 64 := Nat.or_lt_two_pow (by simpa using ha) (by simpa using hb)
  simp [IntKind.wrap, IntKind.signed, IntKind.bits]
  omega
theorem pow_dg (b m : Nat) : 2 ^ b / 65536 ^ m % 65536 = if m = b / 16 then 2 ^ (b % 16) else 0 := by
  rw [show (65536 : Nat) = 2 ^ 16 from rfl, ← Nat.pow_mul]
  by_cases h : b < 16 * m
  · rw [if_neg (by omega), Nat.div_eq_of_lt (Nat.pow_lt_pow_right (by decide) h)]
  · rw [Nat.pow_div (by omega) (by decide)]
    by_cases e : m = b / 16
    · rw [if_pos e, show b - 16 * m = b % 16 by omega, Nat.mod_eq_of_lt (Nat.pow_lt_pow_right (by decide) (by omega))]
    · rw [if_neg e]
      exact Nat.mod_eq_zero_of_dvd (Nat.pow_dvd_pow 2 (by omega))
theorem dg_or (x b m : Nat) : (x ||| 2 ^ b) / 65536 ^ m % 65536 = (x / 65536 ^ m % 65536) ||| (if m = b / 16 then 2 ^ (b % 16) else 0) := by
  rw [← pow_dg b m, show (65536 : Nat) = 2 ^ 16 from rfl, ← Nat.pow_mul, ← Nat.shiftRight_eq_div_pow, Nat.shiftRight_or_distrib, Nat.or_mod_two_pow, Nat.shiftRight_eq_div_pow, Nat.shiftRight_eq_div_pow]
theorem or_av (x b : Nat) : av 16 (w64 (upd (dg x) (b / 16) (uo (dg x (b / 16)) ((2 ^ (b % 16) : Nat) : Int)))) = av 16 (w64 (dg (x ||| 2 ^ b))) := by
  refine av_congr fun m _ => ?_
  unfold w64
  congr 1
  have hp : 2 ^ (b % 16) < 65536 := show 2 ^ (b % 16) < 2 ^ 16 from Nat.pow_lt_pow_right (by decide) (by omega)
  have hd := dg_lt x (b / 16)
  unfold upd
  by_cases e : m = b / 16
  · rw [if_pos e, e]
    unfold dg
    rw [uo_nat _ _ (by omega) (by omega), dg_or, if_pos rfl]
  · rw [if_neg e]
    unfold dg
    rw [dg_or, if_neg e, Nat.or_zero]
def rt2 (aim : Nat) : Nat → Nat → Nat
  | 0, x => x
  | k + 1, x => if aim < (x ||| 2 ^ k) * (x ||| 2 ^ k) then rt2 aim k x else rt2 aim k (x ||| 2 ^ k)
def rt3 (aim : Nat) : Nat → Nat → Nat
  | 0, x => x
  | k + 1, x => if aim < (x ||| 2 ^ k) * (x ||| 2 ^ k) * (x ||| 2 ^ k) then rt3 aim k x else rt3 aim k (x ||| 2 ^ k)
def rootW (x : Nat) : Int := uo (uo (uo (dg x 0) (sl (dg x 1) 16)) (sl (dg x 2) 32)) (sl (dg x 3) 48)
theorem quo16 (j : Nat) (hj : j < 1000000) : IntKind.wrap .i64 ((j : Int).tdiv 16) = ((j / 16 : Nat) : Int) := by
  rw [Int.tdiv_eq_ediv_of_nonneg (by omega), wrap64 (by omega) (by omega)]
  omega
theorem rem16 (n : Nat) : Int.tmod (n : Int) 16 = ((n % 16 : Nat) : Int) := by
  rw [Int.tmod_eq_emod_of_nonneg (by omega)]
  omega
theorem run_shl1 {P : Program} {a : Act} {o : Oper} (t rt : TypeId) (x y : Operand) (ho : o.op = .binOp .shl t x y rt) (ky : IntKind) (m : Nat) (hx : a.eval x = .int .u64 1) (hy : a.eval y = .int ky (m : Int)) (hm : m < 16) (w : World) :
    (execOp a.eval o).run P w = .ok (.value (.int .u64 ((2 ^ m : Nat) : Int))) w := by
  have hp : 2 ^ m < 65536 := show 2 ^ m < 2 ^ 16 from Nat.pow_lt_pow_right (by decide) hm
  have e : (execOp a.eval o).run P w = .ok (.value (.int .u64 (IntKind.wrap .u64 (2 ^ m)))) w := by
    unfold execOp
    simp [ho, hx, hy, eqGuard, binOp]
  have e2 : IntKind.wrap .u64 ((2 ^ m : Nat) : Int) = ((2 ^ m : Nat) : Int) := by
    generalize 2 ^ m = z at hp
    simp [IntKind.wrap, IntKind.signed, IntKind.bits]
    omega
  rw [e, show ((2 : Int) ^ m) = ((2 ^ m : Nat) : Int) by simp, e2]
theorem sq_lt {y : Nat} (h : y < 2 ^ 71) : y * y < 65536 ^ 16 ∧ y * y * y < 65536 ^ 16 := by
  have h1 : y * y ≤ 2 ^ 71 * 2 ^ 71 := Nat.mul_le_mul (Nat.le_of_lt h) (Nat.le_of_lt h)
  have h2 : y * y * y ≤ 2 ^ 71 * 2 ^ 71 * 2 ^ 71 := Nat.mul_le_mul h1 (Nat.le_of_lt h)
  exact ⟨Nat.lt_of_le_of_lt h1 (by decide), Nat.lt_of_le_of_lt h2 (by decide)⟩

set_option maxRecDepth 100000 in
set_option maxHeartbeats 4000000 in
theorem c_root2 (p : Nat) (hp : p < 65536) (w : World) (hL : Laid w)  :
    Calls Tryd.prog 24 #[.int .u64 (p : Int), .bool false] w fun r w' => r = .returned (.int .u64 (rootW (rt2 (p * 65536 ^ 8) 71 0))) ∧ Below w.heap.size w w' := by
  go_enter Tryd.func24, Tryd.ntmps24
  have M := Mem.start hL
  refine wp_seq ?_
  refine rg_lit ?_
  refine pl_val (want_no rfl) (some 4) rfl (.int .u64 0) (fun _ => by kernel_rfl) ?_
  refine pl_nil ?_
  refine au_then ?_
  refine wp_seq ?_
  refine rg_lit ?_
  refine pl_new M (want_no rfl) (some 5) rfl (.cells (av 16 (w64 (fun _ => 0))) 79) (fun _ => by kernel_rfl) ?_
  intro g1 u1 M
  replace M : Mem ⟨w, []⟩ [⟨g1, .cells (av 16 (w64 (fun _ => 0))) 79⟩] u1 := M
  refine pl_nil ?_
  refine au_then ?_
  refine wp_seq ?_
  refine rg_lit ?_
  refine pl_val (want_no rfl) (some 10) rfl (.int .u64 (p : Int)) (fun _ => by kernel_rfl) ?_
  refine pl_val (want_no rfl) (some 11) rfl (.pointer (some ⟨g1, 8, none⟩)) (fun _ => by kernel_rfl) ?_
  refine pl_put1 M (want_no rfl) rfl 40 _ _ rfl 0 g1 8 (by kernel_rfl) 16 79 (w64 (fun _ => 0)) rfl (.int .u64 (p : Int)) (w64 (upd (fun _ => 0) 8 (p : Int))) (by kernel_rfl) inz40 (by decide) rfl rfl (fun j _ => put_w64 _ _ _ j) ?_
  intro u2 M
  replace M : Mem ⟨w, []⟩ [⟨g1, .cells (av 16 (w64 (upd (fun _ => 0) 8 (p : Int)))) 79⟩] u2 := M
  refine pl_nil ?_
  refine au_then ?_
  refine wp_seq ?_
  refine wp_seq ?_
  refine rg_lit ?_
  refine pl_val (want_no rfl) (some 12) rfl (.bool false) (fun _ => by kernel_rfl) ?_
  refine pl_nil ?_
  refine au_then ?_
  refine wp_cond_false (by kernel_rfl) ?_
  refine wp_skip ?_
  refine au_then ?_
  refine wp_seq ?_
  refine rg_lit ?_
  refine pl_new M (want_no rfl) (some 6) rfl (.cells (av 16 (w64 (fun _ => 0))) 79) (fun _ => by kernel_rfl) ?_
  intro g2 u3 M
  replace M : Mem ⟨w, []⟩ [⟨g1, .cells (av 16 (w64 (upd (fun _ => 0) 8 (p : Int)))) 79⟩, ⟨g2, .cells (av 16 (w64 (fun _ => 0))) 79⟩] u3 := M
  refine pl_nil ?_
  refine au_then ?_
  refine wp_seq ?_
  refine wp_seq ?_
  refine rg_lit ?_
  refine pl_val (want_no rfl) (some 7) rfl (.int .i64 70) (fun _ => by kernel_rfl) ?_
  refine pl_nil ?_
  refine au_then ?_
  refine wp_block ?_
  rw [aim2 p hp, zero16] at M
  replace M : Mem ⟨w, []⟩ [⟨g1, .cells (av 16 (w64 (dg (p * 65536 ^ 8)))) 79⟩, ⟨g2, .cells (av 16 (w64 (dg 0))) 79⟩] u3 := M
  refine au_loop (fun j a w' => ∃ (v : Nat → Value) (x : Nat), a = ⟨#[.int .u64 (p : Int), .bool false, undef, undef, .int .u64 0, .pointer (some ⟨g1, 0, none⟩), .pointer (some ⟨g2, 0, none⟩), .int .i64 (70 - (j : Int)), v 8, v 9, .int .u64 (p : Int), .pointer (some ⟨g1, 8, none⟩), .bool false, undef, undef, undef, v 16, v 17, v 18, v 19, v 20, v 21, v 22, v 23, v 24, v 25, v 26, v 27, v 28, v 29, v 30, v 31, v 32, v 33, v 34, v 35, v 36, v 37, v 38, v 39, v 40, v 41, v 42, v 43, v 44, undef, undef, undef, undef, undef, undef, undef, undef, undef, undef, undef, undef, undef, undef], []⟩ ∧ x < 2 ^ 71 ∧ rt2 (p * 65536 ^ 8) (71 - j) x = rt2 (p * 65536 ^ 8) 71 0 ∧ Mem ⟨w, []⟩ [⟨g1, .cells (av 16 (w64 (dg (p * 65536 ^ 8)))) 79⟩, ⟨g2, .cells (av 16 (w64 (dg x))) 79⟩] w') 71 ⟨fun k_ => ([undef, undef, undef, undef, undef, undef, undef, undef, undef, undef, undef, undef, undef, undef, undef, undef, undef, undef, undef, undef, undef, undef, undef, undef, undef, undef, undef, undef, undef, undef, undef, undef, undef, undef, undef, undef, undef] : List Value).getD (k_ - 8) undef, 0, by kernel_rfl, by decide, rfl, M⟩ ?_ ?_
  · intro j a u0 hj hI
    obtain ⟨v, x, rfl, hx, hr, M⟩ := hI
    obtain ⟨Y, hY⟩ : ∃ Y, Y = x ||| 2 ^ (70 - j) := ⟨_, rfl⟩
    have hYb : Y < 2 ^ 71 := by rw [hY]; exact Nat.or_lt_two_pow hx (Nat.pow_lt_pow_right (by decide) (by omega))
    rw [show 71 - j = 70 - j + 1 by omega] at hr
    rw [rt2, ← hY] at hr
    by_cases hgt : (p * 65536 ^ 8) < (Y * Y)
    · skip
      rw [if_pos hgt] at hr
      refine wp_seq ?_
      refine wp_seq ?_
      refine rg_lit ?_
      refine pl_val (want_no rfl) (some 16) rfl (.int .i64 (70 - (j : Int))) (fun _ => by kernel_rfl) ?_
      refine pl_val (want_no rfl) (some 17) rfl (.bool true) (fun w => Eq.trans (b := .ok (.value (.bool (decide (0 ≤ 70 - (j : Int))))) w) (by kernel_rfl) (by rw [decide_eq_true (by omega)])) ?_
      refine pl_nil ?_
      refine au_then ?_
      refine wp_cond_true (by kernel_rfl) ?_
      refine wp_skip ?_
      refine au_then ?_
      refine wp_seq ?_
      refine wp_block ?_
      refine wp_seq ?_
      refine rg_lit ?_
      refine pl_load M (want_no rfl) (some 20) rfl 79 _ rfl 1 g2 0 (by kernel_rfl) 16 79 (w64 (dg x)) rfl 16 (w64 (dg x)) (fun j _ => by rw [Nat.zero_add]) (by decide) _ Tryd.underlying79 rfl inz79 ?_
      refine pl_new M (want_no rfl) (some 8) rfl (.cells (av 16 (w64 (fun _ => 0))) 79) (fun _ => by kernel_rfl) ?_
      intro g3 u4 M
      replace M : Mem ⟨w, []⟩ [⟨g1, .cells (av 16 (w64 (dg (p * 65536 ^ 8)))) 79⟩, ⟨g2, .cells (av 16 (w64 (dg x))) 79⟩, ⟨g3, .cells (av 16 (w64 (fun _ => 0))) 79⟩] u4 := M
      refine pl_put M (want_no rfl) rfl 79 _ _ rfl 2 g3 0 (by kernel_rfl) 16 79 (w64 (fun _ => 0)) rfl 16 (w64 (dg x)) (w64 (dg x)) (by kernel_rfl) inz79 (by decide) (fun _ _ => rfl) (fun j hj => by rw [if_pos (by omega), Nat.sub_zero]) ?_
      intro u5 M
      replace M : Mem ⟨w, []⟩ [⟨g1, .cells (av 16 (w64 (dg (p * 65536 ^ 8)))) 79⟩, ⟨g2, .cells (av 16 (w64 (dg x))) 79⟩, ⟨g3, .cells (av 16 (w64 (dg x))) 79⟩] u5 := M
      refine pl_nil ?_
      refine au_then ?_
      refine wp_seq ?_
      refine rg_lit ?_
      refine pl_val (want_no rfl) (some 21) rfl (.int .i64 ((70 - j : Nat) : Int)) (fun w => Eq.trans (b := .ok (.value (.int .i64 (70 - (j : Int)))) w) (by kernel_rfl) (by congr 3; omega)) ?_
      refine pl_val (want_no rfl) (some 22) rfl (.int .i64 (((70 - j) / 16 : Nat) : Int)) (fun w => Eq.trans (b := .ok (.value (.int .i64 (IntKind.wrap .i64 (((70 - j : Nat) : Int).tdiv 16)))) w) (by kernel_rfl) (by rw [quo16 (70 - j) (by omega)])) ?_
      refine pl_val (want_no rfl) (some 23) rfl (.int .i64 ((70 - j : Nat) : Int)) (fun w => Eq.trans (b := .ok (.value (.int .i64 (70 - (j : Int)))) w) (by kernel_rfl) (by congr 3; omega)) ?_
      refine pl_val (want_no rfl) (some 24) rfl (.int .i64 (((70 - j) / 16 : Nat) : Int)) (fun w => Eq.trans (b := .ok (.value (.int .i64 (IntKind.wrap .i64 (((70 - j : Nat) : Int).tdiv 16)))) w) (by kernel_rfl) (by rw [quo16 (70 - j) (by omega)])) ?_
      refine pl_val (want_no rfl) (some 25) rfl (.pointer (some ⟨g3, (((70 - j) / 16 : Nat)), none⟩)) (run_ix1 79 16 40 Tryd.underlying79 inz40 _ _ rfl g3 (by kernel_rfl) .i64 (((70 - j) / 16 : Nat)) (by kernel_rfl) (by omega)) ?_
      refine pl_cell M (want_no rfl) (some 26) rfl 40 _ rfl g3 (((70 - j) / 16 : Nat)) (by kernel_rfl) (.int .u64 ((dg x) (((70 - j) / 16 : Nat)))) (fun _ => by kernel_rfl) (fun w M => M.cell 2 rfl (by omega) rfl) ?_
      refine pl_val (want_no rfl) (some 27) rfl (.int .i64 ((70 - j : Nat) : Int)) (fun w => Eq.trans (b := .ok (.value (.int .i64 (70 - (j : Int)))) w) (by kernel_rfl) (by congr 3; omega)) ?_
      refine pl_val (want_no rfl) (some 28) rfl (.int .i64 (((70 - j) % 16 : Nat) : Int)) (fun w => Eq.trans (b := .ok (.value (.int .i64 (Int.tmod ((70 - j : Nat) : Int) 16))) w) (by kernel_rfl) (by rw [rem16])) ?_
      refine pl_val (want_no rfl) (some 29) rfl (.int .u64 (((70 - j) % 16 : Nat) : Int)) (fun w => Eq.trans (b := .ok (.value (.int .u64 (cv .u64 (((70 - j) % 16 : Nat) : Int)))) w) (by kernel_rfl) (by rw [cv_u64 _ (by omega)])) ?_
      refine pl_val (want_no rfl) (some 30) rfl (.int .u64 ((2 ^ ((70 - j) % 16) : Nat) : Int)) (run_shl1 40 43 _ _ rfl .u64 ((70 - j) % 16) (by kernel_rfl) (by kernel_rfl) (by omega)) ?_
      refine pl_val (want_no rfl) (some 31) rfl (.int .u64 (uo ((dg x) (((70 - j) / 16 : Nat))) ((2 ^ ((70 - j) % 16) : Nat) : Int))) (fun _ => by kernel_rfl) ?_
      refine pl_val (want_no rfl) (some 32) rfl (.pointer (some ⟨g3, (((70 - j) / 16 : Nat)), none⟩)) (run_ix1 79 16 40 Tryd.underlying79 inz40 _ _ rfl g3 (by kernel_rfl) .i64 (((70 - j) / 16 : Nat)) (by kernel_rfl) (by omega)) ?_
      refine pl_put1 M (want_no rfl) rfl 40 _ _ rfl 2 g3 (((70 - j) / 16 : Nat)) (by kernel_rfl) 16 79 (w64 (dg x)) rfl (.int .u64 (uo ((dg x) (((70 - j) / 16 : Nat))) ((2 ^ ((70 - j) % 16) : Nat) : Int))) (w64 (upd (dg x) (((70 - j) / 16 : Nat)) (uo ((dg x) (((70 - j) / 16 : Nat))) ((2 ^ ((70 - j) % 16) : Nat) : Int)))) (by kernel_rfl) inz40 (by omega) rfl rfl (fun j _ => put_w64 _ _ _ j) ?_
      intro u6 M
      replace M : Mem ⟨w, []⟩ [⟨g1, .cells (av 16 (w64 (dg (p * 65536 ^ 8)))) 79⟩, ⟨g2, .cells (av 16 (w64 (dg x))) 79⟩, ⟨g3, .cells (av 16 (w64 (upd (dg x) (((70 - j) / 16 : Nat)) (uo ((dg x) (((70 - j) / 16 : Nat))) ((2 ^ ((70 - j) % 16) : Nat) : Int))))) 79⟩] u6 := M
      rw [or_av x (70 - j)] at M
      rw [← hY] at M
      replace M : Mem ⟨w, []⟩ [⟨g1, .cells (av 16 (w64 (dg (p * 65536 ^ 8)))) 79⟩, ⟨g2, .cells (av 16 (w64 (dg x))) 79⟩, ⟨g3, .cells (av 16 (w64 (dg Y))) 79⟩] u6 := M
      refine pl_nil ?_
      refine au_then ?_
      refine wp_seq ?_
      refine rg_lit ?_
      refine pl_load M (want_no rfl) (some 33) rfl 79 _ rfl 2 g3 0 (by kernel_rfl) 16 79 (w64 (dg Y)) rfl 16 (w64 (dg Y)) (fun j _ => by rw [Nat.zero_add]) (by decide) _ Tryd.underlying79 rfl inz79 ?_
      refine pl_load M (want_no rfl) (some 34) rfl 79 _ rfl 2 g3 0 (by kernel_rfl) 16 79 (w64 (dg Y)) rfl 16 (w64 (dg Y)) (fun j _ => by rw [Nat.zero_add]) (by decide) _ Tryd.underlying79 rfl inz79 ?_
      refine pl_call M (want_no rfl) (some 35) rfl 37 #[.agg (av 16 (w64 (dg Y))), .agg (av 16 (w64 (dg Y)))] (.agg (av 16 (w64 (dg (Y * Y))))) (fun _ => by kernel_rfl) (fun w M => c_times Y Y w M.laid) ?_
      intro u7 M
      refine pl_new M (want_no rfl) (some 9) rfl (.cells (av 16 (w64 (fun _ => 0))) 79) (fun _ => by kernel_rfl) ?_
      intro g4 u8 M
      replace M : Mem ⟨w, []⟩ [⟨g1, .cells (av 16 (w64 (dg (p * 65536 ^ 8)))) 79⟩, ⟨g2, .cells (av 16 (w64 (dg x))) 79⟩, ⟨g3, .cells (av 16 (w64 (dg Y))) 79⟩, ⟨g4, .cells (av 16 (w64 (fun _ => 0))) 79⟩] u8 := M
      refine pl_put M (want_no rfl) rfl 79 _ _ rfl 3 g4 0 (by kernel_rfl) 16 79 (w64 (fun _ => 0)) rfl 16 (w64 (dg (Y * Y))) (w64 (dg (Y * Y))) (by kernel_rfl) inz79 (by decide) (fun _ _ => rfl) (fun j hj => by rw [if_pos (by omega), Nat.sub_zero]) ?_
      intro u9 M
      replace M : Mem ⟨w, []⟩ [⟨g1, .cells (av 16 (w64 (dg (p * 65536 ^ 8)))) 79⟩, ⟨g2, .cells (av 16 (w64 (dg x))) 79⟩, ⟨g3, .cells (av 16 (w64 (dg Y))) 79⟩, ⟨g4, .cells (av 16 (w64 (dg (Y * Y)))) 79⟩] u9 := M
      refine pl_nil ?_
      refine au_then ?_
      refine wp_seq ?_
      refine wp_seq ?_
      refine rg_lit ?_
      refine pl_val (want_no rfl) (some 36) rfl (.bool false) (fun _ => by kernel_rfl) ?_
      refine pl_nil ?_
      refine au_then ?_
      refine wp_cond_false (by kernel_rfl) ?_
      refine wp_skip ?_
      refine au_then ?_
      refine wp_seq ?_
      refine rg_lit ?_
      refine pl_load M (want_no rfl) (some 40) rfl 79 _ rfl 3 g4 0 (by kernel_rfl) 16 79 (w64 (dg (Y * Y))) rfl 16 (w64 (dg (Y * Y))) (fun j _ => by rw [Nat.zero_add]) (by decide) _ Tryd.underlying79 rfl inz79 ?_
      refine pl_load M (want_no rfl) (some 41) rfl 79 _ rfl 0 g1 0 (by kernel_rfl) 16 79 (w64 (dg (p * 65536 ^ 8))) rfl 16 (w64 (dg (p * 65536 ^ 8))) (fun j _ => by rw [Nat.zero_add]) (by decide) _ Tryd.underlying79 rfl inz79 ?_
      refine pl_call M (want_no rfl) (some 42) rfl 38 #[.agg (av 16 (w64 (dg (Y * Y)))), .agg (av 16 (w64 (dg (p * 65536 ^ 8))))] (.bool true) (fun _ => by kernel_rfl) (fun w M => (by have h := c_above (Y * Y) (p * 65536 ^ 8) (sq_lt hYb).1 (by omega) w M.laid; rw [decide_eq_true hgt] at h; exact h)) ?_
      intro u10 M
      refine pl_val (want_no rfl) (some 43) rfl (.bool false) (fun _ => by kernel_rfl) ?_
      refine pl_nil ?_
      refine au_then ?_
      refine wp_cond_false (by kernel_rfl) ?_
      refine wp_skip ?_
      refine au_block ?_
      refine au_then ?_
      refine rg_lit ?_
      refine pl_val (want_no rfl) (some 18) rfl (.int .i64 ((70 - j : Nat) : Int)) (fun w => Eq.trans (b := .ok (.value (.int .i64 (70 - (j : Int)))) w) (by kernel_rfl) (by congr 3; omega)) ?_
      refine pl_val (want_no rfl) (some 19) rfl (.int .i64 (70 - ((j + 1 : Nat) : Int))) (fun w => Eq.trans (b := .ok (.value (.int .i64 (IntKind.wrap .i64 (((70 - j : Nat) : Int) - 1)))) w) (by kernel_rfl) (by rw [wrap64 (by omega) (by omega)]; congr 3; omega)) ?_
      refine pl_val (want_no rfl) (some 7) rfl (.int .i64 (70 - ((j + 1 : Nat) : Int))) (fun _ => by kernel_rfl) ?_
      refine pl_nil ?_
      refine au_then ?_
      exact ⟨fun k_ => ([.pointer (some ⟨g3, 0, none⟩), .pointer (some ⟨g4, 0, none⟩), undef, undef, undef, undef, undef, undef, .int .i64 (70 - (j : Int)), .bool true, .int .i64 ((70 - j : Nat) : Int), .int .i64 (70 - ((j + 1 : Nat) : Int)), .agg (av 16 (w64 (dg x))), .int .i64 ((70 - j : Nat) : Int), .int .i64 (((70 - j) / 16 : Nat) : Int), .int .i64 ((70 - j : Nat) : Int), .int .i64 (((70 - j) / 16 : Nat) : Int), .pointer (some ⟨g3, (((70 - j) / 16 : Nat)), none⟩), .int .u64 ((dg x) (((70 - j) / 16 : Nat))), .int .i64 ((70 - j : Nat) : Int), .int .i64 (((70 - j) % 16 : Nat) : Int), .int .u64 (((70 - j) % 16 : Nat) : Int), .int .u64 ((2 ^ ((70 - j) % 16) : Nat) : Int), .int .u64 (uo ((dg x) (((70 - j) / 16 : Nat))) ((2 ^ ((70 - j) % 16) : Nat) : Int)), .pointer (some ⟨g3, (((70 - j) / 16 : Nat)), none⟩), .agg (av 16 (w64 (dg Y))), .agg (av 16 (w64 (dg Y))), .agg (av 16 (w64 (dg (Y * Y)))), .bool false, v 37, v 38, v 39, .agg (av 16 (w64 (dg (Y * Y)))), .agg (av 16 (w64 (dg (p * 65536 ^ 8)))), .bool true, .bool false, v 44] : List Value).getD (k_ - 8) undef, x, by kernel_rfl, hx, by rw [show 71 - (j + 1) = 70 - j by omega]; exact hr, M.drop (.cons_cons _ (.cons_cons _ (.cons _ (.cons _ (.slnil)))))⟩
    · skip
      rw [if_neg hgt] at hr
      refine wp_seq ?_
      refine wp_seq ?_
      refine rg_lit ?_
      refine pl_val (want_no rfl) (some 16) rfl (.int .i64 (70 - (j : Int))) (fun _ => by kernel_rfl) ?_
      refine pl_val (want_no rfl) (some 17) rfl (.bool true) (fun w => Eq.trans (b := .ok (.value (.bool (decide (0 ≤ 70 - (j : Int))))) w) (by kernel_rfl) (by rw [decide_eq_true (by omega)])) ?_
      refine pl_nil ?_
      refine au_then ?_
      refine wp_cond_true (by kernel_rfl) ?_
      refine wp_skip ?_
      refine au_then ?_
      refine wp_seq ?_
      refine wp_block ?_
      refine wp_seq ?_
      refine rg_lit ?_
      refine pl_load M (want_no rfl) (some 20) rfl 79 _ rfl 1 g2 0 (by kernel_rfl) 16 79 (w64 (dg x)) rfl 16 (w64 (dg x)) (fun j _ => by rw [Nat.zero_add]) (by decide) _ Tryd.underlying79 rfl inz79 ?_
      refine pl_new M (want_no rfl) (some 8) rfl (.cells (av 16 (w64 (fun _ => 0))) 79) (fun _ => by kernel_rfl) ?_
      intro g5 u11 M
      replace M : Mem ⟨w, []⟩ [⟨g1, .cells (av 16 (w64 (dg (p * 65536 ^ 8)))) 79⟩, ⟨g2, .cells (av 16 (w64 (dg x))) 79⟩, ⟨g5, .cells (av 16 (w64 (fun _ => 0))) 79⟩] u11 := M
      refine pl_put M (want_no rfl) rfl 79 _ _ rfl 2 g5 0 (by kernel_rfl) 16 79 (w64 (fun _ => 0)) rfl 16 (w64 (dg x)) (w64 (dg x)) (by kernel_rfl) inz79 (by decide) (fun _ _ => rfl) (fun j hj => by rw [if_pos (by omega), Nat.sub_zero]) ?_
      intro u12 M
      replace M : Mem ⟨w, []⟩ [⟨g1, .cells (av 16 (w64 (dg (p * 65536 ^ 8)))) 79⟩, ⟨g2, .cells (av 16 (w64 (dg x))) 79⟩, ⟨g5, .cells (av 16 (w64 (dg x))) 79⟩] u12 := M
      refine pl_nil ?_
      refine au_then ?_
      refine wp_seq ?_
      refine rg_lit ?_
      refine pl_val (want_no rfl) (some 21) rfl (.int .i64 ((70 - j : Nat) : Int)) (fun w => Eq.trans (b := .ok (.value (.int .i64 (70 - (j : Int)))) w) (by kernel_rfl) (by congr 3; omega)) ?_
      refine pl_val (want_no rfl) (some 22) rfl (.int .i64 (((70 - j) / 16 : Nat) : Int)) (fun w => Eq.trans (b := .ok (.value (.int .i64 (IntKind.wrap .i64 (((70 - j : Nat) : Int).tdiv 16)))) w) (by kernel_rfl) (by rw [quo16 (70 - j) (by omega)])) ?_
      refine pl_val (want_no rfl) (some 23) rfl (.int .i64 ((70 - j : Nat) : Int)) (fun w => Eq.trans (b := .ok (.value (.int .i64 (70 - (j : Int)))) w) (by kernel_rfl) (by congr 3; omega)) ?_
      refine pl_val (want_no rfl) (some 24) rfl (.int .i64 (((70 - j) / 16 : Nat) : Int)) (fun w => Eq.trans (b := .ok (.value (.int .i64 (IntKind.wrap .i64 (((70 - j : Nat) : Int).tdiv 16)))) w) (by kernel_rfl) (by rw [quo16 (70 - j) (by omega)])) ?_
      refine pl_val (want_no rfl) (some 25) rfl (.pointer (some ⟨g5, (((70 - j) / 16 : Nat)), none⟩)) (run_ix1 79 16 40 Tryd.underlying79 inz40 _ _ rfl g5 (by kernel_rfl) .i64 (((70 - j) / 16 : Nat)) (by kernel_rfl) (by omega)) ?_
      refine pl_cell M (want_no rfl) (some 26) rfl 40 _ rfl g5 (((70 - j) / 16 : Nat)) (by kernel_rfl) (.int .u64 ((dg x) (((70 - j) / 16 : Nat)))) (fun _ => by kernel_rfl) (fun w M => M.cell 2 rfl (by omega) rfl) ?_
      refine pl_val (want_no rfl) (some 27) rfl (.int .i64 ((70 - j : Nat) : Int)) (fun w => Eq.trans (b := .ok (.value (.int .i64 (70 - (j : Int)))) w) (by kernel_rfl) (by congr 3; omega)) ?_
      refine pl_val (want_no rfl) (some 28) rfl (.int .i64 (((70 - j) % 16 : Nat) : Int)) (fun w => Eq.trans (b := .ok (.value (.int .i64 (Int.tmod ((70 - j : Nat) : Int) 16))) w) (by kernel_rfl) (by rw [rem16])) ?_
      refine pl_val (want_no rfl) (some 29) rfl (.int .u64 (((70 - j) % 16 : Nat) : Int)) (fun w => Eq.trans (b := .ok (.value (.int .u64 (cv .u64 (((70 - j) % 16 : Nat) : Int)))) w) (by kernel_rfl) (by rw [cv_u64 _ (by omega)])) ?_
      refine pl_val (want_no rfl) (some 30) rfl (.int .u64 ((2 ^ ((70 - j) % 16) : Nat) : Int)) (run_shl1 40 43 _ _ rfl .u64 ((70 - j) % 16) (by kernel_rfl) (by kernel_rfl) (by omega)) ?_
      refine pl_val (want_no rfl) (some 31) rfl (.int .u64 (uo ((dg x) (((70 - j) / 16 : Nat))) ((2 ^ ((70 - j) % 16) : Nat) : Int))) (fun _ => by kernel_rfl) ?_
      refine pl_val (want_no rfl) (some 32) rfl (.pointer (some ⟨g5, (((70 - j) / 16 : Nat)), none⟩)) (run_ix1 79 16 40 Tryd.underlying79 inz40 _ _ rfl g5 (by kernel_rfl) .i64 (((70 - j) / 16 : Nat)) (by kernel_rfl) (by omega)) ?_
      refine pl_put1 M (want_no rfl) rfl 40 _ _ rfl 2 g5 (((70 - j) / 16 : Nat)) (by kernel_rfl) 16 79 (w64 (dg x)) rfl (.int .u64 (uo ((dg x) (((70 - j) / 16 : Nat))) ((2 ^ ((70 - j) % 16) : Nat) : Int))) (w64 (upd (dg x) (((70 - j) / 16 : Nat)) (uo ((dg x) (((70 - j) / 16 : Nat))) ((2 ^ ((70 - j) % 16) : Nat) : Int)))) (by kernel_rfl) inz40 (by omega) rfl rfl (fun j _ => put_w64 _ _ _ j) ?_
      intro u13 M
      replace M : Mem ⟨w, []⟩ [⟨g1, .cells (av 16 (w64 (dg (p * 65536 ^ 8)))) 79⟩, ⟨g2, .cells (av 16 (w64 (dg x))) 79⟩, ⟨g5, .cells (av 16 (w64 (upd (dg x) (((70 - j) / 16 : Nat)) (uo ((dg x) (((70 - j) / 16 : Nat))) ((2 ^ ((70 - j) % 16) : Nat) : Int))))) 79⟩] u13 := M
      rw [or_av x (70 - j)] at M
      rw [← hY] at M
      replace M : Mem ⟨w, []⟩ [⟨g1, .cells (av 16 (w64 (dg (p * 65536 ^ 8)))) 79⟩, ⟨g2, .cells (av 16 (w64 (dg x))) 79⟩, ⟨g5, .cells (av 16 (w64 (dg Y))) 79⟩] u13 := M
      refine pl_nil ?_
      refine au_then ?_
      refine wp_seq ?_
      refine rg_lit ?_
      refine pl_load M (want_no rfl) (some 33) rfl 79 _ rfl 2 g5 0 (by kernel_rfl) 16 79 (w64 (dg Y)) rfl 16 (w64 (dg Y)) (fun j _ => by rw [Nat.zero_add]) (by decide) _ Tryd.underlying79 rfl inz79 ?_
      refine pl_load M (want_no rfl) (some 34) rfl 79 _ rfl 2 g5 0 (by kernel_rfl) 16 79 (w64 (dg Y)) rfl 16 (w64 (dg Y)) (fun j _ => by rw [Nat.zero_add]) (by decide) _ Tryd.underlying79 rfl inz79 ?_
      refine pl_call M (want_no rfl) (some 35) rfl 37 #[.agg (av 16 (w64 (dg Y))), .agg (av 16 (w64 (dg Y)))] (.agg (av 16 (w64 (dg (Y * Y))))) (fun _ => by kernel_rfl) (fun w M => c_times Y Y w M.laid) ?_
      intro u14 M
      refine pl_new M (want_no rfl) (some 9) rfl (.cells (av 16 (w64 (fun _ => 0))) 79) (fun _ => by kernel_rfl) ?_
      intro g6 u15 M
      replace M : Mem ⟨w, []⟩ [⟨g1, .cells (av 16 (w64 (dg (p * 65536 ^ 8)))) 79⟩, ⟨g2, .cells (av 16 (w64 (dg x))) 79⟩, ⟨g5, .cells (av 16 (w64 (dg Y))) 79⟩, ⟨g6, .cells (av 16 (w64 (fun _ => 0))) 79⟩] u15 := M
      refine pl_put M (want_no rfl) rfl 79 _ _ rfl 3 g6 0 (by kernel_rfl) 16 79 (w64 (fun _ => 0)) rfl 16 (w64 (dg (Y * Y))) (w64 (dg (Y * Y))) (by kernel_rfl) inz79 (by decide) (fun _ _ => rfl) (fun j hj => by rw [if_pos (by omega), Nat.sub_zero]) ?_
      intro u16 M
      replace M : Mem ⟨w, []⟩ [⟨g1, .cells (av 16 (w64 (dg (p * 65536 ^ 8)))) 79⟩, ⟨g2, .cells (av 16 (w64 (dg x))) 79⟩, ⟨g5, .cells (av 16 (w64 (dg Y))) 79⟩, ⟨g6, .cells (av 16 (w64 (dg (Y * Y)))) 79⟩] u16 := M
      refine pl_nil ?_
      refine au_then ?_
      refine wp_seq ?_
      refine wp_seq ?_
      refine rg_lit ?_
      refine pl_val (want_no rfl) (some 36) rfl (.bool false) (fun _ => by kernel_rfl) ?_
      refine pl_nil ?_
      refine au_then ?_
      refine wp_cond_false (by kernel_rfl) ?_
      refine wp_skip ?_
      refine au_then ?_
      refine wp_seq ?_
      refine rg_lit ?_
      refine pl_load M (want_no rfl) (some 40) rfl 79 _ rfl 3 g6 0 (by kernel_rfl) 16 79 (w64 (dg (Y * Y))) rfl 16 (w64 (dg (Y * Y))) (fun j _ => by rw [Nat.zero_add]) (by decide) _ Tryd.underlying79 rfl inz79 ?_
      refine pl_load M (want_no rfl) (some 41) rfl 79 _ rfl 0 g1 0 (by kernel_rfl) 16 79 (w64 (dg (p * 65536 ^ 8))) rfl 16 (w64 (dg (p * 65536 ^ 8))) (fun j _ => by rw [Nat.zero_add]) (by decide) _ Tryd.underlying79 rfl inz79 ?_
      refine pl_call M (want_no rfl) (some 42) rfl 38 #[.agg (av 16 (w64 (dg (Y * Y)))), .agg (av 16 (w64 (dg (p * 65536 ^ 8))))] (.bool false) (fun _ => by kernel_rfl) (fun w M => (by have h := c_above (Y * Y) (p * 65536 ^ 8) (sq_lt hYb).1 (by omega) w M.laid; rw [decide_eq_false hgt] at h; exact h)) ?_
      intro u17 M
      refine pl_val (want_no rfl) (some 43) rfl (.bool true) (fun _ => by kernel_rfl) ?_
      refine pl_nil ?_
      refine au_then ?_
      refine wp_cond_true (by kernel_rfl) ?_
      refine rg_lit ?_
      refine pl_load M (want_no rfl) (some 44) rfl 79 _ rfl 2 g5 0 (by kernel_rfl) 16 79 (w64 (dg Y)) rfl 16 (w64 (dg Y)) (fun j _ => by rw [Nat.zero_add]) (by decide) _ Tryd.underlying79 rfl inz79 ?_
      refine pl_put M (want_no rfl) rfl 79 _ _ rfl 1 g2 0 (by kernel_rfl) 16 79 (w64 (dg x)) rfl 16 (w64 (dg Y)) (w64 (dg Y)) (by kernel_rfl) inz79 (by decide) (fun _ _ => rfl) (fun j hj => by rw [if_pos (by omega), Nat.sub_zero]) ?_
      intro u18 M
      replace M : Mem ⟨w, []⟩ [⟨g1, .cells (av 16 (w64 (dg (p * 65536 ^ 8)))) 79⟩, ⟨g2, .cells (av 16 (w64 (dg Y))) 79⟩, ⟨g5, .cells (av 16 (w64 (dg Y))) 79⟩, ⟨g6, .cells (av 16 (w64 (dg (Y * Y)))) 79⟩] u18 := M
      refine pl_nil ?_
      refine au_block ?_
      refine au_then ?_
      refine rg_lit ?_
      refine pl_val (want_no rfl) (some 18) rfl (.int .i64 ((70 - j : Nat) : Int)) (fun w => Eq.trans (b := .ok (.value (.int .i64 (70 - (j : Int)))) w) (by kernel_rfl) (by congr 3; omega)) ?_
      refine pl_val (want_no rfl) (some 19) rfl (.int .i64 (70 - ((j + 1 : Nat) : Int))) (fun w => Eq.trans (b := .ok (.value (.int .i64 (IntKind.wrap .i64 (((70 - j : Nat) : Int) - 1)))) w) (by kernel_rfl) (by rw [wrap64 (by omega) (by omega)]; congr 3; omega)) ?_
      refine pl_val (want_no rfl) (some 7) rfl (.int .i64 (70 - ((j + 1 : Nat) : Int))) (fun _ => by kernel_rfl) ?_
      refine pl_nil ?_
      refine au_then ?_
      exact ⟨fun k_ => ([.pointer (some ⟨g5, 0, none⟩), .pointer (some ⟨g6, 0, none⟩), undef, undef, undef, undef, undef, undef, .int .i64 (70 - (j : Int)), .bool true, .int .i64 ((70 - j : Nat) : Int), .int .i64 (70 - ((j + 1 : Nat) : Int)), .agg (av 16 (w64 (dg x))), .int .i64 ((70 - j : Nat) : Int), .int .i64 (((70 - j) / 16 : Nat) : Int), .int .i64 ((70 - j : Nat) : Int), .int .i64 (((70 - j) / 16 : Nat) : Int), .pointer (some ⟨g5, (((70 - j) / 16 : Nat)), none⟩), .int .u64 ((dg x) (((70 - j) / 16 : Nat))), .int .i64 ((70 - j : Nat) : Int), .int .i64 (((70 - j) % 16 : Nat) : Int), .int .u64 (((70 - j) % 16 : Nat) : Int), .int .u64 ((2 ^ ((70 - j) % 16) : Nat) : Int), .int .u64 (uo ((dg x) (((70 - j) / 16 : Nat))) ((2 ^ ((70 - j) % 16) : Nat) : Int)), .pointer (some ⟨g5, (((70 - j) / 16 : Nat)), none⟩), .agg (av 16 (w64 (dg Y))), .agg (av 16 (w64 (dg Y))), .agg (av 16 (w64 (dg (Y * Y)))), .bool false, v 37, v 38, v 39, .agg (av 16 (w64 (dg (Y * Y)))), .agg (av 16 (w64 (dg (p * 65536 ^ 8)))), .bool false, .bool true, .agg (av 16 (w64 (dg Y)))] : List Value).getD (k_ - 8) undef, Y, by kernel_rfl, hYb, by rw [show 71 - (j + 1) = 70 - j by omega]; exact hr, M.drop (.cons_cons _ (.cons_cons _ (.cons _ (.cons _ (.slnil)))))⟩
  · intro a u0 hI
    obtain ⟨v, x, rfl, hx, hr, M⟩ := hI
    have hxr : x = rt2 (p * 65536 ^ 8) 71 0 := hr
    refine wp_seq ?_
    refine wp_seq ?_
    refine rg_lit ?_
    refine pl_val (want_no rfl) (some 16) rfl (.int .i64 (70 - (71 : Int))) (fun _ => by kernel_rfl) ?_
    refine pl_val (want_no rfl) (some 17) rfl (.bool false) (fun w => Eq.trans (b := .ok (.value (.bool (decide (0 ≤ 70 - (71 : Int))))) w) (by kernel_rfl) (by rw [decide_eq_false (by omega)])) ?_
    refine pl_nil ?_
    refine au_then ?_
    refine wp_cond_false (by kernel_rfl) ?_
    refine wp_exit ?_
    refine au_then_exit ?_
    refine au_then_exit ?_
    refine au_block_exit ?_
    refine au_then ?_
    refine wp_seq ?_
    refine rg_lit ?_
    refine pl_val (want_no rfl) (some 45) rfl (.pointer (some ⟨g2, 0, none⟩)) (fun _ => by kernel_rfl) ?_
    refine pl_cell M (want_no rfl) (some 46) rfl 40 _ rfl g2 0 (by kernel_rfl) (.int .u64 ((dg x) 0)) (fun _ => by kernel_rfl) (fun w M => M.cell 1 rfl (by decide) rfl) ?_
    refine pl_val (want_no rfl) (some 47) rfl (.pointer (some ⟨g2, 1, none⟩)) (fun _ => by kernel_rfl) ?_
    refine pl_cell M (want_no rfl) (some 48) rfl 40 _ rfl g2 1 (by kernel_rfl) (.int .u64 ((dg x) 1)) (fun _ => by kernel_rfl) (fun w M => M.cell 1 rfl (by decide) rfl) ?_
    refine pl_val (want_no rfl) (some 49) rfl (.int .u64 (sl ((dg x) 1) 16)) (fun _ => by kernel_rfl) ?_
    refine pl_val (want_no rfl) (some 50) rfl (.int .u64 (uo ((dg x) 0) (sl ((dg x) 1) 16))) (fun _ => by kernel_rfl) ?_
    refine pl_val (want_no rfl) (some 51) rfl (.pointer (some ⟨g2, 2, none⟩)) (fun _ => by kernel_rfl) ?_
    refine pl_cell M (want_no rfl) (some 52) rfl 40 _ rfl g2 2 (by kernel_rfl) (.int .u64 ((dg x) 2)) (fun _ => by kernel_rfl) (fun w M => M.cell 1 rfl (by decide) rfl) ?_
    refine pl_val (want_no rfl) (some 53) rfl (.int .u64 (sl ((dg x) 2) 32)) (fun _ => by kernel_rfl) ?_
    refine pl_val (want_no rfl) (some 54) rfl (.int .u64 (uo (uo ((dg x) 0) (sl ((dg x) 1) 16)) (sl ((dg x) 2) 32))) (fun _ => by kernel_rfl) ?_
    refine pl_val (want_no rfl) (some 55) rfl (.pointer (some ⟨g2, 3, none⟩)) (fun _ => by kernel_rfl) ?_
    refine pl_cell M (want_no rfl) (some 56) rfl 40 _ rfl g2 3 (by kernel_rfl) (.int .u64 ((dg x) 3)) (fun _ => by kernel_rfl) (fun w M => M.cell 1 rfl (by decide) rfl) ?_
    refine pl_val (want_no rfl) (some 57) rfl (.int .u64 (sl ((dg x) 3) 48)) (fun _ => by kernel_rfl) ?_
    refine pl_val (want_no rfl) (some 58) rfl (.int .u64 (uo (uo (uo ((dg x) 0) (sl ((dg x) 1) 16)) (sl ((dg x) 2) 32)) (sl ((dg x) 3) 48))) (fun _ => by kernel_rfl) ?_
    refine pl_val (want_no rfl) (some 4) rfl (.int .u64 (uo (uo (uo ((dg x) 0) (sl ((dg x) 1) 16)) (sl ((dg x) 2) 32)) (sl ((dg x) 3) 48))) (fun _ => by kernel_rfl) ?_
    refine pl_nil ?_
    refine au_then ?_
    refine wp_ret ?_
    exact bodyPost_ret (v := .int .u64 (rootW (rt2 (p * 65536 ^ 8) 71 0))) (Eq.trans (b := .ok (.int .u64 (uo (uo (uo ((dg x) 0) (sl ((dg x) 1) 16)) (sl ((dg x) 2) 32)) (sl ((dg x) 3) 48))) _) (results_tmp1 Tryd.results24 _ _ _ (by kernel_rfl)) (by rw [← hxr]; rfl)) (by kernel_rfl) ⟨rfl, below_grown M.old⟩

set_option maxRecDepth 100000 in
set_option maxHeartbeats 4000000 in
theorem c_root3 (p : Nat) (hp : p < 65536) (w : World) (hL : Laid w)  :
    Calls Tryd.prog 24 #[.int .u64 (p : Int), .bool true] w fun r w' => r = .returned (.int .u64 (rootW (rt3 (p * 65536 ^ 12) 71 0))) ∧ Below w.heap.size w w' := by
  go_enter Tryd.func24, Tryd.ntmps24
  have M := Mem.start hL
  refine wp_seq ?_
  refine rg_lit ?_
  refine pl_val (want_no rfl) (some 4) rfl (.int .u64 0) (fun _ => by kernel_rfl) ?_
  refine pl_nil ?_
  refine au_then ?_
  refine wp_seq ?_
  refine rg_lit ?_
  refine pl_new M (want_no rfl) (some 5) rfl (.cells (av 16 (w64 (fun _ => 0))) 79) (fun _ => by kernel_rfl) ?_
  intro g1 u1 M
  replace M : Mem ⟨w, []⟩ [⟨g1, .cells (av 16 (w64 (fun _ => 0))) 79⟩] u1 := M
  refine pl_nil ?_
  refine au_then ?_
  refine wp_seq ?_
  refine rg_lit ?_
  refine pl_val (want_no rfl) (some 10) rfl (.int .u64 (p : Int)) (fun _ => by kernel_rfl) ?_
  refine pl_val (want_no rfl) (some 11) rfl (.pointer (some ⟨g1, 8, none⟩)) (fun _ => by kernel_rfl) ?_
  refine pl_put1 M (want_no rfl) rfl 40 _ _ rfl 0 g1 8 (by kernel_rfl) 16 79 (w64 (fun _ => 0)) rfl (.int .u64 (p : Int)) (w64 (upd (fun _ => 0) 8 (p : Int))) (by kernel_rfl) inz40 (by decide) rfl rfl (fun j _ => put_w64 _ _ _ j) ?_
  intro u2 M
  replace M : Mem ⟨w, []⟩ [⟨g1, .cells (av 16 (w64 (upd (fun _ => 0) 8 (p : Int)))) 79⟩] u2 := M
  refine pl_nil ?_
  refine au_then ?_
  refine wp_seq ?_
  refine wp_seq ?_
  refine rg_lit ?_
  refine pl_val (want_no rfl) (some 12) rfl (.bool true) (fun _ => by kernel_rfl) ?_
  refine pl_nil ?_
  refine au_then ?_
  refine wp_cond_true (by kernel_rfl) ?_
  refine wp_seq ?_
  refine rg_lit ?_
  refine pl_val (want_no rfl) (some 13) rfl (.pointer (some ⟨g1, 8, none⟩)) (fun _ => by kernel_rfl) ?_
  refine pl_put1 M (want_no rfl) rfl 40 _ _ rfl 0 g1 8 (by kernel_rfl) 16 79 (w64 (upd (fun _ => 0) 8 (p : Int))) rfl (.int .u64 0) (w64 (upd (upd (fun _ => 0) 8 (p : Int)) 8 0)) (by kernel_rfl) inz40 (by decide) rfl rfl (fun j _ => put_w64 _ _ _ j) ?_
  intro u3 M
  replace M : Mem ⟨w, []⟩ [⟨g1, .cells (av 16 (w64 (upd (upd (fun _ => 0) 8 (p : Int)) 8 0))) 79⟩] u3 := M
  refine pl_nil ?_
  refine au_then ?_
  refine rg_lit ?_
  refine pl_val (want_no rfl) (some 14) rfl (.int .u64 (p : Int)) (fun _ => by kernel_rfl) ?_
  refine pl_val (want_no rfl) (some 15) rfl (.pointer (some ⟨g1, 12, none⟩)) (fun _ => by kernel_rfl) ?_
  refine pl_put1 M (want_no rfl) rfl 40 _ _ rfl 0 g1 12 (by kernel_rfl) 16 79 (w64 (upd (upd (fun _ => 0) 8 (p : Int)) 8 0)) rfl (.int .u64 (p : Int)) (w64 (upd (upd (upd (fun _ => 0) 8 (p : Int)) 8 0) 12 (p : Int))) (by kernel_rfl) inz40 (by decide) rfl rfl (fun j _ => put_w64 _ _ _ j) ?_
  intro u4 M
  replace M : Mem ⟨w, []⟩ [⟨g1, .cells (av 16 (w64 (upd (upd (upd (fun _ => 0) 8 (p : Int)) 8 0) 12 (p : Int)))) 79⟩] u4 := M
  refine pl_nil ?_
  refine au_then ?_
  refine wp_seq ?_
  refine rg_lit ?_
  refine pl_new M (want_no rfl) (some 6) rfl (.cells (av 16 (w64 (fun _ => 0))) 79) (fun _ => by kernel_rfl) ?_
  intro g2 u5 M
  replace M : Mem ⟨w, []⟩ [⟨g1, .cells (av 16 (w64 (upd (upd (upd (fun _ => 0) 8 (p : Int)) 8 0) 12 (p : Int)))) 79⟩, ⟨g2, .cells (av 16 (w64 (fun _ => 0))) 79⟩] u5 := M
  refine pl_nil ?_
  refine au_then ?_
  refine wp_seq ?_
  refine wp_seq ?_
  refine rg_lit ?_
  refine pl_val (want_no rfl) (some 7) rfl (.int .i64 70) (fun _ => by kernel_rfl) ?_
  refine pl_nil ?_
  refine au_then ?_
  refine wp_block ?_
  rw [aim3 p hp, zero16] at M
  replace M : Mem ⟨w, []⟩ [⟨g1, .cells (av 16 (w64 (dg (p * 65536 ^ 12)))) 79⟩, ⟨g2, .cells (av 16 (w64 (dg 0))) 79⟩] u5 := M
  refine au_loop (fun j a w' => ∃ (v : Nat → Value) (x : Nat), a = ⟨#[.int .u64 (p : Int), .bool true, undef, undef, .int .u64 0, .pointer (some ⟨g1, 0, none⟩), .pointer (some ⟨g2, 0, none⟩), .int .i64 (70 - (j : Int)), v 8, v 9, .int .u64 (p : Int), .pointer (some ⟨g1, 8, none⟩), .bool true, .pointer (some ⟨g1, 8, none⟩), .int .u64 (p : Int), .pointer (some ⟨g1, 12, none⟩), v 16, v 17, v 18, v 19, v 20, v 21, v 22, v 23, v 24, v 25, v 26, v 27, v 28, v 29, v 30, v 31, v 32, v 33, v 34, v 35, v 36, v 37, v 38, v 39, v 40, v 41, v 42, v 43, v 44, undef, undef, undef, undef, undef, undef, undef, undef, undef, undef, undef, undef, undef, undef], []⟩ ∧ x < 2 ^ 71 ∧ rt3 (p * 65536 ^ 12) (71 - j) x = rt3 (p * 65536 ^ 12) 71 0 ∧ Mem ⟨w, []⟩ [⟨g1, .cells (av 16 (w64 (dg (p * 65536 ^ 12)))) 79⟩, ⟨g2, .cells (av 16 (w64 (dg x))) 79⟩] w') 71 ⟨fun k_ => ([undef, undef, undef, undef, undef, undef, undef, undef, undef, undef, undef, undef, undef, undef, undef, undef, undef, undef, undef, undef, undef, undef, undef, undef, undef, undef, undef, undef, undef, undef, undef, undef, undef, undef, undef, undef, undef] : List Value).getD (k_ - 8) undef, 0, by kernel_rfl, by decide, rfl, M⟩ ?_ ?_
  · intro j a u0 hj hI
    obtain ⟨v, x, rfl, hx, hr, M⟩ := hI
    obtain ⟨Y, hY⟩ : ∃ Y, Y = x ||| 2 ^ (70 - j) := ⟨_, rfl⟩
    have hYb : Y < 2 ^ 71 := by rw [hY]; exact Nat.or_lt_two_pow hx (Nat.pow_lt_pow_right (by decide) (by omega))
    rw [show 71 - j = 70 - j + 1 by omega] at hr
    rw [rt3, ← hY] at hr
    by_cases hgt : (p * 65536 ^ 12) < (Y * Y * Y)
    · skip
      rw [if_pos hgt] at hr
      refine wp_seq ?_
      refine wp_seq ?_
      refine rg_lit ?_
      refine pl_val (want_no rfl) (some 16) rfl (.int .i64 (70 - (j : Int))) (fun _ => by kernel_rfl) ?_
      refine pl_val (want_no rfl) (some 17) rfl (.bool true) (fun w => Eq.trans (b := .ok (.value (.bool (decide (0 ≤ 70 - (j : Int))))) w) (by kernel_rfl) (by rw [decide_eq_true (by omega)])) ?_
      refine pl_nil ?_
      refine au_then ?_
      refine wp_cond_true (by kernel_rfl) ?_
      refine wp_skip ?_
      refine au_then ?_
      refine wp_seq ?_
      refine wp_block ?_
      refine wp_seq ?_
      refine rg_lit ?_
      refine pl_load M (want_no rfl) (some 20) rfl 79 _ rfl 1 g2 0 (by kernel_rfl) 16 79 (w64 (dg x)) rfl 16 (w64 (dg x)) (fun j _ => by rw [Nat.zero_add]) (by decide) _ Tryd.underlying79 rfl inz79 ?_
      refine pl_new M (want_no rfl) (some 8) rfl (.cells (av 16 (w64 (fun _ => 0))) 79) (fun _ => by kernel_rfl) ?_
      intro g3 u6 M
      replace M : Mem ⟨w, []⟩ [⟨g1, .cells (av 16 (w64 (dg (p * 65536 ^ 12)))) 79⟩, ⟨g2, .cells (av 16 (w64 (dg x))) 79⟩, ⟨g3, .cells (av 16 (w64 (fun _ => 0))) 79⟩] u6 := M
      refine pl_put M (want_no rfl) rfl 79 _ _ rfl 2 g3 0 (by kernel_rfl) 16 79 (w64 (fun _ => 0)) rfl 16 (w64 (dg x)) (w64 (dg x)) (by kernel_rfl) inz79 (by decide) (fun _ _ => rfl) (fun j hj => by rw [if_pos (by omega), Nat.sub_zero]) ?_
      intro u7 M
      replace M : Mem ⟨w, []⟩ [⟨g1, .cells (av 16 (w64 (dg (p * 65536 ^ 12)))) 79⟩, ⟨g2, .cells (av 16 (w64 (dg x))) 79⟩, ⟨g3, .cells (av 16 (w64 (dg x))) 79⟩] u7 := M
      refine pl_nil ?_
      refine au_then ?_
      refine wp_seq ?_
      refine rg_lit ?_
      refine pl_val (want_no rfl) (some 21) rfl (.int .i64 ((70 - j : Nat) : Int)) (fun w => Eq.trans (b := .ok (.value (.int .i64 (70 - (j : Int)))) w) (by kernel_rfl) (by congr 3; omega)) ?_
      refine pl_val (want_no rfl) (some 22) rfl (.int .i64 (((70 - j) / 16 : Nat) : Int)) (fun w => Eq.trans (b := .ok (.value (.int .i64 (IntKind.wrap .i64 (((70 - j : Nat) : Int).tdiv 16)))) w) (by kernel_rfl) (by rw [quo16 (70 - j) (by omega)])) ?_
      refine pl_val (want_no rfl) (some 23) rfl (.int .i64 ((70 - j : Nat) : Int)) (fun w => Eq.trans (b := .ok (.value (.int .i64 (70 - (j : Int)))) w) (by kernel_rfl) (by congr 3; omega)) ?_
      refine pl_val (want_no rfl) (some 24) rfl (.int .i64 (((70 - j) / 16 : Nat) : Int)) (fun w => Eq.trans (b := .ok (.value (.int .i64 (IntKind.wrap .i64 (((70 - j : Nat) : Int).tdiv 16)))) w) (by kernel_rfl) (by rw [quo16 (70 - j) (by omega)])) ?_
      refine pl_val (want_no rfl) (some 25) rfl (.pointer (some ⟨g3, (((70 - j) / 16 : Nat)), none⟩)) (run_ix1 79 16 40 Tryd.underlying79 inz40 _ _ rfl g3 (by kernel_rfl) .i64 (((70 - j) / 16 : Nat)) (by kernel_rfl) (by omega)) ?_
      refine pl_cell M (want_no rfl) (some 26) rfl 40 _ rfl g3 (((70 - j) / 16 : Nat)) (by kernel_rfl) (.int .u64 ((dg x) (((70 - j) / 16 : Nat)))) (fun _ => by kernel_rfl) (fun w M => M.cell 2 rfl (by omega) rfl) ?_
      refine pl_val (want_no rfl) (some 27) rfl (.int .i64 ((70 - j : Nat) : Int)) (fun w => Eq.trans (b := .ok (.value (.int .i64 (70 - (j : Int)))) w) (by kernel_rfl) (by congr 3; omega)) ?_
      refine pl_val (want_no rfl) (some 28) rfl (.int .i64 (((70 - j) % 16 : Nat) : Int)) (fun w => Eq.trans (b := .ok (.value (.int .i64 (Int.tmod ((70 - j : Nat) : Int) 16))) w) (by kernel_rfl) (by rw [rem16])) ?_
      refine pl_val (want_no rfl) (some 29) rfl (.int .u64 (((70 - j) % 16 : Nat) : Int)) (fun w => Eq.trans (b := .ok (.value (.int .u64 (cv .u64 (((70 - j) % 16 : Nat) : Int)))) w) (by kernel_rfl) (by rw [cv_u64 _ (by omega)])) ?_
      refine pl_val (want_no rfl) (some 30) rfl (.int .u64 ((2 ^ ((70 - j) % 16) : Nat) : Int)) (run_shl1 40 43 _ _ rfl .u64 ((70 - j) % 16) (by kernel_rfl) (by kernel_rfl) (by omega)) ?_
      refine pl_val (want_no rfl) (some 31) rfl (.int .u64 (uo ((dg x) (((70 - j) / 16 : Nat))) ((2 ^ ((70 - j) % 16) : Nat) : Int))) (fun _ => by kernel_rfl) ?_
      refine pl_val (want_no rfl) (some 32) rfl (.pointer (some ⟨g3, (((70 - j) / 16 : Nat)), none⟩)) (run_ix1 79 16 40 Tryd.underlying79 inz40 _ _ rfl g3 (by kernel_rfl) .i64 (((70 - j) / 16 : Nat)) (by kernel_rfl) (by omega)) ?_
      refine pl_put1 M (want_no rfl) rfl 40 _ _ rfl 2 g3 (((70 - j) / 16 : Nat)) (by kernel_rfl) 16 79 (w64 (dg x)) rfl (.int .u64 (uo ((dg x) (((70 - j) / 16 : Nat))) ((2 ^ ((70 - j) % 16) : Nat) : Int))) (w64 (upd (dg x) (((70 - j) / 16 : Nat)) (uo ((dg x) (((70 - j) / 16 : Nat))) ((2 ^ ((70 - j) % 16) : Nat) : Int)))) (by kernel_rfl) inz40 (by omega) rfl rfl (fun j _ => put_w64 _ _ _ j) ?_
      intro u8 M
      replace M : Mem ⟨w, []⟩ [⟨g1, .cells (av 16 (w64 (dg (p * 65536 ^ 12)))) 79⟩, ⟨g2, .cells (av 16 (w64 (dg x))) 79⟩, ⟨g3, .cells (av 16 (w64 (upd (dg x) (((70 - j) / 16 : Nat)) (uo ((dg x) (((70 - j) / 16 : Nat))) ((2 ^ ((70 - j) % 16) : Nat) : Int))))) 79⟩] u8 := M
      rw [or_av x (70 - j)] at M
      rw [← hY] at M
      replace M : Mem ⟨w, []⟩ [⟨g1, .cells (av 16 (w64 (dg (p * 65536 ^ 12)))) 79⟩, ⟨g2, .cells (av 16 (w64 (dg x))) 79⟩, ⟨g3, .cells (av 16 (w64 (dg Y))) 79⟩] u8 := M
      refine pl_nil ?_
      refine au_then ?_
      refine wp_seq ?_
      refine rg_lit ?_
      refine pl_load M (want_no rfl) (some 33) rfl 79 _ rfl 2 g3 0 (by kernel_rfl) 16 79 (w64 (dg Y)) rfl 16 (w64 (dg Y)) (fun j _ => by rw [Nat.zero_add]) (by decide) _ Tryd.underlying79 rfl inz79 ?_
      refine pl_load M (want_no rfl) (some 34) rfl 79 _ rfl 2 g3 0 (by kernel_rfl) 16 79 (w64 (dg Y)) rfl 16 (w64 (dg Y)) (fun j _ => by rw [Nat.zero_add]) (by decide) _ Tryd.underlying79 rfl inz79 ?_
      refine pl_call M (want_no rfl) (some 35) rfl 37 #[.agg (av 16 (w64 (dg Y))), .agg (av 16 (w64 (dg Y)))] (.agg (av 16 (w64 (dg (Y * Y))))) (fun _ => by kernel_rfl) (fun w M => c_times Y Y w M.laid) ?_
      intro u9 M
      refine pl_new M (want_no rfl) (some 9) rfl (.cells (av 16 (w64 (fun _ => 0))) 79) (fun _ => by kernel_rfl) ?_
      intro g4 u10 M
      replace M : Mem ⟨w, []⟩ [⟨g1, .cells (av 16 (w64 (dg (p * 65536 ^ 12)))) 79⟩, ⟨g2, .cells (av 16 (w64 (dg x))) 79⟩, ⟨g3, .cells (av 16 (w64 (dg Y))) 79⟩, ⟨g4, .cells (av 16 (w64 (fun _ => 0))) 79⟩] u10 := M
      refine pl_put M (want_no rfl) rfl 79 _ _ rfl 3 g4 0 (by kernel_rfl) 16 79 (w64 (fun _ => 0)) rfl 16 (w64 (dg (Y * Y))) (w64 (dg (Y * Y))) (by kernel_rfl) inz79 (by decide) (fun _ _ => rfl) (fun j hj => by rw [if_pos (by omega), Nat.sub_zero]) ?_
      intro u11 M
      replace M : Mem ⟨w, []⟩ [⟨g1, .cells (av 16 (w64 (dg (p * 65536 ^ 12)))) 79⟩, ⟨g2, .cells (av 16 (w64 (dg x))) 79⟩, ⟨g3, .cells (av 16 (w64 (dg Y))) 79⟩, ⟨g4, .cells (av 16 (w64 (dg (Y * Y)))) 79⟩] u11 := M
      refine pl_nil ?_
      refine au_then ?_
      refine wp_seq ?_
      refine wp_seq ?_
      refine rg_lit ?_
      refine pl_val (want_no rfl) (some 36) rfl (.bool true) (fun _ => by kernel_rfl) ?_
      refine pl_nil ?_
      refine au_then ?_
      refine wp_cond_true (by kernel_rfl) ?_
      refine rg_lit ?_
      refine pl_load M (want_no rfl) (some 37) rfl 79 _ rfl 3 g4 0 (by kernel_rfl) 16 79 (w64 (dg (Y * Y))) rfl 16 (w64 (dg (Y * Y))) (fun j _ => by rw [Nat.zero_add]) (by decide) _ Tryd.underlying79 rfl inz79 ?_
      refine pl_load M (want_no rfl) (some 38) rfl 79 _ rfl 2 g3 0 (by kernel_rfl) 16 79 (w64 (dg Y)) rfl 16 (w64 (dg Y)) (fun j _ => by rw [Nat.zero_add]) (by decide) _ Tryd.underlying79 rfl inz79 ?_
      refine pl_call M (want_no rfl) (some 39) rfl 37 #[.agg (av 16 (w64 (dg (Y * Y)))), .agg (av 16 (w64 (dg Y)))] (.agg (av 16 (w64 (dg ((Y * Y) * Y))))) (fun _ => by kernel_rfl) (fun w M => c_times (Y * Y) Y w M.laid) ?_
      intro u12 M
      refine pl_put M (want_no rfl) rfl 79 _ _ rfl 3 g4 0 (by kernel_rfl) 16 79 (w64 (dg (Y * Y))) rfl 16 (w64 (dg ((Y * Y) * Y))) (w64 (dg ((Y * Y) * Y))) (by kernel_rfl) inz79 (by decide) (fun _ _ => rfl) (fun j hj => by rw [if_pos (by omega), Nat.sub_zero]) ?_
      intro u13 M
      replace M : Mem ⟨w, []⟩ [⟨g1, .cells (av 16 (w64 (dg (p * 65536 ^ 12)))) 79⟩, ⟨g2, .cells (av 16 (w64 (dg x))) 79⟩, ⟨g3, .cells (av 16 (w64 (dg Y))) 79⟩, ⟨g4, .cells (av 16 (w64 (dg ((Y * Y) * Y)))) 79⟩] u13 := M
      refine pl_nil ?_
      refine au_then ?_
      refine wp_seq ?_
      refine rg_lit ?_
      refine pl_load M (want_no rfl) (some 40) rfl 79 _ rfl 3 g4 0 (by kernel_rfl) 16 79 (w64 (dg ((Y * Y) * Y))) rfl 16 (w64 (dg ((Y * Y) * Y))) (fun j _ => by rw [Nat.zero_add]) (by decide) _ Tryd.underlying79 rfl inz79 ?_
      refine pl_load M (want_no rfl) (some 41) rfl 79 _ rfl 0 g1 0 (by kernel_rfl) 16 79 (w64 (dg (p * 65536 ^ 12))) rfl 16 (w64 (dg (p * 65536 ^ 12))) (fun j _ => by rw [Nat.zero_add]) (by decide) _ Tryd.underlying79 rfl inz79 ?_
      refine pl_call M (want_no rfl) (some 42) rfl 38 #[.agg (av 16 (w64 (dg ((Y * Y) * Y)))), .agg (av 16 (w64 (dg (p * 65536 ^ 12))))] (.bool true) (fun _ => by kernel_rfl) (fun w M => (by have h := c_above (Y * Y * Y) (p * 65536 ^ 12) (sq_lt hYb).2 (by omega) w M.laid; rw [decide_eq_true hgt] at h; exact h)) ?_
      intro u14 M
      refine pl_val (want_no rfl) (some 43) rfl (.bool false) (fun _ => by kernel_rfl) ?_
      refine pl_nil ?_
      refine au_then ?_
      refine wp_cond_false (by kernel_rfl) ?_
      refine wp_skip ?_
      refine au_block ?_
      refine au_then ?_
      refine rg_lit ?_
      refine pl_val (want_no rfl) (some 18) rfl (.int .i64 ((70 - j : Nat) : Int)) (fun w => Eq.trans (b := .ok (.value (.int .i64 (70 - (j : Int)))) w) (by kernel_rfl) (by congr 3; omega)) ?_
      refine pl_val (want_no rfl) (some 19) rfl (.int .i64 (70 - ((j + 1 : Nat) : Int))) (fun w => Eq.trans (b := .ok (.value (.int .i64 (IntKind.wrap .i64 (((70 - j : Nat) : Int) - 1)))) w) (by kernel_rfl) (by rw [wrap64 (by omega) (by omega)]; congr 3; omega)) ?_
      refine pl_val (want_no rfl) (some 7) rfl (.int .i64 (70 - ((j + 1 : Nat) : Int))) (fun _ => by kernel_rfl) ?_
      refine pl_nil ?_
      refine au_then ?_
      exact ⟨fun k_ => ([.pointer (some ⟨g3, 0, none⟩), .pointer (some ⟨g4, 0, none⟩), undef, undef, undef, undef, undef, undef, .int .i64 (70 - (j : Int)), .bool true, .int .i64 ((70 - j : Nat) : Int), .int .i64 (70 - ((j + 1 : Nat) : Int)), .agg (av 16 (w64 (dg x))), .int .i64 ((70 - j : Nat) : Int), .int .i64 (((70 - j) / 16 : Nat) : Int), .int .i64 ((70 - j : Nat) : Int), .int .i64 (((70 - j) / 16 : Nat) : Int), .pointer (some ⟨g3, (((70 - j) / 16 : Nat)), none⟩), .int .u64 ((dg x) (((70 - j) / 16 : Nat))), .int .i64 ((70 - j : Nat) : Int), .int .i64 (((70 - j) % 16 : Nat) : Int), .int .u64 (((70 - j) % 16 : Nat) : Int), .int .u64 ((2 ^ ((70 - j) % 16) : Nat) : Int), .int .u64 (uo ((dg x) (((70 - j) / 16 : Nat))) ((2 ^ ((70 - j) % 16) : Nat) : Int)), .pointer (some ⟨g3, (((70 - j) / 16 : Nat)), none⟩), .agg (av 16 (w64 (dg Y))), .agg (av 16 (w64 (dg Y))), .agg (av 16 (w64 (dg (Y * Y)))), .bool true, .agg (av 16 (w64 (dg (Y * Y)))), .agg (av 16 (w64 (dg Y))), .agg (av 16 (w64 (dg ((Y * Y) * Y)))), .agg (av 16 (w64 (dg ((Y * Y) * Y)))), .agg (av 16 (w64 (dg (p * 65536 ^ 12)))), .bool true, .bool false, v 44] : List Value).getD (k_ - 8) undef, x, by kernel_rfl, hx, by rw [show 71 - (j + 1) = 70 - j by omega]; exact hr, M.drop (.cons_cons _ (.cons_cons _ (.cons _ (.cons _ (.slnil)))))⟩
    · skip
      rw [if_neg hgt] at hr
      refine wp_seq ?_
      refine wp_seq ?_
      refine rg_lit ?_
      refine pl_val (want_no rfl) (some 16) rfl (.int .i64 (70 - (j : Int))) (fun _ => by kernel_rfl) ?_
      refine pl_val (want_no rfl) (some 17) rfl (.bool true) (fun w => Eq.trans (b := .ok (.value (.bool (decide (0 ≤ 70 - (j : Int))))) w) (by kernel_rfl) (by rw [decide_eq_true (by omega)])) ?_
      refine pl_nil ?_
      refine au_then ?_
      refine wp_cond_true (by kernel_rfl) ?_
      refine wp_skip ?_
      refine au_then ?_
      refine wp_seq ?_
      refine wp_block ?_
      refine wp_seq ?_
      refine rg_lit ?_
      refine pl_load M (want_no rfl) (some 20) rfl 79 _ rfl 1 g2 0 (by kernel_rfl) 16 79 (w64 (dg x)) rfl 16 (w64 (dg x)) (fun j _ => by rw [Nat.zero_add]) (by decide) _ Tryd.underlying79 rfl inz79 ?_
      refine pl_new M (want_no rfl) (some 8) rfl (.cells (av 16 (w64 (fun _ => 0))) 79) (fun _ => by kernel_rfl) ?_
      intro g5 u15 M
      replace M : Mem ⟨w, []⟩ [⟨g1, .cells (av 16 (w64 (dg (p * 65536 ^ 12)))) 79⟩, ⟨g2, .cells (av 16 (w64 (dg x))) 79⟩, ⟨g5, .cells (av 16 (w64 (fun _ => 0))) 79⟩] u15 := M
      refine pl_put M (want_no rfl) rfl 79 _ _ rfl 2 g5 0 (by kernel_rfl) 16 79 (w64 (fun _ => 0)) rfl 16 (w64 (dg x)) (w64 (dg x)) (by kernel_rfl) inz79 (by decide) (fun _ _ => rfl) (fun j hj => by rw [if_pos (by omega), Nat.sub_zero]) ?_
      intro u16 M
      replace M : Mem ⟨w, []⟩ [⟨g1, .cells (av 16 (w64 (dg (p * 65536 ^ 12)))) 79⟩, ⟨g2, .cells (av 16 (w64 (dg x))) 79⟩, ⟨g5, .cells (av 16 (w64 (dg x))) 79⟩] u16 := M
      refine pl_nil ?_
      refine au_then ?_
      refine wp_seq ?_
      refine rg_lit ?_
      refine pl_val (want_no rfl) (some 21) rfl (.int .i64 ((70 - j : Nat) : Int)) (fun w => Eq.trans (b := .ok (.value (.int .i64 (70 - (j : Int)))) w) (by kernel_rfl) (by congr 3; omega)) ?_
      refine pl_val (want_no rfl) (some 22) rfl (.int .i64 (((70 - j) / 16 : Nat) : Int)) (fun w => Eq.trans (b := .ok (.value (.int .i64 (IntKind.wrap .i64 (((70 - j : Nat) : Int).tdiv 16)))) w) (by kernel_rfl) (by rw [quo16 (70 - j) (by omega)])) ?_
      refine pl_val (want_no rfl) (some 23) rfl (.int .i64 ((70 - j : Nat) : Int)) (fun w => Eq.trans (b := .ok (.value (.int .i64 (70 - (j : Int)))) w) (by kernel_rfl) (by congr 3; omega)) ?_
      refine pl_val (want_no rfl) (some 24) rfl (.int .i64 (((70 - j) / 16 : Nat) : Int)) (fun w => Eq.trans (b := .ok (.value (.int .i64 (IntKind.wrap .i64 (((70 - j : Nat) : Int).tdiv 16)))) w) (by kernel_rfl) (by rw [quo16 (70 - j) (by omega)])) ?_
      refine pl_val (want_no rfl) (some 25) rfl (.pointer (some ⟨g5, (((70 - j) / 16 : Nat)), none⟩)) (run_ix1 79 16 40 Tryd.underlying79 inz40 _ _ rfl g5 (by kernel_rfl) .i64 (((70 - j) / 16 : Nat)) (by kernel_rfl) (by omega)) ?_
      refine pl_cell M (want_no rfl) (some 26) rfl 40 _ rfl g5 (((70 - j) / 16 : Nat)) (by kernel_rfl) (.int .u64 ((dg x) (((70 - j) / 16 : Nat)))) (fun _ => by kernel_rfl) (fun w M => M.cell 2 rfl (by omega) rfl) ?_
      refine pl_val (want_no rfl) (some 27) rfl (.int .i64 ((70 - j : Nat) : Int)) (fun w => Eq.trans (b := .ok (.value (.int .i64 (70 - (j : Int)))) w) (by kernel_rfl) (by congr 3; omega)) ?_
      refine pl_val (want_no rfl) (some 28) rfl (.int .i64 (((70 - j) % 16 : Nat) : Int)) (fun w => Eq.trans (b := .ok (.value (.int .i64 (Int.tmod ((70 - j : Nat) : Int) 16))) w) (by kernel_rfl) (by rw [rem16])) ?_
      refine pl_val (want_no rfl) (some 29) rfl (.int .u64 (((70 - j) % 16 : Nat) : Int)) (fun w => Eq.trans (b := .ok (.value (.int .u64 (cv .u64 (((70 - j) % 16 : Nat) : Int)))) w) (by kernel_rfl) (by rw [cv_u64 _ (by omega)])) ?_
      refine pl_val (want_no rfl) (some 30) rfl (.int .u64 ((2 ^ ((70 - j) % 16) : Nat) : Int)) (run_shl1 40 43 _ _ rfl .u64 ((70 - j) % 16) (by kernel_rfl) (by kernel_rfl) (by omega)) ?_
      refine pl_val (want_no rfl) (some 31) rfl (.int .u64 (uo ((dg x) (((70 - j) / 16 : Nat))) ((2 ^ ((70 - j) % 16) : Nat) : Int))) (fun _ => by kernel_rfl) ?_
      refine pl_val (want_no rfl) (some 32) rfl (.pointer (some ⟨g5, (((70 - j) / 16 : Nat)), none⟩)) (run_ix1 79 16 40 Tryd.underlying79 inz40 _ _ rfl g5 (by kernel_rfl) .i64 (((70 - j) / 16 : Nat)) (by kernel_rfl) (by omega)) ?_
      refine pl_put1 M (want_no rfl) rfl 40 _ _ rfl 2 g5 (((70 - j) / 16 : Nat)) (by kernel_rfl) 16 79 (w64 (dg x)) rfl (.int .u64 (uo ((dg x) (((70 - j) / 16 : Nat))) ((2 ^ ((70 - j) % 16) : Nat) : Int))) (w64 (upd (dg x) (((70 - j) / 16 : Nat)) (uo ((dg x) (((70 - j) / 16 : Nat))) ((2 ^ ((70 - j) % 16) : Nat) : Int)))) (by kernel_rfl) inz40 (by omega) rfl rfl (fun j _ => put_w64 _ _ _ j) ?_
      intro u17 M
      replace M : Mem ⟨w, []⟩ [⟨g1, .cells (av 16 (w64 (dg (p * 65536 ^ 12)))) 79⟩, ⟨g2, .cells (av 16 (w64 (dg x))) 79⟩, ⟨g5, .cells (av 16 (w64 (upd (dg x) (((70 - j) / 16 : Nat)) (uo ((dg x) (((70 - j) / 16 : Nat))) ((2 ^ ((70 - j) % 16) : Nat) : Int))))) 79⟩] u17 := M
      rw [or_av x (70 - j)] at M
      rw [← hY] at M
      replace M : Mem ⟨w, []⟩ [⟨g1, .cells (av 16 (w64 (dg (p * 65536 ^ 12)))) 79⟩, ⟨g2, .cells (av 16 (w64 (dg x))) 79⟩, ⟨g5, .cells (av 16 (w64 (dg Y))) 79⟩] u17 := M
      refine pl_nil ?_
      refine au_then ?_
      refine wp_seq ?_
      refine rg_lit ?_
      refine pl_load M (want_no rfl) (some 33) rfl 79 _ rfl 2 g5 0 (by kernel_rfl) 16 79 (w64 (dg Y)) rfl 16 (w64 (dg Y)) (fun j _ => by rw [Nat.zero_add]) (by decide) _ Tryd.underlying79 rfl inz79 ?_
      refine pl_load M (want_no rfl) (some 34) rfl 79 _ rfl 2 g5 0 (by kernel_rfl) 16 79 (w64 (dg Y)) rfl 16 (w64 (dg Y)) (fun j _ => by rw [Nat.zero_add]) (by decide) _ Tryd.underlying79 rfl inz79 ?_
      refine pl_call M (want_no rfl) (some 35) rfl 37 #[.agg (av 16 (w64 (dg Y))), .agg (av 16 (w64 (dg Y)))] (.agg (av 16 (w64 (dg (Y * Y))))) (fun _ => by kernel_rfl) (fun w M => c_times Y Y w M.laid) ?_
      intro u18 M
      refine pl_new M (want_no rfl) (some 9) rfl (.cells (av 16 (w64 (fun _ => 0))) 79) (fun _ => by kernel_rfl) ?_
      intro g6 u19 M
      replace M : Mem ⟨w, []⟩ [⟨g1, .cells (av 16 (w64 (dg (p * 65536 ^ 12)))) 79⟩, ⟨g2, .cells (av 16 (w64 (dg x))) 79⟩, ⟨g5, .cells (av 16 (w64 (dg Y))) 79⟩, ⟨g6, .cells (av 16 (w64 (fun _ => 0))) 79⟩] u19 := M
      refine pl_put M (want_no rfl) rfl 79 _ _ rfl 3 g6 0 (by kernel_rfl) 16 79 (w64 (fun _ => 0)) rfl 16 (w64 (dg (Y * Y))) (w64 (dg (Y * Y))) (by kernel_rfl) inz79 (by decide) (fun _ _ => rfl) (fun j hj => by rw [if_pos (by omega), Nat.sub_zero]) ?_
      intro u20 M
      replace M : Mem ⟨w, []⟩ [⟨g1, .cells (av 16 (w64 (dg (p * 65536 ^ 12)))) 79⟩, ⟨g2, .cells (av 16 (w64 (dg x))) 79⟩, ⟨g5, .cells (av 16 (w64 (dg Y))) 79⟩, ⟨g6, .cells (av 16 (w64 (dg (Y * Y)))) 79⟩] u20 := M
      refine pl_nil ?_
      refine au_then ?_
      refine wp_seq ?_
      refine wp_seq ?_
      refine rg_lit ?_
      refine pl_val (want_no rfl) (some 36) rfl (.bool true) (fun _ => by kernel_rfl) ?_
      refine pl_nil ?_
      refine au_then ?_
      refine wp_cond_true (by kernel_rfl) ?_
      refine rg_lit ?_
      refine pl_load M (want_no rfl) (some 37) rfl 79 _ rfl 3 g6 0 (by kernel_rfl) 16 79 (w64 (dg (Y * Y))) rfl 16 (w64 (dg (Y * Y))) (fun j _ => by rw [Nat.zero_add]) (by decide) _ Tryd.underlying79 rfl inz79 ?_
      refine pl_load M (want_no rfl) (some 38) rfl 79 _ rfl 2 g5 0 (by kernel_rfl) 16 79 (w64 (dg Y)) rfl 16 (w64 (dg Y)) (fun j _ => by rw [Nat.zero_add]) (by decide) _ Tryd.underlying79 rfl inz79 ?_
      refine pl_call M (want_no rfl) (some 39) rfl 37 #[.agg (av 16 (w64 (dg (Y * Y)))), .agg (av 16 (w64 (dg Y)))] (.agg (av 16 (w64 (dg ((Y * Y) * Y))))) (fun _ => by kernel_rfl) (fun w M => c_times (Y * Y) Y w M.laid) ?_
      intro u21 M
      refine pl_put M (want_no rfl) rfl 79 _ _ rfl 3 g6 0 (by kernel_rfl) 16 79 (w64 (dg (Y * Y))) rfl 16 (w64 (dg ((Y * Y) * Y))) (w64 (dg ((Y * Y) * Y))) (by kernel_rfl) inz79 (by decide) (fun _ _ => rfl) (fun j hj => by rw [if_pos (by omega), Nat.sub_zero]) ?_
      intro u22 M
      replace M : Mem ⟨w, []⟩ [⟨g1, .cells (av 16 (w64 (dg (p * 65536 ^ 12)))) 79⟩, ⟨g2, .cells (av 16 (w64 (dg x))) 79⟩, ⟨g5, .cells (av 16 (w64 (dg Y))) 79⟩, ⟨g6, .cells (av 16 (w64 (dg ((Y * Y) * Y)))) 79⟩] u22 := M
      refine pl_nil ?_
      refine au_then ?_
      refine wp_seq ?_
      refine rg_lit ?_
      refine pl_load M (want_no rfl) (some 40) rfl 79 _ rfl 3 g6 0 (by kernel_rfl) 16 79 (w64 (dg ((Y * Y) * Y))) rfl 16 (w64 (dg ((Y * Y) * Y))) (fun j _ => by rw [Nat.zero_add]) (by decide) _ Tryd.underlying79 rfl inz79 ?_
      refine pl_load M (want_no rfl) (some 41) rfl 79 _ rfl 0 g1 0 (by kernel_rfl) 16 79 (w64 (dg (p * 65536 ^ 12))) rfl 16 (w64 (dg (p * 65536 ^ 12))) (fun j _ => by rw [Nat.zero_add]) (by decide) _ Tryd.underlying79 rfl inz79 ?_
      refine pl_call M (want_no rfl) (some 42) rfl 38 #[.agg (av 16 (w64 (dg ((Y * Y) * Y)))), .agg (av 16 (w64 (dg (p * 65536 ^ 12))))] (.bool false) (fun _ => by kernel_rfl) (fun w M => (by have h := c_above (Y * Y * Y) (p * 65536 ^ 12) (sq_lt hYb).2 (by omega) w M.laid; rw [decide_eq_false hgt] at h; exact h)) ?_
      intro u23 M
      refine pl_val (want_no rfl) (some 43) rfl (.bool true) (fun _ => by kernel_rfl) ?_
      refine pl_nil ?_
      refine au_then ?_
      refine wp_cond_true (by kernel_rfl) ?_
      refine rg_lit ?_
      refine pl_load M (want_no rfl) (some 44) rfl 79 _ rfl 2 g5 0 (by kernel_rfl) 16 79 (w64 (dg Y)) rfl 16 (w64 (dg Y)) (fun j _ => by rw [Nat.zero_add]) (by decide) _ Tryd.underlying79 rfl inz79 ?_
      refine pl_put M (want_no rfl) rfl 79 _ _ rfl 1 g2 0 (by kernel_rfl) 16 79 (w64 (dg x)) rfl 16 (w64 (dg Y)) (w64 (dg Y)) (by kernel_rfl) inz79 (by decide) (fun _ _ => rfl) (fun j hj => by rw [if_pos (by omega), Nat.sub_zero]) ?_
      intro u24 M
      replace M : Mem ⟨w, []⟩ [⟨g1, .cells (av 16 (w64 (dg (p * 65536 ^ 12)))) 79⟩, ⟨g2, .cells (av 16 (w64 (dg Y))) 79⟩, ⟨g5, .cells (av 16 (w64 (dg Y))) 79⟩, ⟨g6, .cells (av 16 (w64 (dg ((Y * Y) * Y)))) 79⟩] u24 := M
      refine pl_nil ?_
      refine au_block ?_
      refine au_then ?_
      refine rg_lit ?_
      refine pl_val (want_no rfl) (some 18) rfl (.int .i64 ((70 - j : Nat) : Int)) (fun w => Eq.trans (b := .ok (.value (.int .i64 (70 - (j : Int)))) w) (by kernel_rfl) (by congr 3; omega)) ?_
      refine pl_val (want_no rfl) (some 19) rfl (.int .i64 (70 - ((j + 1 : Nat) : Int))) (fun w => Eq.trans (b := .ok (.value (.int .i64 (IntKind.wrap .i64 (((70 - j : Nat) : Int) - 1)))) w) (by kernel_rfl) (by rw [wrap64 (by omega) (by omega)]; congr 3; omega)) ?_
      refine pl_val (want_no rfl) (some 7) rfl (.int .i64 (70 - ((j + 1 : Nat) : Int))) (fun _ => by kernel_rfl) ?_
      refine pl_nil ?_
      refine au_then ?_
      exact ⟨fun k_ => ([.pointer (some ⟨g5, 0, none⟩), .pointer (some ⟨g6, 0, none⟩), undef, undef, undef, undef, undef, undef, .int .i64 (70 - (j : Int)), .bool true, .int .i64 ((70 - j : Nat) : Int), .int .i64 (70 - ((j + 1 : Nat) : Int)), .agg (av 16 (w64 (dg x))), .int .i64 ((70 - j : Nat) : Int), .int .i64 (((70 - j) / 16 : Nat) : Int), .int .i64 ((70 - j : Nat) : Int), .int .i64 (((70 - j) / 16 : Nat) : Int), .pointer (some ⟨g5, (((70 - j) / 16 : Nat)), none⟩), .int .u64 ((dg x) (((70 - j) / 16 : Nat))), .int .i64 ((70 - j : Nat) : Int), .int .i64 (((70 - j) % 16 : Nat) : Int), .int .u64 (((70 - j) % 16 : Nat) : Int), .int .u64 ((2 ^ ((70 - j) % 16) : Nat) : Int), .int .u64 (uo ((dg x) (((70 - j) / 16 : Nat))) ((2 ^ ((70 - j) % 16) : Nat) : Int)), .pointer (some ⟨g5, (((70 - j) / 16 : Nat)), none⟩), .agg (av 16 (w64 (dg Y))), .agg (av 16 (w64 (dg Y))), .agg (av 16 (w64 (dg (Y * Y)))), .bool true, .agg (av 16 (w64 (dg (Y * Y)))), .agg (av 16 (w64 (dg Y))), .agg (av 16 (w64 (dg ((Y * Y) * Y)))), .agg (av 16 (w64 (dg ((Y * Y) * Y)))), .agg (av 16 (w64 (dg (p * 65536 ^ 12)))), .bool false, .bool true, .agg (av 16 (w64 (dg Y)))] : List Value).getD (k_ - 8) undef, Y, by kernel_rfl, hYb, by rw [show 71 - (j + 1) = 70 - j by omega]; exact hr, M.drop (.cons_cons _ (.cons_cons _ (.cons _ (.cons _ (.slnil)))))⟩
  · intro a u0 hI
    obtain ⟨v, x, rfl, hx, hr, M⟩ := hI
    have hxr : x = rt3 (p * 65536 ^ 12) 71 0 := hr
    refine wp_seq ?_
    refine wp_seq ?_
    refine rg_lit ?_
    refine pl_val (want_no rfl) (some 16) rfl (.int .i64 (70 - (71 : Int))) (fun _ => by kernel_rfl) ?_
    refine pl_val (want_no rfl) (some 17) rfl (.bool false) (fun w => Eq.trans (b := .ok (.value (.bool (decide (0 ≤ 70 - (71 : Int))))) w) (by kernel_rfl) (by rw [decide_eq_false (by omega)])) ?_
    refine pl_nil ?_
    refine au_then ?_
    refine wp_cond_false (by kernel_rfl) ?_
    refine wp_exit ?_
    refine au_then_exit ?_
    refine au_then_exit ?_
    refine au_block_exit ?_
    refine au_then ?_
    refine wp_seq ?_
    refine rg_lit ?_
    refine pl_val (want_no rfl) (some 45) rfl (.pointer (some ⟨g2, 0, none⟩)) (fun _ => by kernel_rfl) ?_
    refine pl_cell M (want_no rfl) (some 46) rfl 40 _ rfl g2 0 (by kernel_rfl) (.int .u64 ((dg x) 0)) (fun _ => by kernel_rfl) (fun w M => M.cell 1 rfl (by decide) rfl) ?_
    refine pl_val (want_no rfl) (some 47) rfl (.pointer (some ⟨g2, 1, none⟩)) (fun _ => by kernel_rfl) ?_
    refine pl_cell M (want_no rfl) (some 48) rfl 40 _ rfl g2 1 (by kernel_rfl) (.int .u64 ((dg x) 1)) (fun _ => by kernel_rfl) (fun w M => M.cell 1 rfl (by decide) rfl) ?_
    refine pl_val (want_no rfl) (some 49) rfl (.int .u64 (sl ((dg x) 1) 16)) (fun _ => by kernel_rfl) ?_
    refine pl_val (want_no rfl) (some 50) rfl (.int .u64 (uo ((dg x) 0) (sl ((dg x) 1) 16))) (fun _ => by kernel_rfl) ?_
    refine pl_val (want_no rfl) (some 51) rfl (.pointer (some ⟨g2, 2, none⟩)) (fun _ => by kernel_rfl) ?_
    refine pl_cell M (want_no rfl) (some 52) rfl 40 _ rfl g2 2 (by kernel_rfl) (.int .u64 ((dg x) 2)) (fun _ => by kernel_rfl) (fun w M => M.cell 1 rfl (by decide) rfl) ?_
    refine pl_val (want_no rfl) (some 53) rfl (.int .u64 (sl ((dg x) 2) 32)) (fun _ => by kernel_rfl) ?_
    refine pl_val (want_no rfl) (some 54) rfl (.int .u64 (uo (uo ((dg x) 0) (sl ((dg x) 1) 16)) (sl ((dg x) 2) 32))) (fun _ => by kernel_rfl) ?_
    refine pl_val (want_no rfl) (some 55) rfl (.pointer (some ⟨g2, 3, none⟩)) (fun _ => by kernel_rfl) ?_
    refine pl_cell M (want_no rfl) (some 56) rfl 40 _ rfl g2 3 (by kernel_rfl) (.int .u64 ((dg x) 3)) (fun _ => by kernel_rfl) (fun w M => M.cell 1 rfl (by decide) rfl) ?_
    refine pl_val (want_no rfl) (some 57) rfl (.int .u64 (sl ((dg x) 3) 48)) (fun _ => by kernel_rfl) ?_
    refine pl_val (want_no rfl) (some 58) rfl (.int .u64 (uo (uo (uo ((dg x) 0) (sl ((dg x) 1) 16)) (sl ((dg x) 2) 32)) (sl ((dg x) 3) 48))) (fun _ => by kernel_rfl) ?_
    refine pl_val (want_no rfl) (some 4) rfl (.int .u64 (uo (uo (uo ((dg x) 0) (sl ((dg x) 1) 16)) (sl ((dg x) 2) 32)) (sl ((dg x) 3) 48))) (fun _ => by kernel_rfl) ?_
    refine pl_nil ?_
    refine au_then ?_
    refine wp_ret ?_
    exact bodyPost_ret (v := .int .u64 (rootW (rt3 (p * 65536 ^ 12) 71 0))) (Eq.trans (b := .ok (.int .u64 (uo (uo (uo ((dg x) 0) (sl ((dg x) 1) 16)) (sl ((dg x) 2) 32)) (sl ((dg x) 3) 48))) _) (results_tmp1 Tryd.results24 _ _ _ (by kernel_rfl)) (by rw [← hxr]; rfl)) (by kernel_rfl) ⟨rfl, below_grown M.old⟩


end Go.Proofs.YtnglfpekdedgfaaDoor
