/- Part 6 of the walks and facts behind edwReckons_holds. -/
import Derived.Test.YtkeocdebfgcnnaaGreatCk5
import Derived.BigQuiet
import Derived.Deep.Cut
import Derived.Deep.RegionWith
import Derived.Laws.Bits64b
import Derived.Laws.BitsAllLaws
import Derived.Laws.BytesString
import Derived.Laws.Externs
import Derived.Laws.IdiomStrings
import Derived.Laws.Rows
import Derived.Lib.Mul64
import Derived.Test.YtkeocdebfgcnnaaGreatRows
import Derived.WalkKit
import Derived.WalkLawsBesides
import Derived.WalkSpells
/- The document's Mul. -/
namespace Go.Proofs.YtkeocdebfgcnnaaGreat
open Go.RowKit

theorem run_quo16 (m : Nat) (hm : m < 256) (w : World) : (binOp .quo 3 (.int .i64 (m : Int)) (.int .i64 16)).run Tryz.prog w = .ok (.int .i64 ((m / 16 : Nat) : Int)) w := by
  simp [binOp, go_sem]
  rw [wrap64 (by omega) (by omega)]
theorem run_rem16 (m : Nat) (w : World) : (binOp .rem 3 (.int .i64 (m : Int)) (.int .i64 16)).run Tryz.prog w = .ok (.int .i64 ((m % 16 : Nat) : Int)) w := by
  simp [binOp, go_sem]
  rw [Int.tmod_eq_emod_of_nonneg (by omega)]
theorem run_toU (b : Nat) (hb : b < 16) (w : World) : (convert 3 72 (.int .i64 (b : Int))).run Tryz.prog w = .ok (.int .u64 (b : Int)) w := by
  simp [convert, go_sem]
  simp [IntKind.wrap, IntKind.signed, IntKind.bits, go_sem]
  omega
theorem run_shrU (x : Int) (b : Nat) (hb : b < 16) (w : World) : (binOp .shr 22 (.int .u64 x) (.int .u64 (b : Int))).run Tryz.prog w = .ok (.int .u64 (x / 2 ^ b)) w := by
  simp [binOp, go_sem]
theorem run_and1 {x : Int} (h0 : 0 ≤ x) (h1 : x < 65536) : bits .and .u64 x 1 = x % 2 := by
  rw [u64_and _ 1 h0 (by omega) (by decide) (by decide), show (1 : Int).toNat = 1 from rfl, nat_mask1]
  omega
theorem run_conv {P : Program} {a : Act} {o : Oper} (t u : TypeId) (x : Operand) (ho : o.op = .convert t u x) {vx v : Value} (hx : a.eval x = vx) (hb : ∀ w, (convert t u vx).run P w = .ok v w) (w : World) :
    (execOp a.eval o).run P w = .ok (.value v) w := by
  unfold execOp
  simp only [ho, hx, Sem.run_bind, hb, Result.andThen_ok, Sem.run_pure]
section
variable {P : Program} {ops : Array Oper} {rest : List Oper} {o : Oper} {a : Act} {w w0 : World} {L : List Blk} {Q : Exit → Act → World → Prop}
theorem pl_loadw (M : Mem w0 L w) (hw : Region.wanted o (yielded ops a.tmps) = true) (d : Option Tmp) (hd : o.dst = d) (ty : TypeId) (x : Operand) (ho : o.op = .load ty x) (i g k : Nat) (hx : a.eval x = .pointer (some ⟨g, k, none⟩)) (n T : Nat) (f : Nat → Int) (hi : L[i]? = some ⟨g, .cells (arr n f) T⟩) (hk : k < n) (hag : ∀ w, (isAgg ty).run P w = .ok false w)
    (h : PL P ops Q rest (a.put d (.int .u64 (f k))) w) : PL P ops Q (o :: rest) a w := by
  refine pl_to hw d hd (.int .u64 (f k)) w ?_ h
  have hc := run_byte (P := P) ((M.row i hi).cell hk) ty hag
  unfold execOp
  simp only [ho, hx, Sem.run_bind, hc, Result.andThen_ok, Sem.run_pure]
end
theorem inz22 : (Tryz.prog.info? 22).map (·.size) = some 1 := by kernel_rfl
/-- A bit of a number in parts of 16 bits. -/
def pb (f : Nat → Int) (i : Nat) : Int := f (i / 16) / 2 ^ (i % 16) % 2
def racc (q : RQ) (f : Nat → Int) : Nat → RQ
  | 0 => rzeroV
  | j + 1 => if pb f (255 - j) = 1 then raddV (raddV (racc q f j) (racc q f j)) q else raddV (racc q f j) (racc q f j)
theorem racc_ok (q : RQ) (f : Nat → Int) : ∀ j, (racc q f j).Ok
  | 0 => rzeroV_ok
  | j + 1 => by
    unfold racc
    split <;> exact raddV_ok _ _
theorem shr_bd {x : Int} (h0 : 0 ≤ x) (h1 : x < 65536) (b : Nat) : 0 ≤ x / 2 ^ b ∧ x / 2 ^ b < 65536 := by
  have hp : (0 : Int) < 2 ^ b := Int.pow_pos (by decide)
  refine ⟨Int.ediv_nonneg h0 (by omega), Int.lt_of_le_of_lt (Int.ediv_le_self _ h0) h1⟩

structure rmulWF (q : RQ) (f : Nat → Int)  : Prop where
  h0 : True

set_option maxRecDepth 100000 in
set_option maxHeartbeats 4000000 in
theorem rmulW_gen (q : RQ) (f : Nat → Int)  (w : World) (_F : rmulWF q f ) (hq : q.Ok) (hf : Dig f 16) :
    Calls Tryz.prog 16 #[.agg (arr 64 q.f), .agg (arr 16 f)] w fun r w' => r = .returned (.agg (arr 64 (racc q f 256).f)) ∧ Below w.heap.size w w' := by
  go_enter Tryz.func16, Tryz.ntmps16
  have M := Mem.start w
  refine sr ?_
  refine pl_new M (want_no rfl) (some 2) rfl (.cells (arr 64 q.f) 41) (fun _ => by kernel_rfl) ?_
  intro g1 w1 M
  replace M : Mem w [⟨g1, .cells (arr 64 q.f) 41⟩] w1 := M
  refine pl_new M (want_no rfl) (some 3) rfl (.cells (arr 16 f) 39) (fun _ => by kernel_rfl) ?_
  intro g2 w2 M
  replace M : Mem w [⟨g1, .cells (arr 64 q.f) 41⟩, ⟨g2, .cells (arr 16 f) 39⟩] w2 := M
  refine pl_new M (want_no rfl) (some 4) rfl (.cells (arr 64 (fun _ => 0)) 41) (fun _ => by kernel_rfl) ?_
  intro g3 w3 M
  replace M : Mem w [⟨g1, .cells (arr 64 q.f) 41⟩, ⟨g2, .cells (arr 16 f) 39⟩, ⟨g3, .cells (arr 64 (fun _ => 0)) 41⟩] w3 := M
  refine nt ?_
  refine sr ?_
  refine pl_call M (want_no rfl) (some 7) rfl 58 #[] (.agg (arr 64 rzeroV.f)) (fun _ => by kernel_rfl) c_rzero ?_
  intro w4 M
  refine pl_new M (want_no rfl) (some 5) rfl (.cells (arr 64 (fun _ => 0)) 41) (fun _ => by kernel_rfl) ?_
  intro g4 w5 M
  replace M : Mem w [⟨g1, .cells (arr 64 q.f) 41⟩, ⟨g2, .cells (arr 16 f) 39⟩, ⟨g3, .cells (arr 64 (fun _ => 0)) 41⟩, ⟨g4, .cells (arr 64 (fun _ => 0)) 41⟩] w5 := M
  refine pl_put M (want_no rfl) rfl 41 _ _ rfl 3 g4 (by kernel_rfl) 64 41 (fun _ => 0) rzeroV.f rfl (by kernel_rfl) inz41 ?_
  intro w6 M
  replace M : Mem w [⟨g1, .cells (arr 64 q.f) 41⟩, ⟨g2, .cells (arr 16 f) 39⟩, ⟨g3, .cells (arr 64 (fun _ => 0)) 41⟩, ⟨g4, .cells (arr 64 rzeroV.f) 41⟩] w6 := M
  refine nt ?_
  refine wp_seq ?_
  refine sr ?_
  refine pv 6 (.int .i64 255) ?_
  refine nt ?_
  refine wp_block ?_
  refine au_loop (fun j a w' => ∃ (m : Int) (v : Nat → Value), m = 255 - (j : Int) ∧ a = ⟨#[.agg (arr 64 q.f), .agg (arr 16 f), .pointer (some ⟨g1, 0, none⟩), .pointer (some ⟨g2, 0, none⟩), .pointer (some ⟨g3, 0, none⟩), .pointer (some ⟨g4, 0, none⟩), .int .i64 m, .agg (arr 64 rzeroV.f), v 8, v 9, v 10, v 11, v 12, v 13, v 14, v 15, v 16, v 17, v 18, v 19, v 20, v 21, v 22, v 23, v 24, v 25, v 26, v 27, undef], []⟩ ∧ Mem w [⟨g1, .cells (arr 64 q.f) 41⟩, ⟨g2, .cells (arr 16 f) 39⟩, ⟨g3, .cells (arr 64 (fun _ => 0)) 41⟩, ⟨g4, .cells (arr 64 (racc q f j).f) 41⟩] w') 256 ⟨255, fun _ => undef, rfl, by kernel_rfl, M⟩ ?_ ?_
  · intro j a w1 hj hI
    obtain ⟨m0, v, hm, rfl, M⟩ := hI
    obtain ⟨m, rfl⟩ : ∃ m : Nat, m0 = m := ⟨255 - j, by omega⟩
    have hfm := hf (m / 16 * 1) (by omega)
    have hsh := shr_bd hfm.1 hfm.2 (m % 16)
    have hpb : f (m / 16 * 1) / 2 ^ (m % 16) % 2 = pb f m := by
      unfold pb
      rw [Nat.mul_one]
    have he : 255 - j = m := by omega
    by_cases hbit : pb f m = 1
    · have hA : racc q f (j + 1) = raddV (raddV (racc q f j) (racc q f j)) q := by
        show (if pb f (255 - j) = 1 then raddV (raddV (racc q f j) (racc q f j)) q else raddV (racc q f j) (racc q f j)) = _
        rw [he, if_pos hbit]
      refine wp_seq ?_
      refine sr ?_
      refine pv 8 (.int .i64 (m : Int)) ?_
      refine pl_val (want_no rfl) (some 9) rfl (.bool true) (fun w => Eq.trans (b := .ok (.value (.bool (decide (0 ≤ (m : Int))))) w) (by kernel_rfl) (by rw [decide_eq_true (by omega)])) ?_
      refine nt ?_
      refine wp_cond_true (by kernel_rfl) ?_
      refine wp_skip ?_
      refine au_then ?_
      refine wp_seq ?_
      refine wp_block ?_
      refine sr ?_
      refine pl_load M (want_no rfl) (some 12) rfl 41 _ rfl 3 g4 0 (by kernel_rfl) 64 41 (racc q f j).f rfl 64 (racc q f j).f (Part.all _ _) (by decide) _ Tryz.underlying41 rfl inz41 ?_
      refine pl_load M (want_no rfl) (some 13) rfl 41 _ rfl 3 g4 0 (by kernel_rfl) 64 41 (racc q f j).f rfl 64 (racc q f j).f (Part.all _ _) (by decide) _ Tryz.underlying41 rfl inz41 ?_
      refine pl_call M (want_no rfl) (some 14) rfl 12 #[.agg (arr 64 (racc q f j).f), .agg (arr 64 (racc q f j).f)] (.agg (arr 64 (raddV (racc q f j) (racc q f j)).f)) (fun _ => by kernel_rfl) (fun w => c_radd (racc q f j) (racc q f j) w (racc_ok q f j) (racc_ok q f j)) ?_
      intro w7 M
      refine pl_put M (want_no rfl) rfl 41 _ _ rfl 3 g4 (by kernel_rfl) 64 41 (racc q f j).f (raddV (racc q f j) (racc q f j)).f rfl (by kernel_rfl) inz41 ?_
      intro w8 M
      replace M : Mem w [⟨g1, .cells (arr 64 q.f) 41⟩, ⟨g2, .cells (arr 16 f) 39⟩, ⟨g3, .cells (arr 64 (fun _ => 0)) 41⟩, ⟨g4, .cells (arr 64 (raddV (racc q f j) (racc q f j)).f) 41⟩] w8 := M
      refine nt ?_
      refine sr ?_
      refine pv 15 (.int .i64 (m : Int)) ?_
      refine pl_val (want_no rfl) (some 16) rfl (.int .i64 ((m / 16 : Nat) : Int)) (fun w => run_bin .quo 3 _ _ rfl (by kernel_rfl) (by kernel_rfl) (fun _ => by kernel_rfl) (fun w => run_quo16 m (by omega) w) w) ?_
      refine pl_val (want_no rfl) (some 17) rfl (.pointer (some ⟨g2, m / 16 * 1, none⟩)) (fun w => run_ix 39 16 1 22 Tryz.underlying39 inz22 _ _ rfl g2 (by kernel_rfl) .i64 (m / 16) (by kernel_rfl) (by omega) w) ?_
      refine pl_loadw M (want_no rfl) (some 18) rfl 22 _ rfl 1 g2 (m / 16 * 1) (by kernel_rfl) 16 39 f rfl (by omega) (fun _ => by kernel_rfl) ?_
      refine pv 19 (.int .i64 (m : Int)) ?_
      refine pl_val (want_no rfl) (some 20) rfl (.int .i64 ((m % 16 : Nat) : Int)) (fun w => run_bin .rem 3 _ _ rfl (by kernel_rfl) (by kernel_rfl) (fun _ => by kernel_rfl) (fun w => run_rem16 m w) w) ?_
      refine pl_val (want_no rfl) (some 21) rfl (.int .u64 ((m % 16 : Nat) : Int)) (fun w => run_conv 3 72 _ rfl (by kernel_rfl) (fun w => run_toU (m % 16) (by omega) w) w) ?_
      refine pl_val (want_no rfl) (some 22) rfl (.int .u64 (f (m / 16 * 1) / 2 ^ (m % 16))) (fun w => run_bin .shr 22 _ _ rfl (by kernel_rfl) (by kernel_rfl) (fun _ => by kernel_rfl) (fun w => run_shrU _ _ (by omega) w) w) ?_
      refine pl_val (want_no rfl) (some 23) rfl (.int .u64 (pb f m)) (fun w => Eq.trans (b := .ok (.value (.int .u64 (bits .and .u64 (f (m / 16 * 1) / 2 ^ (m % 16)) 1))) w) (by kernel_rfl) (by rw [run_and1 hsh.1 hsh.2, hpb])) ?_
      refine pl_val (want_no rfl) (some 24) rfl (.bool true) (fun w => Eq.trans (b := .ok (.value (.bool (decide (pb f m = 1)))) w) (by kernel_rfl) (by rw [decide_eq_true hbit])) ?_
      refine nt ?_
      refine wp_cond_true (by kernel_rfl) ?_
      refine rg_lit ?_
      refine pl_load M (want_no rfl) (some 25) rfl 41 _ rfl 3 g4 0 (by kernel_rfl) 64 41 (raddV (racc q f j) (racc q f j)).f rfl 64 (raddV (racc q f j) (racc q f j)).f (Part.all _ _) (by decide) _ Tryz.underlying41 rfl inz41 ?_
      refine pl_load M (want_no rfl) (some 26) rfl 41 _ rfl 0 g1 0 (by kernel_rfl) 64 41 q.f rfl 64 q.f (Part.all _ _) (by decide) _ Tryz.underlying41 rfl inz41 ?_
      refine pl_call M (want_no rfl) (some 27) rfl 12 #[.agg (arr 64 (raddV (racc q f j) (racc q f j)).f), .agg (arr 64 q.f)] (.agg (arr 64 (raddV (raddV (racc q f j) (racc q f j)) q).f)) (fun _ => by kernel_rfl) (fun w => c_radd (raddV (racc q f j) (racc q f j)) q w (raddV_ok _ _) hq) ?_
      intro w9 M
      refine pl_put M (want_no rfl) rfl 41 _ _ rfl 3 g4 (by kernel_rfl) 64 41 (raddV (racc q f j) (racc q f j)).f (raddV (raddV (racc q f j) (racc q f j)) q).f rfl (by kernel_rfl) inz41 ?_
      intro w10 M
      replace M : Mem w [⟨g1, .cells (arr 64 q.f) 41⟩, ⟨g2, .cells (arr 16 f) 39⟩, ⟨g3, .cells (arr 64 (fun _ => 0)) 41⟩, ⟨g4, .cells (arr 64 (raddV (raddV (racc q f j) (racc q f j)) q).f) 41⟩] w10 := M
      refine pl_nil ?_
      refine au_block ?_
      refine au_then ?_
      refine rg_lit ?_
      refine pv 10 (.int .i64 (m : Int)) ?_
      refine pl_val (want_no rfl) (some 11) rfl (.int .i64 ((m : Int) - 1)) (fun w => Eq.trans (b := .ok (.value (.int .i64 (IntKind.wrap .i64 ((m : Int) - 1)))) w) (by kernel_rfl) (by rw [wrap64 (by omega) (by omega)])) ?_
      refine pv 6 (.int .i64 ((m : Int) - 1)) ?_
      refine nt ?_
      refine ⟨(m : Int) - 1, fun k => ([.int .i64 (m : Int), .bool true, .int .i64 (m : Int), .int .i64 ((m : Int) - 1), .agg (arr 64 (racc q f j).f), .agg (arr 64 (racc q f j).f), .agg (arr 64 (raddV (racc q f j) (racc q f j)).f), .int .i64 (m : Int), .int .i64 ((m / 16 : Nat) : Int), .pointer (some ⟨g2, m / 16 * 1, none⟩), .int .u64 (f (m / 16 * 1)), .int .i64 (m : Int), .int .i64 ((m % 16 : Nat) : Int), .int .u64 ((m % 16 : Nat) : Int), .int .u64 (f (m / 16 * 1) / 2 ^ (m % 16)), .int .u64 (pb f m), .bool true, .agg (arr 64 (raddV (racc q f j) (racc q f j)).f), .agg (arr 64 q.f), .agg (arr 64 (raddV (raddV (racc q f j) (racc q f j)) q).f)] : List Value).getD (k - 8) undef, by omega, by kernel_rfl, ?_⟩
      rw [hA]
      exact M
    · have hA : racc q f (j + 1) = raddV (racc q f j) (racc q f j) := by
        show (if pb f (255 - j) = 1 then raddV (raddV (racc q f j) (racc q f j)) q else raddV (racc q f j) (racc q f j)) = _
        rw [he, if_neg hbit]
      refine wp_seq ?_
      refine sr ?_
      refine pv 8 (.int .i64 (m : Int)) ?_
      refine pl_val (want_no rfl) (some 9) rfl (.bool true) (fun w => Eq.trans (b := .ok (.value (.bool (decide (0 ≤ (m : Int))))) w) (by kernel_rfl) (by rw [decide_eq_true (by omega)])) ?_
      refine nt ?_
      refine wp_cond_true (by kernel_rfl) ?_
      refine wp_skip ?_
      refine au_then ?_
      refine wp_seq ?_
      refine wp_block ?_
      refine sr ?_
      refine pl_load M (want_no rfl) (some 12) rfl 41 _ rfl 3 g4 0 (by kernel_rfl) 64 41 (racc q f j).f rfl 64 (racc q f j).f (Part.all _ _) (by decide) _ Tryz.underlying41 rfl inz41 ?_
      refine pl_load M (want_no rfl) (some 13) rfl 41 _ rfl 3 g4 0 (by kernel_rfl) 64 41 (racc q f j).f rfl 64 (racc q f j).f (Part.all _ _) (by decide) _ Tryz.underlying41 rfl inz41 ?_
      refine pl_call M (want_no rfl) (some 14) rfl 12 #[.agg (arr 64 (racc q f j).f), .agg (arr 64 (racc q f j).f)] (.agg (arr 64 (raddV (racc q f j) (racc q f j)).f)) (fun _ => by kernel_rfl) (fun w => c_radd (racc q f j) (racc q f j) w (racc_ok q f j) (racc_ok q f j)) ?_
      intro w11 M
      refine pl_put M (want_no rfl) rfl 41 _ _ rfl 3 g4 (by kernel_rfl) 64 41 (racc q f j).f (raddV (racc q f j) (racc q f j)).f rfl (by kernel_rfl) inz41 ?_
      intro w12 M
      replace M : Mem w [⟨g1, .cells (arr 64 q.f) 41⟩, ⟨g2, .cells (arr 16 f) 39⟩, ⟨g3, .cells (arr 64 (fun _ => 0)) 41⟩, ⟨g4, .cells (arr 64 (raddV (racc q f j) (racc q f j)).f) 41⟩] w12 := M
      refine nt ?_
      refine sr ?_
      refine pv 15 (.int .i64 (m : Int)) ?_
      refine pl_val (want_no rfl) (some 16) rfl (.int .i64 ((m / 16 : Nat) : Int)) (fun w => run_bin .quo 3 _ _ rfl (by kernel_rfl) (by kernel_rfl) (fun _ => by kernel_rfl) (fun w => run_quo16 m (by omega) w) w) ?_
      refine pl_val (want_no rfl) (some 17) rfl (.pointer (some ⟨g2, m / 16 * 1, none⟩)) (fun w => run_ix 39 16 1 22 Tryz.underlying39 inz22 _ _ rfl g2 (by kernel_rfl) .i64 (m / 16) (by kernel_rfl) (by omega) w) ?_
      refine pl_loadw M (want_no rfl) (some 18) rfl 22 _ rfl 1 g2 (m / 16 * 1) (by kernel_rfl) 16 39 f rfl (by omega) (fun _ => by kernel_rfl) ?_
      refine pv 19 (.int .i64 (m : Int)) ?_
      refine pl_val (want_no rfl) (some 20) rfl (.int .i64 ((m % 16 : Nat) : Int)) (fun w => run_bin .rem 3 _ _ rfl (by kernel_rfl) (by kernel_rfl) (fun _ => by kernel_rfl) (fun w => run_rem16 m w) w) ?_
      refine pl_val (want_no rfl) (some 21) rfl (.int .u64 ((m % 16 : Nat) : Int)) (fun w => run_conv 3 72 _ rfl (by kernel_rfl) (fun w => run_toU (m % 16) (by omega) w) w) ?_
      refine pl_val (want_no rfl) (some 22) rfl (.int .u64 (f (m / 16 * 1) / 2 ^ (m % 16))) (fun w => run_bin .shr 22 _ _ rfl (by kernel_rfl) (by kernel_rfl) (fun _ => by kernel_rfl) (fun w => run_shrU _ _ (by omega) w) w) ?_
      refine pl_val (want_no rfl) (some 23) rfl (.int .u64 (pb f m)) (fun w => Eq.trans (b := .ok (.value (.int .u64 (bits .and .u64 (f (m / 16 * 1) / 2 ^ (m % 16)) 1))) w) (by kernel_rfl) (by rw [run_and1 hsh.1 hsh.2, hpb])) ?_
      refine pl_val (want_no rfl) (some 24) rfl (.bool false) (fun w => Eq.trans (b := .ok (.value (.bool (decide (pb f m = 1)))) w) (by kernel_rfl) (by rw [decide_eq_false hbit])) ?_
      refine nt ?_
      refine wp_cond_false (by kernel_rfl) ?_
      refine wp_skip ?_
      refine au_block ?_
      refine au_then ?_
      refine rg_lit ?_
      refine pv 10 (.int .i64 (m : Int)) ?_
      refine pl_val (want_no rfl) (some 11) rfl (.int .i64 ((m : Int) - 1)) (fun w => Eq.trans (b := .ok (.value (.int .i64 (IntKind.wrap .i64 ((m : Int) - 1)))) w) (by kernel_rfl) (by rw [wrap64 (by omega) (by omega)])) ?_
      refine pv 6 (.int .i64 ((m : Int) - 1)) ?_
      refine nt ?_
      refine ⟨(m : Int) - 1, fun k => ([.int .i64 (m : Int), .bool true, .int .i64 (m : Int), .int .i64 ((m : Int) - 1), .agg (arr 64 (racc q f j).f), .agg (arr 64 (racc q f j).f), .agg (arr 64 (raddV (racc q f j) (racc q f j)).f), .int .i64 (m : Int), .int .i64 ((m / 16 : Nat) : Int), .pointer (some ⟨g2, m / 16 * 1, none⟩), .int .u64 (f (m / 16 * 1)), .int .i64 (m : Int), .int .i64 ((m % 16 : Nat) : Int), .int .u64 ((m % 16 : Nat) : Int), .int .u64 (f (m / 16 * 1) / 2 ^ (m % 16)), .int .u64 (pb f m), .bool false, v 25, v 26, v 27] : List Value).getD (k - 8) undef, by omega, by kernel_rfl, ?_⟩
      rw [hA]
      exact M
  · intro a w1 hI
    obtain ⟨m, v, hm, rfl, M⟩ := hI
    refine wp_seq ?_
    refine sr ?_
    refine pv 8 (.int .i64 m) ?_
    refine pl_val (want_no rfl) (some 9) rfl (.bool false) (fun w => Eq.trans (b := .ok (.value (.bool (decide (0 ≤ m)))) w) (by kernel_rfl) (by rw [decide_eq_false (by omega)])) ?_
    refine nt ?_
    refine wp_cond_false (by kernel_rfl) ?_
    refine wp_exit ?_
    refine au_then_exit ?_
    refine au_then_exit ?_
    refine au_block_exit ?_
    refine au_then ?_
    refine sr ?_
    refine pl_load M (want_no rfl) (some 28) rfl 41 _ rfl 3 g4 0 (by kernel_rfl) 64 41 (racc q f 256).f rfl 64 (racc q f 256).f (Part.all _ _) (by decide) _ Tryz.underlying41 rfl inz41 ?_
    refine pl_put M (want_no rfl) rfl 41 _ _ rfl 2 g3 (by kernel_rfl) 64 41 (fun _ => 0) (racc q f 256).f rfl (by kernel_rfl) inz41 ?_
    intro w13 M
    replace M : Mem w [⟨g1, .cells (arr 64 q.f) 41⟩, ⟨g2, .cells (arr 16 f) 39⟩, ⟨g3, .cells (arr 64 (racc q f 256).f) 41⟩, ⟨g4, .cells (arr 64 (racc q f 256).f) 41⟩] w13 := M
    refine nt ?_
    refine wp_ret ?_
    exact bodyPost_ret (v := .agg (arr 64 (racc q f 256).f)) (results_cell_row Tryz.results16 _ _ g3 41 (arr 64 (racc q f 256).f) (0, 0) _ (by kernel_rfl) (M.get 2 rfl) Tryz.underlying41 rfl (by rw [arr_size]; exact inz41)) (by kernel_rfl) ⟨rfl, M.old⟩
theorem c_rmul (q : RQ) (f : Nat → Int) (w : World) (hq : q.Ok) (hf : Dig f 16) : Calls Tryz.prog 16 #[.agg (arr 64 q.f), .agg (arr 16 f)] w fun r w' => r = .returned (.agg (arr 64 (racc q f 256).f)) ∧ Below w.heap.size w w' := rmulW_gen q f w ⟨trivial⟩ hq hf

end Go.Proofs.YtkeocdebfgcnnaaGreat

/- Contracts of Mul64, Add64, Sub64 and productAnd. -/
namespace Go.Proofs.YtkeocdebfgcnnaaGreat.Ord
open Go.RowKit

theorem maskN (a : Nat) (ha : a < 18446744073709551616) : bits .and .u64 (a : Int) 4294967295 = ((a % 4294967296 : Nat) : Int) := by
  have h := bits_and_u64_nat a 4294967295 ha (by omega)
  have e : a &&& 4294967295 = a % 4294967296 := Nat.and_two_pow_sub_one_eq_mod a 32
  rw [e] at h
  exact h
theorem divN (a : Nat) : (a : Int) / 4294967296 = ((a / 4294967296 : Nat) : Int) := by omega
theorem mulN (a b : Nat) : (a : Int) * (b : Int) = ((a * b : Nat) : Int) := (Int.natCast_mul a b).symm
theorem addN (a b : Nat) : (a : Int) + (b : Int) = ((a + b : Nat) : Int) := (Int.natCast_add a b).symm
theorem wrapN (a : Nat) (ha : a < 18446744073709551616) : IntKind.u64.wrap (a : Int) = (a : Int) := by rw [IntKind.wrap_u64]; omega
theorem wrapM (a : Nat) : IntKind.u64.wrap (a : Int) = ((a % 18446744073709551616 : Nat) : Int) := by rw [IntKind.wrap_u64]; omega

set_option maxHeartbeats 1000000 in
theorem mul64_nat (x y : Nat) (hx : x < 18446744073709551616) (hy : y < 18446744073709551616) (w : World) :
    Calls Tryz.prog 108 #[.int .u64 x, .int .u64 y] w fun e w' => e = .returned (.tuple #[.int .u64 ((x * y / 18446744073709551616 : Nat) : Int), .int .u64 ((x * y % 18446744073709551616 : Nat) : Int)]) ∧ w' = w := by
  obtain ⟨bd, bt, bw, hhi⟩ := Lib.mul64_hi x y hx hy
  have ba := Lib.half_mul_le (a := x / 4294967296) (b := y / 4294967296) (by omega) (by omega)
  have bb := Lib.half_mul_le (a := x / 4294967296) (b := y % 4294967296) (by omega) (by omega)
  have bc := Lib.half_mul_le (a := x % 4294967296) (b := y / 4294967296) (by omega) (by omega)
  have ba' : x / 4294967296 * (y / 4294967296) < 18446744073709551616 := by omega
  have bb' : x / 4294967296 * (y % 4294967296) < 18446744073709551616 := by omega
  have bc' : x % 4294967296 * (y / 4294967296) < 18446744073709551616 := by omega
  have bh1 : x / 4294967296 * (y / 4294967296) + (x / 4294967296 * (y % 4294967296) + x % 4294967296 * (y % 4294967296) / 4294967296) / 4294967296 < 18446744073709551616 := by omega
  have bh : x / 4294967296 * (y / 4294967296) + (x / 4294967296 * (y % 4294967296) + x % 4294967296 * (y % 4294967296) / 4294967296) / 4294967296 + ((x / 4294967296 * (y % 4294967296) + x % 4294967296 * (y % 4294967296) / 4294967296) % 4294967296 + x % 4294967296 * (y / 4294967296)) / 4294967296 < 18446744073709551616 := by omega
  go_enter Tryz.func108, Tryz.ntmps108
  go_wp2
  simp only [maskN x hx, maskN y hy, divN, mulN, addN, wrapN _ bd, wrapN _ bb', wrapN _ bt, maskN _ bt, wrapN _ bc', wrapN _ bw, wrapN _ ba', wrapN _ bh1, wrapN _ bh, wrapM (x * y)]
  rw [hhi]
  go_ret2
  exact ⟨rfl, rfl⟩

theorem add64_run (x y c : Int) (hx : 0 ≤ x) (hy : 0 ≤ y) (hc0 : 0 ≤ c) (hc : c ≤ 1) (w : World) :
    (callFunc 99 #[.int .u64 x, .int .u64 y, .int .u64 c]).run Tryz.prog w =
      .ok (.value (.tuple #[.int .u64 ((x + y + c) % 18446744073709551616), .int .u64 ((x + y + c) / 18446744073709551616)])) w := by
  rw [run_callFunc_extern Tryz.func99 (by kernel_rfl) (by kernel_rfl) (by kernel_rfl) (e := add64Entry) (by kernel_rfl), run_add64 x y c hx hy hc0 hc]
  simp only [Result.andThen]

/-- The model's own row of Sub64. -/
abbrev sub64Row : Array Value → Sem Value := (Extern.MathBitsCarry.rows.getD 1 default).2

theorem run_sub64 (x y c : Int) (hx : W64 x) (hy : W64 y) (hc0 : 0 ≤ c) (hc : c ≤ 1) (w : World) :
    (sub64Row #[.int .u64 x, .int .u64 y, .int .u64 c]).run Tryz.prog w = .ok (.tuple #[.int .u64 ((x - y - c) % 18446744073709551616), .int .u64 (if x < y + c then 1 else 0)]) w := by
  have key : ∀ k : Nat, k ≤ 1 → (sub64Row #[.int .u64 x, .int .u64 y, .int .u64 (k : Int)]).run Tryz.prog w =
      .ok (Extern.MathBitsCarry.pair ((x.toNat + Extern.MathBitsCarry.m64 - y.toNat - k) % Extern.MathBitsCarry.m64) (if x.toNat < y.toNat + k then 1 else 0)) w := by
    intro k hk
    have : k = 0 ∨ k = 1 := by omega
    rcases this with rfl | rfl <;> rfl
  obtain ⟨k, rfl⟩ := Int.eq_ofNat_of_zero_le hc0
  rw [key k (by omega)]
  obtain ⟨X, rfl⟩ := Int.eq_ofNat_of_zero_le hx.1
  obtain ⟨Y, rfl⟩ := Int.eq_ofNat_of_zero_le hy.1
  have hX := hx.2
  have hY := hy.2
  simp only [Extern.MathBitsCarry.pair, Extern.MathBitsCarry.m64, Int.toNat_natCast]
  have e1 : Int.ofNat ((X + 2 ^ 64 - Y - k) % 2 ^ 64) = ((X : Int) - (Y : Int) - (k : Int)) % 18446744073709551616 := by
    show (((X + 2 ^ 64 - Y - k) % 2 ^ 64 : Nat) : Int) = _
    omega
  have e2 : Int.ofNat (if X < Y + k then 1 else 0) = if (X : Int) < (Y : Int) + (k : Int) then 1 else 0 := by
    by_cases h : X < Y + k
    · rw [if_pos h, if_pos (by omega)]; rfl
    · rw [if_neg h, if_neg (by omega)]; rfl
  rw [e1, e2]

theorem sub64_run (x y c : Int) (hx : W64 x) (hy : W64 y) (hc0 : 0 ≤ c) (hc : c ≤ 1) (w : World) :
    (callFunc 113 #[.int .u64 x, .int .u64 y, .int .u64 c]).run Tryz.prog w =
      .ok (.value (.tuple #[.int .u64 ((x - y - c) % 18446744073709551616), .int .u64 (if x < y + c then 1 else 0)])) w := by
  rw [run_callFunc_extern Tryz.func113 (by kernel_rfl) (by kernel_rfl) (by kernel_rfl) (e := sub64Row) (by kernel_rfl), run_sub64 x y c hx hy hc0 hc]
  simp only [Result.andThen]

set_option maxHeartbeats 1000000 in
theorem productAnd_any (x y a b : Int) (w : World) (hx : W64 x) (hy : W64 y) (ha : W64 a) (hb : W64 b) :
    Calls Tryz.prog 102 #[.int .u64 x, .int .u64 y, .int .u64 a, .int .u64 b] w fun r w' => r = .returned (.tuple #[.int .u64 ((x * y + a + b) % 18446744073709551616), .int .u64 ((x * y + a + b) / 18446744073709551616)]) ∧ w' = w := by
  obtain ⟨X, rfl⟩ := Int.eq_ofNat_of_zero_le hx.1
  obtain ⟨Y, rfl⟩ := Int.eq_ofNat_of_zero_le hy.1
  have hX : X < 18446744073709551616 := by have := hx.2; omega
  have hY : Y < 18446744073709551616 := by have := hy.2; omega
  have hXY : X * Y ≤ 18446744073709551615 * 18446744073709551615 := Nat.mul_le_mul (by omega) (by omega)
  have e : ((X : Int) * (Y : Int)) = ((X * Y : Nat) : Int) := (Int.natCast_mul X Y).symm
  rw [e]
  have HC := hide fun w => mul64_nat X Y hX hY w
  clear hx hy hX hY e
  generalize X * Y = P at *
  obtain ⟨a0, a1⟩ := ha
  obtain ⟨b0, b1⟩ := hb
  have r1 := add64_run ((P : Int) % 18446744073709551616) a 0 (by omega) a0 (by decide) (by decide)
  have r2 := add64_run (((P : Int) + a) % 18446744073709551616) b 0 (by omega) b0 (by decide) (by decide)
  rw [Int.add_zero] at r1 r2
  have hP : (P : Int) ≤ 340282366920938463426481119284349108225 := by omega
  have q2 : (P : Int) / 18446744073709551616 + ((P : Int) % 18446744073709551616 + a) / 18446744073709551616 + (((P : Int) + a) % 18446744073709551616 + b) / 18446744073709551616 = ((P : Int) + a + b) / 18446744073709551616 := by omega
  have HQ := hide q2
  clear q2 hXY
  go_enter Tryz.func102, Tryz.ntmps102
  go_wp2_with fail
  refine (HC.out _).mono ?_
  rintro _ w1 ⟨rfl, rfl⟩
  clear HC
  go_wp2
  go_ret2
  refine ⟨?_, rfl⟩
  rw [← HQ.out]
  rfl

end Go.Proofs.YtkeocdebfgcnnaaGreat.Ord

/- Numbers of five parts that lie in memory, and that they stay there. -/
namespace Go.Proofs.YtkeocdebfgcnnaaGreat.Ord
open Go.RowKit

theorem new_below (W : World) (o : Obj) : Below W.heap.size W (W.alloc o) := (Below.refl _ _).alloc (Nat.le_refl _) _

theorem KW.some (W : World) : Nonempty (KW W) := ⟨⟨W, Below.refl _ _⟩⟩

end Go.Proofs.YtkeocdebfgcnnaaGreat.Ord

/- Numbers of words of 64 bits: sums with carries, differences with borrows. -/
namespace Go.Proofs.YtkeocdebfgcnnaaGreat.Ord
open Go.RowKit

/-- The number of the first n words. -/
def Q (f : Nat → Int) : Nat → Int
  | 0 => 0
  | n + 1 => Q f n + f n * 18446744073709551616 ^ n
/-- Each of the first n words is one. -/
def Wds (f : Nat → Int) (n : Nat) : Prop := ∀ i, i < n → W64 (f i)
theorem Wds.le {f : Nat → Int} {n m : Nat} (h : Wds f n) (hm : m ≤ n) : Wds f m := fun i hi => h i (by omega)
theorem p64 (n : Nat) : (0 : Int) < 18446744073709551616 ^ n := Int.pow_pos (by decide)
theorem p64s (n : Nat) : (18446744073709551616 : Int) ^ (n + 1) = 18446744073709551616 * 18446744073709551616 ^ n := by rw [Int.pow_succ, Int.mul_comm]
theorem Q_bd {f : Nat → Int} : ∀ {n : Nat}, Wds f n → 0 ≤ Q f n ∧ Q f n < 18446744073709551616 ^ n
  | 0, _ => by simp [Q]
  | n + 1, h => by
    have ih := Q_bd (n := n) (h.le (by omega))
    have hd := h n (by omega)
    have hp := p64 n
    have h1 : f n * 18446744073709551616 ^ n ≤ 18446744073709551615 * 18446744073709551616 ^ n := Int.mul_le_mul_of_nonneg_right (by have := hd.2; omega) (by omega)
    have h2 : 0 ≤ f n * 18446744073709551616 ^ n := Int.mul_nonneg hd.1 (by omega)
    rw [p64s]
    simp only [Q]
    omega

/-- The carry into word k. -/
def pc (f g : Nat → Int) : Nat → Int
  | 0 => 0
  | k + 1 => (f k + g k + pc f g k) / 18446744073709551616
def ps (f g : Nat → Int) : Nat → Int := fun k => (f k + g k + pc f g k) % 18446744073709551616
theorem pc_bd {f g : Nat → Int} (hf : Wds f 4) (hg : Wds g 4) : ∀ k, k ≤ 4 → 0 ≤ pc f g k ∧ pc f g k ≤ 1
  | 0, _ => by simp [pc]
  | k + 1, h => by
    have ih := pc_bd hf hg k (by omega)
    have h1 := hf k (by omega)
    have h2 := hg k (by omega)
    unfold W64 at h1 h2
    simp only [pc]
    omega
theorem ps_wds (f g : Nat → Int) (n : Nat) : Wds (ps f g) n := fun i _ => by unfold ps W64; omega
theorem ps_Q (f g : Nat → Int) : ∀ k, Q (ps f g) k + pc f g k * 18446744073709551616 ^ k = Q f k + Q g k
  | 0 => by simp [Q, pc]
  | k + 1 => by
    have ih := ps_Q f g k
    have e : pc f g (k + 1) * 18446744073709551616 ^ (k + 1) = 18446744073709551616 * pc f g (k + 1) * 18446744073709551616 ^ k := by rw [p64s, ← Int.mul_assoc, Int.mul_comm (pc f g (k + 1)) 18446744073709551616]
    have e2 : ps f g k = f k + g k + pc f g k - 18446744073709551616 * pc f g (k + 1) := by
      simp only [ps, pc]
      omega
    simp only [Q]
    rw [e, e2, Int.sub_mul, Int.add_mul, Int.add_mul]
    omega

/-- The borrow from word k. -/
def br (f g : Nat → Int) : Nat → Int
  | 0 => 0
  | k + 1 => if f k < g k + br f g k then 1 else 0
def ms (f g : Nat → Int) : Nat → Int := fun k => (f k - g k - br f g k) % 18446744073709551616
theorem br_bd (f g : Nat → Int) : ∀ k, 0 ≤ br f g k ∧ br f g k ≤ 1
  | 0 => by simp [br]
  | k + 1 => by
    simp only [br]
    split <;> omega
theorem ms_wds (f g : Nat → Int) (n : Nat) : Wds (ms f g) n := fun i _ => by unfold ms W64; omega
theorem ms_Q {f g : Nat → Int} (hf : Wds f 4) (hg : Wds g 4) : ∀ k, k ≤ 4 → Q (ms f g) k - br f g k * 18446744073709551616 ^ k = Q f k - Q g k
  | 0, _ => by simp [Q, br]
  | k + 1, h => by
    have ih := ms_Q hf hg k (by omega)
    have h1 := hf k (by omega)
    have h2 := hg k (by omega)
    have h3 := br_bd f g k
    unfold W64 at h1 h2
    have e : br f g (k + 1) * 18446744073709551616 ^ (k + 1) = 18446744073709551616 * br f g (k + 1) * 18446744073709551616 ^ k := by rw [p64s, ← Int.mul_assoc, Int.mul_comm (br f g (k + 1)) 18446744073709551616]
    have e2 : ms f g k = f k - g k - br f g k + 18446744073709551616 * br f g (k + 1) := by
      simp only [ms, br]
      split <;> omega
    simp only [Q]
    rw [e, e2, Int.add_mul, Int.sub_mul, Int.sub_mul]
    omega

/-- The words of a number. -/
def d64 (N : Int) : Nat → Int := fun i => N / 18446744073709551616 ^ i % 18446744073709551616
theorem d64_wds (N : Int) (n : Nat) : Wds (d64 N) n := fun i _ => by unfold d64 W64; omega
theorem d64_Q (N : Int) (h0 : 0 ≤ N) : ∀ n, Q (d64 N) n = N % 18446744073709551616 ^ n
  | 0 => by simp [Q, Int.emod_one]
  | n + 1 => by
    simp only [Q]
    rw [d64_Q N h0 n, d64, Int.pow_succ]
    have hp := p64 n
    have e1 := Int.emod_add_mul_ediv N (18446744073709551616 ^ n)
    have e2 := Int.emod_add_mul_ediv (N / 18446744073709551616 ^ n) 18446744073709551616
    rw [Int.emod_def N (18446744073709551616 ^ n * 18446744073709551616), ← Int.ediv_ediv_of_nonneg (by omega)]
    generalize N / 18446744073709551616 ^ n = A at *
    have e3 : A % 18446744073709551616 * 18446744073709551616 ^ n = A * 18446744073709551616 ^ n - 18446744073709551616 * (A / 18446744073709551616) * 18446744073709551616 ^ n := by
      rw [← Int.sub_mul]
      congr 1
      omega
    rw [e3]
    generalize A / 18446744073709551616 = B at *
    generalize (18446744073709551616 : Int) ^ n = X at *
    rw [Int.mul_comm A X, show 18446744073709551616 * B * X = X * 18446744073709551616 * B by rw [Int.mul_comm (18446744073709551616 * B) X, ← Int.mul_assoc]]
    omega
theorem Q_inj {f g : Nat → Int} : ∀ {n : Nat}, Wds f n → Wds g n → Q f n = Q g n → ∀ i, i < n → f i = g i
  | 0, _, _, _, i, hi => by omega
  | n + 1, hf, hg, h, i, hi => by
    have b1 := Q_bd (hf.le (m := n) (by omega))
    have b2 := Q_bd (hg.le (m := n) (by omega))
    have hp := p64 n
    simp only [Q] at h
    have hn : f n = g n := by
      generalize Q f n = a at *
      generalize Q g n = b at *
      generalize (18446744073709551616 : Int) ^ n = X at *
      have h2 : (f n - g n) * X = b - a := by rw [Int.sub_mul]; omega
      by_cases e : f n - g n = 0
      · omega
      · exfalso
        by_cases hl : 1 ≤ f n - g n
        · have : 1 * X ≤ (f n - g n) * X := Int.mul_le_mul_of_nonneg_right hl (by omega)
          omega
        · have : (f n - g n) * X ≤ (-1) * X := Int.mul_le_mul_of_nonneg_right (by omega) (by omega)
          omega
    by_cases hi2 : i = n
    · rw [hi2]; exact hn
    · exact Q_inj (n := n) (hf.le (by omega)) (hg.le (by omega)) (by rw [hn] at h; omega) i (by omega)

/-- Of the words f the first k have become those of r. -/
def upto (k : Nat) (r f : Nat → Int) : Nat → Int := fun i => if i < k then r i else f i
theorem upto_zero (r f : Nat → Int) (i : Nat) : f i = upto 0 r f i := by unfold upto; rw [if_neg (by omega)]
theorem upto_at (k : Nat) (r f : Nat → Int) : upto k r f k = f k := by unfold upto; rw [if_neg (by omega)]
theorem upto_end {n : Nat} (r f : Nat → Int) (i : Nat) (hi : i < n) : upto n r f i = r i := by unfold upto; rw [if_pos hi]
theorem upto_next (k : Nat) (r f : Nat → Int) {v : Int} (hv : r k = v) (i : Nat) : upd (upto k r f) k v i = upto (k + 1) r f i := by
  unfold upd upto
  by_cases h : i = k
  · subst h
    rw [if_pos rfl, if_pos (by omega), hv]
  · rw [if_neg h]
    by_cases h2 : i < k
    · rw [if_pos h2, if_pos (by omega)]
    · rw [if_neg h2, if_neg (by omega)]
theorem rowD {w : World} {g : Nat} {T : TypeId} {n : Nat} {f : Nat → Int} (h : Row w g T n f) : Row w.drew g T n f := h

theorem info32 (f : Nat → Int) : (Tryz.prog.info? 32).map (·.size) = some (arr 4 f).size := by rw [arr_size]; kernel_rfl
theorem info34 (f : Nat → Int) : (Tryz.prog.info? 34).map (·.size) = some (arr 4 f).size := by rw [arr_size]; kernel_rfl
theorem info68 (f : Nat → Int) : (Tryz.prog.info? 68).map (·.size) = some (arr 8 f).size := by rw [arr_size]; kernel_rfl

end Go.Proofs.YtkeocdebfgcnnaaGreat.Ord

/- The contracts of plus and minus. -/
namespace Go.Proofs.YtkeocdebfgcnnaaGreat.Ord
open Go.RowKit


set_option maxRecDepth 100000 in
set_option maxHeartbeats 1000000 in
theorem plus_any (f g : Nat → Int) (w : World) (hf : Wds f 4) (hg : Wds g 4) :
    Calls Tryz.prog 63 #[.agg (arr 4 f), .agg (arr 4 g)] w fun r w' => r = .returned (.tuple #[.agg (arr 4 (ps f g)), .int .u64 (pc f g 4)]) ∧ Below w.heap.size w w' := by
  go_enter Tryz.func63, Tryz.ntmps63
  go_wp2
  rw [show #[Value.int IntKind.u64 0, Value.int IntKind.u64 0, Value.int IntKind.u64 0, Value.int IntKind.u64 0] = arr 4 (fun _ => 0) from rfl]
  have R1 : Row (((w.alloc (.cells (arr 4 f) 32)).alloc (.cells (arr 4 g) 32)).alloc (.cells (arr 4 fun _ => 0) 32)) w.heap.size 32 4 f := ((Row.new w 32 4 f).alloc _).alloc _
  have R2 : Row (((w.alloc (.cells (arr 4 f) 32)).alloc (.cells (arr 4 g) 32)).alloc (.cells (arr 4 fun _ => 0) 32)) (w.heap.size + 1) 32 4 g := (Row.new' _ 32 4 _ (by simp)).alloc _
  have R3 : Row (((w.alloc (.cells (arr 4 f) 32)).alloc (.cells (arr 4 g) 32)).alloc (.cells (arr 4 fun _ => 0) 32)) (w.heap.size + 1 + 1) 32 4 (fun _ => 0) := Row.new' _ 32 4 _ (by simp)
  have O : Below w.heap.size w (((w.alloc (.cells (arr 4 f) 32)).alloc (.cells (arr 4 g) 32)).alloc (.cells (arr 4 fun _ => 0) 32)) := (((Below.refl _ _).alloc (Nat.le_refl _) _).alloc (by simp) _).alloc (by simp; omega) _
  generalize (((w.alloc (.cells (arr 4 f) 32)).alloc (.cells (arr 4 g) 32)).alloc (.cells (arr 4 fun _ => 0) 32)) = W at R1 R2 R3 O ⊢
  go_loopw [6, 8] (fun c i wr => ∃ k : Nat, k ≤ 4 ∧ c = .int .u64 (pc f g k) ∧ i = .int .i64 k ∧ Row wr w.heap.size 32 4 (upto k (ps f g) f) ∧ Row wr (w.heap.size + 1) 32 4 g ∧ Row wr (w.heap.size + 1 + 1) 32 4 (fun _ => 0) ∧ Below w.heap.size w wr) (fun _ i _ => 4 - (intOf i).toNat)
  case atStart => exact ⟨0, by omega, rfl, rfl, R1.congr (fun i _ => upto_zero _ _ i), R2, R3, O⟩
  case round =>
    clear R1 R2 R3 O
    obtain ⟨k, hk, rfl, rfl, R1, R2, R3, O⟩ := hrel
    by_cases hlt : k < 4
    · have c := R1.cell (i := k) hlt
      rw [upto_at] at c
      have d := R2.cell hlt
      have e := R1.free
      have i1 : (0 : Int) ≤ (k : Int) := by omega
      have i2 : (k : Int) < 4 := by omega
      have hb := pc_bd hf hg k hk
      have hr := add64_run (f k) (g k) (pc f g k) (hf k hlt).1 (hg k hlt).1 hb.1 hb.2
      have HN := hide (show pc f g (k + 1) = (f k + g k + pc f g k) / 18446744073709551616 from rfl)
      have HM := hide (show ps f g k = (f k + g k + pc f g k) % 18446744073709551616 from rfl)
      go_wp2_with fail
      go_region_with fail
      all_goals
        go_wp2
        exact ⟨⟨k + 1, by omega, by rw [HN.out], by go_num, rowD ((R1.set k ((f k + g k + pc f g k) % 18446744073709551616)).congr (fun i _ => upto_next k _ _ HM.out i)), rowD (R2.other (a := ⟨w.heap.size, k, none⟩) (by simp) _), rowD (R3.other (a := ⟨w.heap.size, k, none⟩) (by simp <;> omega) _), (O.setCell (p := ⟨w.heap.size, k, none⟩) (Nat.le_refl _) _).drew⟩, by simp [intOf]; omega⟩
    · have hk' : k = 4 := by omega
      subst hk'
      replace R1 := R1.congr (f' := ps f g) (fun i hi => upto_end _ _ i hi)
      have RR := hide (R3.setAll (ps f g))
      have OO := hide (below_setCells (g := w.heap.size + 1 + 1) (by omega) (arr 4 (ps f g)).toList 0 O)
      have HX := hide R1
      clear R1 R2 O
      go_wp2_with (first | (refine wpList_load_row rfl 32 _ rfl w.heap.size rfl 32 (arr 4 (ps f g)) (0, 0) _ ?hgplus Tryz.underlying32 rfl (info32 _) ?_) | (refine wpList_store_mid rfl 32 _ _ rfl (w.heap.size + 1 + 1) 0 (arr 4 (ps f g)) rfl rfl ?thplus (info32 _) (arr_one _ _) ?_))
      case hgplus => exact HX.out
      case thplus => rw [arr_size]; exact R3.there
      exact bodyPost_ret (v := .tuple #[.agg (arr 4 (ps f g)), .int .u64 (pc f g 4)]) (results_cell_tmp Tryz.results63 _ _ (w.heap.size + 1 + 1) 32 (arr 4 (ps f g)) (0, 0) _ (.int .u64 (pc f g 4)) rfl rfl RR.out Tryz.underlying32 rfl (info32 _)) rfl ⟨rfl, OO.out⟩

set_option maxRecDepth 100000 in
set_option maxHeartbeats 1000000 in
theorem minus_any (f g : Nat → Int) (w : World) (hf : Wds f 4) (hg : Wds g 4) :
    Calls Tryz.prog 100 #[.agg (arr 4 f), .agg (arr 4 g)] w fun r w' => r = .returned (.tuple #[.agg (arr 4 (ms f g)), .int .u64 (br f g 4)]) ∧ Below w.heap.size w w' := by
  go_enter Tryz.func100, Tryz.ntmps100
  go_wp2
  rw [show #[Value.int IntKind.u64 0, Value.int IntKind.u64 0, Value.int IntKind.u64 0, Value.int IntKind.u64 0] = arr 4 (fun _ => 0) from rfl]
  have R1 : Row (((w.alloc (.cells (arr 4 f) 32)).alloc (.cells (arr 4 g) 32)).alloc (.cells (arr 4 fun _ => 0) 32)) w.heap.size 32 4 f := ((Row.new w 32 4 f).alloc _).alloc _
  have R2 : Row (((w.alloc (.cells (arr 4 f) 32)).alloc (.cells (arr 4 g) 32)).alloc (.cells (arr 4 fun _ => 0) 32)) (w.heap.size + 1) 32 4 g := (Row.new' _ 32 4 _ (by simp)).alloc _
  have R3 : Row (((w.alloc (.cells (arr 4 f) 32)).alloc (.cells (arr 4 g) 32)).alloc (.cells (arr 4 fun _ => 0) 32)) (w.heap.size + 1 + 1) 32 4 (fun _ => 0) := Row.new' _ 32 4 _ (by simp)
  have O : Below w.heap.size w (((w.alloc (.cells (arr 4 f) 32)).alloc (.cells (arr 4 g) 32)).alloc (.cells (arr 4 fun _ => 0) 32)) := (((Below.refl _ _).alloc (Nat.le_refl _) _).alloc (by simp) _).alloc (by simp; omega) _
  generalize (((w.alloc (.cells (arr 4 f) 32)).alloc (.cells (arr 4 g) 32)).alloc (.cells (arr 4 fun _ => 0) 32)) = W at R1 R2 R3 O ⊢
  go_loopw [6, 8] (fun c i wr => ∃ k : Nat, k ≤ 4 ∧ c = .int .u64 (br f g k) ∧ i = .int .i64 k ∧ Row wr w.heap.size 32 4 (upto k (ms f g) f) ∧ Row wr (w.heap.size + 1) 32 4 g ∧ Row wr (w.heap.size + 1 + 1) 32 4 (fun _ => 0) ∧ Below w.heap.size w wr) (fun _ i _ => 4 - (intOf i).toNat)
  case atStart => exact ⟨0, by omega, rfl, rfl, R1.congr (fun i _ => upto_zero _ _ i), R2, R3, O⟩
  case round =>
    clear R1 R2 R3 O
    obtain ⟨k, hk, rfl, rfl, R1, R2, R3, O⟩ := hrel
    by_cases hlt : k < 4
    · have c := R1.cell (i := k) hlt
      rw [upto_at] at c
      have d := R2.cell hlt
      have e := R1.free
      have i1 : (0 : Int) ≤ (k : Int) := by omega
      have i2 : (k : Int) < 4 := by omega
      have hb := br_bd f g k
      have hr := sub64_run (f k) (g k) (br f g k) (hf k hlt) (hg k hlt) hb.1 hb.2
      have HN := hide (show br f g (k + 1) = if f k < g k + br f g k then 1 else 0 from rfl)
      have HM := hide (show ms f g k = (f k - g k - br f g k) % 18446744073709551616 from rfl)
      go_wp2_with fail
      go_region_with fail
      all_goals
        go_wp2
        exact ⟨⟨k + 1, by omega, by rw [HN.out], by go_num, rowD ((R1.set k ((f k - g k - br f g k) % 18446744073709551616)).congr (fun i _ => upto_next k _ _ HM.out i)), rowD (R2.other (a := ⟨w.heap.size, k, none⟩) (by simp) _), rowD (R3.other (a := ⟨w.heap.size, k, none⟩) (by simp <;> omega) _), (O.setCell (p := ⟨w.heap.size, k, none⟩) (Nat.le_refl _) _).drew⟩, by simp [intOf]; omega⟩
    · have hk' : k = 4 := by omega
      subst hk'
      replace R1 := R1.congr (f' := ms f g) (fun i hi => upto_end _ _ i hi)
      have RR := hide (R3.setAll (ms f g))
      have OO := hide (below_setCells (g := w.heap.size + 1 + 1) (by omega) (arr 4 (ms f g)).toList 0 O)
      have HX := hide R1
      clear R1 R2 O
      go_wp2_with (first | (refine wpList_load_row rfl 32 _ rfl w.heap.size rfl 32 (arr 4 (ms f g)) (0, 0) _ ?hgminus Tryz.underlying32 rfl (info32 _) ?_) | (refine wpList_store_mid rfl 32 _ _ rfl (w.heap.size + 1 + 1) 0 (arr 4 (ms f g)) rfl rfl ?thminus (info32 _) (arr_one _ _) ?_))
      case hgminus => exact HX.out
      case thminus => rw [arr_size]; exact R3.there
      exact bodyPost_ret (v := .tuple #[.agg (arr 4 (ms f g)), .int .u64 (br f g 4)]) (results_cell_tmp Tryz.results100 _ _ (w.heap.size + 1 + 1) 32 (arr 4 (ms f g)) (0, 0) _ (.int .u64 (br f g 4)) rfl rfl RR.out Tryz.underlying32 rfl (info32 _)) rfl ⟨rfl, OO.out⟩

end Go.Proofs.YtkeocdebfgcnnaaGreat.Ord

/- The contracts of modulus, once and without: one number without another one, modulo the order. -/
namespace Go.Proofs.YtkeocdebfgcnnaaGreat.Ord
open Go.RowKit

/-- The order of the base point. -/
def Lm : Int := 7237005577332262213973186563042994240857116359379907606001950938285454250989
def Lf : Nat → Int := fun i => [6346243789798364141, 1503914060200516822, 0, 1152921504606846976].getD i 0
theorem Lf_Q : Q Lf 4 = Lm := by decide +kernel
theorem Lf_wds : Wds Lf 4 := fun i hi => by
  rcases (show i = 0 ∨ i = 1 ∨ i = 2 ∨ i = 3 by omega) with rfl | rfl | rfl | rfl <;> exact ⟨by decide, by decide⟩

set_option maxHeartbeats 400000 in
theorem modulus_any (w : World) : Calls Tryz.prog 65 #[] w fun r w' => r = .returned (.agg (arr 4 Lf)) ∧ Below w.heap.size w w' := by
  go_enter Tryz.func65, Tryz.ntmps65
  go_wp2
  exact bodyPost_ret (v := .agg (arr 4 Lf)) (by simp [results, Tryz.results65, go_sem]; rfl) rfl ⟨rfl, (Below.refl _ _).alloc (Nat.le_refl _) _⟩

set_option maxRecDepth 100000 in
set_option maxHeartbeats 1000000 in
theorem once_any (f : Nat → Int) (c : Int) (w : World) (hf : Wds f 4) (hc : c = 0 ∨ c = 1) :
    Calls Tryz.prog 101 #[.agg (arr 4 f), .int .u64 c] w fun r w' => r = .returned (.agg (arr 4 fun i => f i * c)) ∧ Below w.heap.size w w' := by
  go_enter Tryz.func101, Tryz.ntmps101
  go_wp2
  rw [show #[Value.int IntKind.u64 0, Value.int IntKind.u64 0, Value.int IntKind.u64 0, Value.int IntKind.u64 0] = arr 4 (fun _ => 0) from rfl]
  have R1 : Row ((w.alloc (.cells (arr 4 f) 32)).alloc (.cells (arr 4 fun _ => 0) 32)) w.heap.size 32 4 f := (Row.new w 32 4 f).alloc _
  have R3 : Row ((w.alloc (.cells (arr 4 f) 32)).alloc (.cells (arr 4 fun _ => 0) 32)) (w.heap.size + 1) 32 4 (fun _ => 0) := Row.new' _ 32 4 _ (by simp)
  have O : Below w.heap.size w ((w.alloc (.cells (arr 4 f) 32)).alloc (.cells (arr 4 fun _ => 0) 32)) := ((Below.refl _ _).alloc (Nat.le_refl _) _).alloc (by simp) _
  generalize ((w.alloc (.cells (arr 4 f) 32)).alloc (.cells (arr 4 fun _ => 0) 32)) = W at R1 R3 O ⊢
  go_loopw [6] (fun i wr => ∃ k : Nat, k ≤ 4 ∧ i = .int .i64 k ∧ Row wr w.heap.size 32 4 (upto k (fun i => f i * c) f) ∧ Row wr (w.heap.size + 1) 32 4 (fun _ => 0) ∧ Below w.heap.size w wr) (fun i _ => 4 - (intOf i).toNat)
  case atStart => exact ⟨0, by omega, rfl, R1.congr (fun i _ => upto_zero _ _ i), R3, O⟩
  case round =>
    clear R1 R3 O
    obtain ⟨k, hk, rfl, R1, R3, O⟩ := hrel
    by_cases hlt : k < 4
    · have cc := R1.cell (i := k) hlt
      rw [upto_at] at cc
      have e := R1.free k
      have i1 : (0 : Int) ≤ (k : Int) := by omega
      have i2 : (k : Int) < 4 := by omega
      obtain ⟨f0, f1⟩ := hf k hlt
      have hw : IntKind.u64.wrap (f k * c) = f k * c := by
        rcases hc with rfl | rfl
        · rw [Int.mul_zero]; decide
        · rw [Int.mul_one]; exact wrap64u ⟨f0, f1⟩
      have m0 : 0 ≤ f k * c := by rcases hc with rfl | rfl <;> omega
      have m1 : f k * c < 18446744073709551616 := by rcases hc with rfl | rfl <;> omega
      have RR := hide ((R1.set k (f k * c)).congr (fun i _ => upto_next k (fun i => f i * c) f rfl i))
      have R3' := hide (R3.other (a := ⟨w.heap.size, k, none⟩) (by simp) (.int .u64 (f k * c)))
      have O' := hide (O.setCell (p := ⟨w.heap.size, k, none⟩) (Nat.le_refl _) (.int .u64 (f k * c)))
      clear R1 R3 O
      go_wp2
      go_roundw
      case rel => exact ⟨k + 1, by omega, by go_num, RR.out, R3'.out, O'.out⟩
      case measure => simp [intOf]; omega
    · have hk' : k = 4 := by omega
      subst hk'
      replace R1 := R1.congr (f' := fun i => f i * c) (fun i hi => upto_end _ _ i hi)
      have RR := hide (R3.setAll (fun i => f i * c))
      have OO := hide (below_setCells (g := w.heap.size + 1) (by omega) (arr 4 (fun i => f i * c)).toList 0 O)
      have HX := hide R1
      clear R1 O
      go_wp2_with (first | (refine wpList_load_row rfl 32 _ rfl w.heap.size rfl 32 (arr 4 (fun i => f i * c)) (0, 0) _ ?hgo Tryz.underlying32 rfl (info32 _) ?_) | (refine wpList_store_mid rfl 32 _ _ rfl (w.heap.size + 1) 0 (arr 4 (fun i => f i * c)) rfl rfl ?tho (info32 _) (arr_one _ _) ?_))
      case hgo => exact HX.out
      case tho => rw [arr_size]; exact R3.there
      exact bodyPost_ret (v := .agg (arr 4 fun i => f i * c)) (results_cell_row Tryz.results101 _ _ (w.heap.size + 1) 32 (arr 4 (fun i => f i * c)) (0, 0) _ rfl RR.out Tryz.underlying32 rfl (info32 _)) rfl ⟨rfl, OO.out⟩

theorem Q_mul (f : Nat → Int) (c : Int) : ∀ n, Q (fun i => f i * c) n = Q f n * c
  | 0 => by simp [Q]
  | n + 1 => by
    simp only [Q]
    rw [Q_mul f c n, Int.add_mul, Int.mul_assoc, Int.mul_assoc, Int.mul_comm c]

theorem wval {X Y R T b c P L : Int} (hb : b = 0 ∨ b = 1) (hc : c = 0 ∨ c = 1) (hL : L < P) (e1 : R - b * P = X - Y) (e2 : T + c * P = R + L * b) (_r0 : 0 ≤ R) (r1 : R < P) (t0 : 0 ≤ T) (t1 : T < P) (h0 : - L ≤ X - Y) (h1 : X - Y < L) : T = (X - Y) % L := by
  rcases hb with rfl | rfl
  · rcases hc with rfl | rfl
    · simp only [Int.zero_mul, Int.mul_zero] at e1 e2
      rw [Int.emod_eq_of_lt (by omega) h1]
      omega
    · simp only [Int.zero_mul, Int.mul_zero, Int.one_mul] at e1 e2
      omega
  · rcases hc with rfl | rfl
    · simp only [Int.zero_mul, Int.mul_one, Int.one_mul] at e1 e2
      omega
    · simp only [Int.mul_one, Int.one_mul] at e1 e2
      have e : (X - Y) % L = (X - Y + L) % L := by rw [Int.add_emod_right]
      rw [e, Int.emod_eq_of_lt (by omega) (by omega)]
      omega

theorem Lm_P : Lm < 18446744073709551616 ^ 4 := by decide
theorem Lm_pos : 0 < Lm := by decide
theorem lmod (X : Int) : 0 ≤ X % Lm ∧ X % Lm < Lm := ⟨Int.emod_nonneg _ (by decide), Int.emod_lt_of_pos _ Lm_pos⟩
theorem dQ {X : Int} (h : 0 ≤ X ∧ X < Lm) : Q (d64 X) 4 = X := by
  have := Lm_P
  rw [d64_Q _ h.1, Int.emod_eq_of_lt h.1 (by omega)]

theorem without_val {f g : Nat → Int} (hf : Wds f 4) (hg : Wds g 4) (h0 : - Lm ≤ Q f 4 - Q g 4) (h1 : Q f 4 - Q g 4 < Lm) :
    arr 4 (ps (ms f g) (fun i => Lf i * br f g 4)) = arr 4 (d64 ((Q f 4 - Q g 4) % Lm)) := by
  have hb := br_bd f g 4
  have hb2 : br f g 4 = 0 ∨ br f g 4 = 1 := by omega
  have wl : Wds (fun i => Lf i * br f g 4) 4 := fun i hi => by
    have h := Lf_wds i hi
    show W64 (Lf i * br f g 4)
    rcases hb2 with e | e
    · rw [e, Int.mul_zero]; exact ⟨by decide, by decide⟩
    · rw [e, Int.mul_one]; exact h
  have e1 := ms_Q hf hg 4 (by omega)
  have e2 := ps_Q (ms f g) (fun i => Lf i * br f g 4) 4
  have e3 := pc_bd (ms_wds f g 4) wl 4 (by omega)
  have b1 := Q_bd (ms_wds f g 4)
  have b2 := Q_bd (ps_wds (ms f g) (fun i => Lf i * br f g 4) 4)
  rw [Q_mul, Lf_Q] at e2
  refine arr_congr (Q_inj (ps_wds _ _ 4) (d64_wds _ 4) ?_)
  rw [dQ (lmod _)]
  exact wval hb2 (by omega) Lm_P e1 e2 b1.1 b1.2 b2.1 b2.2 h0 h1

end Go.Proofs.YtkeocdebfgcnnaaGreat.Ord

/- The contract of without. -/
namespace Go.Proofs.YtkeocdebfgcnnaaGreat.Ord
open Go.RowKit

theorem wpList_build {P : Program} {ops : Array Oper} {rest : List Oper} {o : Oper} {a : Act} {w : World} {Q : Exit → Act → World → Prop} (hg : o.guard = none) (ty : TypeId) (parts : Array (Nat × Operand)) (_ho : o.op = .build ty parts) (cs : Array Value)
    (hrun : (execOp a.eval o).run P w = .ok (.value (.agg cs)) w) (h : wpList P ops Q rest (a.put o.dst (.agg cs)) w) : wpList P ops Q (o :: rest) a w :=
  wpList_plain hg fun K hK => by
    unfold Oper.wp
    rw [hrun]
    exact hK _ _ h

set_option maxRecDepth 100000 in
set_option maxHeartbeats 2000000 in
theorem without_gen (f g r l t : Nat → Int) (b c : Int) (w : World)
    (H0 : ∀ w, Calls Tryz.prog 100 #[.agg (arr 4 f), .agg (arr 4 g)] w fun x w' => x = .returned (.tuple #[.agg (arr 4 r), .int .u64 b]) ∧ Below w.heap.size w w')
    (H2 : ∀ w, Calls Tryz.prog 101 #[.agg (arr 4 Lf), .int .u64 b] w fun x w' => x = .returned (.agg (arr 4 l)) ∧ Below w.heap.size w w')
    (H3 : ∀ w, Calls Tryz.prog 63 #[.agg (arr 4 r), .agg (arr 4 l)] w fun x w' => x = .returned (.tuple #[.agg (arr 4 t), .int .u64 c]) ∧ Below w.heap.size w w') :
    Calls Tryz.prog 64 #[.agg (arr 4 f), .agg (arr 4 g)] w fun x w' => x = .returned (.agg (arr 4 t)) ∧ Below w.heap.size w w' := by
  have C0 := hide H0
  have C1 := hide modulus_any
  have C2 := hide H2
  have C3 := hide H3
  clear H0 H2 H3
  have R1 : Row (((w.alloc (.cells (arr 4 f) 32)).alloc (.cells (arr 4 g) 32)).alloc (.cells (arr 4 fun _ => 0) 34)) w.heap.size 32 4 f := ((Row.new w 32 4 f).alloc _).alloc _
  have R2 : Row (((w.alloc (.cells (arr 4 f) 32)).alloc (.cells (arr 4 g) 32)).alloc (.cells (arr 4 fun _ => 0) 34)) (w.heap.size + 1) 32 4 g := (Row.new' _ 32 4 _ (by simp)).alloc _
  have R3 : Row (((w.alloc (.cells (arr 4 f) 32)).alloc (.cells (arr 4 g) 32)).alloc (.cells (arr 4 fun _ => 0) 34)) (w.heap.size + 1 + 1) 34 4 (fun _ => 0) := Row.new' _ 34 4 _ (by simp)
  have O : Below w.heap.size w (((w.alloc (.cells (arr 4 f) 32)).alloc (.cells (arr 4 g) 32)).alloc (.cells (arr 4 fun _ => 0) 34)) := (((Below.refl _ _).alloc (Nat.le_refl _) _).alloc (by simp) _).alloc (by simp; omega) _
  have HR := hide (And.intro R1 (And.intro R2 (And.intro R3 O)))
  clear R1 R2 R3 O
  go_enter Tryz.func64, Tryz.ntmps64
  go_wp2_with (first | (refine wpList_load_row rfl 32 _ rfl w.heap.size rfl 32 (arr 4 f) (0, 0) _ HR.out.1 Tryz.underlying32 rfl (info32 _) ?_) | (refine wpList_load_row rfl 32 _ rfl (w.heap.size + 1) rfl 32 (arr 4 g) (0, 0) _ HR.out.2.1 Tryz.underlying32 rfl (info32 _) ?_))
  rw [show #[Value.int IntKind.u64 0, Value.int IntKind.u64 0, Value.int IntKind.u64 0, Value.int IntKind.u64 0] = arr 4 (fun _ => 0) from rfl]
  obtain ⟨R1, R2, R3, O⟩ := HR.out
  clear HR R1 R2
  generalize (((w.alloc (.cells (arr 4 f) 32)).alloc (.cells (arr 4 g) 32)).alloc (.cells (arr 4 fun _ => 0) 34)) = W at R3 O ⊢
  refine (C0.out _).mono ?_
  rintro _ w1 ⟨rfl, hb1⟩
  replace R3 := R3.keep hb1
  replace O := O.trans (hb1.mono O.size)
  clear hb1
  have RC : Row (w1.alloc (.cells #[Value.int IntKind.u64 0, Value.int IntKind.u64 0, Value.int IntKind.u64 0, Value.int IntKind.u64 0] 32)) w1.heap.size 32 4 (fun _ => 0) := Row.new w1 32 4 (fun _ => 0)
  have gl := R3.lt
  have RR := hide (RC.setAll r)
  have BB := below_setCells (g := w1.heap.size) (Nat.le_refl _) (arr 4 r).toList 0 (new_below w1 (.cells #[Value.int IntKind.u64 0, Value.int IntKind.u64 0, Value.int IntKind.u64 0, Value.int IntKind.u64 0] 32))
  have R3' := hide (R3.keep BB)
  have O' := hide (O.trans (BB.mono O.size))
  clear R3 O BB
  go_wp2_with (refine wpList_store_mid rfl 32 _ _ rfl w1.heap.size 0 (arr 4 r) rfl rfl ?thr (info32 _) (arr_one _ _) ?_)
  case thr => rw [arr_size]; exact RC.there
  have R3 := R3'.out
  have O := O'.out
  replace RC := RR.out
  clear R3' O' RR
  generalize w1.heap.size = gc at *
  generalize (w1.alloc (.cells #[Value.int IntKind.u64 0, Value.int IntKind.u64 0, Value.int IntKind.u64 0, Value.int IntKind.u64 0] 32)).setCells gc 0 (arr 4 r).toList = W2 at *
  refine region_cut (fun a0 a' w' => a' = (((((((a0.put (some 14) (.agg (arr 4 r))).put (some 15) (.agg (arr 4 Lf))).put (some 16) (.int .u64 b)).put (some 17) (.agg (arr 4 l))).put (some 18) (.tuple #[.agg (arr 4 t), .int .u64 c])).put (some 13) (.tuple #[.agg (arr 4 t), .int .u64 c])).put (some 19) (.agg (arr 4 t))).put (some 20) (.int .u64 c) ∧ Row w' gc 32 4 t ∧ Row w' (w.heap.size + 1 + 1) 34 4 (fun _ => 0) ∧ Below w.heap.size w w') (by kernel_rfl) ?_ ?_
  · clear RC R3 O
    rintro _ w8 ⟨rfl, RC, R3, O⟩
    have RR := hide (R3.setAll t)
    have OO := hide (below_setCells (g := w.heap.size + 1 + 1) (by omega) (arr 4 t).toList 0 O)
    have HX := hide RC
    clear RC O
    go_simp
    go_wp2_with (first | (refine wpList_load_row rfl 32 _ rfl gc rfl 32 (arr 4 t) (0, 0) _ ?hgt Tryz.underlying32 rfl (info32 _) ?_) | (refine wpList_build rfl 34 _ rfl (arr 4 t) (by kernel_rfl) ?_) | (refine wpList_store_mid rfl 34 _ _ rfl (w.heap.size + 1 + 1) 0 (arr 4 t) rfl rfl ?tht (info34 _) (arr_one _ _) ?_))
    case hgt => exact HX.out
    case tht => rw [arr_size]; exact R3.there
    exact bodyPost_ret (v := .agg (arr 4 t)) (results_cell_row Tryz.results64 _ _ (w.heap.size + 1 + 1) 34 (arr 4 t) (0, 0) _ rfl RR.out Tryz.underlying34 rfl (info34 _)) rfl ⟨rfl, OO.out⟩
  · intro hrest
    replace RC := rowD RC
    replace R3 := rowD R3
    replace O := O.drew
    generalize W2.drew = W0 at *
    refine wpAny_take (i := 2) (v := .int .u64 b) rfl (by kernel_rfl) (by kernel_rfl) (by kernel_rfl) (fun _ _ _ h => h) (Or.inl ⟨by rfl, fun _ => by kernel_rfl⟩) ?_
    refine wpAny_ready (rs := [0, 1]) (by kernel_rfl) (by simp) ?_
    refine ready_load rfl rfl 32 _ rfl gc (by kernel_rfl) 32 (arr 4 r) (0, 0) _ RC Tryz.underlying32 rfl (info32 _) ?_ ?_
    · skip
      refine wpAny_ready (rs := [1]) (by kernel_rfl) (by simp) ?_
      refine ready_call 65 #[] rfl rfl (by kernel_rfl) ?_ ?_
      · refine (C1.out _).mono ?_
        rintro _ w102 ⟨rfl, hb102⟩
        refine ⟨_, rfl, ?_⟩
        replace R3 := R3.keep hb102
        replace RC := RC.keep hb102
        replace O := O.trans (hb102.mono O.size)
        clear hb102
        refine wpAny_ready (rs := [3]) (by kernel_rfl) (by simp) ?_
        refine ready_call 101 #[.agg (arr 4 Lf), .int .u64 b] rfl rfl (by kernel_rfl) ?_ ?_
        · refine (C2.out _).mono ?_
          rintro _ w103 ⟨rfl, hb103⟩
          refine ⟨_, rfl, ?_⟩
          replace R3 := R3.keep hb103
          replace RC := RC.keep hb103
          replace O := O.trans (hb103.mono O.size)
          clear hb103
          refine wpAny_ready (rs := [4]) (by kernel_rfl) (by simp) ?_
          refine ready_call 63 #[.agg (arr 4 r), .agg (arr 4 l)] rfl rfl (by kernel_rfl) ?_ ?_
          · refine (C3.out _).mono ?_
            rintro _ w104 ⟨rfl, hb104⟩
            refine ⟨_, rfl, ?_⟩
            replace R3 := R3.keep hb104
            replace RC := RC.keep hb104
            replace O := O.trans (hb104.mono O.size)
            clear hb104
            refine wpAny_take (i := 5) (v := .tuple #[.agg (arr 4 t), .int .u64 c]) rfl (by kernel_rfl) (by kernel_rfl) (by kernel_rfl) (fun _ _ _ h => h) (Or.inl ⟨by rfl, fun _ => by kernel_rfl⟩) ?_
            refine wpAny_take (i := 6) (v := .agg (arr 4 t)) rfl (by kernel_rfl) (by kernel_rfl) (by kernel_rfl) (fun _ _ _ h => h) (Or.inl ⟨by rfl, fun _ => by kernel_rfl⟩) ?_
            refine wpAny_take (i := 7) (v := .int .u64 c) rfl (by kernel_rfl) (by kernel_rfl) (by kernel_rfl) (fun _ _ _ h => h) (Or.inl ⟨by rfl, fun _ => by kernel_rfl⟩) ?_
            refine wpAny_ready (rs := [8]) (by kernel_rfl) (by simp) ?_
            refine ready_store rfl rfl 32 _ _ rfl gc 0 (arr 4 t) (by kernel_rfl) (by kernel_rfl) (by rw [arr_size]; exact RC.there) (info32 _) (arr_one _ _) ?_ ?_
            · skip
              exact wpAny_done (by kernel_rfl) (hrest _ _ ⟨by kernel_rfl, RC.setAll _, R3.setOther (by omega) _ _, below_setCells (by omega) _ _ O⟩) _
            exact AllReady.nil
          exact AllReady.nil
        exact AllReady.nil
      exact AllReady.nil
    refine ready_call 65 #[] rfl rfl (by kernel_rfl) ?_ ?_
    · refine (C1.out _).mono ?_
      rintro _ w106 ⟨rfl, hb106⟩
      refine ⟨_, rfl, ?_⟩
      replace R3 := R3.keep hb106
      replace RC := RC.keep hb106
      replace O := O.trans (hb106.mono O.size)
      clear hb106
      refine wpAny_ready (rs := [0, 3]) (by kernel_rfl) (by simp) ?_
      refine ready_load rfl rfl 32 _ rfl gc (by kernel_rfl) 32 (arr 4 r) (0, 0) _ RC Tryz.underlying32 rfl (info32 _) ?_ ?_
      · skip
        refine wpAny_ready (rs := [3]) (by kernel_rfl) (by simp) ?_
        refine ready_call 101 #[.agg (arr 4 Lf), .int .u64 b] rfl rfl (by kernel_rfl) ?_ ?_
        · refine (C2.out _).mono ?_
          rintro _ w108 ⟨rfl, hb108⟩
          refine ⟨_, rfl, ?_⟩
          replace R3 := R3.keep hb108
          replace RC := RC.keep hb108
          replace O := O.trans (hb108.mono O.size)
          clear hb108
          refine wpAny_ready (rs := [4]) (by kernel_rfl) (by simp) ?_
          refine ready_call 63 #[.agg (arr 4 r), .agg (arr 4 l)] rfl rfl (by kernel_rfl) ?_ ?_
          · refine (C3.out _).mono ?_
            rintro _ w109 ⟨rfl, hb109⟩
            refine ⟨_, rfl, ?_⟩
            replace R3 := R3.keep hb109
            replace RC := RC.keep hb109
            replace O := O.trans (hb109.mono O.size)
            clear hb109
            refine wpAny_take (i := 5) (v := .tuple #[.agg (arr 4 t), .int .u64 c]) rfl (by kernel_rfl) (by kernel_rfl) (by kernel_rfl) (fun _ _ _ h => h) (Or.inl ⟨by rfl, fun _ => by kernel_rfl⟩) ?_
            refine wpAny_take (i := 6) (v := .agg (arr 4 t)) rfl (by kernel_rfl) (by kernel_rfl) (by kernel_rfl) (fun _ _ _ h => h) (Or.inl ⟨by rfl, fun _ => by kernel_rfl⟩) ?_
            refine wpAny_take (i := 7) (v := .int .u64 c) rfl (by kernel_rfl) (by kernel_rfl) (by kernel_rfl) (fun _ _ _ h => h) (Or.inl ⟨by rfl, fun _ => by kernel_rfl⟩) ?_
            refine wpAny_ready (rs := [8]) (by kernel_rfl) (by simp) ?_
            refine ready_store rfl rfl 32 _ _ rfl gc 0 (arr 4 t) (by kernel_rfl) (by kernel_rfl) (by rw [arr_size]; exact RC.there) (info32 _) (arr_one _ _) ?_ ?_
            · skip
              exact wpAny_done (by kernel_rfl) (hrest _ _ ⟨by kernel_rfl, RC.setAll _, R3.setOther (by omega) _ _, below_setCells (by omega) _ _ O⟩) _
            exact AllReady.nil
          exact AllReady.nil
        exact AllReady.nil
      refine ready_call 101 #[.agg (arr 4 Lf), .int .u64 b] rfl rfl (by kernel_rfl) ?_ ?_
      · refine (C2.out _).mono ?_
        rintro _ w111 ⟨rfl, hb111⟩
        refine ⟨_, rfl, ?_⟩
        replace R3 := R3.keep hb111
        replace RC := RC.keep hb111
        replace O := O.trans (hb111.mono O.size)
        clear hb111
        refine wpAny_ready (rs := [0]) (by kernel_rfl) (by simp) ?_
        refine ready_load rfl rfl 32 _ rfl gc (by kernel_rfl) 32 (arr 4 r) (0, 0) _ RC Tryz.underlying32 rfl (info32 _) ?_ ?_
        · skip
          refine wpAny_ready (rs := [4]) (by kernel_rfl) (by simp) ?_
          refine ready_call 63 #[.agg (arr 4 r), .agg (arr 4 l)] rfl rfl (by kernel_rfl) ?_ ?_
          · refine (C3.out _).mono ?_
            rintro _ w113 ⟨rfl, hb113⟩
            refine ⟨_, rfl, ?_⟩
            replace R3 := R3.keep hb113
            replace RC := RC.keep hb113
            replace O := O.trans (hb113.mono O.size)
            clear hb113
            refine wpAny_take (i := 5) (v := .tuple #[.agg (arr 4 t), .int .u64 c]) rfl (by kernel_rfl) (by kernel_rfl) (by kernel_rfl) (fun _ _ _ h => h) (Or.inl ⟨by rfl, fun _ => by kernel_rfl⟩) ?_
            refine wpAny_take (i := 6) (v := .agg (arr 4 t)) rfl (by kernel_rfl) (by kernel_rfl) (by kernel_rfl) (fun _ _ _ h => h) (Or.inl ⟨by rfl, fun _ => by kernel_rfl⟩) ?_
            refine wpAny_take (i := 7) (v := .int .u64 c) rfl (by kernel_rfl) (by kernel_rfl) (by kernel_rfl) (fun _ _ _ h => h) (Or.inl ⟨by rfl, fun _ => by kernel_rfl⟩) ?_
            refine wpAny_ready (rs := [8]) (by kernel_rfl) (by simp) ?_
            refine ready_store rfl rfl 32 _ _ rfl gc 0 (arr 4 t) (by kernel_rfl) (by kernel_rfl) (by rw [arr_size]; exact RC.there) (info32 _) (arr_one _ _) ?_ ?_
            · skip
              exact wpAny_done (by kernel_rfl) (hrest _ _ ⟨by kernel_rfl, RC.setAll _, R3.setOther (by omega) _ _, below_setCells (by omega) _ _ O⟩) _
            exact AllReady.nil
          exact AllReady.nil
        exact AllReady.nil
      exact AllReady.nil
    exact AllReady.nil

end Go.Proofs.YtkeocdebfgcnnaaGreat.Ord

/- The contracts of the scalars' Add and Neg. -/
namespace Go.Proofs.YtkeocdebfgcnnaaGreat.Ord
open Go.RowKit

theorem without_any (f g : Nat → Int) (w : World) (hf : Wds f 4) (hg : Wds g 4) (h0 : - Lm ≤ Q f 4 - Q g 4) (h1 : Q f 4 - Q g 4 < Lm) :
    Calls Tryz.prog 64 #[.agg (arr 4 f), .agg (arr 4 g)] w fun x w' => x = .returned (.agg (arr 4 (d64 ((Q f 4 - Q g 4) % Lm)))) ∧ Below w.heap.size w w' := by
  have hb := br_bd f g 4
  have hb2 : br f g 4 = 0 ∨ br f g 4 = 1 := by omega
  have wl : Wds (fun i => Lf i * br f g 4) 4 := fun i hi => by
    have h := Lf_wds i hi
    show W64 (Lf i * br f g 4)
    rcases hb2 with e | e
    · rw [e, Int.mul_zero]; exact ⟨by decide, by decide⟩
    · rw [e, Int.mul_one]; exact h
  have := without_gen f g (ms f g) (fun i => Lf i * br f g 4) (ps (ms f g) (fun i => Lf i * br f g 4)) (br f g 4) (pc (ms f g) (fun i => Lf i * br f g 4) 4) w
    (fun w => minus_any f g w hf hg) (fun w => once_any Lf _ w Lf_wds hb2) (fun w => plus_any _ _ w (ms_wds f g 4) wl)
  rwa [without_val hf hg h0 h1] at this

end Go.Proofs.YtkeocdebfgcnnaaGreat.Ord

/- The contract of next: a number with a further half word below it, modulo the order. -/
namespace Go.Proofs.YtkeocdebfgcnnaaGreat.Ord
open Go.RowKit

theorem nx_or {x y : Int} (_hx : W64 x) (hy : 0 ≤ y) (hy1 : y < 4294967296) : bits BinOp.or IntKind.u64 (IntKind.u64.wrap (x * 4294967296)) y = x * 4294967296 % 18446744073709551616 + y := by
  rw [IntKind.wrap_u64, or_join 32 4294967296 (by decide) ⟨by omega, by omega⟩ ⟨by omega, by omega⟩ (by omega) (by omega)]
theorem nx_and {x : Int} (hx : W64 x) : bits BinOp.and IntKind.u64 x 268435455 = x % 268435456 := by
  obtain ⟨h0, h1⟩ := hx
  rw [u64_and x _ h0 (by omega) (by decide) (by decide)]
  have e : (268435455 : Int).toNat = 268435455 := by decide
  have e2 : x.toNat &&& 268435455 = x.toNat % 268435456 := Nat.and_two_pow_sub_one_eq_mod _ 28
  rw [e, e2]
  omega

set_option maxRecDepth 100000 in
set_option maxHeartbeats 1000000 in
theorem next_gen (x0 x1 x2 x3 H : Int) (t : Nat → Int) (w : World) (k0 : W64 x0) (k1 : W64 x1) (k2 : W64 x2) (k3 : W64 x3) (h0 : 0 ≤ H) (h1 : H < 4294967296)
    (HC : ∀ w, Calls Tryz.prog 64 #[.agg #[.int .u64 (x0 * 4294967296 % 18446744073709551616 + H), .int .u64 (x1 * 4294967296 % 18446744073709551616 + x0 / 4294967296), .int .u64 (x2 * 4294967296 % 18446744073709551616 + x1 / 4294967296), .int .u64 (x3 % 268435456 * 4294967296 + x2 / 4294967296)], .agg #[.int .u64 (x3 / 268435456 * 6346243789798364141 % 18446744073709551616), .int .u64 ((x3 / 268435456 * 1503914060200516822 + x3 / 268435456 * 6346243789798364141 / 18446744073709551616) % 18446744073709551616), .int .u64 ((x3 / 268435456 * 1503914060200516822 + x3 / 268435456 * 6346243789798364141 / 18446744073709551616) / 18446744073709551616), .int .u64 0]] w fun x w' => x = .returned (.agg (arr 4 t)) ∧ Below w.heap.size w w') :
    Calls Tryz.prog 76 #[.agg #[.int .u64 x0, .int .u64 x1, .int .u64 x2, .int .u64 x3], .int .u64 H] w fun x w' => x = .returned (.agg (arr 4 t)) ∧ Below w.heap.size w w' := by
  have e0 := nx_or k0 h0 h1
  have e1 := nx_or k1 (y := x0 / 4294967296) (by unfold W64 at *; omega) (by unfold W64 at *; omega)
  have e2 := nx_or k2 (y := x1 / 4294967296) (by unfold W64 at *; omega) (by unfold W64 at *; omega)
  have e3 := nx_and k3
  have e4 : bits BinOp.or IntKind.u64 (x3 % 268435456 * 4294967296) (x2 / 4294967296) = x3 % 268435456 * 4294967296 + x2 / 4294967296 := by
    unfold W64 at *
    rw [or_join 32 4294967296 (by decide) ⟨by omega, by omega⟩ ⟨by omega, by omega⟩ (by omega) (by omega)]
  have q0 : W64 (x3 / 268435456) := by unfold W64 at *; omega
  have C := hide HC
  have c1 : W64 (x3 / 268435456 * 6346243789798364141 / 18446744073709551616) := by unfold W64 at *; omega
  have p1 := fun w => productAnd_any (x3 / 268435456) 6346243789798364141 0 0 w q0 ⟨by decide, by decide⟩ ⟨by decide, by decide⟩ ⟨by decide, by decide⟩
  have p2 := fun w => productAnd_any (x3 / 268435456) 1503914060200516822 (x3 / 268435456 * 6346243789798364141 / 18446744073709551616) 0 w q0 ⟨by decide, by decide⟩ c1 ⟨by decide, by decide⟩
  simp only [Int.add_zero] at p1 p2
  have P1 := hide p1
  have P2 := hide p2
  clear HC p1 p2 c1
  have O : Below w.heap.size w ((((w.alloc (.cells #[.int .u64 x0, .int .u64 x1, .int .u64 x2, .int .u64 x3] 34)).alloc (.cells #[.int .u64 0, .int .u64 0, .int .u64 0, .int .u64 0] 34)).alloc (.cells #[.int .u64 x0, .int .u64 x1, .int .u64 x2, .int .u64 x3] 32)).alloc (.cells #[.int .u64 (x0 * 4294967296 % 18446744073709551616 + H), .int .u64 (x1 * 4294967296 % 18446744073709551616 + x0 / 4294967296), .int .u64 (x2 * 4294967296 % 18446744073709551616 + x1 / 4294967296), .int .u64 (x3 % 268435456 * 4294967296 + x2 / 4294967296)] 32)) := ((((Below.refl _ _).alloc (Nat.le_refl _) _).alloc (by simp) _).alloc (by simp; omega) _).alloc (by simp; omega) _
  have R3 : Row ((((w.alloc (.cells #[.int .u64 x0, .int .u64 x1, .int .u64 x2, .int .u64 x3] 34)).alloc (.cells #[.int .u64 0, .int .u64 0, .int .u64 0, .int .u64 0] 34)).alloc (.cells #[.int .u64 x0, .int .u64 x1, .int .u64 x2, .int .u64 x3] 32)).alloc (.cells #[.int .u64 (x0 * 4294967296 % 18446744073709551616 + H), .int .u64 (x1 * 4294967296 % 18446744073709551616 + x0 / 4294967296), .int .u64 (x2 * 4294967296 % 18446744073709551616 + x1 / 4294967296), .int .u64 (x3 % 268435456 * 4294967296 + x2 / 4294967296)] 32)) (w.heap.size + 1) 34 4 (fun _ => 0) := ((Row.new' _ 34 4 (fun _ => 0) (by simp)).alloc _).alloc _
  have HO := hide (And.intro O R3)
  clear O R3
  go_enter Tryz.func76, Tryz.ntmps76
  go_wp2_with fail
  refine (P1.out _).mono ?_
  rintro _ w1 ⟨rfl, rfl⟩
  go_wp2_with fail
  refine (P2.out _).mono ?_
  rintro _ w2 ⟨rfl, rfl⟩
  go_wp2_with fail
  refine (C.out _).mono ?_
  rintro _ w3 ⟨rfl, hb⟩
  have R3 := HO.out.2.keep hb
  have O := HO.out.1.trans (hb.mono HO.out.1.size)
  clear hb HO C P1 P2 e0 e1 e2 e3 e4
  have RR := hide (R3.setAll t)
  have OO := hide (below_setCells (g := w.heap.size + 1) (by omega) (arr 4 t).toList 0 O)
  clear O
  go_wp2_with (refine wpList_store_mid rfl 34 _ _ rfl (w.heap.size + 1) 0 (arr 4 t) rfl rfl ?thn (info34 _) (arr_one _ _) ?_)
  case thn => rw [arr_size]; exact R3.there
  exact bodyPost_ret (v := .agg (arr 4 t)) (results_cell_row Tryz.results76 _ _ (w.heap.size + 1) 34 (arr 4 t) (0, 0) _ rfl RR.out Tryz.underlying34 rfl (info34 _)) rfl ⟨rfl, OO.out⟩

theorem Q4 (f : Nat → Int) : Q f 4 = f 0 + f 1 * 18446744073709551616 + f 2 * 340282366920938463463374607431768211456 + f 3 * 6277101735386680763835789423207666416102355444464034512896 := by
  simp [Q]

/-- What rest is. -/
def nf (x0 x1 x2 x3 H : Int) : Nat → Int := fun i => [x0 * 4294967296 % 18446744073709551616 + H, x1 * 4294967296 % 18446744073709551616 + x0 / 4294967296, x2 * 4294967296 % 18446744073709551616 + x1 / 4294967296, x3 % 268435456 * 4294967296 + x2 / 4294967296].getD i 0
def ng (o : Int) : Nat → Int := fun i => [o * 6346243789798364141 % 18446744073709551616, (o * 1503914060200516822 + o * 6346243789798364141 / 18446744073709551616) % 18446744073709551616, (o * 1503914060200516822 + o * 6346243789798364141 / 18446744073709551616) / 18446744073709551616, 0].getD i 0

theorem nf_Q (x0 x1 x2 x3 H : Int) : Q (nf x0 x1 x2 x3 H) 4 = (x0 + x1 * 18446744073709551616 + x2 * 340282366920938463463374607431768211456 + x3 % 268435456 * 6277101735386680763835789423207666416102355444464034512896) * 4294967296 + H := by
  rw [Q4]
  show (x0 * 4294967296 % 18446744073709551616 + H) + (x1 * 4294967296 % 18446744073709551616 + x0 / 4294967296) * 18446744073709551616 + (x2 * 4294967296 % 18446744073709551616 + x1 / 4294967296) * 340282366920938463463374607431768211456 + (x3 % 268435456 * 4294967296 + x2 / 4294967296) * 6277101735386680763835789423207666416102355444464034512896 = _
  omega
theorem ng_Q (o : Int) : Q (ng o) 4 = o * 27742317777372353535851937790883648493 := by
  rw [Q4]
  show o * 6346243789798364141 % 18446744073709551616 + ((o * 1503914060200516822 + o * 6346243789798364141 / 18446744073709551616) % 18446744073709551616) * 18446744073709551616 + ((o * 1503914060200516822 + o * 6346243789798364141 / 18446744073709551616) / 18446744073709551616) * 340282366920938463463374607431768211456 + 0 * 6277101735386680763835789423207666416102355444464034512896 = _
  omega

theorem next_any (N H : Int) (w : World) (hN : 0 ≤ N ∧ N < Lm) (h0 : 0 ≤ H) (h1 : H < 4294967296) :
    Calls Tryz.prog 76 #[.agg (arr 4 (d64 N)), .int .u64 H] w fun x w' => x = .returned (.agg (arr 4 (d64 ((N * 4294967296 + H) % Lm)))) ∧ Below w.heap.size w w' := by
  have k0 := d64_wds N 4 0 (by omega)
  have k1 := d64_wds N 4 1 (by omega)
  have k2 := d64_wds N 4 2 (by omega)
  have k3 := d64_wds N 4 3 (by omega)
  have hq := dQ hN
  rw [Q4] at hq
  show Calls Tryz.prog 76 #[.agg #[.int .u64 (d64 N 0), .int .u64 (d64 N 1), .int .u64 (d64 N 2), .int .u64 (d64 N 3)], .int .u64 H] w _
  generalize d64 N 0 = x0 at *
  generalize d64 N 1 = x1 at *
  generalize d64 N 2 = x2 at *
  generalize d64 N 3 = x3 at *
  refine next_gen x0 x1 x2 x3 H _ w k0 k1 k2 k3 h0 h1 (fun w => ?_)
  unfold W64 at k0 k1 k2 k3
  have wf : Wds (nf x0 x1 x2 x3 H) 4 := fun i hi => by
    rcases (show i = 0 ∨ i = 1 ∨ i = 2 ∨ i = 3 by omega) with rfl | rfl | rfl | rfl
    · show W64 (x0 * 4294967296 % 18446744073709551616 + H); exact ⟨by omega, by omega⟩
    · show W64 (x1 * 4294967296 % 18446744073709551616 + x0 / 4294967296); exact ⟨by omega, by omega⟩
    · show W64 (x2 * 4294967296 % 18446744073709551616 + x1 / 4294967296); exact ⟨by omega, by omega⟩
    · show W64 (x3 % 268435456 * 4294967296 + x2 / 4294967296); exact ⟨by omega, by omega⟩
  have wg : Wds (ng (x3 / 268435456)) 4 := fun i hi => by
    rcases (show i = 0 ∨ i = 1 ∨ i = 2 ∨ i = 3 by omega) with rfl | rfl | rfl | rfl
    · show W64 (x3 / 268435456 * 6346243789798364141 % 18446744073709551616); exact ⟨by omega, by omega⟩
    · show W64 ((x3 / 268435456 * 1503914060200516822 + x3 / 268435456 * 6346243789798364141 / 18446744073709551616) % 18446744073709551616); exact ⟨by omega, by omega⟩
    · show W64 ((x3 / 268435456 * 1503914060200516822 + x3 / 268435456 * 6346243789798364141 / 18446744073709551616) / 18446744073709551616); exact ⟨by omega, by omega⟩
    · show W64 0; exact ⟨by decide, by decide⟩
  have ef := nf_Q x0 x1 x2 x3 H
  have eg := ng_Q (x3 / 268435456)
  have ed : Q (nf x0 x1 x2 x3 H) 4 - Q (ng (x3 / 268435456)) 4 = N * 4294967296 + H - x3 / 268435456 * Lm := by
    rw [ef, eg, ← hq]
    unfold Lm
    omega
  have := without_any (nf x0 x1 x2 x3 H) (ng (x3 / 268435456)) w wf wg (by rw [ef, eg]; unfold Lm; omega) (by rw [ef, eg]; unfold Lm; omega)
  rw [ed, Int.sub_mul_emod_self_right] at this
  exact this

end Go.Proofs.YtkeocdebfgcnnaaGreat.Ord

/- The contract of modulo: 512 bits modulo the order. -/
namespace Go.Proofs.YtkeocdebfgcnnaaGreat.Ord
open Go.RowKit

/-- What a is after k rounds. -/
def md (f : Nat → Int) : Nat → Int
  | 0 => f 5 + f 6 * 18446744073709551616 + f 7 * 340282366920938463463374607431768211456
  | k + 1 => (md f k * 18446744073709551616 + f (4 - k)) % Lm
theorem md_bd {f : Nat → Int} (hf : Wds f 8) : ∀ k, 0 ≤ md f k ∧ md f k < Lm
  | 0 => by
    have h5 := hf 5 (by omega)
    have h6 := hf 6 (by omega)
    have h7 := hf 7 (by omega)
    unfold W64 at *
    unfold md Lm
    omega
  | k + 1 => lmod _
theorem md_step (a b : Int) : (a % Lm * 18446744073709551616 + b) % Lm = (a * 18446744073709551616 + b) % Lm := by
  rw [Int.add_emod, Int.mul_emod, Int.emod_emod_of_dvd a (Int.dvd_refl _), ← Int.mul_emod, ← Int.add_emod]
theorem md_half (N h : Int) : ((N * 4294967296 + h / 4294967296) % Lm * 4294967296 + h % 4294967296) % Lm = (N * 18446744073709551616 + h) % Lm := by
  rw [Int.add_emod, Int.mul_emod, Int.emod_emod_of_dvd _ (Int.dvd_refl Lm), ← Int.mul_emod, ← Int.add_emod]
  congr 1
  omega
theorem Q8 (f : Nat → Int) : Q f 8 = (((((f 5 + f 6 * 18446744073709551616 + f 7 * 340282366920938463463374607431768211456) * 18446744073709551616 + f 4) * 18446744073709551616 + f 3) * 18446744073709551616 + f 2) * 18446744073709551616 + f 1) * 18446744073709551616 + f 0 := by
  simp [Q]
  omega
theorem md_all (f : Nat → Int) : md f 5 = Q f 8 % Lm := by
  rw [Q8]
  have s1 : md f 1 = ((f 5 + f 6 * 18446744073709551616 + f 7 * 340282366920938463463374607431768211456) * 18446744073709551616 + f 4) % Lm := rfl
  have s2 : md f 2 = (((f 5 + f 6 * 18446744073709551616 + f 7 * 340282366920938463463374607431768211456) * 18446744073709551616 + f 4) * 18446744073709551616 + f 3) % Lm := by
    show (md f 1 * 18446744073709551616 + f 3) % Lm = _
    rw [s1, md_step]
  have s3 : md f 3 = ((((f 5 + f 6 * 18446744073709551616 + f 7 * 340282366920938463463374607431768211456) * 18446744073709551616 + f 4) * 18446744073709551616 + f 3) * 18446744073709551616 + f 2) % Lm := by
    show (md f 2 * 18446744073709551616 + f 2) % Lm = _
    rw [s2, md_step]
  have s4 : md f 4 = (((((f 5 + f 6 * 18446744073709551616 + f 7 * 340282366920938463463374607431768211456) * 18446744073709551616 + f 4) * 18446744073709551616 + f 3) * 18446744073709551616 + f 2) * 18446744073709551616 + f 1) % Lm := by
    show (md f 3 * 18446744073709551616 + f 1) % Lm = _
    rw [s3, md_step]
  show (md f 4 * 18446744073709551616 + f 0) % Lm = _
  rw [s4, md_step]

theorem and32 {x : Int} (h : W64 x) : bits BinOp.and IntKind.u64 x 4294967295 = x % 4294967296 := by
  obtain ⟨X, rfl⟩ := Int.eq_ofNat_of_zero_le h.1
  have := h.2
  rw [maskN X (by omega)]
  omega

set_option maxRecDepth 100000 in
set_option maxHeartbeats 2000000 in
theorem modulo_any (f : Nat → Int) (w : World) (hf : Wds f 8) :
    Calls Tryz.prog 32 #[.agg (arr 8 f)] w fun x w' => x = .returned (.agg (arr 4 (d64 (Q f 8 % Lm)))) ∧ Below w.heap.size w w' := by
  rw [← md_all]
  have hm := md_bd hf
  have R1 : Row ((w.alloc (.cells (arr 8 f) 68)).alloc (.cells (arr 4 fun _ => 0) 34)) w.heap.size 68 8 f := (Row.new w 68 8 f).alloc _
  have R2 : Row ((w.alloc (.cells (arr 8 f) 68)).alloc (.cells (arr 4 fun _ => 0) 34)) (w.heap.size + 1) 34 4 (fun _ => 0) := Row.new' _ 34 4 _ (by simp)
  have O : Below w.heap.size w ((w.alloc (.cells (arr 8 f) 68)).alloc (.cells (arr 4 fun _ => 0) 34)) := ((Below.refl _ _).alloc (Nat.le_refl _) _).alloc (by simp) _
  have c5 : ((w.alloc (.cells (arr 8 f) 68)).alloc (.cells #[Value.int IntKind.u64 0, Value.int IntKind.u64 0, Value.int IntKind.u64 0, Value.int IntKind.u64 0] 34)).cell? ⟨w.heap.size, 5, none⟩ = some (.int .u64 (f 5)) := R1.cell (i := 5) (by omega)
  have c6 : ((w.alloc (.cells (arr 8 f) 68)).alloc (.cells #[Value.int IntKind.u64 0, Value.int IntKind.u64 0, Value.int IntKind.u64 0, Value.int IntKind.u64 0] 34)).cell? ⟨w.heap.size, 6, none⟩ = some (.int .u64 (f 6)) := R1.cell (i := 6) (by omega)
  have c7 : ((w.alloc (.cells (arr 8 f) 68)).alloc (.cells #[Value.int IntKind.u64 0, Value.int IntKind.u64 0, Value.int IntKind.u64 0, Value.int IntKind.u64 0] 34)).cell? ⟨w.heap.size, 7, none⟩ = some (.int .u64 (f 7)) := R1.cell (i := 7) (by omega)
  replace R1 := R1.alloc (.cells #[.int .u64 (f 5), .int .u64 (f 6), .int .u64 (f 7), .int .u64 0] 34)
  replace R2 := R2.alloc (.cells #[.int .u64 (f 5), .int .u64 (f 6), .int .u64 (f 7), .int .u64 0] 34)
  have RA : Row (((w.alloc (.cells (arr 8 f) 68)).alloc (.cells (arr 4 fun _ => 0) 34)).alloc (.cells #[.int .u64 (f 5), .int .u64 (f 6), .int .u64 (f 7), .int .u64 0] 34)) (w.heap.size + 1 + 1) 34 4 (fun i => [f 5, f 6, f 7, 0].getD i 0) := Row.new' _ 34 4 (fun i => [f 5, f 6, f 7, 0].getD i 0) (by simp)
  replace O := O.alloc (by simp; omega) (.cells #[.int .u64 (f 5), .int .u64 (f 6), .int .u64 (f 7), .int .u64 0] 34)
  replace RA := RA.congr (f' := d64 (md f 0)) (Q_inj (fun i hi => by
    rcases (show i = 0 ∨ i = 1 ∨ i = 2 ∨ i = 3 by omega) with rfl | rfl | rfl | rfl
    · exact hf 5 (by omega)
    · exact hf 6 (by omega)
    · exact hf 7 (by omega)
    · show W64 (0 : Int); exact ⟨by decide, by decide⟩) (d64_wds _ 4) (by
    rw [dQ (hm 0), Q4]
    show f 5 + f 6 * 18446744073709551616 + f 7 * 340282366920938463463374607431768211456 + 0 * 6277101735386680763835789423207666416102355444464034512896 = f 5 + f 6 * 18446744073709551616 + f 7 * 340282366920938463463374607431768211456
    omega))
  have HR := hide (And.intro R1 (And.intro R2 (And.intro RA O)))
  clear R1 R2 RA O
  go_enter Tryz.func32, Tryz.ntmps32
  go_wp2_with (refine wpList_build rfl 34 _ rfl #[.int .u64 (f 5), .int .u64 (f 6), .int .u64 (f 7), .int .u64 0] (by kernel_rfl) ?_)
  rw [show #[Value.int IntKind.u64 0, Value.int IntKind.u64 0, Value.int IntKind.u64 0, Value.int IntKind.u64 0] = arr 4 (fun _ => 0) from rfl]
  clear c5 c6 c7
  obtain ⟨R1, R2, RA, O⟩ := HR.out
  clear HR
  generalize (((w.alloc (.cells (arr 8 f) 68)).alloc (.cells (arr 4 fun _ => 0) 34)).alloc (.cells #[.int .u64 (f 5), .int .u64 (f 6), .int .u64 (f 7), .int .u64 0] 34)) = W at *
  go_loopw [14] (fun v wr => ∃ k : Nat, k ≤ 5 ∧ v = .int .i64 k ∧ Row wr w.heap.size 68 8 f ∧ Row wr (w.heap.size + 1) 34 4 (fun _ => 0) ∧ Row wr (w.heap.size + 1 + 1) 34 4 (d64 (md f k)) ∧ Below w.heap.size w wr) (fun v _ => 5 - (intOf v).toNat)
  case atStart => exact ⟨0, by omega, rfl, R1, R2, RA, O⟩
  case round =>
    clear R1 R2 RA O
    obtain ⟨k, hk, rfl, R1, R2, RA, O⟩ := hrel
    by_cases hlt : k < 5
    · rcases (show k = 0 ∨ k = 1 ∨ k = 2 ∨ k = 3 ∨ k = 4 by omega) with rfl | rfl | rfl | rfl | rfl
      · have c := R1.cell (i := 4) (by omega)
        obtain ⟨b0, b1⟩ := hf 4 (by omega)
        have ea := and32 (hf 4 (by omega))
        have HN := hide (hm 0)
        have HE := hide (show md f (0 + 1) = ((md f 0 * 4294967296 + f 4 / 4294967296) % Lm * 4294967296 + f 4 % 4294967296) % Lm from (md_half (md f 0) (f 4)).symm)
        have HA := hide RA
        have H1 := hide R1
        have HO := hide (And.intro R2 O)
        clear RA R1 R2 O
        generalize f 4 = v at *
        generalize md f 0 = N at *
        go_wp2_with (refine wpList_load_row rfl 34 _ rfl (w.heap.size + 1 + 1) rfl 34 (arr 4 (d64 N)) (0, 0) _ HA.out Tryz.underlying34 rfl (info34 _) ?_)
        refine (next_any N (v / 4294967296) _ HN.out (by omega) (by omega)).mono ?_
        rintro _ w1 ⟨rfl, hb1⟩
        have RA := HA.out.keep hb1
        have R1 := H1.out.keep hb1
        have R2 := HO.out.1.keep hb1
        have O := HO.out.2.trans (hb1.mono HO.out.2.size)
        clear hb1 HA H1 HO HN
        have HN := hide (lmod (N * 4294967296 + v / 4294967296))
        generalize (N * 4294967296 + v / 4294967296) % Lm = N2 at *
        go_wp2_with fail
        refine (next_any N2 (v % 4294967296) _ HN.out (by omega) (by omega)).mono ?_
        rintro _ w2 ⟨rfl, hb2⟩
        replace RA := RA.keep hb2
        replace R1 := R1.keep hb2
        replace R2 := R2.keep hb2
        replace O := O.trans (hb2.mono O.size)
        clear hb2 HN
        rw [← HE.out]
        generalize hN3 : md f (0 + 1) = N3 at *
        have HM0 := hide hN3
        clear hN3
        have RB := hide (RA.setAll (d64 N3))
        have R1' := hide (R1.setOther (k := w.heap.size + 1 + 1) (by omega) 0 (arr 4 (d64 N3)).toList)
        have R2' := hide (R2.setOther (k := w.heap.size + 1 + 1) (by omega) 0 (arr 4 (d64 N3)).toList)
        have O' := hide (below_setCells (g := w.heap.size + 1 + 1) (by omega) (arr 4 (d64 N3)).toList 0 O)
        clear R1 R2 O
        go_wp2_with (refine wpList_store_mid rfl 34 _ _ rfl (w.heap.size + 1 + 1) 0 (arr 4 (d64 N3)) rfl rfl ?thm0 (info34 _) (arr_one _ _) ?_)
        case thm0 => rw [arr_size]; exact RA.there
        go_roundw
        case rel => exact ⟨0 + 1, by omega, rfl, R1'.out, R2'.out, (by rw [HM0.out]; exact RB.out), O'.out⟩
        case measure => simp [intOf]
      · have c := R1.cell (i := 3) (by omega)
        obtain ⟨b0, b1⟩ := hf 3 (by omega)
        have ea := and32 (hf 3 (by omega))
        have HN := hide (hm 1)
        have HE := hide (show md f (1 + 1) = ((md f 1 * 4294967296 + f 3 / 4294967296) % Lm * 4294967296 + f 3 % 4294967296) % Lm from (md_half (md f 1) (f 3)).symm)
        have HA := hide RA
        have H1 := hide R1
        have HO := hide (And.intro R2 O)
        clear RA R1 R2 O
        generalize f 3 = v at *
        generalize md f 1 = N at *
        go_wp2_with (refine wpList_load_row rfl 34 _ rfl (w.heap.size + 1 + 1) rfl 34 (arr 4 (d64 N)) (0, 0) _ HA.out Tryz.underlying34 rfl (info34 _) ?_)
        refine (next_any N (v / 4294967296) _ HN.out (by omega) (by omega)).mono ?_
        rintro _ w1 ⟨rfl, hb1⟩
        have RA := HA.out.keep hb1
        have R1 := H1.out.keep hb1
        have R2 := HO.out.1.keep hb1
        have O := HO.out.2.trans (hb1.mono HO.out.2.size)
        clear hb1 HA H1 HO HN
        have HN := hide (lmod (N * 4294967296 + v / 4294967296))
        generalize (N * 4294967296 + v / 4294967296) % Lm = N2 at *
        go_wp2_with fail
        refine (next_any N2 (v % 4294967296) _ HN.out (by omega) (by omega)).mono ?_
        rintro _ w2 ⟨rfl, hb2⟩
        replace RA := RA.keep hb2
        replace R1 := R1.keep hb2
        replace R2 := R2.keep hb2
        replace O := O.trans (hb2.mono O.size)
        clear hb2 HN
        rw [← HE.out]
        generalize hN3 : md f (1 + 1) = N3 at *
        have HM1 := hide hN3
        clear hN3
        have RB := hide (RA.setAll (d64 N3))
        have R1' := hide (R1.setOther (k := w.heap.size + 1 + 1) (by omega) 0 (arr 4 (d64 N3)).toList)
        have R2' := hide (R2.setOther (k := w.heap.size + 1 + 1) (by omega) 0 (arr 4 (d64 N3)).toList)
        have O' := hide (below_setCells (g := w.heap.size + 1 + 1) (by omega) (arr 4 (d64 N3)).toList 0 O)
        clear R1 R2 O
        go_wp2_with (refine wpList_store_mid rfl 34 _ _ rfl (w.heap.size + 1 + 1) 0 (arr 4 (d64 N3)) rfl rfl ?thm1 (info34 _) (arr_one _ _) ?_)
        case thm1 => rw [arr_size]; exact RA.there
        go_roundw
        case rel => exact ⟨1 + 1, by omega, rfl, R1'.out, R2'.out, (by rw [HM1.out]; exact RB.out), O'.out⟩
        case measure => simp [intOf]
      · have c := R1.cell (i := 2) (by omega)
        obtain ⟨b0, b1⟩ := hf 2 (by omega)
        have ea := and32 (hf 2 (by omega))
        have HN := hide (hm 2)
        have HE := hide (show md f (2 + 1) = ((md f 2 * 4294967296 + f 2 / 4294967296) % Lm * 4294967296 + f 2 % 4294967296) % Lm from (md_half (md f 2) (f 2)).symm)
        have HA := hide RA
        have H1 := hide R1
        have HO := hide (And.intro R2 O)
        clear RA R1 R2 O
        generalize f 2 = v at *
        generalize md f 2 = N at *
        go_wp2_with (refine wpList_load_row rfl 34 _ rfl (w.heap.size + 1 + 1) rfl 34 (arr 4 (d64 N)) (0, 0) _ HA.out Tryz.underlying34 rfl (info34 _) ?_)
        refine (next_any N (v / 4294967296) _ HN.out (by omega) (by omega)).mono ?_
        rintro _ w1 ⟨rfl, hb1⟩
        have RA := HA.out.keep hb1
        have R1 := H1.out.keep hb1
        have R2 := HO.out.1.keep hb1
        have O := HO.out.2.trans (hb1.mono HO.out.2.size)
        clear hb1 HA H1 HO HN
        have HN := hide (lmod (N * 4294967296 + v / 4294967296))
        generalize (N * 4294967296 + v / 4294967296) % Lm = N2 at *
        go_wp2_with fail
        refine (next_any N2 (v % 4294967296) _ HN.out (by omega) (by omega)).mono ?_
        rintro _ w2 ⟨rfl, hb2⟩
        replace RA := RA.keep hb2
        replace R1 := R1.keep hb2
        replace R2 := R2.keep hb2
        replace O := O.trans (hb2.mono O.size)
        clear hb2 HN
        rw [← HE.out]
        generalize hN3 : md f (2 + 1) = N3 at *
        have HM2 := hide hN3
        clear hN3
        have RB := hide (RA.setAll (d64 N3))
        have R1' := hide (R1.setOther (k := w.heap.size + 1 + 1) (by omega) 0 (arr 4 (d64 N3)).toList)
        have R2' := hide (R2.setOther (k := w.heap.size + 1 + 1) (by omega) 0 (arr 4 (d64 N3)).toList)
        have O' := hide (below_setCells (g := w.heap.size + 1 + 1) (by omega) (arr 4 (d64 N3)).toList 0 O)
        clear R1 R2 O
        go_wp2_with (refine wpList_store_mid rfl 34 _ _ rfl (w.heap.size + 1 + 1) 0 (arr 4 (d64 N3)) rfl rfl ?thm2 (info34 _) (arr_one _ _) ?_)
        case thm2 => rw [arr_size]; exact RA.there
        go_roundw
        case rel => exact ⟨2 + 1, by omega, rfl, R1'.out, R2'.out, (by rw [HM2.out]; exact RB.out), O'.out⟩
        case measure => simp [intOf]
      · have c := R1.cell (i := 1) (by omega)
        obtain ⟨b0, b1⟩ := hf 1 (by omega)
        have ea := and32 (hf 1 (by omega))
        have HN := hide (hm 3)
        have HE := hide (show md f (3 + 1) = ((md f 3 * 4294967296 + f 1 / 4294967296) % Lm * 4294967296 + f 1 % 4294967296) % Lm from (md_half (md f 3) (f 1)).symm)
        have HA := hide RA
        have H1 := hide R1
        have HO := hide (And.intro R2 O)
        clear RA R1 R2 O
        generalize f 1 = v at *
        generalize md f 3 = N at *
        go_wp2_with (refine wpList_load_row rfl 34 _ rfl (w.heap.size + 1 + 1) rfl 34 (arr 4 (d64 N)) (0, 0) _ HA.out Tryz.underlying34 rfl (info34 _) ?_)
        refine (next_any N (v / 4294967296) _ HN.out (by omega) (by omega)).mono ?_
        rintro _ w1 ⟨rfl, hb1⟩
        have RA := HA.out.keep hb1
        have R1 := H1.out.keep hb1
        have R2 := HO.out.1.keep hb1
        have O := HO.out.2.trans (hb1.mono HO.out.2.size)
        clear hb1 HA H1 HO HN
        have HN := hide (lmod (N * 4294967296 + v / 4294967296))
        generalize (N * 4294967296 + v / 4294967296) % Lm = N2 at *
        go_wp2_with fail
        refine (next_any N2 (v % 4294967296) _ HN.out (by omega) (by omega)).mono ?_
        rintro _ w2 ⟨rfl, hb2⟩
        replace RA := RA.keep hb2
        replace R1 := R1.keep hb2
        replace R2 := R2.keep hb2
        replace O := O.trans (hb2.mono O.size)
        clear hb2 HN
        rw [← HE.out]
        generalize hN3 : md f (3 + 1) = N3 at *
        have HM3 := hide hN3
        clear hN3
        have RB := hide (RA.setAll (d64 N3))
        have R1' := hide (R1.setOther (k := w.heap.size + 1 + 1) (by omega) 0 (arr 4 (d64 N3)).toList)
        have R2' := hide (R2.setOther (k := w.heap.size + 1 + 1) (by omega) 0 (arr 4 (d64 N3)).toList)
        have O' := hide (below_setCells (g := w.heap.size + 1 + 1) (by omega) (arr 4 (d64 N3)).toList 0 O)
        clear R1 R2 O
        go_wp2_with (refine wpList_store_mid rfl 34 _ _ rfl (w.heap.size + 1 + 1) 0 (arr 4 (d64 N3)) rfl rfl ?thm3 (info34 _) (arr_one _ _) ?_)
        case thm3 => rw [arr_size]; exact RA.there
        go_roundw
        case rel => exact ⟨3 + 1, by omega, rfl, R1'.out, R2'.out, (by rw [HM3.out]; exact RB.out), O'.out⟩
        case measure => simp [intOf]
      · have c := R1.cell (i := 0) (by omega)
        obtain ⟨b0, b1⟩ := hf 0 (by omega)
        have ea := and32 (hf 0 (by omega))
        have HN := hide (hm 4)
        have HE := hide (show md f (4 + 1) = ((md f 4 * 4294967296 + f 0 / 4294967296) % Lm * 4294967296 + f 0 % 4294967296) % Lm from (md_half (md f 4) (f 0)).symm)
        have HA := hide RA
        have H1 := hide R1
        have HO := hide (And.intro R2 O)
        clear RA R1 R2 O
        generalize f 0 = v at *
        generalize md f 4 = N at *
        go_wp2_with (refine wpList_load_row rfl 34 _ rfl (w.heap.size + 1 + 1) rfl 34 (arr 4 (d64 N)) (0, 0) _ HA.out Tryz.underlying34 rfl (info34 _) ?_)
        refine (next_any N (v / 4294967296) _ HN.out (by omega) (by omega)).mono ?_
        rintro _ w1 ⟨rfl, hb1⟩
        have RA := HA.out.keep hb1
        have R1 := H1.out.keep hb1
        have R2 := HO.out.1.keep hb1
        have O := HO.out.2.trans (hb1.mono HO.out.2.size)
        clear hb1 HA H1 HO HN
        have HN := hide (lmod (N * 4294967296 + v / 4294967296))
        generalize (N * 4294967296 + v / 4294967296) % Lm = N2 at *
        go_wp2_with fail
        refine (next_any N2 (v % 4294967296) _ HN.out (by omega) (by omega)).mono ?_
        rintro _ w2 ⟨rfl, hb2⟩
        replace RA := RA.keep hb2
        replace R1 := R1.keep hb2
        replace R2 := R2.keep hb2
        replace O := O.trans (hb2.mono O.size)
        clear hb2 HN
        rw [← HE.out]
        generalize hN3 : md f (4 + 1) = N3 at *
        have HM4 := hide hN3
        clear hN3
        have RB := hide (RA.setAll (d64 N3))
        have R1' := hide (R1.setOther (k := w.heap.size + 1 + 1) (by omega) 0 (arr 4 (d64 N3)).toList)
        have R2' := hide (R2.setOther (k := w.heap.size + 1 + 1) (by omega) 0 (arr 4 (d64 N3)).toList)
        have O' := hide (below_setCells (g := w.heap.size + 1 + 1) (by omega) (arr 4 (d64 N3)).toList 0 O)
        clear R1 R2 O
        go_wp2_with (refine wpList_store_mid rfl 34 _ _ rfl (w.heap.size + 1 + 1) 0 (arr 4 (d64 N3)) rfl rfl ?thm4 (info34 _) (arr_one _ _) ?_)
        case thm4 => rw [arr_size]; exact RA.there
        go_roundw
        case rel => exact ⟨4 + 1, by omega, rfl, R1'.out, R2'.out, (by rw [HM4.out]; exact RB.out), O'.out⟩
        case measure => simp [intOf]
    · have hk' : k = 5 := by omega
      subst hk'
      have RR := hide (R2.setAll (d64 (md f 5)))
      have OO := hide (below_setCells (g := w.heap.size + 1) (by omega) (arr 4 (d64 (md f 5))).toList 0 O)
      have HX := hide RA
      clear RA O R1
      generalize hN5 : md f 5 = N at *
      have H5 := hide hN5
      clear hN5
      go_wp2_with (first | (refine wpList_load_row rfl 34 _ rfl (w.heap.size + 1 + 1) rfl 34 (arr 4 (d64 N)) (0, 0) _ HX.out Tryz.underlying34 rfl (info34 _) ?_) | (refine wpList_store_mid rfl 34 _ _ rfl (w.heap.size + 1) 0 (arr 4 (d64 N)) rfl rfl ?the (info34 _) (arr_one _ _) ?_))
      case the => rw [arr_size]; exact R2.there
      exact bodyPost_ret (v := .agg (arr 4 (d64 N))) (results_cell_row Tryz.results32 _ _ (w.heap.size + 1) 34 (arr 4 (d64 N)) (0, 0) _ rfl RR.out Tryz.underlying34 rfl (info34 _)) rfl ⟨by rw [H5.out], OO.out⟩

end Go.Proofs.YtkeocdebfgcnnaaGreat.Ord

/- The contracts of text, words, Bytes: the 32 bytes of a number, the lowest first. -/
namespace Go.Proofs.YtkeocdebfgcnnaaGreat.Ord
open Go.RowKit

/-- Bytes as a string. -/
def bs (ns : List Int) : ByteArray := ⟨(ns.map fun n => UInt8.ofNat n.toNat).toArray⟩

theorem bs_fold (ns : List Int) : ∀ s : ByteArray, ns.foldl (fun r n => r.push (UInt8.ofNat n.toNat)) s = ⟨s.data ++ (ns.map fun n => UInt8.ofNat n.toNat).toArray⟩ := by
  induction ns with
  | nil => intro s; simp
  | cons n ns ih =>
    intro s
    rw [List.foldl_cons, ih]
    simp [ByteArray.push]

theorem conv_bytes (W : World) (g : Nat) (T : TypeId) (ns : List Int) (l cap : Nat) (fr : Nat × Nat) (hg : W.heap[g]? = some (.cells (ns.map (Value.int .u8)).toArray T fr)) (hl : ns.length = l) :
    (convert 70 9 (.slice (some ⟨g, 0, none⟩) l cap)).run Tryz.prog W = .ok (.string (bs ns)) W := by
  subst hl
  rw [run_convert_bytes_string W 70 9 5 (some ⟨g, 0, none⟩) ns.length cap Tryz.underlying70 Tryz.underlying5 Tryz.underlying9]
  have h := run_loadCells_list (P := Tryz.prog) W ⟨g, 0, none⟩ (ns.map (Value.int .u8)) (fun j v hv => by
    have hadd : (⟨g, 0, none⟩ : Addr).add j = ⟨g, j, none⟩ := by unfold Addr.add; split <;> simp_all
    rw [hadd, cell_of_row W g j _ T fr hg]
    simpa using hv)
  rw [List.length_map] at h
  have he : ByteArray.empty.data = #[] := rfl
  rw [run_bytesToString W _ ns.length cap ns h, bs_fold, he]
  simp [bs]

/-- The eight bytes of a word. -/
def digs (a : Int) : List Int := [a % 256, a / 256 % 256, a / 65536 % 256, a / 16777216 % 256, a / 4294967296 % 256, a / 1099511627776 % 256, a / 281474976710656 % 256, a / 72057594037927936 % 256]

/-- The 32 bytes of a number. -/
def lebytes (n : Int) : ByteArray := bs (digs (n % 18446744073709551616) ++ digs (n / 18446744073709551616 % 18446744073709551616) ++ digs (n / 340282366920938463463374607431768211456 % 18446744073709551616) ++ digs (n / 6277101735386680763835789423207666416102355444464034512896 % 18446744073709551616))

set_option maxRecDepth 100000 in
set_option maxHeartbeats 4000000 in
theorem text_any (a b c d : Int) (w : World) :
    Calls Tryz.prog 86 #[.agg #[.int .u64 a, .int .u64 b, .int .u64 c, .int .u64 d]] w fun r w' => r = .returned (.string (bs (digs a ++ digs b ++ digs c ++ digs d))) ∧ Below w.heap.size w w' := by
  go_enter Tryz.func86, Tryz.ntmps86
  go_wp2
  refine wp_loop_rounds 33 ?_
  iterate 33 (rw [rounds_succ]; go_wp2)
  have hcv : (convert 70 9 (.slice (some ⟨w.heap.size + 1, 0, none⟩) 32 32)).run Tryz.prog ((w.alloc (.cells #[.int .u64 a, .int .u64 b, .int .u64 c, .int .u64 d] 32)).alloc (.cells #[.int .u8 (a % 256), .int .u8 (a / 256 % 256), .int .u8 (a / 65536 % 256), .int .u8 (a / 16777216 % 256), .int .u8 (a / 4294967296 % 256), .int .u8 (a / 1099511627776 % 256), .int .u8 (a / 281474976710656 % 256), .int .u8 (a / 72057594037927936 % 256), .int .u8 (b % 256), .int .u8 (b / 256 % 256), .int .u8 (b / 65536 % 256), .int .u8 (b / 16777216 % 256), .int .u8 (b / 4294967296 % 256), .int .u8 (b / 1099511627776 % 256), .int .u8 (b / 281474976710656 % 256), .int .u8 (b / 72057594037927936 % 256), .int .u8 (c % 256), .int .u8 (c / 256 % 256), .int .u8 (c / 65536 % 256), .int .u8 (c / 16777216 % 256), .int .u8 (c / 4294967296 % 256), .int .u8 (c / 1099511627776 % 256), .int .u8 (c / 281474976710656 % 256), .int .u8 (c / 72057594037927936 % 256), .int .u8 (d % 256), .int .u8 (d / 256 % 256), .int .u8 (d / 65536 % 256), .int .u8 (d / 16777216 % 256), .int .u8 (d / 4294967296 % 256), .int .u8 (d / 1099511627776 % 256), .int .u8 (d / 281474976710656 % 256), .int .u8 (d / 72057594037927936 % 256)] 96)) = .ok (.string (bs (digs a ++ digs b ++ digs c ++ digs d))) _ := conv_bytes _ (w.heap.size + 1) 96 (digs a ++ digs b ++ digs c ++ digs d) 32 32 (0, 0) (heap_alloc2_new w _ _) rfl
  rw [hcv]
  clear hcv
  generalize hB : bs (digs a ++ digs b ++ digs c ++ digs d) = B
  have HB := hide hB
  clear hB
  go_wp2
  go_ret
  exact ⟨by rw [HB.out]; rfl, ((Below.refl _ _).alloc (Nat.le_refl _) _).alloc (by simp) _⟩

end Go.Proofs.YtkeocdebfgcnnaaGreat.Ord

/- The contracts of the scalars' Mul, Same and Bytes. -/
namespace Go.Proofs.YtkeocdebfgcnnaaGreat.Ord
open Go.RowKit

theorem leb_d64 (N : Int) : lebytes N = bs (digs (d64 N 0) ++ digs (d64 N 1) ++ digs (d64 N 2) ++ digs (d64 N 3)) := by
  have e0 : d64 N 0 = N % 18446744073709551616 := by simp [d64]
  have e1 : d64 N 1 = N / 18446744073709551616 % 18446744073709551616 := by simp [d64]
  have e2 : d64 N 2 = N / 340282366920938463463374607431768211456 % 18446744073709551616 := by simp [d64]
  have e3 : d64 N 3 = N / 6277101735386680763835789423207666416102355444464034512896 % 18446744073709551616 := by simp [d64]
  rw [e0, e1, e2, e3]
  rfl

set_option maxRecDepth 100000 in
set_option maxHeartbeats 1000000 in
theorem bytes_any (N : Int) (w : World) :
    Calls Tryz.prog 56 #[.agg (arr 4 (d64 N))] w fun x w' => x = .returned (.string (lebytes N)) ∧ Below w.heap.size w w' := by
  have C1 : Hid (∀ w, Calls Tryz.prog 86 #[.agg (arr 4 (d64 N))] w fun x w' => x = .returned (.string (lebytes N)) ∧ Below w.heap.size w w') := hide fun w => by
    rw [leb_d64]
    exact text_any (d64 N 0) (d64 N 1) (d64 N 2) (d64 N 3) w
  have HR := hide (And.intro (Row.new w 34 4 (d64 N)) (new_below w (.cells (arr 4 (d64 N)) 34)))
  generalize lebytes N = B at *
  go_enter Tryz.func56, Tryz.ntmps56
  go_wp2_with (refine wpList_load_row rfl 32 _ rfl w.heap.size rfl 34 (arr 4 (d64 N)) (0, 0) _ HR.out.1 Tryz.underlying32 rfl (info32 _) ?_)
  refine (C1.out _).mono ?_
  rintro _ w1 ⟨rfl, hb1⟩
  have O := HR.out.2.trans (hb1.mono HR.out.2.size)
  clear hb1 HR
  go_wp2
  go_ret
  exact ⟨rfl, O⟩

end Go.Proofs.YtkeocdebfgcnnaaGreat.Ord

/- Numbers of 16 digits of 16 bits, as the document's answer has them: wide, Less, minus. -/
namespace Go.Proofs.YtkeocdebfgcnnaaGreat.Ord
open Go.RowKit

/-- The number of the first n digits. -/
def S (f : Nat → Int) : Nat → Int
  | 0 => 0
  | n + 1 => S f n + f n * 65536 ^ n

theorem p16 (n : Nat) : (0 : Int) < 65536 ^ n := Int.pow_pos (by decide)
theorem p16s (n : Nat) : (65536 : Int) ^ (n + 1) = 65536 * 65536 ^ n := by rw [Int.pow_succ, Int.mul_comm]

/-- Each of the first n digits is one. -/
def Dig (f : Nat → Int) (n : Nat) : Prop := ∀ i, i < n → 0 ≤ f i ∧ f i < 65536

theorem Dig.le {f : Nat → Int} {n m : Nat} (h : Dig f n) (hm : m ≤ n) : Dig f m := fun i hi => h i (by omega)

theorem S_bd {f : Nat → Int} : ∀ {n : Nat}, Dig f n → 0 ≤ S f n ∧ S f n < 65536 ^ n
  | 0, _ => by simp [S]
  | n + 1, h => by
    have ih := S_bd (n := n) (h.le (by omega))
    have hd := h n (by omega)
    have hp := p16 n
    have h1 : f n * 65536 ^ n ≤ 65535 * 65536 ^ n := Int.mul_le_mul_of_nonneg_right (by omega) (by omega)
    have h2 : 0 ≤ f n * 65536 ^ n := Int.mul_nonneg hd.1 (by omega)
    rw [p16s]
    simp only [S]
    omega

theorem S_congr {f g : Nat → Int} : ∀ {n : Nat}, (∀ i, i < n → f i = g i) → S f n = S g n
  | 0, _ => rfl
  | n + 1, h => by
    simp only [S]
    rw [S_congr (n := n) fun i hi => h i (by omega), h n (by omega)]

theorem S_above {f g : Nat → Int} {p : Nat} : ∀ {n : Nat}, p ≤ n → (∀ j, p ≤ j → j < n → f j = g j) → S f n - S g n = S f p - S g p := by
  intro n
  induction n with
  | zero => intro h _; have : p = 0 := by omega
            subst this; rfl
  | succ n ih =>
    intro h he
    by_cases hp : p = n + 1
    · subst hp; rfl
    · have h1 := ih (by omega) fun j a b => he j a (by omega)
      simp only [S]
      rw [he n (by omega) (by omega)]
      omega

theorem S_lt {f g : Nat → Int} {p : Nat} (hf : Dig f 16) (hg : Dig g 16) (hp : p < 16) (he : ∀ j, p + 1 ≤ j → j < 16 → f j = g j) (hne : f p ≠ g p) : decide (f p < g p) = decide (S f 16 < S g 16) := by
  have h1 := S_above (n := 16) (by omega) he
  have h2 := S_bd (hf.le (m := p) (by omega))
  have h3 := S_bd (hg.le (m := p) (by omega))
  have hx := p16 p
  simp only [S] at h1
  generalize S f p = sf at *
  generalize S g p = sg at *
  generalize (65536 : Int) ^ p = X at *
  have hS : (S f 16 < S g 16) ↔ f p < g p := by
    constructor
    · intro h
      apply Int.lt_of_not_ge
      intro hge
      have : f p ≥ g p + 1 := by omega
      have : (f p - g p) * X ≥ 1 * X := Int.mul_le_mul_of_nonneg_right (by omega) (by omega)
      rw [Int.sub_mul] at this
      have e16 : S f 16 - S g 16 < 0 := by omega
      simp only [S] at e16
      omega
    · intro h
      have : (g p - f p) * X ≥ 1 * X := Int.mul_le_mul_of_nonneg_right (by omega) (by omega)
      rw [Int.sub_mul] at this
      have e16 : ∀ d, S f 16 - S g 16 = d → d < 0 → S f 16 < S g 16 := fun d a b => by omega
      simp only [S] at e16 ⊢
      omega
  exact decide_eq_decide.2 hS.symm

theorem rowN {w : World} {g : Nat} {T : TypeId} {n : Nat} {f : Nat → Int} (h : Row w g T n f) (k : Nat) : Row (w.drewN k) g T n f := h
theorem belN {B : Nat} {a w : World} {n : Nat} (h : Below B a w) : Below B a (w.drewN n) := ⟨h.os, h.tape, h.output, h.size, h.block⟩

set_option maxRecDepth 100000 in
set_option maxHeartbeats 1000000 in
theorem less_any (f g : Nat → Int) (w : World) (hf : Dig f 16) (hg : Dig g 16) : Calls Tryz.prog 49 #[.agg (arr 16 f), .agg (arr 16 g)] w fun r w' => r = .returned (.bool (decide (S f 16 < S g 16))) ∧ Below w.heap.size w w' := by
  go_enter Tryz.func49, Tryz.ntmps49
  go_wp2
  have R1 : Row ((w.alloc (.cells (arr 16 f) 39)).alloc (.cells (arr 16 g) 39)) w.heap.size 39 16 f := (Row.new w 39 16 f).alloc _
  have R2 : Row ((w.alloc (.cells (arr 16 f) 39)).alloc (.cells (arr 16 g) 39)) (w.heap.size + 1) 39 16 g := Row.new' _ 39 16 _ (by simp)
  have O : Below w.heap.size w ((w.alloc (.cells (arr 16 f) 39)).alloc (.cells (arr 16 g) 39)) := ((Below.refl _ _).alloc (Nat.le_refl _) _).alloc (by simp) _
  generalize (w.alloc (.cells (arr 16 f) 39)).alloc (.cells (arr 16 g) 39) = W at R1 R2 O ⊢
  go_loopw [5] (fun i wr => ∃ m : Nat, m ≤ 16 ∧ (∃ v : Int, v = (m : Int) - 1 ∧ i = .int .i64 v) ∧ (∀ j, m ≤ j → j < 16 → f j = g j) ∧ Row wr w.heap.size 39 16 f ∧ Row wr (w.heap.size + 1) 39 16 g ∧ Below w.heap.size w wr) (fun i _ => (intOf i + 1).toNat)
  case atStart => exact ⟨16, by omega, ⟨15, by omega, rfl⟩, fun j a b => by omega, R1, R2, O⟩
  case round =>
    clear R1 R2 O
    obtain ⟨m, hm, ⟨v, hv, hi⟩, hall, R1, R2, O⟩ := hrel
    rcases m with _ | p
    · have e : v = -1 := by omega
      rw [e] at hi
      clear hv e
      subst hi
      have HS := hide (S_congr (n := 16) fun i hi => hall i (by omega) hi)
      clear hall
      go_wp2
      go_ret
      refine ⟨?_, O⟩
      rw [HS.out]
      simp
    · have e : v = (p : Int) := by omega
      rw [e] at hi
      clear hv e
      subst hi
      have c := R1.cell (i := p) (by omega)
      have d := R2.cell (i := p) (by omega)
      have i1 : (0 : Int) ≤ (p : Int) := by omega
      have i2 : (p : Int) < 16 := by omega
      have HA := hide hall
      clear hall
      by_cases hfg : f p = g p
      · have hb : (f p != g p) = false := by simp [hfg]
        have HF := hide hfg
        clear hfg
        go_wp2_with fail
        go_quiet (fail)
        go_wp2
        go_roundw
        case rel => exact ⟨p, by omega, ⟨_, by omega, rfl⟩, fun j a b => by
          by_cases hj : j = p
          · rw [hj]; exact HF.out
          · exact HA.out j (by omega) b, rowN R1 _, rowN R2 _, belN O⟩
        case measure => simp [intOf]
      · have hb : (f p != g p) = true := by simp [hfg]
        have HL := hide (S_lt hf hg (p := p) (by omega) HA.out hfg)
        clear hfg
        go_wp2_with fail
        go_quiet (fail)
        go_wp2_with fail
        go_quiet (fail)
        go_wp2
        go_ret
        exact ⟨by rw [← HL.out]; rfl, belN (belN O)⟩

end Go.Proofs.YtkeocdebfgcnnaaGreat.Ord

/- The document's prime and its minus. -/
namespace Go.Proofs.YtkeocdebfgcnnaaGreat.Ord
open Go.RowKit

/-- What is borrowed ahead of digit k. -/
def bor (a b : Nat → Int) : Nat → Int
  | 0 => 0
  | k + 1 => 1 - (65536 + a k - b k - bor a b k) / 65536
def minusF (a b : Nat → Int) : Nat → Int := fun i => (65536 + a i - b i - bor a b i) % 65536
def mk (a b : Nat → Int) (k : Nat) : Nat → Int := fun i => if i < k then minusF a b i else 0

theorem bor_bd {a b : Nat → Int} (ha : Dig a 16) (hb : Dig b 16) : ∀ k, k ≤ 16 → 0 ≤ bor a b k ∧ bor a b k ≤ 1
  | 0, _ => by simp [bor]
  | k + 1, h => by
    have ih := bor_bd ha hb k (by omega)
    have h1 := ha k (by omega)
    have h2 := hb k (by omega)
    simp only [bor]
    omega

theorem minusF_dig (a b : Nat → Int) (n : Nat) : Dig (minusF a b) n := fun i _ => by unfold minusF; omega

theorem minus_S (a b : Nat → Int) : ∀ k, S (minusF a b) k = S a k - S b k + bor a b k * 65536 ^ k
  | 0 => by simp [S, bor]
  | k + 1 => by
    have ih := minus_S a b k
    have e : bor a b (k + 1) * 65536 ^ (k + 1) = 65536 * bor a b (k + 1) * 65536 ^ k := by rw [p16s, ← Int.mul_assoc, Int.mul_comm (bor a b (k + 1)) 65536]
    have e2 : minusF a b k = a k - b k - bor a b k + 65536 * bor a b (k + 1) := by
      simp only [minusF, bor]
      omega
    simp only [S]
    rw [ih, e, e2, Int.add_mul, Int.sub_mul, Int.sub_mul]
    omega

theorem minus_le {a b : Nat → Int} (ha : Dig a 16) (hb : Dig b 16) (h : S b 16 ≤ S a 16) : S (minusF a b) 16 = S a 16 - S b 16 := by
  have e := minus_S a b 16
  have h0 := bor_bd ha hb 16 (by omega)
  have h1 := S_bd (minusF_dig a b 16)
  have h2 := S_bd ha
  have h3 := S_bd hb
  have : bor a b 16 = 0 ∨ bor a b 16 = 1 := by omega
  rcases this with h4 | h4
  · rw [h4] at e; omega
  · rw [h4] at e; omega

theorem and16 {x : Int} (h0 : 0 ≤ x) (h1 : x < 18446744073709551616) : bits .and .u64 x 65535 = x % 65536 := by
  rw [u64_and x _ h0 h1 (by decide) (by decide)]
  have e : (65535 : Int).toNat = 65535 := by decide
  rw [e, nat_mask16]
  omega

set_option maxRecDepth 100000 in
set_option maxHeartbeats 1000000 in
theorem rminus_any (a b : Nat → Int) (w : World) (ha : Dig a 16) (hb : Dig b 16) : Calls Tryz.prog 51 #[.agg (arr 16 a), .agg (arr 16 b)] w fun r w' => r = .returned (.agg (arr 16 (minusF a b))) ∧ Below w.heap.size w w' := by
  go_enter Tryz.func51, Tryz.ntmps51
  go_wp2
  rw [show #[Value.int IntKind.u64 0, Value.int IntKind.u64 0, Value.int IntKind.u64 0, Value.int IntKind.u64 0, Value.int IntKind.u64 0, Value.int IntKind.u64 0, Value.int IntKind.u64 0, Value.int IntKind.u64 0, Value.int IntKind.u64 0, Value.int IntKind.u64 0, Value.int IntKind.u64 0, Value.int IntKind.u64 0, Value.int IntKind.u64 0, Value.int IntKind.u64 0, Value.int IntKind.u64 0, Value.int IntKind.u64 0] = arr 16 (fun _ => 0) from rfl]
  have R1 : Row ((((w.alloc (.cells (arr 16 a) 39)).alloc (.cells (arr 16 b) 39)).alloc (.cells (arr 16 fun _ => 0) 39)).alloc (.cells (arr 16 fun _ => 0) 39)) w.heap.size 39 16 a := (((Row.new w 39 16 a).alloc _).alloc _).alloc _
  have R2 : Row ((((w.alloc (.cells (arr 16 a) 39)).alloc (.cells (arr 16 b) 39)).alloc (.cells (arr 16 fun _ => 0) 39)).alloc (.cells (arr 16 fun _ => 0) 39)) (w.heap.size + 1) 39 16 b := ((Row.new' _ 39 16 _ (by simp)).alloc _).alloc _
  have R3 : Row ((((w.alloc (.cells (arr 16 a) 39)).alloc (.cells (arr 16 b) 39)).alloc (.cells (arr 16 fun _ => 0) 39)).alloc (.cells (arr 16 fun _ => 0) 39)) (w.heap.size + 1 + 1) 39 16 (fun _ => 0) := (Row.new' _ 39 16 _ (by simp)).alloc _
  have R4 : Row ((((w.alloc (.cells (arr 16 a) 39)).alloc (.cells (arr 16 b) 39)).alloc (.cells (arr 16 fun _ => 0) 39)).alloc (.cells (arr 16 fun _ => 0) 39)) (w.heap.size + 1 + 1 + 1) 39 16 (fun _ => 0) := Row.new' _ 39 16 _ (by simp)
  have O : Below w.heap.size w ((((w.alloc (.cells (arr 16 a) 39)).alloc (.cells (arr 16 b) 39)).alloc (.cells (arr 16 fun _ => 0) 39)).alloc (.cells (arr 16 fun _ => 0) 39)) := ((((Below.refl _ _).alloc (Nat.le_refl _) _).alloc (by simp) _).alloc (by simp; omega) _).alloc (by simp; omega) _
  generalize (((w.alloc (.cells (arr 16 a) 39)).alloc (.cells (arr 16 b) 39)).alloc (.cells (arr 16 fun _ => 0) 39)).alloc (.cells (arr 16 fun _ => 0) 39) = W at R1 R2 R3 R4 O ⊢
  go_loopw [6, 7] (fun bo i wr => ∃ k : Nat, k ≤ 16 ∧ bo = .int .u64 (bor a b k) ∧ i = .int .i64 k ∧ Row wr w.heap.size 39 16 a ∧ Row wr (w.heap.size + 1) 39 16 b ∧ Row wr (w.heap.size + 1 + 1) 39 16 (fun _ => 0) ∧ Row wr (w.heap.size + 1 + 1 + 1) 39 16 (mk a b k) ∧ Below w.heap.size w wr) (fun _ i _ => 16 - (intOf i).toNat)
  case atStart => exact ⟨0, by omega, rfl, rfl, R1, R2, R3, R4, O⟩
  case round =>
    clear R1 R2 R3 R4 O
    obtain ⟨k, hk, rfl, rfl, R1, R2, R3, R4, O⟩ := hrel
    by_cases hlt : k < 16
    · have c := R1.cell hlt
      have d := R2.cell hlt
      have x := R4.cell (i := k) hlt
      have e := R4.free k
      obtain ⟨a0, a1⟩ := ha k hlt
      obtain ⟨b0, b1⟩ := hb k hlt
      obtain ⟨q0, q1⟩ := bor_bd ha hb k (by omega)
      have i1 : (0 : Int) ≤ (k : Int) := by omega
      have i2 : (k : Int) < 16 := by omega
      have ea := and16 (x := 65536 + a k - b k - bor a b k) (by omega) (by omega)
      have HB := hide (show bor a b (k + 1) = 1 - (65536 + a k - b k - bor a b k) / 65536 from rfl)
      have RR := hide (fun n => (rowN R4 n).set k ((65536 + a k - b k - bor a b k) % 65536))
      have R1' := hide (fun n => (rowN R1 n).other (a := ⟨w.heap.size + 1 + 1 + 1, k, none⟩) (by simp; omega) (.int .u64 ((65536 + a k - b k - bor a b k) % 65536)))
      have R2' := hide (fun n => (rowN R2 n).other (a := ⟨w.heap.size + 1 + 1 + 1, k, none⟩) (by simp) (.int .u64 ((65536 + a k - b k - bor a b k) % 65536)))
      have R3' := hide (fun n => (rowN R3 n).other (a := ⟨w.heap.size + 1 + 1 + 1, k, none⟩) (by simp) (.int .u64 ((65536 + a k - b k - bor a b k) % 65536)))
      have O' := hide (fun n => (belN (n := n) O).setCell (p := ⟨w.heap.size + 1 + 1 + 1, k, none⟩) (by simp; omega) (.int .u64 ((65536 + a k - b k - bor a b k) % 65536)))
      clear R1 R2 R3 R4 O
      generalize hbo : bor a b k = bo at *
      have HO := hide hbo
      clear hbo
      go_wp2_with fail
      go_quiet (fail)
      go_wp2
      exact ⟨⟨k + 1, by omega, by rw [HB.out], by go_num, R1'.out _, R2'.out _, R3'.out _, (RR.out _).congr (fun i _ => by
        unfold upd mk
        by_cases h : i = k
        · subst h
          simp [minusF, HO.out]
        · simp [h]
          omega), O'.out _⟩, by simp [intOf]; omega⟩
    · have hk' : k = 16 := by omega
      subst hk'
      have e : arr 16 (mk a b 16) = arr 16 (minusF a b) := arr_congr fun i hi => by unfold mk; rw [if_pos hi]
      unfold Row at R4
      rw [e] at R4
      have RR := hide (R3.setAll (minusF a b))
      have OO := hide (below_setCells (g := w.heap.size + 1 + 1) (by omega) (arr 16 (minusF a b)).toList 0 O)
      go_wp2_with (first | (refine wpList_load_row rfl 39 _ rfl (w.heap.size + 1 + 1 + 1) rfl 39 (arr 16 (minusF a b)) (0, 0) _ R4 Tryz.underlying39 rfl (info39 _) ?_) | (refine wpList_store_mid rfl 39 _ _ rfl (w.heap.size + 1 + 1) 0 (arr 16 (minusF a b)) rfl rfl (by rw [arr_size]; exact R3.there) (info39 _) (arr_one _ _) ?_))
      exact bodyPost_ret (v := .agg (arr 16 (minusF a b))) (results_cell_row Tryz.results51 _ _ (w.heap.size + 1 + 1) 39 (arr 16 (minusF a b)) (0, 0) _ rfl RR.out Tryz.underlying39 rfl (info39 _)) rfl ⟨rfl, OO.out⟩

end Go.Proofs.YtkeocdebfgcnnaaGreat.Ord

/- The arithmetic of the document's reduce: carries, and what stands at 2^256 or above comes round by 38. -/
namespace Go.Proofs.YtkeocdebfgcnnaaGreat.Ord
open Go.RowKit

theorem pass_S (t : Nat → Int) : ∀ k, S (lo t) k + cf t k * 65536 ^ k = S t k
  | 0 => by simp [S, cf]
  | k + 1 => by
    have ih := pass_S t k
    have e : cf t (k + 1) * 65536 ^ (k + 1) = 65536 * cf t (k + 1) * 65536 ^ k := by rw [p16s, ← Int.mul_assoc, Int.mul_comm (cf t (k + 1)) 65536]
    have e2 : lo t k = t k + cf t k - 65536 * cf t (k + 1) := by
      simp only [lo, cf]
      omega
    simp only [S]
    rw [e, e2, Int.sub_mul, Int.add_mul]
    omega

/-- The digits of a number. -/
def d16 (N : Int) : Nat → Int := fun i => N / 65536 ^ i % 65536

theorem S_inj {f g : Nat → Int} : ∀ {n : Nat}, Dig f n → Dig g n → S f n = S g n → ∀ i, i < n → f i = g i
  | 0, _, _, _, i, hi => by omega
  | n + 1, hf, hg, h, i, hi => by
    have bf := S_bd (hf.le (m := n) (by omega))
    have bg := S_bd (hg.le (m := n) (by omega))
    have hp := p16 n
    simp only [S] at h
    have hn : f n = g n := by
      apply Classical.byContradiction
      intro hne
      have : f n < g n ∨ g n < f n := by omega
      rcases this with hl | hl
      · have : (g n - f n) * 65536 ^ n ≥ 1 * 65536 ^ n := Int.mul_le_mul_of_nonneg_right (by omega) (by omega)
        rw [Int.sub_mul] at this
        omega
      · have : (f n - g n) * 65536 ^ n ≥ 1 * 65536 ^ n := Int.mul_le_mul_of_nonneg_right (by omega) (by omega)
        rw [Int.sub_mul] at this
        omega
    by_cases hin : i = n
    · rw [hin]; exact hn
    · refine S_inj (n := n) (hf.le (by omega)) (hg.le (by omega)) ?_ i (by omega)
      rw [hn] at h
      omega

theorem d16_dig (N : Int) (n : Nat) : Dig (d16 N) n := fun i _ => by unfold d16; omega

theorem d16_S (N : Int) (h0 : 0 ≤ N) : ∀ n, S (d16 N) n = N % 65536 ^ n
  | 0 => by simp [S]
  | n + 1 => by
    simp only [S]
    rw [d16_S N h0 n, d16, Int.pow_succ]
    have hp := p16 n
    generalize (65536 : Int) ^ n = X at *
    have a := Int.mul_ediv_add_emod N X
    have b := Int.mul_ediv_add_emod (N / X) 65536
    have r0 := Int.emod_nonneg N (by omega : X ≠ 0)
    have r1 := Int.emod_lt_of_pos N hp
    have hN : N = (N % X + N / X % 65536 * X) + X * 65536 * (N / X / 65536) := by
      have e : X * (N / X) = X * (65536 * (N / X / 65536) + N / X % 65536) := by rw [b]
      rw [Int.mul_add] at e
      rw [Int.mul_comm (N / X % 65536) X, Int.mul_assoc]
      omega
    have q : N / X % 65536 * X ≤ 65535 * X := Int.mul_le_mul_of_nonneg_right (by omega) (by omega)
    have q0 : 0 ≤ N / X % 65536 * X := Int.mul_nonneg (by omega) (by omega)
    have hM : N % (X * 65536) = (N % X + N / X % 65536 * X + X * 65536 * (N / X / 65536)) % (X * 65536) := by rw [← hN]
    rw [hM, Int.add_mul_emod_self_left]
    exact (Int.emod_eq_of_lt (by omega) (by omega)).symm

end Go.Proofs.YtkeocdebfgcnnaaGreat.Ord

/- When an answer is the document's; the document's order and twice. -/
namespace Go.Proofs.YtkeocdebfgcnnaaGreat.Ord
open Go.RowKit

/-- The digits of the order. -/
def oF : Nat → Int := fun i => [54253, 23797, 25370, 22546, 40150, 41719, 63966, 5342, 0, 0, 0, 0, 0, 0, 0, 4096].getD i 0
theorem oF_S : S oF 16 = Lm := by decide +kernel
theorem oF_dig : Dig oF 16 := by
  have h : ∀ i : Fin 16, 0 ≤ oF i ∧ oF i < 65536 := by decide
  exact fun i hi => h ⟨i, hi⟩

set_option maxRecDepth 100000 in
set_option maxHeartbeats 1000000 in
theorem order_any (w : World) : Calls Tryz.prog 50 #[] w fun r w' => r = .returned (.agg (arr 16 oF)) ∧ Below w.heap.size w w' := by
  go_enter Tryz.func50, Tryz.ntmps50
  go_wp2
  exact bodyPost_ret (v := .agg (arr 16 oF)) (by simp [results, Tryz.results50, go_sem]; rfl) rfl ⟨rfl, (Below.refl _ _).alloc (Nat.le_refl _) _⟩

end Go.Proofs.YtkeocdebfgcnnaaGreat.Ord

/- The contract of the document's twice. -/
namespace Go.Proofs.YtkeocdebfgcnnaaGreat.Ord
open Go.RowKit

/-- The carry into digit k. -/
def tc (a : Nat → Int) (one : Int) : Nat → Int
  | 0 => one
  | k + 1 => (2 * a k + tc a one k) / 65536
def tl (a : Nat → Int) (one : Int) : Nat → Int := fun k => (2 * a k + tc a one k) % 65536
theorem tc_bd {a : Nat → Int} {one : Int} (ha : Dig a 16) (h0 : 0 ≤ one) (h1 : one ≤ 1) : ∀ k, k ≤ 16 → 0 ≤ tc a one k ∧ tc a one k ≤ 1
  | 0, _ => ⟨h0, h1⟩
  | k + 1, h => by
    have ih := tc_bd ha h0 h1 k (by omega)
    have := ha k (by omega)
    simp only [tc]
    omega
theorem tl_dig (a : Nat → Int) (one : Int) (n : Nat) : Dig (tl a one) n := fun i _ => by unfold tl; omega
theorem tl_S (a : Nat → Int) (one : Int) : ∀ k, S (tl a one) k + tc a one k * 65536 ^ k = 2 * S a k + one
  | 0 => by simp [S, tc]
  | k + 1 => by
    have ih := tl_S a one k
    have e : tc a one (k + 1) * 65536 ^ (k + 1) = 65536 * tc a one (k + 1) * 65536 ^ k := by rw [p16s, ← Int.mul_assoc, Int.mul_comm (tc a one (k + 1)) 65536]
    have e2 : tl a one k = 2 * a k + tc a one k - 65536 * tc a one (k + 1) := by
      simp only [tl, tc]
      omega
    simp only [S]
    rw [e, e2, Int.sub_mul, Int.add_mul, Int.mul_add, ← Int.mul_assoc]
    omega

set_option maxRecDepth 100000 in
set_option maxHeartbeats 1000000 in
theorem twice_gen (a : Nat → Int) (one : Int) (w : World) (ha : Dig a 16) (h0 : 0 ≤ one) (h1 : one ≤ 1) :
    Calls Tryz.prog 48 #[.agg (arr 16 a), .int .u64 one] w fun r w' => r = .returned (.agg (arr 16 (tl a one))) ∧ Below w.heap.size w w' := by
  go_enter Tryz.func48, Tryz.ntmps48
  go_wp2
  rw [show #[Value.int IntKind.u64 0, Value.int IntKind.u64 0, Value.int IntKind.u64 0, Value.int IntKind.u64 0, Value.int IntKind.u64 0, Value.int IntKind.u64 0, Value.int IntKind.u64 0, Value.int IntKind.u64 0, Value.int IntKind.u64 0, Value.int IntKind.u64 0, Value.int IntKind.u64 0, Value.int IntKind.u64 0, Value.int IntKind.u64 0, Value.int IntKind.u64 0, Value.int IntKind.u64 0, Value.int IntKind.u64 0] = arr 16 (fun _ => 0) from rfl]
  have R1 : Row (((w.alloc (.cells (arr 16 a) 39)).alloc (.cells (arr 16 fun _ => 0) 39)).alloc (.cells (arr 16 fun _ => 0) 39)) w.heap.size 39 16 a := ((Row.new w 39 16 a).alloc _).alloc _
  have R2 : Row (((w.alloc (.cells (arr 16 a) 39)).alloc (.cells (arr 16 fun _ => 0) 39)).alloc (.cells (arr 16 fun _ => 0) 39)) (w.heap.size + 1) 39 16 (fun _ => 0) := (Row.new' _ 39 16 _ (by simp)).alloc _
  have R3 : Row (((w.alloc (.cells (arr 16 a) 39)).alloc (.cells (arr 16 fun _ => 0) 39)).alloc (.cells (arr 16 fun _ => 0) 39)) (w.heap.size + 1 + 1) 39 16 (fun _ => 0) := Row.new' _ 39 16 _ (by simp)
  have O : Below w.heap.size w (((w.alloc (.cells (arr 16 a) 39)).alloc (.cells (arr 16 fun _ => 0) 39)).alloc (.cells (arr 16 fun _ => 0) 39)) := (((Below.refl _ _).alloc (Nat.le_refl _) _).alloc (by simp) _).alloc (by simp; omega) _
  generalize (((w.alloc (.cells (arr 16 a) 39)).alloc (.cells (arr 16 fun _ => 0) 39)).alloc (.cells (arr 16 fun _ => 0) 39)) = W at R1 R2 R3 O ⊢
  go_loopw [6, 7] (fun c i wr => ∃ k : Nat, k ≤ 16 ∧ c = .int .u64 (tc a one k) ∧ i = .int .i64 k ∧ Row wr w.heap.size 39 16 a ∧ Row wr (w.heap.size + 1) 39 16 (fun _ => 0) ∧ Row wr (w.heap.size + 1 + 1) 39 16 (upto k (tl a one) (fun _ => 0)) ∧ Below w.heap.size w wr) (fun _ i _ => 16 - (intOf i).toNat)
  case atStart => exact ⟨0, by omega, rfl, rfl, R1, R2, R3.congr (fun i _ => upto_zero (tl a one) (fun _ => 0) i), O⟩
  case round =>
    clear R1 R2 R3 O
    obtain ⟨k, hk, rfl, rfl, R1, R2, R3, O⟩ := hrel
    by_cases hlt : k < 16
    · have c := R1.cell hlt
      have d := R3.cell (i := k) hlt
      have e := R3.free k
      obtain ⟨a0, a1⟩ := ha k hlt
      obtain ⟨b0, b1⟩ := tc_bd ha h0 h1 k hk
      have ea := and16 (x := 2 * a k + tc a one k) (by omega) (by omega)
      have HN := hide (show tc a one (k + 1) = (2 * a k + tc a one k) / 65536 from rfl)
      have RR := hide ((R3.set k ((2 * a k + tc a one k) % 65536)).congr (fun i _ => upto_next k (tl a one) (fun _ => 0) rfl i))
      have R1' := hide (R1.other (a := ⟨w.heap.size + 1 + 1, k, none⟩) (by simp <;> omega) (.int .u64 ((2 * a k + tc a one k) % 65536)))
      have R2' := hide (R2.other (a := ⟨w.heap.size + 1 + 1, k, none⟩) (by simp) (.int .u64 ((2 * a k + tc a one k) % 65536)))
      have O' := hide (O.setCell (p := ⟨w.heap.size + 1 + 1, k, none⟩) (by simp; omega) (.int .u64 ((2 * a k + tc a one k) % 65536)))
      clear R1 R2 R3 O
      go_wp2
      go_roundw
      case rel => exact ⟨k + 1, by omega, by rw [HN.out], by go_num, R1'.out, R2'.out, RR.out, O'.out⟩
      case measure => simp [intOf]; omega
    · have hk' : k = 16 := by omega
      subst hk'
      replace R3 := R3.congr (f' := tl a one) (fun i hi => upto_end _ _ i hi)
      have RR := hide (R2.setAll (tl a one))
      have OO := hide (below_setCells (g := w.heap.size + 1) (by omega) (arr 16 (tl a one)).toList 0 O)
      have HX := hide R3
      clear R3 O R1
      go_wp2_with (first | (refine wpList_load_row rfl 39 _ rfl (w.heap.size + 1 + 1) rfl 39 (arr 16 (tl a one)) (0, 0) _ HX.out Tryz.underlying39 rfl (info39 _) ?_) | (refine wpList_store_mid rfl 39 _ _ rfl (w.heap.size + 1) 0 (arr 16 (tl a one)) rfl rfl ?tht (info39 _) (arr_one _ _) ?_))
      case tht => rw [arr_size]; exact R2.there
      exact bodyPost_ret (v := .agg (arr 16 (tl a one))) (results_cell_row Tryz.results48 _ _ (w.heap.size + 1) 39 (arr 16 (tl a one)) (0, 0) _ rfl RR.out Tryz.underlying39 rfl (info39 _)) rfl ⟨rfl, OO.out⟩

theorem L16 : 2 * Lm + 1 < 65536 ^ 16 := by decide
theorem dSL {N : Int} (h0 : 0 ≤ N) (h1 : N < 65536 ^ 16) : S (d16 N) 16 = N := by rw [d16_S _ h0, Int.emod_eq_of_lt h0 h1]

theorem twice_any (N one : Int) (w : World) (hN : 0 ≤ N ∧ N < Lm) (h0 : 0 ≤ one) (h1 : one ≤ 1) :
    Calls Tryz.prog 48 #[.agg (arr 16 (d16 N)), .int .u64 one] w fun r w' => r = .returned (.agg (arr 16 (d16 (2 * N + one)))) ∧ Below w.heap.size w w' := by
  have hL := L16
  have e := tl_S (d16 N) one 16
  have hc := tc_bd (d16_dig N 16) h0 h1 16 (by omega)
  have hb := S_bd (tl_dig (d16 N) one 16)
  rw [dSL hN.1 (by omega)] at e
  have hs : S (tl (d16 N) one) 16 = 2 * N + one := by
    rcases (show tc (d16 N) one 16 = 0 ∨ tc (d16 N) one 16 = 1 by omega) with h | h
    · rw [h] at e; omega
    · rw [h] at e; omega
  have := twice_gen (d16 N) one w (d16_dig N 16) h0 h1
  rwa [arr_congr (S_inj (tl_dig (d16 N) one 16) (d16_dig (2 * N + one) 16) (by rw [hs, dSL (by omega) (by omega)]))] at this

end Go.Proofs.YtkeocdebfgcnnaaGreat.Ord

/- The contracts of wordsOf, number and Of: which number 32 bytes are. -/
namespace Go.Proofs.YtkeocdebfgcnnaaGreat.Ord
open Go.RowKit

/-- Byte i of a string, as a number. -/
def bt (s : ByteArray) (i : Nat) : Int := ((s.data[i]?.getD 0).toNat : Int)

theorem bt_bd (s : ByteArray) (i : Nat) : 0 ≤ bt s i ∧ bt s i < 256 := by
  unfold bt
  have := (s.data[i]?.getD 0).toNat_lt
  omega

theorem bt_at (s : ByteArray) (i : Nat) (h : i < s.size) : ((s[i]'h).toNat : Int) = bt s i := by
  unfold bt
  have h' : i < s.data.size := h
  rw [Array.getElem?_eq_getElem h']
  rfl

/-- The first r bytes of word j. -/
def sw (s : ByteArray) (j : Nat) : Nat → Int
  | 0 => 0
  | r + 1 => sw s j r + bt s (8 * j + r) * 256 ^ r

theorem sw_bd (s : ByteArray) (j r : Nat) : 0 ≤ sw s j r ∧ sw s j r < 256 ^ r := by
  induction r with
  | zero => simp [sw]
  | succ r ih =>
    have hb := bt_bd s (8 * j + r)
    have hp : (0 : Int) < 256 ^ r := Int.pow_pos (by decide)
    have h1 : bt s (8 * j + r) * 256 ^ r ≤ 255 * 256 ^ r := Int.mul_le_mul_of_nonneg_right (by omega) (by omega)
    have h2 : 0 ≤ bt s (8 * j + r) * 256 ^ r := Int.mul_nonneg hb.1 (by omega)
    have h3 : (256 : Int) ^ (r + 1) = 256 * 256 ^ r := by rw [Int.pow_succ, Int.mul_comm]
    simp only [sw]
    omega

theorem swor0 (s : ByteArray) (j i : Nat) (hi : i = 8 * j + 0) : bits BinOp.or IntKind.u64 0 (bt s i) = sw s j 1 := by
  have hb := bt_bd s i
  rw [or_join 8 256 (by decide) ⟨by decide, by decide⟩ ⟨hb.1, by omega⟩ (by decide) (by omega)]
  simp [sw, hi]

theorem swor1 (s : ByteArray) (j i : Nat) (hi : i = 8 * j + 1) : bits BinOp.or IntKind.u64 (sw s j 1) (bt s i * 256) = sw s j 2 := by
  have hb := bt_bd s i
  have hs := sw_bd s j 1
  have e : (256 : Int) ^ 1 = 256 := by decide
  rw [e] at hs
  rw [or_join' 8 256 (by decide) ⟨hs.1, by omega⟩ ⟨by omega, by omega⟩ (by omega) (by omega)]
  show _ = sw s j 1 + bt s (8 * j + 1) * 256 ^ 1
  rw [e, hi]

theorem swor2 (s : ByteArray) (j i : Nat) (hi : i = 8 * j + 2) : bits BinOp.or IntKind.u64 (sw s j 2) (bt s i * 65536) = sw s j 3 := by
  have hb := bt_bd s i
  have hs := sw_bd s j 2
  have e : (256 : Int) ^ 2 = 65536 := by decide
  rw [e] at hs
  rw [or_join' 16 65536 (by decide) ⟨hs.1, by omega⟩ ⟨by omega, by omega⟩ (by omega) (by omega)]
  show _ = sw s j 2 + bt s (8 * j + 2) * 256 ^ 2
  rw [e, hi]

theorem swor3 (s : ByteArray) (j i : Nat) (hi : i = 8 * j + 3) : bits BinOp.or IntKind.u64 (sw s j 3) (bt s i * 16777216) = sw s j 4 := by
  have hb := bt_bd s i
  have hs := sw_bd s j 3
  have e : (256 : Int) ^ 3 = 16777216 := by decide
  rw [e] at hs
  rw [or_join' 24 16777216 (by decide) ⟨hs.1, by omega⟩ ⟨by omega, by omega⟩ (by omega) (by omega)]
  show _ = sw s j 3 + bt s (8 * j + 3) * 256 ^ 3
  rw [e, hi]

theorem swor4 (s : ByteArray) (j i : Nat) (hi : i = 8 * j + 4) : bits BinOp.or IntKind.u64 (sw s j 4) (bt s i * 4294967296) = sw s j 5 := by
  have hb := bt_bd s i
  have hs := sw_bd s j 4
  have e : (256 : Int) ^ 4 = 4294967296 := by decide
  rw [e] at hs
  rw [or_join' 32 4294967296 (by decide) ⟨hs.1, by omega⟩ ⟨by omega, by omega⟩ (by omega) (by omega)]
  show _ = sw s j 4 + bt s (8 * j + 4) * 256 ^ 4
  rw [e, hi]

theorem swor5 (s : ByteArray) (j i : Nat) (hi : i = 8 * j + 5) : bits BinOp.or IntKind.u64 (sw s j 5) (bt s i * 1099511627776) = sw s j 6 := by
  have hb := bt_bd s i
  have hs := sw_bd s j 5
  have e : (256 : Int) ^ 5 = 1099511627776 := by decide
  rw [e] at hs
  rw [or_join' 40 1099511627776 (by decide) ⟨hs.1, by omega⟩ ⟨by omega, by omega⟩ (by omega) (by omega)]
  show _ = sw s j 5 + bt s (8 * j + 5) * 256 ^ 5
  rw [e, hi]

theorem swor6 (s : ByteArray) (j i : Nat) (hi : i = 8 * j + 6) : bits BinOp.or IntKind.u64 (sw s j 6) (bt s i * 281474976710656) = sw s j 7 := by
  have hb := bt_bd s i
  have hs := sw_bd s j 6
  have e : (256 : Int) ^ 6 = 281474976710656 := by decide
  rw [e] at hs
  rw [or_join' 48 281474976710656 (by decide) ⟨hs.1, by omega⟩ ⟨by omega, by omega⟩ (by omega) (by omega)]
  show _ = sw s j 6 + bt s (8 * j + 6) * 256 ^ 6
  rw [e, hi]

theorem swor7 (s : ByteArray) (j i : Nat) (hi : i = 8 * j + 7) : bits BinOp.or IntKind.u64 (sw s j 7) (bt s i * 72057594037927936) = sw s j 8 := by
  have hb := bt_bd s i
  have hs := sw_bd s j 7
  have e : (256 : Int) ^ 7 = 72057594037927936 := by decide
  rw [e] at hs
  rw [or_join' 56 72057594037927936 (by decide) ⟨hs.1, by omega⟩ ⟨by omega, by omega⟩ (by omega) (by omega)]
  show _ = sw s j 7 + bt s (8 * j + 7) * 256 ^ 7
  rw [e, hi]

end Go.Proofs.YtkeocdebfgcnnaaGreat.Ord

/- The contract of the document's Of: bytes, bit by bit, modulo the order. -/
namespace Go.Proofs.YtkeocdebfgcnnaaGreat.Ord
open Go.RowKit

theorem and1u {x : Int} (h0 : 0 ≤ x) (h1 : x < 256) : bits .and .u8 x 1 = x % 2 := by
  obtain ⟨X, rfl⟩ := Int.eq_ofNat_of_zero_le h0
  have hX : X < 256 := by omega
  have h : ∀ n : Fin 256, bits .and .u8 ((n.val : Nat) : Int) 1 = ((n.val : Nat) : Int) % 2 := by decide +kernel
  exact h ⟨X, hX⟩

/-- Bit i of a string. -/
def bit (s : ByteArray) (i : Nat) : Int := bt s (i / 8) / 2 ^ (i % 8) % 2
/-- What k bits are, the highest first. -/
def ov (s : ByteArray) (n : Nat) : Nat → Int
  | 0 => 0
  | k + 1 => (2 * ov s n k + bit s (n - 1 - k)) % Lm

theorem ov_next (s : ByteArray) (n : Nat) (N : Int) {p : Nat} {b : Int} (hp : p + 1 ≤ n) (hb : bit s p = b) (hN : N = ov s n (n - (p + 1))) :
    (0 ≤ 2 * N + b → 2 * N + b < Lm → 2 * N + b = ov s n (n - p)) ∧ (2 * N + b < 2 * Lm → ¬ 2 * N + b < Lm → 2 * N + b - Lm = ov s n (n - p)) := by
  have e : n - p = n - (p + 1) + 1 := by omega
  have e2 : n - 1 - (n - (p + 1)) = p := by omega
  have e3 : ov s n (n - p) = (2 * N + b) % Lm := by
    rw [e]
    show (2 * ov s n (n - (p + 1)) + bit s (n - 1 - (n - (p + 1)))) % Lm = _
    rw [e2, hb, ← hN]
  rw [e3]
  refine ⟨fun h0 h1 => (Int.emod_eq_of_lt h0 h1).symm, fun h1 h2 => ?_⟩
  have e4 : (2 * N + b) % Lm = (2 * N + b - Lm) % Lm := by rw [Int.sub_emod_right]
  rw [e4, Int.emod_eq_of_lt (by omega) (by omega)]

theorem sub_val {X : Int} (h : ¬ X < Lm) (h1 : X < 2 * Lm) : arr 16 (minusF (d16 X) oF) = arr 16 (d16 (X - Lm)) := by
  have hL := L16
  have hX : S (d16 X) 16 = X := dSL (by have := Lm_pos; omega) (by omega)
  refine arr_congr (S_inj (minusF_dig _ _ 16) (d16_dig _ 16) ?_)
  rw [minus_le (d16_dig X 16) oF_dig (by rw [hX, oF_S]; omega), hX, oF_S, dSL (by omega) (by omega)]

set_option maxRecDepth 100000 in
set_option maxHeartbeats 8000000 in
theorem rof_any (s : ByteArray) (n : Nat) (w : World) (hs : s.size ≤ 64) (hn : n = 8 * s.size) :
    Calls Tryz.prog 9 #[.string s] w fun x w' => x = .returned (.agg (arr 16 (d16 (ov s n n)))) ∧ Below w.heap.size w w' := by
  have n1 : IntKind.i64.wrap (8 * (s.size : Int)) = 8 * (s.size : Int) := by rw [IntKind.wrap_i64]; omega
  have n2 : IntKind.i64.wrap (8 * (s.size : Int) - 1) = 8 * (s.size : Int) - 1 := by rw [IntKind.wrap_i64]; omega
  have Hn := hide hn
  clear hn
  go_enter Tryz.func9, Tryz.ntmps9
  go_wp2
  rw [show #[Value.int IntKind.u64 0, Value.int IntKind.u64 0, Value.int IntKind.u64 0, Value.int IntKind.u64 0, Value.int IntKind.u64 0, Value.int IntKind.u64 0, Value.int IntKind.u64 0, Value.int IntKind.u64 0, Value.int IntKind.u64 0, Value.int IntKind.u64 0, Value.int IntKind.u64 0, Value.int IntKind.u64 0, Value.int IntKind.u64 0, Value.int IntKind.u64 0, Value.int IntKind.u64 0, Value.int IntKind.u64 0] = arr 16 (fun _ => 0) from rfl]
  have R1 : Row ((w.alloc (.cells (arr 16 fun _ => 0) 39)).alloc (.cells (arr 16 fun _ => 0) 39)) w.heap.size 39 16 (fun _ => 0) := (Row.new w 39 16 _).alloc _
  have R2 : Row ((w.alloc (.cells (arr 16 fun _ => 0) 39)).alloc (.cells (arr 16 fun _ => 0) 39)) (w.heap.size + 1) 39 16 (fun _ => 0) := Row.new' _ 39 16 _ (by simp)
  have O : Below w.heap.size w ((w.alloc (.cells (arr 16 fun _ => 0) 39)).alloc (.cells (arr 16 fun _ => 0) 39)) := ((Below.refl _ _).alloc (Nat.le_refl _) _).alloc (by simp) _
  generalize ((w.alloc (.cells (arr 16 fun _ => 0) 39)).alloc (.cells (arr 16 fun _ => 0) 39)) = W at R1 R2 O ⊢
  go_loopw [4] (fun v wr => ∃ m : Nat, m ≤ n ∧ (∃ x : Int, x = (m : Int) - 1 ∧ v = .int .i64 x) ∧ Row wr w.heap.size 39 16 (fun _ => 0) ∧ (∃ N, N = ov s n (n - m) ∧ 0 ≤ N ∧ N < Lm ∧ Row wr (w.heap.size + 1) 39 16 (d16 N)) ∧ Below w.heap.size w wr) (fun v _ => (intOf v + 1).toNat)
  case atStart => exact ⟨n, Nat.le_refl _, ⟨_, by rw [Hn.out]; omega, rfl⟩, R1, ⟨0, by rw [Nat.sub_self]; rfl, by omega, Lm_pos, R2.congr (fun i _ => by simp [d16])⟩, O⟩
  case round =>
    clear R1 R2 O
    obtain ⟨m, hm, ⟨x, hx, hi⟩, R1, ⟨N, hN, hN0, hN1, R2⟩, O⟩ := hrel
    rcases m with _ | p
    · have e : x = -1 := by omega
      subst e
      subst hi
      rw [Nat.sub_zero] at hN
      have HN := hide hN
      clear hN hx n1 n2
      have RR := hide (R1.setAll (d16 N))
      have OO := hide (below_setCells (g := w.heap.size) (Nat.le_refl _) (arr 16 (d16 N)).toList 0 O)
      have HX := hide R2
      clear R2 O
      go_wp2_with (first | (refine wpList_load_row rfl 39 _ rfl (w.heap.size + 1) rfl 39 (arr 16 (d16 N)) (0, 0) _ HX.out Tryz.underlying39 rfl (info39 _) ?_) | (refine wpList_store_mid rfl 39 _ _ rfl w.heap.size 0 (arr 16 (d16 N)) rfl rfl ?tho (info39 _) (arr_one _ _) ?_))
      case tho => rw [arr_size]; exact R1.there
      exact bodyPost_ret (v := .agg (arr 16 (d16 N))) (results_cell_row Tryz.results9 _ _ w.heap.size 39 (arr 16 (d16 N)) (0, 0) _ rfl RR.out Tryz.underlying39 rfl (info39 _)) rfl ⟨by rw [HN.out], OO.out⟩
    · have hpn : p + 1 ≤ n := hm
      have hps : p < 8 * s.size := by rw [← Hn.out]; omega
      have hp : p % 8 < 8 := by omega
      rcases (show p % 8 = 0 ∨ p % 8 = 1 ∨ p % 8 = 2 ∨ p % 8 = 3 ∨ p % 8 = 4 ∨ p % 8 = 5 ∨ p % 8 = 6 ∨ p % 8 = 7 by omega) with h8 | h8 | h8 | h8 | h8 | h8 | h8 | h8
      · have e : x = (p : Int) := by omega
        subst e
        subst hi
        have a1 : (0 : Int) ≤ (p : Int) / 8 := by omega
        have a2 : (p : Int) / 8 < (s.size : Int) := by omega
        have a3 : (p : Int) % 8 = 0 := by omega
        have a4 : p / 8 < s.size := by omega
        have a5 := bt_at s (p / 8) a4
        have a6 := bt_bd s (p / 8)
        have a7 : p % 8 = 0 := by omega
        have eb : bits BinOp.and IntKind.u8 (bt s (p / 8)) 1 = bt s (p / 8) % 2 := and1u (by omega) (by omega)
        have ew : IntKind.u64.wrap (bt s (p / 8) % 2) = bt s (p / 8) % 2 := wrap64u ⟨by omega, by omega⟩
        have hbit : bit s p = bt s (p / 8) % 2 := by unfold bit; rw [a7]; simp
        have HB := hide hbit
        have hb0 : 0 ≤ bt s (p / 8) % 2 := by omega
        have hb1 : bt s (p / 8) % 2 ≤ 1 := by omega
        have HV := hide (ov_next s n N hpn HB.out hN)
        have HH := hide (And.intro hN0 (And.intro hN1 (And.intro hb0 hb1)))
        clear n1 n2 hm hp hx hbit hN hN0 hN1 hb0 hb1
        have gl := R2.lt
        go_wp2_with fail
        have hne := KW.some wr
        have hg : ∀ w', (∃ s : KW wr, w' = s.w) → w'.heap[w.heap.size + 1]? = some (.cells (arr 16 (d16 N)) 39 (0, 0)) := by
          rintro _ ⟨s, rfl⟩
          exact R2.keep s.keep
        have HG := hide hg
        have KK := hide (And.intro R1 (And.intro R2 O))
        clear hg R1 R2 O
        refine wp_region_keep_tail 12 (by kernel_rfl) (by kernel_rfl) ?_
        simp only [List.take_succ_cons, List.take_zero, List.drop_succ_cons, List.drop_zero]
        go_big_quiet_want
        refine quiet_load_row 39 _ rfl (w.heap.size + 1) rfl 39 (arr 16 (d16 N)) (0, 0) _ HG.out Tryz.underlying39 rfl (info39 _) ?_
        go_simp
        go_big_quiet_on
        go_big_quiet_step (fail)
        go_big_quiet_step (fail)
        go_big_quiet_step (fail)
        go_big_quiet_step (fail)
        go_big_quiet_step (fail)
        go_big_quiet_step (fail)
        go_big_quiet_step (fail)
        go_big_quiet_step (fail)
        go_big_quiet_step (fail)
        go_big_quiet_step (fail)
        go_big_quiet_step ((exact keep_of (twice_any N _ _ ⟨HH.out.1, HH.out.2.1⟩ HH.out.2.2.1 HH.out.2.2.2)))
        refine wpQuiet_nil ?_
        intro t
        obtain ⟨R1, R2, O⟩ := KK.out
        replace R1 := R1.keep t.keep
        replace R2 := R2.keep t.keep
        replace O := O.trans (t.keep.mono O.size)
        clear KK HG hne eb ew
        generalize t.w = W8 at *
        have hX0 : 0 ≤ 2 * N + bt s (p / 8) % 2 := by have := HH.out; omega
        have hX1 : 2 * N + bt s (p / 8) % 2 < 2 * Lm := by have := HH.out; omega
        generalize 2 * N + bt s (p / 8) % 2 = X at *
        have RR := hide (R2.setAll (d16 X))
        have R1' := hide (R1.setOther (k := w.heap.size + 1) (by omega) 0 (arr 16 (d16 X)).toList)
        have O' := hide (below_setCells (g := w.heap.size + 1) (by omega) (arr 16 (d16 X)).toList 0 O)
        have HX := hide (And.intro hX0 hX1)
        clear R1 O hX0 hX1 HH
        go_wp2_with (refine wpList_store_mid rfl 39 _ _ rfl (w.heap.size + 1) 0 (arr 16 (d16 X)) rfl rfl ?th0 (info39 _) (arr_one _ _) ?_)
        case th0 => rw [arr_size]; exact R2.there
        try rw [show ∀ (a : Act) (v : Value), a.put none v = a from fun _ _ => rfl]
        have R1 := R1'.out
        replace R2 := RR.out
        have O := O'.out
        clear R1' RR O'
        generalize W8.setCells (w.heap.size + 1) 0 (arr 16 (d16 X)).toList = W9 at *
        have hL := L16
        have hSX : S (d16 X) 16 = X := dSL HX.out.1 (by have := HX.out; omega)
        have HSX := hide hSX
        clear hSX hL
        have hne := KW.some W9
        have hg : ∀ w', (∃ s : KW W9, w' = s.w) → w'.heap[w.heap.size + 1]? = some (.cells (arr 16 (d16 X)) 39 (0, 0)) := by
          rintro _ ⟨s, rfl⟩
          exact R2.keep s.keep
        have HG := hide hg
        have KK := hide (And.intro R1 (And.intro R2 O))
        clear hg R1 R2 O
        refine wp_region_keep (by kernel_rfl) (by kernel_rfl) ?_
        go_big_quiet_want
        refine quiet_load_row 39 _ rfl (w.heap.size + 1) rfl 39 (arr 16 (d16 X)) (0, 0) _ HG.out Tryz.underlying39 rfl (info39 _) ?_
        go_simp
        go_big_quiet_on
        go_big_quiet_step ((exact keep_of (order_any _)))
        go_big_quiet_step ((exact keep_of (less_any (d16 X) oF _ (d16_dig _ 16) oF_dig)))
        rw [HSX.out, oF_S]
        by_cases hlt2 : X < Lm
        · rw [decide_eq_true hlt2]
          go_big_quiet_step (fail)
          refine wpQuiet_nil ?_
          intro t
          obtain ⟨R1, R2, O⟩ := KK.out
          replace R1 := R1.keep t.keep
          replace R2 := R2.keep t.keep
          replace O := O.trans (t.keep.mono O.size)
          clear KK HG hne
          generalize t.w = W10 at *
          have HE := hide (HV.out.1 HX.out.1 hlt2)
          go_wp2
          go_roundw
          case rel => exact ⟨p, by omega, ⟨_, rfl, rfl⟩, R1, ⟨X, HE.out, HX.out.1, hlt2, R2⟩, O⟩
          case measure => simp [intOf]
        · rw [decide_eq_false hlt2]
          go_big_quiet_step (fail)
          refine wpQuiet_nil ?_
          intro t
          obtain ⟨R1, R2, O⟩ := KK.out
          replace R1 := R1.keep t.keep
          replace R2 := R2.keep t.keep
          replace O := O.trans (t.keep.mono O.size)
          clear KK HG hne
          generalize t.w = W10 at *
          have HE := hide (HV.out.2 HX.out.2 (by omega))
          have hm2 : arr 16 (minusF (d16 X) oF) = arr 16 (d16 (X - Lm)) := sub_val hlt2 HX.out.2
          have HM := hide hm2
          clear hm2
          go_wp2_with fail
          have hne := KW.some W10
          have hg : ∀ w', (∃ s : KW W10, w' = s.w) → w'.heap[w.heap.size + 1]? = some (.cells (arr 16 (d16 X)) 39 (0, 0)) := by
            rintro _ ⟨s, rfl⟩
            exact R2.keep s.keep
          have HG := hide hg
          have KK := hide (And.intro R1 (And.intro R2 O))
          clear hg R1 R2 O
          refine wp_region_keep_tail 3 (by kernel_rfl) (by kernel_rfl) ?_
          simp only [List.take_succ_cons, List.take_zero, List.drop_succ_cons, List.drop_zero]
          go_big_quiet_want
          refine quiet_load_row 39 _ rfl (w.heap.size + 1) rfl 39 (arr 16 (d16 X)) (0, 0) _ HG.out Tryz.underlying39 rfl (info39 _) ?_
          go_simp
          go_big_quiet_on
          go_big_quiet_step ((exact keep_of (order_any _)))
          go_big_quiet_step ((exact keep_of (rminus_any (d16 X) oF _ (d16_dig _ 16) oF_dig)))
          refine wpQuiet_nil ?_
          intro t2
          obtain ⟨R1, R2, O⟩ := KK.out
          replace R1 := R1.keep t2.keep
          replace R2 := R2.keep t2.keep
          replace O := O.trans (t2.keep.mono O.size)
          clear KK HG hne
          rw [HM.out]
          generalize t2.w = W11 at *
          have RR := hide (R2.setAll (d16 (X - Lm)))
          have R1' := hide (R1.setOther (k := w.heap.size + 1) (by omega) 0 (arr 16 (d16 (X - Lm))).toList)
          have O' := hide (below_setCells (g := w.heap.size + 1) (by omega) (arr 16 (d16 (X - Lm))).toList 0 O)
          clear R1 O
          go_wp2_with (refine wpList_store_mid rfl 39 _ _ rfl (w.heap.size + 1) 0 (arr 16 (d16 (X - Lm))) rfl rfl ?tm0 (info39 _) (arr_one _ _) ?_)
          case tm0 => rw [arr_size]; exact R2.there
          go_roundw
          case rel => exact ⟨p, by omega, ⟨_, rfl, rfl⟩, R1'.out, ⟨X - Lm, HE.out, by omega, by have := HX.out; omega, RR.out⟩, O'.out⟩
          case measure => simp [intOf]
      · have e : x = (p : Int) := by omega
        subst e
        subst hi
        have a1 : (0 : Int) ≤ (p : Int) / 8 := by omega
        have a2 : (p : Int) / 8 < (s.size : Int) := by omega
        have a3 : (p : Int) % 8 = 1 := by omega
        have a4 : p / 8 < s.size := by omega
        have a5 := bt_at s (p / 8) a4
        have a6 := bt_bd s (p / 8)
        have a7 : p % 8 = 1 := by omega
        have eb : bits BinOp.and IntKind.u8 (bt s (p / 8) / 2) 1 = bt s (p / 8) / 2 % 2 := and1u (by omega) (by omega)
        have ew : IntKind.u64.wrap (bt s (p / 8) / 2 % 2) = bt s (p / 8) / 2 % 2 := wrap64u ⟨by omega, by omega⟩
        have hbit : bit s p = bt s (p / 8) / 2 % 2 := by unfold bit; rw [a7]; rfl
        have HB := hide hbit
        have hb0 : 0 ≤ bt s (p / 8) / 2 % 2 := by omega
        have hb1 : bt s (p / 8) / 2 % 2 ≤ 1 := by omega
        have HV := hide (ov_next s n N hpn HB.out hN)
        have HH := hide (And.intro hN0 (And.intro hN1 (And.intro hb0 hb1)))
        clear n1 n2 hm hp hx hbit hN hN0 hN1 hb0 hb1
        have gl := R2.lt
        go_wp2_with fail
        have hne := KW.some wr
        have hg : ∀ w', (∃ s : KW wr, w' = s.w) → w'.heap[w.heap.size + 1]? = some (.cells (arr 16 (d16 N)) 39 (0, 0)) := by
          rintro _ ⟨s, rfl⟩
          exact R2.keep s.keep
        have HG := hide hg
        have KK := hide (And.intro R1 (And.intro R2 O))
        clear hg R1 R2 O
        refine wp_region_keep_tail 12 (by kernel_rfl) (by kernel_rfl) ?_
        simp only [List.take_succ_cons, List.take_zero, List.drop_succ_cons, List.drop_zero]
        go_big_quiet_want
        refine quiet_load_row 39 _ rfl (w.heap.size + 1) rfl 39 (arr 16 (d16 N)) (0, 0) _ HG.out Tryz.underlying39 rfl (info39 _) ?_
        go_simp
        go_big_quiet_on
        go_big_quiet_step (fail)
        go_big_quiet_step (fail)
        go_big_quiet_step (fail)
        go_big_quiet_step (fail)
        go_big_quiet_step (fail)
        go_big_quiet_step (fail)
        go_big_quiet_step (fail)
        go_big_quiet_step (fail)
        go_big_quiet_step (fail)
        go_big_quiet_step (fail)
        go_big_quiet_step ((exact keep_of (twice_any N _ _ ⟨HH.out.1, HH.out.2.1⟩ HH.out.2.2.1 HH.out.2.2.2)))
        refine wpQuiet_nil ?_
        intro t
        obtain ⟨R1, R2, O⟩ := KK.out
        replace R1 := R1.keep t.keep
        replace R2 := R2.keep t.keep
        replace O := O.trans (t.keep.mono O.size)
        clear KK HG hne eb ew
        generalize t.w = W8 at *
        have hX0 : 0 ≤ 2 * N + bt s (p / 8) / 2 % 2 := by have := HH.out; omega
        have hX1 : 2 * N + bt s (p / 8) / 2 % 2 < 2 * Lm := by have := HH.out; omega
        generalize 2 * N + bt s (p / 8) / 2 % 2 = X at *
        have RR := hide (R2.setAll (d16 X))
        have R1' := hide (R1.setOther (k := w.heap.size + 1) (by omega) 0 (arr 16 (d16 X)).toList)
        have O' := hide (below_setCells (g := w.heap.size + 1) (by omega) (arr 16 (d16 X)).toList 0 O)
        have HX := hide (And.intro hX0 hX1)
        clear R1 O hX0 hX1 HH
        go_wp2_with (refine wpList_store_mid rfl 39 _ _ rfl (w.heap.size + 1) 0 (arr 16 (d16 X)) rfl rfl ?th1 (info39 _) (arr_one _ _) ?_)
        case th1 => rw [arr_size]; exact R2.there
        try rw [show ∀ (a : Act) (v : Value), a.put none v = a from fun _ _ => rfl]
        have R1 := R1'.out
        replace R2 := RR.out
        have O := O'.out
        clear R1' RR O'
        generalize W8.setCells (w.heap.size + 1) 0 (arr 16 (d16 X)).toList = W9 at *
        have hL := L16
        have hSX : S (d16 X) 16 = X := dSL HX.out.1 (by have := HX.out; omega)
        have HSX := hide hSX
        clear hSX hL
        have hne := KW.some W9
        have hg : ∀ w', (∃ s : KW W9, w' = s.w) → w'.heap[w.heap.size + 1]? = some (.cells (arr 16 (d16 X)) 39 (0, 0)) := by
          rintro _ ⟨s, rfl⟩
          exact R2.keep s.keep
        have HG := hide hg
        have KK := hide (And.intro R1 (And.intro R2 O))
        clear hg R1 R2 O
        refine wp_region_keep (by kernel_rfl) (by kernel_rfl) ?_
        go_big_quiet_want
        refine quiet_load_row 39 _ rfl (w.heap.size + 1) rfl 39 (arr 16 (d16 X)) (0, 0) _ HG.out Tryz.underlying39 rfl (info39 _) ?_
        go_simp
        go_big_quiet_on
        go_big_quiet_step ((exact keep_of (order_any _)))
        go_big_quiet_step ((exact keep_of (less_any (d16 X) oF _ (d16_dig _ 16) oF_dig)))
        rw [HSX.out, oF_S]
        by_cases hlt2 : X < Lm
        · rw [decide_eq_true hlt2]
          go_big_quiet_step (fail)
          refine wpQuiet_nil ?_
          intro t
          obtain ⟨R1, R2, O⟩ := KK.out
          replace R1 := R1.keep t.keep
          replace R2 := R2.keep t.keep
          replace O := O.trans (t.keep.mono O.size)
          clear KK HG hne
          generalize t.w = W10 at *
          have HE := hide (HV.out.1 HX.out.1 hlt2)
          go_wp2
          go_roundw
          case rel => exact ⟨p, by omega, ⟨_, rfl, rfl⟩, R1, ⟨X, HE.out, HX.out.1, hlt2, R2⟩, O⟩
          case measure => simp [intOf]
        · rw [decide_eq_false hlt2]
          go_big_quiet_step (fail)
          refine wpQuiet_nil ?_
          intro t
          obtain ⟨R1, R2, O⟩ := KK.out
          replace R1 := R1.keep t.keep
          replace R2 := R2.keep t.keep
          replace O := O.trans (t.keep.mono O.size)
          clear KK HG hne
          generalize t.w = W10 at *
          have HE := hide (HV.out.2 HX.out.2 (by omega))
          have hm2 : arr 16 (minusF (d16 X) oF) = arr 16 (d16 (X - Lm)) := sub_val hlt2 HX.out.2
          have HM := hide hm2
          clear hm2
          go_wp2_with fail
          have hne := KW.some W10
          have hg : ∀ w', (∃ s : KW W10, w' = s.w) → w'.heap[w.heap.size + 1]? = some (.cells (arr 16 (d16 X)) 39 (0, 0)) := by
            rintro _ ⟨s, rfl⟩
            exact R2.keep s.keep
          have HG := hide hg
          have KK := hide (And.intro R1 (And.intro R2 O))
          clear hg R1 R2 O
          refine wp_region_keep_tail 3 (by kernel_rfl) (by kernel_rfl) ?_
          simp only [List.take_succ_cons, List.take_zero, List.drop_succ_cons, List.drop_zero]
          go_big_quiet_want
          refine quiet_load_row 39 _ rfl (w.heap.size + 1) rfl 39 (arr 16 (d16 X)) (0, 0) _ HG.out Tryz.underlying39 rfl (info39 _) ?_
          go_simp
          go_big_quiet_on
          go_big_quiet_step ((exact keep_of (order_any _)))
          go_big_quiet_step ((exact keep_of (rminus_any (d16 X) oF _ (d16_dig _ 16) oF_dig)))
          refine wpQuiet_nil ?_
          intro t2
          obtain ⟨R1, R2, O⟩ := KK.out
          replace R1 := R1.keep t2.keep
          replace R2 := R2.keep t2.keep
          replace O := O.trans (t2.keep.mono O.size)
          clear KK HG hne
          rw [HM.out]
          generalize t2.w = W11 at *
          have RR := hide (R2.setAll (d16 (X - Lm)))
          have R1' := hide (R1.setOther (k := w.heap.size + 1) (by omega) 0 (arr 16 (d16 (X - Lm))).toList)
          have O' := hide (below_setCells (g := w.heap.size + 1) (by omega) (arr 16 (d16 (X - Lm))).toList 0 O)
          clear R1 O
          go_wp2_with (refine wpList_store_mid rfl 39 _ _ rfl (w.heap.size + 1) 0 (arr 16 (d16 (X - Lm))) rfl rfl ?tm1 (info39 _) (arr_one _ _) ?_)
          case tm1 => rw [arr_size]; exact R2.there
          go_roundw
          case rel => exact ⟨p, by omega, ⟨_, rfl, rfl⟩, R1'.out, ⟨X - Lm, HE.out, by omega, by have := HX.out; omega, RR.out⟩, O'.out⟩
          case measure => simp [intOf]
      · have e : x = (p : Int) := by omega
        subst e
        subst hi
        have a1 : (0 : Int) ≤ (p : Int) / 8 := by omega
        have a2 : (p : Int) / 8 < (s.size : Int) := by omega
        have a3 : (p : Int) % 8 = 2 := by omega
        have a4 : p / 8 < s.size := by omega
        have a5 := bt_at s (p / 8) a4
        have a6 := bt_bd s (p / 8)
        have a7 : p % 8 = 2 := by omega
        have eb : bits BinOp.and IntKind.u8 (bt s (p / 8) / 4) 1 = bt s (p / 8) / 4 % 2 := and1u (by omega) (by omega)
        have ew : IntKind.u64.wrap (bt s (p / 8) / 4 % 2) = bt s (p / 8) / 4 % 2 := wrap64u ⟨by omega, by omega⟩
        have hbit : bit s p = bt s (p / 8) / 4 % 2 := by unfold bit; rw [a7]; rfl
        have HB := hide hbit
        have hb0 : 0 ≤ bt s (p / 8) / 4 % 2 := by omega
        have hb1 : bt s (p / 8) / 4 % 2 ≤ 1 := by omega
        have HV := hide (ov_next s n N hpn HB.out hN)
        have HH := hide (And.intro hN0 (And.intro hN1 (And.intro hb0 hb1)))
        clear n1 n2 hm hp hx hbit hN hN0 hN1 hb0 hb1
        have gl := R2.lt
        go_wp2_with fail
        have hne := KW.some wr
        have hg : ∀ w', (∃ s : KW wr, w' = s.w) → w'.heap[w.heap.size + 1]? = some (.cells (arr 16 (d16 N)) 39 (0, 0)) := by
          rintro _ ⟨s, rfl⟩
          exact R2.keep s.keep
        have HG := hide hg
        have KK := hide (And.intro R1 (And.intro R2 O))
        clear hg R1 R2 O
        refine wp_region_keep_tail 12 (by kernel_rfl) (by kernel_rfl) ?_
        simp only [List.take_succ_cons, List.take_zero, List.drop_succ_cons, List.drop_zero]
        go_big_quiet_want
        refine quiet_load_row 39 _ rfl (w.heap.size + 1) rfl 39 (arr 16 (d16 N)) (0, 0) _ HG.out Tryz.underlying39 rfl (info39 _) ?_
        go_simp
        go_big_quiet_on
        go_big_quiet_step (fail)
        go_big_quiet_step (fail)
        go_big_quiet_step (fail)
        go_big_quiet_step (fail)
        go_big_quiet_step (fail)
        go_big_quiet_step (fail)
        go_big_quiet_step (fail)
        go_big_quiet_step (fail)
        go_big_quiet_step (fail)
        go_big_quiet_step (fail)
        go_big_quiet_step ((exact keep_of (twice_any N _ _ ⟨HH.out.1, HH.out.2.1⟩ HH.out.2.2.1 HH.out.2.2.2)))
        refine wpQuiet_nil ?_
        intro t
        obtain ⟨R1, R2, O⟩ := KK.out
        replace R1 := R1.keep t.keep
        replace R2 := R2.keep t.keep
        replace O := O.trans (t.keep.mono O.size)
        clear KK HG hne eb ew
        generalize t.w = W8 at *
        have hX0 : 0 ≤ 2 * N + bt s (p / 8) / 4 % 2 := by have := HH.out; omega
        have hX1 : 2 * N + bt s (p / 8) / 4 % 2 < 2 * Lm := by have := HH.out; omega
        generalize 2 * N + bt s (p / 8) / 4 % 2 = X at *
        have RR := hide (R2.setAll (d16 X))
        have R1' := hide (R1.setOther (k := w.heap.size + 1) (by omega) 0 (arr 16 (d16 X)).toList)
        have O' := hide (below_setCells (g := w.heap.size + 1) (by omega) (arr 16 (d16 X)).toList 0 O)
        have HX := hide (And.intro hX0 hX1)
        clear R1 O hX0 hX1 HH
        go_wp2_with (refine wpList_store_mid rfl 39 _ _ rfl (w.heap.size + 1) 0 (arr 16 (d16 X)) rfl rfl ?th2 (info39 _) (arr_one _ _) ?_)
        case th2 => rw [arr_size]; exact R2.there
        try rw [show ∀ (a : Act) (v : Value), a.put none v = a from fun _ _ => rfl]
        have R1 := R1'.out
        replace R2 := RR.out
        have O := O'.out
        clear R1' RR O'
        generalize W8.setCells (w.heap.size + 1) 0 (arr 16 (d16 X)).toList = W9 at *
        have hL := L16
        have hSX : S (d16 X) 16 = X := dSL HX.out.1 (by have := HX.out; omega)
        have HSX := hide hSX
        clear hSX hL
        have hne := KW.some W9
        have hg : ∀ w', (∃ s : KW W9, w' = s.w) → w'.heap[w.heap.size + 1]? = some (.cells (arr 16 (d16 X)) 39 (0, 0)) := by
          rintro _ ⟨s, rfl⟩
          exact R2.keep s.keep
        have HG := hide hg
        have KK := hide (And.intro R1 (And.intro R2 O))
        clear hg R1 R2 O
        refine wp_region_keep (by kernel_rfl) (by kernel_rfl) ?_
        go_big_quiet_want
        refine quiet_load_row 39 _ rfl (w.heap.size + 1) rfl 39 (arr 16 (d16 X)) (0, 0) _ HG.out Tryz.underlying39 rfl (info39 _) ?_
        go_simp
        go_big_quiet_on
        go_big_quiet_step ((exact keep_of (order_any _)))
        go_big_quiet_step ((exact keep_of (less_any (d16 X) oF _ (d16_dig _ 16) oF_dig)))
        rw [HSX.out, oF_S]
        by_cases hlt2 : X < Lm
        · rw [decide_eq_true hlt2]
          go_big_quiet_step (fail)
          refine wpQuiet_nil ?_
          intro t
          obtain ⟨R1, R2, O⟩ := KK.out
          replace R1 := R1.keep t.keep
          replace R2 := R2.keep t.keep
          replace O := O.trans (t.keep.mono O.size)
          clear KK HG hne
          generalize t.w = W10 at *
          have HE := hide (HV.out.1 HX.out.1 hlt2)
          go_wp2
          go_roundw
          case rel => exact ⟨p, by omega, ⟨_, rfl, rfl⟩, R1, ⟨X, HE.out, HX.out.1, hlt2, R2⟩, O⟩
          case measure => simp [intOf]
        · rw [decide_eq_false hlt2]
          go_big_quiet_step (fail)
          refine wpQuiet_nil ?_
          intro t
          obtain ⟨R1, R2, O⟩ := KK.out
          replace R1 := R1.keep t.keep
          replace R2 := R2.keep t.keep
          replace O := O.trans (t.keep.mono O.size)
          clear KK HG hne
          generalize t.w = W10 at *
          have HE := hide (HV.out.2 HX.out.2 (by omega))
          have hm2 : arr 16 (minusF (d16 X) oF) = arr 16 (d16 (X - Lm)) := sub_val hlt2 HX.out.2
          have HM := hide hm2
          clear hm2
          go_wp2_with fail
          have hne := KW.some W10
          have hg : ∀ w', (∃ s : KW W10, w' = s.w) → w'.heap[w.heap.size + 1]? = some (.cells (arr 16 (d16 X)) 39 (0, 0)) := by
            rintro _ ⟨s, rfl⟩
            exact R2.keep s.keep
          have HG := hide hg
          have KK := hide (And.intro R1 (And.intro R2 O))
          clear hg R1 R2 O
          refine wp_region_keep_tail 3 (by kernel_rfl) (by kernel_rfl) ?_
          simp only [List.take_succ_cons, List.take_zero, List.drop_succ_cons, List.drop_zero]
          go_big_quiet_want
          refine quiet_load_row 39 _ rfl (w.heap.size + 1) rfl 39 (arr 16 (d16 X)) (0, 0) _ HG.out Tryz.underlying39 rfl (info39 _) ?_
          go_simp
          go_big_quiet_on
          go_big_quiet_step ((exact keep_of (order_any _)))
          go_big_quiet_step ((exact keep_of (rminus_any (d16 X) oF _ (d16_dig _ 16) oF_dig)))
          refine wpQuiet_nil ?_
          intro t2
          obtain ⟨R1, R2, O⟩ := KK.out
          replace R1 := R1.keep t2.keep
          replace R2 := R2.keep t2.keep
          replace O := O.trans (t2.keep.mono O.size)
          clear KK HG hne
          rw [HM.out]
          generalize t2.w = W11 at *
          have RR := hide (R2.setAll (d16 (X - Lm)))
          have R1' := hide (R1.setOther (k := w.heap.size + 1) (by omega) 0 (arr 16 (d16 (X - Lm))).toList)
          have O' := hide (below_setCells (g := w.heap.size + 1) (by omega) (arr 16 (d16 (X - Lm))).toList 0 O)
          clear R1 O
          go_wp2_with (refine wpList_store_mid rfl 39 _ _ rfl (w.heap.size + 1) 0 (arr 16 (d16 (X - Lm))) rfl rfl ?tm2 (info39 _) (arr_one _ _) ?_)
          case tm2 => rw [arr_size]; exact R2.there
          go_roundw
          case rel => exact ⟨p, by omega, ⟨_, rfl, rfl⟩, R1'.out, ⟨X - Lm, HE.out, by omega, by have := HX.out; omega, RR.out⟩, O'.out⟩
          case measure => simp [intOf]
      · have e : x = (p : Int) := by omega
        subst e
        subst hi
        have a1 : (0 : Int) ≤ (p : Int) / 8 := by omega
        have a2 : (p : Int) / 8 < (s.size : Int) := by omega
        have a3 : (p : Int) % 8 = 3 := by omega
        have a4 : p / 8 < s.size := by omega
        have a5 := bt_at s (p / 8) a4
        have a6 := bt_bd s (p / 8)
        have a7 : p % 8 = 3 := by omega
        have eb : bits BinOp.and IntKind.u8 (bt s (p / 8) / 8) 1 = bt s (p / 8) / 8 % 2 := and1u (by omega) (by omega)
        have ew : IntKind.u64.wrap (bt s (p / 8) / 8 % 2) = bt s (p / 8) / 8 % 2 := wrap64u ⟨by omega, by omega⟩
        have hbit : bit s p = bt s (p / 8) / 8 % 2 := by unfold bit; rw [a7]; rfl
        have HB := hide hbit
        have hb0 : 0 ≤ bt s (p / 8) / 8 % 2 := by omega
        have hb1 : bt s (p / 8) / 8 % 2 ≤ 1 := by omega
        have HV := hide (ov_next s n N hpn HB.out hN)
        have HH := hide (And.intro hN0 (And.intro hN1 (And.intro hb0 hb1)))
        clear n1 n2 hm hp hx hbit hN hN0 hN1 hb0 hb1
        have gl := R2.lt
        go_wp2_with fail
        have hne := KW.some wr
        have hg : ∀ w', (∃ s : KW wr, w' = s.w) → w'.heap[w.heap.size + 1]? = some (.cells (arr 16 (d16 N)) 39 (0, 0)) := by
          rintro _ ⟨s, rfl⟩
          exact R2.keep s.keep
        have HG := hide hg
        have KK := hide (And.intro R1 (And.intro R2 O))
        clear hg R1 R2 O
        refine wp_region_keep_tail 12 (by kernel_rfl) (by kernel_rfl) ?_
        simp only [List.take_succ_cons, List.take_zero, List.drop_succ_cons, List.drop_zero]
        go_big_quiet_want
        refine quiet_load_row 39 _ rfl (w.heap.size + 1) rfl 39 (arr 16 (d16 N)) (0, 0) _ HG.out Tryz.underlying39 rfl (info39 _) ?_
        go_simp
        go_big_quiet_on
        go_big_quiet_step (fail)
        go_big_quiet_step (fail)
        go_big_quiet_step (fail)
        go_big_quiet_step (fail)
        go_big_quiet_step (fail)
        go_big_quiet_step (fail)
        go_big_quiet_step (fail)
        go_big_quiet_step (fail)
        go_big_quiet_step (fail)
        go_big_quiet_step (fail)
        go_big_quiet_step ((exact keep_of (twice_any N _ _ ⟨HH.out.1, HH.out.2.1⟩ HH.out.2.2.1 HH.out.2.2.2)))
        refine wpQuiet_nil ?_
        intro t
        obtain ⟨R1, R2, O⟩ := KK.out
        replace R1 := R1.keep t.keep
        replace R2 := R2.keep t.keep
        replace O := O.trans (t.keep.mono O.size)
        clear KK HG hne eb ew
        generalize t.w = W8 at *
        have hX0 : 0 ≤ 2 * N + bt s (p / 8) / 8 % 2 := by have := HH.out; omega
        have hX1 : 2 * N + bt s (p / 8) / 8 % 2 < 2 * Lm := by have := HH.out; omega
        generalize 2 * N + bt s (p / 8) / 8 % 2 = X at *
        have RR := hide (R2.setAll (d16 X))
        have R1' := hide (R1.setOther (k := w.heap.size + 1) (by omega) 0 (arr 16 (d16 X)).toList)
        have O' := hide (below_setCells (g := w.heap.size + 1) (by omega) (arr 16 (d16 X)).toList 0 O)
        have HX := hide (And.intro hX0 hX1)
        clear R1 O hX0 hX1 HH
        go_wp2_with (refine wpList_store_mid rfl 39 _ _ rfl (w.heap.size + 1) 0 (arr 16 (d16 X)) rfl rfl ?th3 (info39 _) (arr_one _ _) ?_)
        case th3 => rw [arr_size]; exact R2.there
        try rw [show ∀ (a : Act) (v : Value), a.put none v = a from fun _ _ => rfl]
        have R1 := R1'.out
        replace R2 := RR.out
        have O := O'.out
        clear R1' RR O'
        generalize W8.setCells (w.heap.size + 1) 0 (arr 16 (d16 X)).toList = W9 at *
        have hL := L16
        have hSX : S (d16 X) 16 = X := dSL HX.out.1 (by have := HX.out; omega)
        have HSX := hide hSX
        clear hSX hL
        have hne := KW.some W9
        have hg : ∀ w', (∃ s : KW W9, w' = s.w) → w'.heap[w.heap.size + 1]? = some (.cells (arr 16 (d16 X)) 39 (0, 0)) := by
          rintro _ ⟨s, rfl⟩
          exact R2.keep s.keep
        have HG := hide hg
        have KK := hide (And.intro R1 (And.intro R2 O))
        clear hg R1 R2 O
        refine wp_region_keep (by kernel_rfl) (by kernel_rfl) ?_
        go_big_quiet_want
        refine quiet_load_row 39 _ rfl (w.heap.size + 1) rfl 39 (arr 16 (d16 X)) (0, 0) _ HG.out Tryz.underlying39 rfl (info39 _) ?_
        go_simp
        go_big_quiet_on
        go_big_quiet_step ((exact keep_of (order_any _)))
        go_big_quiet_step ((exact keep_of (less_any (d16 X) oF _ (d16_dig _ 16) oF_dig)))
        rw [HSX.out, oF_S]
        by_cases hlt2 : X < Lm
        · rw [decide_eq_true hlt2]
          go_big_quiet_step (fail)
          refine wpQuiet_nil ?_
          intro t
          obtain ⟨R1, R2, O⟩ := KK.out
          replace R1 := R1.keep t.keep
          replace R2 := R2.keep t.keep
          replace O := O.trans (t.keep.mono O.size)
          clear KK HG hne
          generalize t.w = W10 at *
          have HE := hide (HV.out.1 HX.out.1 hlt2)
          go_wp2
          go_roundw
          case rel => exact ⟨p, by omega, ⟨_, rfl, rfl⟩, R1, ⟨X, HE.out, HX.out.1, hlt2, R2⟩, O⟩
          case measure => simp [intOf]
        · rw [decide_eq_false hlt2]
          go_big_quiet_step (fail)
          refine wpQuiet_nil ?_
          intro t
          obtain ⟨R1, R2, O⟩ := KK.out
          replace R1 := R1.keep t.keep
          replace R2 := R2.keep t.keep
          replace O := O.trans (t.keep.mono O.size)
          clear KK HG hne
          generalize t.w = W10 at *
          have HE := hide (HV.out.2 HX.out.2 (by omega))
          have hm2 : arr 16 (minusF (d16 X) oF) = arr 16 (d16 (X - Lm)) := sub_val hlt2 HX.out.2
          have HM := hide hm2
          clear hm2
          go_wp2_with fail
          have hne := KW.some W10
          have hg : ∀ w', (∃ s : KW W10, w' = s.w) → w'.heap[w.heap.size + 1]? = some (.cells (arr 16 (d16 X)) 39 (0, 0)) := by
            rintro _ ⟨s, rfl⟩
            exact R2.keep s.keep
          have HG := hide hg
          have KK := hide (And.intro R1 (And.intro R2 O))
          clear hg R1 R2 O
          refine wp_region_keep_tail 3 (by kernel_rfl) (by kernel_rfl) ?_
          simp only [List.take_succ_cons, List.take_zero, List.drop_succ_cons, List.drop_zero]
          go_big_quiet_want
          refine quiet_load_row 39 _ rfl (w.heap.size + 1) rfl 39 (arr 16 (d16 X)) (0, 0) _ HG.out Tryz.underlying39 rfl (info39 _) ?_
          go_simp
          go_big_quiet_on
          go_big_quiet_step ((exact keep_of (order_any _)))
          go_big_quiet_step ((exact keep_of (rminus_any (d16 X) oF _ (d16_dig _ 16) oF_dig)))
          refine wpQuiet_nil ?_
          intro t2
          obtain ⟨R1, R2, O⟩ := KK.out
          replace R1 := R1.keep t2.keep
          replace R2 := R2.keep t2.keep
          replace O := O.trans (t2.keep.mono O.size)
          clear KK HG hne
          rw [HM.out]
          generalize t2.w = W11 at *
          have RR := hide (R2.setAll (d16 (X - Lm)))
          have R1' := hide (R1.setOther (k := w.heap.size + 1) (by omega) 0 (arr 16 (d16 (X - Lm))).toList)
          have O' := hide (below_setCells (g := w.heap.size + 1) (by omega) (arr 16 (d16 (X - Lm))).toList 0 O)
          clear R1 O
          go_wp2_with (refine wpList_store_mid rfl 39 _ _ rfl (w.heap.size + 1) 0 (arr 16 (d16 (X - Lm))) rfl rfl ?tm3 (info39 _) (arr_one _ _) ?_)
          case tm3 => rw [arr_size]; exact R2.there
          go_roundw
          case rel => exact ⟨p, by omega, ⟨_, rfl, rfl⟩, R1'.out, ⟨X - Lm, HE.out, by omega, by have := HX.out; omega, RR.out⟩, O'.out⟩
          case measure => simp [intOf]
      · have e : x = (p : Int) := by omega
        subst e
        subst hi
        have a1 : (0 : Int) ≤ (p : Int) / 8 := by omega
        have a2 : (p : Int) / 8 < (s.size : Int) := by omega
        have a3 : (p : Int) % 8 = 4 := by omega
        have a4 : p / 8 < s.size := by omega
        have a5 := bt_at s (p / 8) a4
        have a6 := bt_bd s (p / 8)
        have a7 : p % 8 = 4 := by omega
        have eb : bits BinOp.and IntKind.u8 (bt s (p / 8) / 16) 1 = bt s (p / 8) / 16 % 2 := and1u (by omega) (by omega)
        have ew : IntKind.u64.wrap (bt s (p / 8) / 16 % 2) = bt s (p / 8) / 16 % 2 := wrap64u ⟨by omega, by omega⟩
        have hbit : bit s p = bt s (p / 8) / 16 % 2 := by unfold bit; rw [a7]; rfl
        have HB := hide hbit
        have hb0 : 0 ≤ bt s (p / 8) / 16 % 2 := by omega
        have hb1 : bt s (p / 8) / 16 % 2 ≤ 1 := by omega
        have HV := hide (ov_next s n N hpn HB.out hN)
        have HH := hide (And.intro hN0 (And.intro hN1 (And.intro hb0 hb1)))
        clear n1 n2 hm hp hx hbit hN hN0 hN1 hb0 hb1
        have gl := R2.lt
        go_wp2_with fail
        have hne := KW.some wr
        have hg : ∀ w', (∃ s : KW wr, w' = s.w) → w'.heap[w.heap.size + 1]? = some (.cells (arr 16 (d16 N)) 39 (0, 0)) := by
          rintro _ ⟨s, rfl⟩
          exact R2.keep s.keep
        have HG := hide hg
        have KK := hide (And.intro R1 (And.intro R2 O))
        clear hg R1 R2 O
        refine wp_region_keep_tail 12 (by kernel_rfl) (by kernel_rfl) ?_
        simp only [List.take_succ_cons, List.take_zero, List.drop_succ_cons, List.drop_zero]
        go_big_quiet_want
        refine quiet_load_row 39 _ rfl (w.heap.size + 1) rfl 39 (arr 16 (d16 N)) (0, 0) _ HG.out Tryz.underlying39 rfl (info39 _) ?_
        go_simp
        go_big_quiet_on
        go_big_quiet_step (fail)
        go_big_quiet_step (fail)
        go_big_quiet_step (fail)
        go_big_quiet_step (fail)
        go_big_quiet_step (fail)
        go_big_quiet_step (fail)
        go_big_quiet_step (fail)
        go_big_quiet_step (fail)
        go_big_quiet_step (fail)
        go_big_quiet_step (fail)
        go_big_quiet_step ((exact keep_of (twice_any N _ _ ⟨HH.out.1, HH.out.2.1⟩ HH.out.2.2.1 HH.out.2.2.2)))
        refine wpQuiet_nil ?_
        intro t
        obtain ⟨R1, R2, O⟩ := KK.out
        replace R1 := R1.keep t.keep
        replace R2 := R2.keep t.keep
        replace O := O.trans (t.keep.mono O.size)
        clear KK HG hne eb ew
        generalize t.w = W8 at *
        have hX0 : 0 ≤ 2 * N + bt s (p / 8) / 16 % 2 := by have := HH.out; omega
        have hX1 : 2 * N + bt s (p / 8) / 16 % 2 < 2 * Lm := by have := HH.out; omega
        generalize 2 * N + bt s (p / 8) / 16 % 2 = X at *
        have RR := hide (R2.setAll (d16 X))
        have R1' := hide (R1.setOther (k := w.heap.size + 1) (by omega) 0 (arr 16 (d16 X)).toList)
        have O' := hide (below_setCells (g := w.heap.size + 1) (by omega) (arr 16 (d16 X)).toList 0 O)
        have HX := hide (And.intro hX0 hX1)
        clear R1 O hX0 hX1 HH
        go_wp2_with (refine wpList_store_mid rfl 39 _ _ rfl (w.heap.size + 1) 0 (arr 16 (d16 X)) rfl rfl ?th4 (info39 _) (arr_one _ _) ?_)
        case th4 => rw [arr_size]; exact R2.there
        try rw [show ∀ (a : Act) (v : Value), a.put none v = a from fun _ _ => rfl]
        have R1 := R1'.out
        replace R2 := RR.out
        have O := O'.out
        clear R1' RR O'
        generalize W8.setCells (w.heap.size + 1) 0 (arr 16 (d16 X)).toList = W9 at *
        have hL := L16
        have hSX : S (d16 X) 16 = X := dSL HX.out.1 (by have := HX.out; omega)
        have HSX := hide hSX
        clear hSX hL
        have hne := KW.some W9
        have hg : ∀ w', (∃ s : KW W9, w' = s.w) → w'.heap[w.heap.size + 1]? = some (.cells (arr 16 (d16 X)) 39 (0, 0)) := by
          rintro _ ⟨s, rfl⟩
          exact R2.keep s.keep
        have HG := hide hg
        have KK := hide (And.intro R1 (And.intro R2 O))
        clear hg R1 R2 O
        refine wp_region_keep (by kernel_rfl) (by kernel_rfl) ?_
        go_big_quiet_want
        refine quiet_load_row 39 _ rfl (w.heap.size + 1) rfl 39 (arr 16 (d16 X)) (0, 0) _ HG.out Tryz.underlying39 rfl (info39 _) ?_
        go_simp
        go_big_quiet_on
        go_big_quiet_step ((exact keep_of (order_any _)))
        go_big_quiet_step ((exact keep_of (less_any (d16 X) oF _ (d16_dig _ 16) oF_dig)))
        rw [HSX.out, oF_S]
        by_cases hlt2 : X < Lm
        · rw [decide_eq_true hlt2]
          go_big_quiet_step (fail)
          refine wpQuiet_nil ?_
          intro t
          obtain ⟨R1, R2, O⟩ := KK.out
          replace R1 := R1.keep t.keep
          replace R2 := R2.keep t.keep
          replace O := O.trans (t.keep.mono O.size)
          clear KK HG hne
          generalize t.w = W10 at *
          have HE := hide (HV.out.1 HX.out.1 hlt2)
          go_wp2
          go_roundw
          case rel => exact ⟨p, by omega, ⟨_, rfl, rfl⟩, R1, ⟨X, HE.out, HX.out.1, hlt2, R2⟩, O⟩
          case measure => simp [intOf]
        · rw [decide_eq_false hlt2]
          go_big_quiet_step (fail)
          refine wpQuiet_nil ?_
          intro t
          obtain ⟨R1, R2, O⟩ := KK.out
          replace R1 := R1.keep t.keep
          replace R2 := R2.keep t.keep
          replace O := O.trans (t.keep.mono O.size)
          clear KK HG hne
          generalize t.w = W10 at *
          have HE := hide (HV.out.2 HX.out.2 (by omega))
          have hm2 : arr 16 (minusF (d16 X) oF) = arr 16 (d16 (X - Lm)) := sub_val hlt2 HX.out.2
          have HM := hide hm2
          clear hm2
          go_wp2_with fail
          have hne := KW.some W10
          have hg : ∀ w', (∃ s : KW W10, w' = s.w) → w'.heap[w.heap.size + 1]? = some (.cells (arr 16 (d16 X)) 39 (0, 0)) := by
            rintro _ ⟨s, rfl⟩
            exact R2.keep s.keep
          have HG := hide hg
          have KK := hide (And.intro R1 (And.intro R2 O))
          clear hg R1 R2 O
          refine wp_region_keep_tail 3 (by kernel_rfl) (by kernel_rfl) ?_
          simp only [List.take_succ_cons, List.take_zero, List.drop_succ_cons, List.drop_zero]
          go_big_quiet_want
          refine quiet_load_row 39 _ rfl (w.heap.size + 1) rfl 39 (arr 16 (d16 X)) (0, 0) _ HG.out Tryz.underlying39 rfl (info39 _) ?_
          go_simp
          go_big_quiet_on
          go_big_quiet_step ((exact keep_of (order_any _)))
          go_big_quiet_step ((exact keep_of (rminus_any (d16 X) oF _ (d16_dig _ 16) oF_dig)))
          refine wpQuiet_nil ?_
          intro t2
          obtain ⟨R1, R2, O⟩ := KK.out
          replace R1 := R1.keep t2.keep
          replace R2 := R2.keep t2.keep
          replace O := O.trans (t2.keep.mono O.size)
          clear KK HG hne
          rw [HM.out]
          generalize t2.w = W11 at *
          have RR := hide (R2.setAll (d16 (X - Lm)))
          have R1' := hide (R1.setOther (k := w.heap.size + 1) (by omega) 0 (arr 16 (d16 (X - Lm))).toList)
          have O' := hide (below_setCells (g := w.heap.size + 1) (by omega) (arr 16 (d16 (X - Lm))).toList 0 O)
          clear R1 O
          go_wp2_with (refine wpList_store_mid rfl 39 _ _ rfl (w.heap.size + 1) 0 (arr 16 (d16 (X - Lm))) rfl rfl ?tm4 (info39 _) (arr_one _ _) ?_)
          case tm4 => rw [arr_size]; exact R2.there
          go_roundw
          case rel => exact ⟨p, by omega, ⟨_, rfl, rfl⟩, R1'.out, ⟨X - Lm, HE.out, by omega, by have := HX.out; omega, RR.out⟩, O'.out⟩
          case measure => simp [intOf]
      · have e : x = (p : Int) := by omega
        subst e
        subst hi
        have a1 : (0 : Int) ≤ (p : Int) / 8 := by omega
        have a2 : (p : Int) / 8 < (s.size : Int) := by omega
        have a3 : (p : Int) % 8 = 5 := by omega
        have a4 : p / 8 < s.size := by omega
        have a5 := bt_at s (p / 8) a4
        have a6 := bt_bd s (p / 8)
        have a7 : p % 8 = 5 := by omega
        have eb : bits BinOp.and IntKind.u8 (bt s (p / 8) / 32) 1 = bt s (p / 8) / 32 % 2 := and1u (by omega) (by omega)
        have ew : IntKind.u64.wrap (bt s (p / 8) / 32 % 2) = bt s (p / 8) / 32 % 2 := wrap64u ⟨by omega, by omega⟩
        have hbit : bit s p = bt s (p / 8) / 32 % 2 := by unfold bit; rw [a7]; rfl
        have HB := hide hbit
        have hb0 : 0 ≤ bt s (p / 8) / 32 % 2 := by omega
        have hb1 : bt s (p / 8) / 32 % 2 ≤ 1 := by omega
        have HV := hide (ov_next s n N hpn HB.out hN)
        have HH := hide (And.intro hN0 (And.intro hN1 (And.intro hb0 hb1)))
        clear n1 n2 hm hp hx hbit hN hN0 hN1 hb0 hb1
        have gl := R2.lt
        go_wp2_with fail
        have hne := KW.some wr
        have hg : ∀ w', (∃ s : KW wr, w' = s.w) → w'.heap[w.heap.size + 1]? = some (.cells (arr 16 (d16 N)) 39 (0, 0)) := by
          rintro _ ⟨s, rfl⟩
          exact R2.keep s.keep
        have HG := hide hg
        have KK := hide (And.intro R1 (And.intro R2 O))
        clear hg R1 R2 O
        refine wp_region_keep_tail 12 (by kernel_rfl) (by kernel_rfl) ?_
        simp only [List.take_succ_cons, List.take_zero, List.drop_succ_cons, List.drop_zero]
        go_big_quiet_want
        refine quiet_load_row 39 _ rfl (w.heap.size + 1) rfl 39 (arr 16 (d16 N)) (0, 0) _ HG.out Tryz.underlying39 rfl (info39 _) ?_
        go_simp
        go_big_quiet_on
        go_big_quiet_step (fail)
        go_big_quiet_step (fail)
        go_big_quiet_step (fail)
        go_big_quiet_step (fail)
        go_big_quiet_step (fail)
        go_big_quiet_step (fail)
        go_big_quiet_step (fail)
        go_big_quiet_step (fail)
        go_big_quiet_step (fail)
        go_big_quiet_step (fail)
        go_big_quiet_step ((exact keep_of (twice_any N _ _ ⟨HH.out.1, HH.out.2.1⟩ HH.out.2.2.1 HH.out.2.2.2)))
        refine wpQuiet_nil ?_
        intro t
        obtain ⟨R1, R2, O⟩ := KK.out
        replace R1 := R1.keep t.keep
        replace R2 := R2.keep t.keep
        replace O := O.trans (t.keep.mono O.size)
        clear KK HG hne eb ew
        generalize t.w = W8 at *
        have hX0 : 0 ≤ 2 * N + bt s (p / 8) / 32 % 2 := by have := HH.out; omega
        have hX1 : 2 * N + bt s (p / 8) / 32 % 2 < 2 * Lm := by have := HH.out; omega
        generalize 2 * N + bt s (p / 8) / 32 % 2 = X at *
        have RR := hide (R2.setAll (d16 X))
        have R1' := hide (R1.setOther (k := w.heap.size + 1) (by omega) 0 (arr 16 (d16 X)).toList)
        have O' := hide (below_setCells (g := w.heap.size + 1) (by omega) (arr 16 (d16 X)).toList 0 O)
        have HX := hide (And.intro hX0 hX1)
        clear R1 O hX0 hX1 HH
        go_wp2_with (refine wpList_store_mid rfl 39 _ _ rfl (w.heap.size + 1) 0 (arr 16 (d16 X)) rfl rfl ?th5 (info39 _) (arr_one _ _) ?_)
        case th5 => rw [arr_size]; exact R2.there
        try rw [show ∀ (a : Act) (v : Value), a.put none v = a from fun _ _ => rfl]
        have R1 := R1'.out
        replace R2 := RR.out
        have O := O'.out
        clear R1' RR O'
        generalize W8.setCells (w.heap.size + 1) 0 (arr 16 (d16 X)).toList = W9 at *
        have hL := L16
        have hSX : S (d16 X) 16 = X := dSL HX.out.1 (by have := HX.out; omega)
        have HSX := hide hSX
        clear hSX hL
        have hne := KW.some W9
        have hg : ∀ w', (∃ s : KW W9, w' = s.w) → w'.heap[w.heap.size + 1]? = some (.cells (arr 16 (d16 X)) 39 (0, 0)) := by
          rintro _ ⟨s, rfl⟩
          exact R2.keep s.keep
        have HG := hide hg
        have KK := hide (And.intro R1 (And.intro R2 O))
        clear hg R1 R2 O
        refine wp_region_keep (by kernel_rfl) (by kernel_rfl) ?_
        go_big_quiet_want
        refine quiet_load_row 39 _ rfl (w.heap.size + 1) rfl 39 (arr 16 (d16 X)) (0, 0) _ HG.out Tryz.underlying39 rfl (info39 _) ?_
        go_simp
        go_big_quiet_on
        go_big_quiet_step ((exact keep_of (order_any _)))
        go_big_quiet_step ((exact keep_of (less_any (d16 X) oF _ (d16_dig _ 16) oF_dig)))
        rw [HSX.out, oF_S]
        by_cases hlt2 : X < Lm
        · rw [decide_eq_true hlt2]
          go_big_quiet_step (fail)
          refine wpQuiet_nil ?_
          intro t
          obtain ⟨R1, R2, O⟩ := KK.out
          replace R1 := R1.keep t.keep
          replace R2 := R2.keep t.keep
          replace O := O.trans (t.keep.mono O.size)
          clear KK HG hne
          generalize t.w = W10 at *
          have HE := hide (HV.out.1 HX.out.1 hlt2)
          go_wp2
          go_roundw
          case rel => exact ⟨p, by omega, ⟨_, rfl, rfl⟩, R1, ⟨X, HE.out, HX.out.1, hlt2, R2⟩, O⟩
          case measure => simp [intOf]
        · rw [decide_eq_false hlt2]
          go_big_quiet_step (fail)
          refine wpQuiet_nil ?_
          intro t
          obtain ⟨R1, R2, O⟩ := KK.out
          replace R1 := R1.keep t.keep
          replace R2 := R2.keep t.keep
          replace O := O.trans (t.keep.mono O.size)
          clear KK HG hne
          generalize t.w = W10 at *
          have HE := hide (HV.out.2 HX.out.2 (by omega))
          have hm2 : arr 16 (minusF (d16 X) oF) = arr 16 (d16 (X - Lm)) := sub_val hlt2 HX.out.2
          have HM := hide hm2
          clear hm2
          go_wp2_with fail
          have hne := KW.some W10
          have hg : ∀ w', (∃ s : KW W10, w' = s.w) → w'.heap[w.heap.size + 1]? = some (.cells (arr 16 (d16 X)) 39 (0, 0)) := by
            rintro _ ⟨s, rfl⟩
            exact R2.keep s.keep
          have HG := hide hg
          have KK := hide (And.intro R1 (And.intro R2 O))
          clear hg R1 R2 O
          refine wp_region_keep_tail 3 (by kernel_rfl) (by kernel_rfl) ?_
          simp only [List.take_succ_cons, List.take_zero, List.drop_succ_cons, List.drop_zero]
          go_big_quiet_want
          refine quiet_load_row 39 _ rfl (w.heap.size + 1) rfl 39 (arr 16 (d16 X)) (0, 0) _ HG.out Tryz.underlying39 rfl (info39 _) ?_
          go_simp
          go_big_quiet_on
          go_big_quiet_step ((exact keep_of (order_any _)))
          go_big_quiet_step ((exact keep_of (rminus_any (d16 X) oF _ (d16_dig _ 16) oF_dig)))
          refine wpQuiet_nil ?_
          intro t2
          obtain ⟨R1, R2, O⟩ := KK.out
          replace R1 := R1.keep t2.keep
          replace R2 := R2.keep t2.keep
          replace O := O.trans (t2.keep.mono O.size)
          clear KK HG hne
          rw [HM.out]
          generalize t2.w = W11 at *
          have RR := hide (R2.setAll (d16 (X - Lm)))
          have R1' := hide (R1.setOther (k := w.heap.size + 1) (by omega) 0 (arr 16 (d16 (X - Lm))).toList)
          have O' := hide (below_setCells (g := w.heap.size + 1) (by omega) (arr 16 (d16 (X - Lm))).toList 0 O)
          clear R1 O
          go_wp2_with (refine wpList_store_mid rfl 39 _ _ rfl (w.heap.size + 1) 0 (arr 16 (d16 (X - Lm))) rfl rfl ?tm5 (info39 _) (arr_one _ _) ?_)
          case tm5 => rw [arr_size]; exact R2.there
          go_roundw
          case rel => exact ⟨p, by omega, ⟨_, rfl, rfl⟩, R1'.out, ⟨X - Lm, HE.out, by omega, by have := HX.out; omega, RR.out⟩, O'.out⟩
          case measure => simp [intOf]
      · have e : x = (p : Int) := by omega
        subst e
        subst hi
        have a1 : (0 : Int) ≤ (p : Int) / 8 := by omega
        have a2 : (p : Int) / 8 < (s.size : Int) := by omega
        have a3 : (p : Int) % 8 = 6 := by omega
        have a4 : p / 8 < s.size := by omega
        have a5 := bt_at s (p / 8) a4
        have a6 := bt_bd s (p / 8)
        have a7 : p % 8 = 6 := by omega
        have eb : bits BinOp.and IntKind.u8 (bt s (p / 8) / 64) 1 = bt s (p / 8) / 64 % 2 := and1u (by omega) (by omega)
        have ew : IntKind.u64.wrap (bt s (p / 8) / 64 % 2) = bt s (p / 8) / 64 % 2 := wrap64u ⟨by omega, by omega⟩
        have hbit : bit s p = bt s (p / 8) / 64 % 2 := by unfold bit; rw [a7]; rfl
        have HB := hide hbit
        have hb0 : 0 ≤ bt s (p / 8) / 64 % 2 := by omega
        have hb1 : bt s (p / 8) / 64 % 2 ≤ 1 := by omega
        have HV := hide (ov_next s n N hpn HB.out hN)
        have HH := hide (And.intro hN0 (And.intro hN1 (And.intro hb0 hb1)))
        clear n1 n2 hm hp hx hbit hN hN0 hN1 hb0 hb1
        have gl := R2.lt
        go_wp2_with fail
        have hne := KW.some wr
        have hg : ∀ w', (∃ s : KW wr, w' = s.w) → w'.heap[w.heap.size + 1]? = some (.cells (arr 16 (d16 N)) 39 (0, 0)) := by
          rintro _ ⟨s, rfl⟩
          exact R2.keep s.keep
        have HG := hide hg
        have KK := hide (And.intro R1 (And.intro R2 O))
        clear hg R1 R2 O
        refine wp_region_keep_tail 12 (by kernel_rfl) (by kernel_rfl) ?_
        simp only [List.take_succ_cons, List.take_zero, List.drop_succ_cons, List.drop_zero]
        go_big_quiet_want
        refine quiet_load_row 39 _ rfl (w.heap.size + 1) rfl 39 (arr 16 (d16 N)) (0, 0) _ HG.out Tryz.underlying39 rfl (info39 _) ?_
        go_simp
        go_big_quiet_on
        go_big_quiet_step (fail)
        go_big_quiet_step (fail)
        go_big_quiet_step (fail)
        go_big_quiet_step (fail)
        go_big_quiet_step (fail)
        go_big_quiet_step (fail)
        go_big_quiet_step (fail)
        go_big_quiet_step (fail)
        go_big_quiet_step (fail)
        go_big_quiet_step (fail)
        go_big_quiet_step ((exact keep_of (twice_any N _ _ ⟨HH.out.1, HH.out.2.1⟩ HH.out.2.2.1 HH.out.2.2.2)))
        refine wpQuiet_nil ?_
        intro t
        obtain ⟨R1, R2, O⟩ := KK.out
        replace R1 := R1.keep t.keep
        replace R2 := R2.keep t.keep
        replace O := O.trans (t.keep.mono O.size)
        clear KK HG hne eb ew
        generalize t.w = W8 at *
        have hX0 : 0 ≤ 2 * N + bt s (p / 8) / 64 % 2 := by have := HH.out; omega
        have hX1 : 2 * N + bt s (p / 8) / 64 % 2 < 2 * Lm := by have := HH.out; omega
        generalize 2 * N + bt s (p / 8) / 64 % 2 = X at *
        have RR := hide (R2.setAll (d16 X))
        have R1' := hide (R1.setOther (k := w.heap.size + 1) (by omega) 0 (arr 16 (d16 X)).toList)
        have O' := hide (below_setCells (g := w.heap.size + 1) (by omega) (arr 16 (d16 X)).toList 0 O)
        have HX := hide (And.intro hX0 hX1)
        clear R1 O hX0 hX1 HH
        go_wp2_with (refine wpList_store_mid rfl 39 _ _ rfl (w.heap.size + 1) 0 (arr 16 (d16 X)) rfl rfl ?th6 (info39 _) (arr_one _ _) ?_)
        case th6 => rw [arr_size]; exact R2.there
        try rw [show ∀ (a : Act) (v : Value), a.put none v = a from fun _ _ => rfl]
        have R1 := R1'.out
        replace R2 := RR.out
        have O := O'.out
        clear R1' RR O'
        generalize W8.setCells (w.heap.size + 1) 0 (arr 16 (d16 X)).toList = W9 at *
        have hL := L16
        have hSX : S (d16 X) 16 = X := dSL HX.out.1 (by have := HX.out; omega)
        have HSX := hide hSX
        clear hSX hL
        have hne := KW.some W9
        have hg : ∀ w', (∃ s : KW W9, w' = s.w) → w'.heap[w.heap.size + 1]? = some (.cells (arr 16 (d16 X)) 39 (0, 0)) := by
          rintro _ ⟨s, rfl⟩
          exact R2.keep s.keep
        have HG := hide hg
        have KK := hide (And.intro R1 (And.intro R2 O))
        clear hg R1 R2 O
        refine wp_region_keep (by kernel_rfl) (by kernel_rfl) ?_
        go_big_quiet_want
        refine quiet_load_row 39 _ rfl (w.heap.size + 1) rfl 39 (arr 16 (d16 X)) (0, 0) _ HG.out Tryz.underlying39 rfl (info39 _) ?_
        go_simp
        go_big_quiet_on
        go_big_quiet_step ((exact keep_of (order_any _)))
        go_big_quiet_step ((exact keep_of (less_any (d16 X) oF _ (d16_dig _ 16) oF_dig)))
        rw [HSX.out, oF_S]
        by_cases hlt2 : X < Lm
        · rw [decide_eq_true hlt2]
          go_big_quiet_step (fail)
          refine wpQuiet_nil ?_
          intro t
          obtain ⟨R1, R2, O⟩ := KK.out
          replace R1 := R1.keep t.keep
          replace R2 := R2.keep t.keep
          replace O := O.trans (t.keep.mono O.size)
          clear KK HG hne
          generalize t.w = W10 at *
          have HE := hide (HV.out.1 HX.out.1 hlt2)
          go_wp2
          go_roundw
          case rel => exact ⟨p, by omega, ⟨_, rfl, rfl⟩, R1, ⟨X, HE.out, HX.out.1, hlt2, R2⟩, O⟩
          case measure => simp [intOf]
        · rw [decide_eq_false hlt2]
          go_big_quiet_step (fail)
          refine wpQuiet_nil ?_
          intro t
          obtain ⟨R1, R2, O⟩ := KK.out
          replace R1 := R1.keep t.keep
          replace R2 := R2.keep t.keep
          replace O := O.trans (t.keep.mono O.size)
          clear KK HG hne
          generalize t.w = W10 at *
          have HE := hide (HV.out.2 HX.out.2 (by omega))
          have hm2 : arr 16 (minusF (d16 X) oF) = arr 16 (d16 (X - Lm)) := sub_val hlt2 HX.out.2
          have HM := hide hm2
          clear hm2
          go_wp2_with fail
          have hne := KW.some W10
          have hg : ∀ w', (∃ s : KW W10, w' = s.w) → w'.heap[w.heap.size + 1]? = some (.cells (arr 16 (d16 X)) 39 (0, 0)) := by
            rintro _ ⟨s, rfl⟩
            exact R2.keep s.keep
          have HG := hide hg
          have KK := hide (And.intro R1 (And.intro R2 O))
          clear hg R1 R2 O
          refine wp_region_keep_tail 3 (by kernel_rfl) (by kernel_rfl) ?_
          simp only [List.take_succ_cons, List.take_zero, List.drop_succ_cons, List.drop_zero]
          go_big_quiet_want
          refine quiet_load_row 39 _ rfl (w.heap.size + 1) rfl 39 (arr 16 (d16 X)) (0, 0) _ HG.out Tryz.underlying39 rfl (info39 _) ?_
          go_simp
          go_big_quiet_on
          go_big_quiet_step ((exact keep_of (order_any _)))
          go_big_quiet_step ((exact keep_of (rminus_any (d16 X) oF _ (d16_dig _ 16) oF_dig)))
          refine wpQuiet_nil ?_
          intro t2
          obtain ⟨R1, R2, O⟩ := KK.out
          replace R1 := R1.keep t2.keep
          replace R2 := R2.keep t2.keep
          replace O := O.trans (t2.keep.mono O.size)
          clear KK HG hne
          rw [HM.out]
          generalize t2.w = W11 at *
          have RR := hide (R2.setAll (d16 (X - Lm)))
          have R1' := hide (R1.setOther (k := w.heap.size + 1) (by omega) 0 (arr 16 (d16 (X - Lm))).toList)
          have O' := hide (below_setCells (g := w.heap.size + 1) (by omega) (arr 16 (d16 (X - Lm))).toList 0 O)
          clear R1 O
          go_wp2_with (refine wpList_store_mid rfl 39 _ _ rfl (w.heap.size + 1) 0 (arr 16 (d16 (X - Lm))) rfl rfl ?tm6 (info39 _) (arr_one _ _) ?_)
          case tm6 => rw [arr_size]; exact R2.there
          go_roundw
          case rel => exact ⟨p, by omega, ⟨_, rfl, rfl⟩, R1'.out, ⟨X - Lm, HE.out, by omega, by have := HX.out; omega, RR.out⟩, O'.out⟩
          case measure => simp [intOf]
      · have e : x = (p : Int) := by omega
        subst e
        subst hi
        have a1 : (0 : Int) ≤ (p : Int) / 8 := by omega
        have a2 : (p : Int) / 8 < (s.size : Int) := by omega
        have a3 : (p : Int) % 8 = 7 := by omega
        have a4 : p / 8 < s.size := by omega
        have a5 := bt_at s (p / 8) a4
        have a6 := bt_bd s (p / 8)
        have a7 : p % 8 = 7 := by omega
        have eb : bits BinOp.and IntKind.u8 (bt s (p / 8) / 128) 1 = bt s (p / 8) / 128 % 2 := and1u (by omega) (by omega)
        have ew : IntKind.u64.wrap (bt s (p / 8) / 128 % 2) = bt s (p / 8) / 128 % 2 := wrap64u ⟨by omega, by omega⟩
        have hbit : bit s p = bt s (p / 8) / 128 % 2 := by unfold bit; rw [a7]; rfl
        have HB := hide hbit
        have hb0 : 0 ≤ bt s (p / 8) / 128 % 2 := by omega
        have hb1 : bt s (p / 8) / 128 % 2 ≤ 1 := by omega
        have HV := hide (ov_next s n N hpn HB.out hN)
        have HH := hide (And.intro hN0 (And.intro hN1 (And.intro hb0 hb1)))
        clear n1 n2 hm hp hx hbit hN hN0 hN1 hb0 hb1
        have gl := R2.lt
        go_wp2_with fail
        have hne := KW.some wr
        have hg : ∀ w', (∃ s : KW wr, w' = s.w) → w'.heap[w.heap.size + 1]? = some (.cells (arr 16 (d16 N)) 39 (0, 0)) := by
          rintro _ ⟨s, rfl⟩
          exact R2.keep s.keep
        have HG := hide hg
        have KK := hide (And.intro R1 (And.intro R2 O))
        clear hg R1 R2 O
        refine wp_region_keep_tail 12 (by kernel_rfl) (by kernel_rfl) ?_
        simp only [List.take_succ_cons, List.take_zero, List.drop_succ_cons, List.drop_zero]
        go_big_quiet_want
        refine quiet_load_row 39 _ rfl (w.heap.size + 1) rfl 39 (arr 16 (d16 N)) (0, 0) _ HG.out Tryz.underlying39 rfl (info39 _) ?_
        go_simp
        go_big_quiet_on
        go_big_quiet_step (fail)
        go_big_quiet_step (fail)
        go_big_quiet_step (fail)
        go_big_quiet_step (fail)
        go_big_quiet_step (fail)
        go_big_quiet_step (fail)
        go_big_quiet_step (fail)
        go_big_quiet_step (fail)
        go_big_quiet_step (fail)
        go_big_quiet_step (fail)
        go_big_quiet_step ((exact keep_of (twice_any N _ _ ⟨HH.out.1, HH.out.2.1⟩ HH.out.2.2.1 HH.out.2.2.2)))
        refine wpQuiet_nil ?_
        intro t
        obtain ⟨R1, R2, O⟩ := KK.out
        replace R1 := R1.keep t.keep
        replace R2 := R2.keep t.keep
        replace O := O.trans (t.keep.mono O.size)
        clear KK HG hne eb ew
        generalize t.w = W8 at *
        have hX0 : 0 ≤ 2 * N + bt s (p / 8) / 128 % 2 := by have := HH.out; omega
        have hX1 : 2 * N + bt s (p / 8) / 128 % 2 < 2 * Lm := by have := HH.out; omega
        generalize 2 * N + bt s (p / 8) / 128 % 2 = X at *
        have RR := hide (R2.setAll (d16 X))
        have R1' := hide (R1.setOther (k := w.heap.size + 1) (by omega) 0 (arr 16 (d16 X)).toList)
        have O' := hide (below_setCells (g := w.heap.size + 1) (by omega) (arr 16 (d16 X)).toList 0 O)
        have HX := hide (And.intro hX0 hX1)
        clear R1 O hX0 hX1 HH
        go_wp2_with (refine wpList_store_mid rfl 39 _ _ rfl (w.heap.size + 1) 0 (arr 16 (d16 X)) rfl rfl ?th7 (info39 _) (arr_one _ _) ?_)
        case th7 => rw [arr_size]; exact R2.there
        try rw [show ∀ (a : Act) (v : Value), a.put none v = a from fun _ _ => rfl]
        have R1 := R1'.out
        replace R2 := RR.out
        have O := O'.out
        clear R1' RR O'
        generalize W8.setCells (w.heap.size + 1) 0 (arr 16 (d16 X)).toList = W9 at *
        have hL := L16
        have hSX : S (d16 X) 16 = X := dSL HX.out.1 (by have := HX.out; omega)
        have HSX := hide hSX
        clear hSX hL
        have hne := KW.some W9
        have hg : ∀ w', (∃ s : KW W9, w' = s.w) → w'.heap[w.heap.size + 1]? = some (.cells (arr 16 (d16 X)) 39 (0, 0)) := by
          rintro _ ⟨s, rfl⟩
          exact R2.keep s.keep
        have HG := hide hg
        have KK := hide (And.intro R1 (And.intro R2 O))
        clear hg R1 R2 O
        refine wp_region_keep (by kernel_rfl) (by kernel_rfl) ?_
        go_big_quiet_want
        refine quiet_load_row 39 _ rfl (w.heap.size + 1) rfl 39 (arr 16 (d16 X)) (0, 0) _ HG.out Tryz.underlying39 rfl (info39 _) ?_
        go_simp
        go_big_quiet_on
        go_big_quiet_step ((exact keep_of (order_any _)))
        go_big_quiet_step ((exact keep_of (less_any (d16 X) oF _ (d16_dig _ 16) oF_dig)))
        rw [HSX.out, oF_S]
        by_cases hlt2 : X < Lm
        · rw [decide_eq_true hlt2]
          go_big_quiet_step (fail)
          refine wpQuiet_nil ?_
          intro t
          obtain ⟨R1, R2, O⟩ := KK.out
          replace R1 := R1.keep t.keep
          replace R2 := R2.keep t.keep
          replace O := O.trans (t.keep.mono O.size)
          clear KK HG hne
          generalize t.w = W10 at *
          have HE := hide (HV.out.1 HX.out.1 hlt2)
          go_wp2
          go_roundw
          case rel => exact ⟨p, by omega, ⟨_, rfl, rfl⟩, R1, ⟨X, HE.out, HX.out.1, hlt2, R2⟩, O⟩
          case measure => simp [intOf]
        · rw [decide_eq_false hlt2]
          go_big_quiet_step (fail)
          refine wpQuiet_nil ?_
          intro t
          obtain ⟨R1, R2, O⟩ := KK.out
          replace R1 := R1.keep t.keep
          replace R2 := R2.keep t.keep
          replace O := O.trans (t.keep.mono O.size)
          clear KK HG hne
          generalize t.w = W10 at *
          have HE := hide (HV.out.2 HX.out.2 (by omega))
          have hm2 : arr 16 (minusF (d16 X) oF) = arr 16 (d16 (X - Lm)) := sub_val hlt2 HX.out.2
          have HM := hide hm2
          clear hm2
          go_wp2_with fail
          have hne := KW.some W10
          have hg : ∀ w', (∃ s : KW W10, w' = s.w) → w'.heap[w.heap.size + 1]? = some (.cells (arr 16 (d16 X)) 39 (0, 0)) := by
            rintro _ ⟨s, rfl⟩
            exact R2.keep s.keep
          have HG := hide hg
          have KK := hide (And.intro R1 (And.intro R2 O))
          clear hg R1 R2 O
          refine wp_region_keep_tail 3 (by kernel_rfl) (by kernel_rfl) ?_
          simp only [List.take_succ_cons, List.take_zero, List.drop_succ_cons, List.drop_zero]
          go_big_quiet_want
          refine quiet_load_row 39 _ rfl (w.heap.size + 1) rfl 39 (arr 16 (d16 X)) (0, 0) _ HG.out Tryz.underlying39 rfl (info39 _) ?_
          go_simp
          go_big_quiet_on
          go_big_quiet_step ((exact keep_of (order_any _)))
          go_big_quiet_step ((exact keep_of (rminus_any (d16 X) oF _ (d16_dig _ 16) oF_dig)))
          refine wpQuiet_nil ?_
          intro t2
          obtain ⟨R1, R2, O⟩ := KK.out
          replace R1 := R1.keep t2.keep
          replace R2 := R2.keep t2.keep
          replace O := O.trans (t2.keep.mono O.size)
          clear KK HG hne
          rw [HM.out]
          generalize t2.w = W11 at *
          have RR := hide (R2.setAll (d16 (X - Lm)))
          have R1' := hide (R1.setOther (k := w.heap.size + 1) (by omega) 0 (arr 16 (d16 (X - Lm))).toList)
          have O' := hide (below_setCells (g := w.heap.size + 1) (by omega) (arr 16 (d16 (X - Lm))).toList 0 O)
          clear R1 O
          go_wp2_with (refine wpList_store_mid rfl 39 _ _ rfl (w.heap.size + 1) 0 (arr 16 (d16 (X - Lm))) rfl rfl ?tm7 (info39 _) (arr_one _ _) ?_)
          case tm7 => rw [arr_size]; exact R2.there
          go_roundw
          case rel => exact ⟨p, by omega, ⟨_, rfl, rfl⟩, R1'.out, ⟨X - Lm, HE.out, by omega, by have := HX.out; omega, RR.out⟩, O'.out⟩
          case measure => simp [intOf]

end Go.Proofs.YtkeocdebfgcnnaaGreat.Ord

/- Bytes and their number: what the document's Of makes of them is that number modulo the order. -/
namespace Go.Proofs.YtkeocdebfgcnnaaGreat.Ord
open Go.RowKit

/-- The number of the first k bytes. -/
def bv (s : ByteArray) : Nat → Int
  | 0 => 0
  | k + 1 => bv s k + bt s k * 256 ^ k

theorem p8 (n : Nat) : (0 : Int) < 256 ^ n := Int.pow_pos (by decide)
theorem p8s (n : Nat) : (256 : Int) ^ (n + 1) = 256 * 256 ^ n := by rw [Int.pow_succ, Int.mul_comm]

theorem bv_bd (s : ByteArray) : ∀ k, 0 ≤ bv s k ∧ bv s k < 256 ^ k
  | 0 => by simp [bv]
  | k + 1 => by
    have ih := bv_bd s k
    have hb := bt_bd s k
    have hp := p8 k
    have h1 : bt s k * 256 ^ k ≤ 255 * 256 ^ k := Int.mul_le_mul_of_nonneg_right (by omega) (by omega)
    have h2 : 0 ≤ bt s k * 256 ^ k := Int.mul_nonneg hb.1 (by omega)
    rw [p8s]
    simp only [bv]
    omega

theorem bv_split (s : ByteArray) (j : Nat) : ∀ k, ∃ q : Int, bv s (j + 1 + k) = bv s j + 256 ^ j * (bt s j + 256 * q)
  | 0 => ⟨0, by show bv s j + bt s j * 256 ^ j = _; rw [Int.mul_zero, Int.add_zero, Int.mul_comm]⟩
  | k + 1 => by
    obtain ⟨q, hq⟩ := bv_split s j k
    refine ⟨q + bt s (j + 1 + k) * 256 ^ k, ?_⟩
    show bv s (j + 1 + k) + bt s (j + 1 + k) * 256 ^ (j + 1 + k) = _
    rw [hq, Int.pow_add, Int.pow_succ, Int.mul_add 256 q, ← Int.add_assoc (bt s j), Int.mul_add (256 ^ j) (bt s j + 256 * q), ← Int.add_assoc]
    congr 1
    generalize (256 : Int) ^ j = X
    generalize (256 : Int) ^ k = Y
    rw [Int.mul_comm (bt s (j + 1 + k)), Int.mul_assoc X 256 Y, Int.mul_assoc X, Int.mul_assoc 256 Y, Int.mul_comm Y]

theorem bv_at (s : ByteArray) {j m : Nat} (h : j < m) : bv s m / 256 ^ j % 256 = bt s j := by
  obtain ⟨q, hq⟩ := bv_split s j (m - (j + 1))
  rw [show j + 1 + (m - (j + 1)) = m by omega] at hq
  have hp := p8 j
  have hb := bv_bd s j
  have ht := bt_bd s j
  rw [hq, Int.add_mul_ediv_left _ _ (by omega), Int.ediv_eq_zero_of_lt hb.1 hb.2]
  omega

theorem bit_at (s : ByteArray) {p m : Nat} (h : p < 8 * m) : bit s p = bv s m / 2 ^ p % 2 := by
  have e : (2 : Int) ^ p = 256 ^ (p / 8) * 2 ^ (p % 8) := by
    have e1 : (256 : Int) ^ (p / 8) = 2 ^ (8 * (p / 8)) := by rw [Int.pow_mul]; rfl
    rw [e1, ← Int.pow_add]
    congr 1
    omega
  have hj : bv s m / 256 ^ (p / 8) % 256 = bt s (p / 8) := bv_at s (by omega)
  have hp := p8 (p / 8)
  unfold bit
  rw [e, ← Int.ediv_ediv_of_nonneg (by omega), ← hj]
  generalize bv s m / 256 ^ (p / 8) = A
  have h8 : p % 8 < 8 := by omega
  generalize p % 8 = r at *
  rcases (show r = 0 ∨ r = 1 ∨ r = 2 ∨ r = 3 ∨ r = 4 ∨ r = 5 ∨ r = 6 ∨ r = 7 by omega) with rfl | rfl | rfl | rfl | rfl | rfl | rfl | rfl
  · simp only [Int.pow_zero]; omega
  · simp only [show (2 : Int) ^ 1 = 2 from by decide]; omega
  · simp only [show (2 : Int) ^ 2 = 4 from by decide]; omega
  · simp only [show (2 : Int) ^ 3 = 8 from by decide]; omega
  · simp only [show (2 : Int) ^ 4 = 16 from by decide]; omega
  · simp only [show (2 : Int) ^ 5 = 32 from by decide]; omega
  · simp only [show (2 : Int) ^ 6 = 64 from by decide]; omega
  · simp only [show (2 : Int) ^ 7 = 128 from by decide]; omega

theorem ov_val (s : ByteArray) (m : Nat) : ∀ k, k ≤ 8 * m → ov s (8 * m) k = bv s m / 2 ^ (8 * m - k) % Lm
  | 0, _ => by
    have hb := bv_bd s m
    have e : (256 : Int) ^ m = 2 ^ (8 * m) := by rw [Int.pow_mul]; rfl
    rw [Nat.sub_zero, ← e, Int.ediv_eq_zero_of_lt hb.1 hb.2]
    rfl
  | k + 1, h => by
    have ih := ov_val s m k (by omega)
    show (2 * ov s (8 * m) k + bit s (8 * m - 1 - k)) % Lm = _
    have hb := bit_at s (p := 8 * m - 1 - k) (m := m) (by omega)
    have e2 : 8 * m - k = (8 * m - 1 - k) + 1 := by omega
    have e3 : 8 * m - (k + 1) = 8 * m - 1 - k := by omega
    have hp : (0 : Int) < 2 ^ (8 * m - 1 - k) := Int.pow_pos (by decide)
    rw [ih, hb, e2, e3, Int.pow_succ, ← Int.ediv_ediv_of_nonneg (by omega)]
    generalize bv s m / 2 ^ (8 * m - 1 - k) = A
    rw [Int.add_emod, Int.mul_emod, Int.emod_emod_of_dvd _ (Int.dvd_refl _), ← Int.mul_emod, ← Int.add_emod]
    congr 1
    omega

theorem ov_all (s : ByteArray) (m n : Nat) (hn : n = 8 * m) : ov s n n = bv s m % Lm := by
  subst hn
  rw [ov_val s m _ (Nat.le_refl _), Nat.sub_self, Int.pow_zero, Int.ediv_one]

theorem bt_out (s : ByteArray) (i : Nat) (h : s.size ≤ i) : bt s i = 0 := by
  unfold bt
  have h' : s.data.size ≤ i := h
  rw [Array.getElem?_eq_none h']
  rfl

theorem bv_out (s : ByteArray) : ∀ k, bv s (s.size + k) = bv s s.size
  | 0 => rfl
  | k + 1 => by
    show bv s (s.size + k) + bt s (s.size + k) * 256 ^ (s.size + k) = _
    rw [bt_out s _ (by omega), bv_out s k]
    omega

theorem bv_64 (s : ByteArray) (h : s.size ≤ 64) : bv s 64 = bv s s.size := by
  have := bv_out s (64 - s.size)
  rwa [show s.size + (64 - s.size) = 64 by omega] at this

theorem sw_bv (s : ByteArray) (j : Nat) : ∀ r, bv s (8 * j + r) = bv s (8 * j) + 256 ^ (8 * j) * sw s j r
  | 0 => by simp [sw]
  | r + 1 => by
    have ih := sw_bv s j r
    show bv s (8 * j + r) + bt s (8 * j + r) * 256 ^ (8 * j + r) = bv s (8 * j) + 256 ^ (8 * j) * (sw s j r + bt s (8 * j + r) * 256 ^ r)
    rw [ih, Int.pow_add, Int.mul_add, ← Int.add_assoc]
    congr 1
    rw [Int.mul_left_comm]

theorem Q_bv (s : ByteArray) : ∀ n, Q (fun j => sw s j 8) n = bv s (8 * n)
  | 0 => rfl
  | n + 1 => by
    have ih := Q_bv s n
    have e := sw_bv s n 8
    have e2 : (256 : Int) ^ (8 * n) = 18446744073709551616 ^ n := by rw [Int.pow_mul]; rfl
    rw [show 8 * (n + 1) = 8 * n + 8 by omega, e, e2]
    simp only [Q]
    rw [ih, Int.mul_comm]

theorem sw_wds (s : ByteArray) (n : Nat) : Wds (fun j => sw s j 8) n := fun j _ => by
  have := sw_bd s j 8
  have e : (256 : Int) ^ 8 = 18446744073709551616 := by decide
  rw [e] at this
  exact this

/-- The n bytes of a number. -/
def le (N : Int) (n : Nat) : List Int := (List.range n).map fun i => N / 256 ^ i % 256

theorem le_get (N : Int) {n i : Nat} (h : i < n) : (le N n)[i]? = some (N / 256 ^ i % 256) := by simp [le, h]

theorem bs_size (l : List Int) : (bs l).size = l.length := by simp [bs, ByteArray.size]
theorem bt_bs (l : List Int) (i : Nat) (x : Int) (hl : l[i]? = some x) (h0 : 0 ≤ x) (h1 : x < 256) : bt (bs l) i = x := by
  unfold bt bs
  simp only [List.getElem?_toArray, List.getElem?_map, hl, Option.map_some, Option.getD_some]
  simp only [UInt8.toNat_ofNat']
  omega

theorem bt_le (N : Int) {n i : Nat} (h : i < n) : bt (bs (le N n)) i = N / 256 ^ i % 256 := bt_bs _ _ _ (le_get N h) (by omega) (by omega)

theorem bv_le (N : Int) (h0 : 0 ≤ N) (n : Nat) : ∀ k, k ≤ n → bv (bs (le N n)) k = N % 256 ^ k
  | 0, _ => by simp [bv, Int.emod_one]
  | k + 1, h => by
    have ih := bv_le N h0 n k (by omega)
    have hp := p8 k
    show bv (bs (le N n)) k + bt (bs (le N n)) k * 256 ^ k = _
    rw [ih, bt_le N (by omega), Int.pow_succ]
    have e1 := Int.emod_add_mul_ediv N (256 ^ k)
    rw [Int.emod_def N (256 ^ k * 256), ← Int.ediv_ediv_of_nonneg (by omega)]
    generalize N / 256 ^ k = A at *
    have e3 : A % 256 * 256 ^ k = A * 256 ^ k - 256 * (A / 256) * 256 ^ k := by
      rw [← Int.sub_mul]
      congr 1
      omega
    rw [e3]
    generalize A / 256 = B at *
    generalize (256 : Int) ^ k = X at *
    rw [Int.mul_comm A X, show 256 * B * X = X * 256 * B by rw [Int.mul_comm (256 * B) X, ← Int.mul_assoc]]
    omega

end Go.Proofs.YtkeocdebfgcnnaaGreat.Ord

/- Bytes of a string in memory of their own; the contract of doubleOf. -/
namespace Go.Proofs.YtkeocdebfgcnnaaGreat.Ord
open Go.RowKit

/-- Block g holds the bytes f 0 .. f (n - 1), and may be written. -/
structure BC (W : World) (g : Nat) (f : Nat → Int) (n : Nat) : Prop where
  lt : g < W.heap.size
  c : ∀ i, i < n → W.cell? ⟨g, i, none⟩ = some (.int .u8 (f i))
  fz : ∀ i, i < n → W.frozen? ⟨g, i, none⟩ = false

theorem BC.keep {W W' : World} {g n : Nat} {f : Nat → Int} (h : BC W g f n) (hb : Below W.heap.size W W') : BC W' g f n where
  lt := Nat.lt_of_lt_of_le h.lt hb.size
  c := fun i hi => by
    rw [← h.c i hi]
    unfold World.cell?
    rw [hb.block g h.lt]
  fz := fun i hi => by
    rw [← h.fz i hi]
    unfold World.frozen?
    rw [hb.block g h.lt]

theorem BC.alloc {W : World} {g n : Nat} {f : Nat → Int} (h : BC W g f n) (o : Obj) : BC (W.alloc o) g f n := h.keep (new_below W o)

theorem heap_setCell_size (W : World) (a : Addr) (v : Value) : (W.setCell a v).heap.size = W.heap.size := by
  simp

theorem BC.other {W : World} {g n : Nat} {f : Nat → Int} (h : BC W g f n) {a : Addr} (ha : g ≠ a.block) (v : Value) : BC (W.setCell a v) g f n where
  lt := by rw [heap_setCell_size]; exact h.lt
  c := fun i hi => by
    rw [World.cell?_setCell_other _ _ _ _ (by intro e; rw [e] at ha; exact ha rfl), h.c i hi]
  fz := fun i hi => by
    rw [World.frozen?_setCell]
    exact h.fz i hi

theorem BC.drew {W : World} {g n : Nat} {f : Nat → Int} (h : BC W g f n) : BC W.drew g f n := ⟨h.lt, h.c, h.fz⟩
theorem row_frozen (w : World) (g j : Nat) (cs : Array Value) (t : TypeId) (hg : w.heap[g]? = some (.cells cs t (cs.size, cs.size + 1))) (hj : j < cs.size) : w.frozen? ⟨g, j, none⟩ = false := by
  unfold World.frozen?
  rw [hg]
  simp
  omega

/-- A string's bytes in memory of their own. -/
theorem conv_str (W : World) (s : ByteArray) : ∃ (cap : Nat) (W1 : World), (convert 9 70 (.string s)).run Tryz.prog W = .ok (.slice (some ⟨W.heap.size, 0, none⟩) s.size cap) W1 ∧ BC W1 W.heap.size (bt s) s.size ∧ Below W.heap.size W W1 := by
  have h := run_bytes_of_string (P := Tryz.prog) W 9 70 5 s Tryz.underlying9 Tryz.underlying70 Tryz.underlying5
  generalize grownCap W s.size 0 5 = cap at h
  refine ⟨cap, _, h, ?_, ((Below.refl _ _).drew).alloc (Nat.le_refl _) _⟩
  have hg : (W.drew.alloc (.cells (bytesRow s cap) 5 ((bytesRow s cap).size, (bytesRow s cap).size + 1))).heap[W.heap.size]? = some (.cells (bytesRow s cap) 5 ((bytesRow s cap).size, (bytesRow s cap).size + 1)) := heap_alloc_new W.drew _
  have hsz : s.size ≤ (bytesRow s cap).size := by
    simp [bytesRow]
  refine ⟨by simp, fun i hi => ?_, fun i hi => row_frozen _ _ _ _ _ hg (by omega)⟩
  rw [cell_of_row _ _ _ _ _ _ hg]
  have hi' : i < s.data.size := hi
  unfold bytesRow bt
  rw [Array.getElem?_append_left (by simpa using hi'), Array.getElem?_map, Array.getElem?_eq_getElem hi']
  rfl

/-- Of the words the first k bytes. -/
def swk (s : ByteArray) (k : Nat) : Nat → Int := fun j => sw s j (min (k - 8 * j) 8)

theorem swk_at (s : ByteArray) (k : Nat) : swk s k (k / 8) = sw s (k / 8) (k % 8) := by
  unfold swk
  congr 1
  omega

theorem swk_next (s : ByteArray) (k : Nat) (i : Nat) : upd (swk s k) (k / 8) (sw s (k / 8) (k % 8 + 1)) i = swk s (k + 1) i := by
  unfold upd swk
  by_cases h : i = k / 8
  · subst h
    rw [if_pos rfl]
    congr 1
    omega
  · rw [if_neg h]
    congr 1
    omega

theorem sw_stop (s : ByteArray) (j r : Nat) (h : s.size ≤ 8 * j + r) : ∀ d, sw s j (r + d) = sw s j r
  | 0 => rfl
  | d + 1 => by
    show sw s j (r + d) + bt s (8 * j + (r + d)) * 256 ^ (r + d) = _
    rw [bt_out s _ (by omega), sw_stop s j r h d]
    omega

theorem swk_end (s : ByteArray) (j : Nat) : swk s s.size j = sw s j 8 := by
  unfold swk
  by_cases h : s.size ≤ 8 * j + 8
  · have e := sw_stop s j (min (s.size - 8 * j) 8) (by omega) (8 - min (s.size - 8 * j) 8)
    rw [← e]
    congr 1
    omega
  · congr 1
    omega

set_option maxRecDepth 100000 in
set_option maxHeartbeats 4000000 in
theorem dbl_any (s : ByteArray) (g cap : Nat) (w : World) (hs : s.size ≤ 64) (hB : BC w g (bt s) s.size) :
    Calls Tryz.prog 31 #[.slice (some ⟨g, 0, none⟩) s.size cap] w fun r w' => r = .returned (.agg (arr 8 fun j => sw s j 8)) ∧ Below w.heap.size w w' := by
  have hgl := hB.lt
  go_enter Tryz.func31, Tryz.ntmps31
  go_wp2
  rw [show #[Value.int IntKind.u64 0, Value.int IntKind.u64 0, Value.int IntKind.u64 0, Value.int IntKind.u64 0, Value.int IntKind.u64 0, Value.int IntKind.u64 0, Value.int IntKind.u64 0, Value.int IntKind.u64 0] = arr 8 (fun _ => 0) from rfl]
  have R1 : Row ((w.alloc (.cells (arr 8 fun _ => 0) 68)).alloc (.cells (arr 8 fun _ => 0) 68)) w.heap.size 68 8 (fun _ => 0) := (Row.new w 68 8 _).alloc _
  have R2 : Row ((w.alloc (.cells (arr 8 fun _ => 0) 68)).alloc (.cells (arr 8 fun _ => 0) 68)) (w.heap.size + 1) 68 8 (fun _ => 0) := Row.new' _ 68 8 _ (by simp)
  have B : BC ((w.alloc (.cells (arr 8 fun _ => 0) 68)).alloc (.cells (arr 8 fun _ => 0) 68)) g (bt s) s.size := (hB.alloc _).alloc _
  have O : Below w.heap.size w ((w.alloc (.cells (arr 8 fun _ => 0) 68)).alloc (.cells (arr 8 fun _ => 0) 68)) := ((Below.refl _ _).alloc (Nat.le_refl _) _).alloc (by simp) _
  generalize (w.alloc (.cells (arr 8 fun _ => 0) 68)).alloc (.cells (arr 8 fun _ => 0) 68) = W at R1 R2 B O ⊢
  clear hB
  go_loopw [8] (fun x wr => ∃ k : Nat, k ≤ s.size ∧ x = .int .i64 k ∧ Row wr w.heap.size 68 8 (fun _ => 0) ∧ Row wr (w.heap.size + 1) 68 8 (swk s k) ∧ BC wr g (bt s) s.size ∧ Below w.heap.size w wr) (fun x _ => s.size - (intOf x).toNat)
  case atStart => exact ⟨0, by omega, rfl, R1, R2.congr (fun i _ => by unfold swk; rw [show min (0 - 8 * i) 8 = 0 by omega]; rfl), B, O⟩
  case round =>
    clear R1 R2 B O
    obtain ⟨k, hk, rfl, R1, R2, B, O⟩ := hrel
    by_cases hlt : k < s.size
    · have c := B.c k hlt
      have d := R2.cell (i := k / 8) (by omega)
      have e := R2.free (k / 8)
      have b0 := bt_bd s k
      obtain ⟨b0, b1⟩ := b0
      have i1 : (0 : Int) ≤ (k : Int) := by omega
      have i2 : (k : Int) < (s.size : Int) := by omega
      have i3 : (0 : Int) ≤ (k : Int) / 8 := by omega
      have i4 : (k : Int) / 8 < 8 := by omega
      have i5 : ((k : Int) / 8).toNat = k / 8 := by omega
      rcases (show k % 8 = 0 ∨ k % 8 = 1 ∨ k % 8 = 2 ∨ k % 8 = 3 ∨ k % 8 = 4 ∨ k % 8 = 5 ∨ k % 8 = 6 ∨ k % 8 = 7 by omega) with h8 | h8 | h8 | h8 | h8 | h8 | h8 | h8
      · have a3 : (k : Int) % 8 = 0 := by omega
        have hor : bits BinOp.or IntKind.u64 (swk s k (k / 8)) (bt s k * 1) = sw s (k / 8) 1 := by
          rw [swk_at, h8]
          simp only [Int.mul_one]
          exact swor0 s (k / 8) k (by omega)
        rw [Int.mul_one] at hor
        have RR := hide (R2.set (k / 8) (sw s (k / 8) 1))
        have R1' := hide (R1.other (a := ⟨w.heap.size + 1, k / 8, none⟩) (by simp) (.int .u64 (sw s (k / 8) 1)))
        have B' := hide (B.other (a := ⟨w.heap.size + 1, k / 8, none⟩) (by simp; omega) (.int .u64 (sw s (k / 8) 1)))
        have O' := hide (O.setCell (p := ⟨w.heap.size + 1, k / 8, none⟩) (by simp) (.int .u64 (sw s (k / 8) 1)))
        have HN := hide (fun i => swk_next s k i)
        rw [h8] at HN
        clear R1 R2 B O
        go_wp2_with fail
        go_region
        go_wp2
        exact ⟨⟨k + 1, by omega, by go_num, rowD R1'.out, rowD (RR.out.congr (fun i _ => HN.out i)), B'.out.drew, O'.out.drew⟩, by simp [intOf]; omega⟩
      · have a3 : (k : Int) % 8 = 1 := by omega
        have hor : bits BinOp.or IntKind.u64 (swk s k (k / 8)) (bt s k * 256) = sw s (k / 8) 2 := by
          rw [swk_at, h8]
          exact swor1 s (k / 8) k (by omega)
        have RR := hide (R2.set (k / 8) (sw s (k / 8) 2))
        have R1' := hide (R1.other (a := ⟨w.heap.size + 1, k / 8, none⟩) (by simp) (.int .u64 (sw s (k / 8) 2)))
        have B' := hide (B.other (a := ⟨w.heap.size + 1, k / 8, none⟩) (by simp; omega) (.int .u64 (sw s (k / 8) 2)))
        have O' := hide (O.setCell (p := ⟨w.heap.size + 1, k / 8, none⟩) (by simp) (.int .u64 (sw s (k / 8) 2)))
        have HN := hide (fun i => swk_next s k i)
        rw [h8] at HN
        clear R1 R2 B O
        go_wp2_with fail
        go_region
        go_wp2
        exact ⟨⟨k + 1, by omega, by go_num, rowD R1'.out, rowD (RR.out.congr (fun i _ => HN.out i)), B'.out.drew, O'.out.drew⟩, by simp [intOf]; omega⟩
      · have a3 : (k : Int) % 8 = 2 := by omega
        have hor : bits BinOp.or IntKind.u64 (swk s k (k / 8)) (bt s k * 65536) = sw s (k / 8) 3 := by
          rw [swk_at, h8]
          exact swor2 s (k / 8) k (by omega)
        have RR := hide (R2.set (k / 8) (sw s (k / 8) 3))
        have R1' := hide (R1.other (a := ⟨w.heap.size + 1, k / 8, none⟩) (by simp) (.int .u64 (sw s (k / 8) 3)))
        have B' := hide (B.other (a := ⟨w.heap.size + 1, k / 8, none⟩) (by simp; omega) (.int .u64 (sw s (k / 8) 3)))
        have O' := hide (O.setCell (p := ⟨w.heap.size + 1, k / 8, none⟩) (by simp) (.int .u64 (sw s (k / 8) 3)))
        have HN := hide (fun i => swk_next s k i)
        rw [h8] at HN
        clear R1 R2 B O
        go_wp2_with fail
        go_region
        go_wp2
        exact ⟨⟨k + 1, by omega, by go_num, rowD R1'.out, rowD (RR.out.congr (fun i _ => HN.out i)), B'.out.drew, O'.out.drew⟩, by simp [intOf]; omega⟩
      · have a3 : (k : Int) % 8 = 3 := by omega
        have hor : bits BinOp.or IntKind.u64 (swk s k (k / 8)) (bt s k * 16777216) = sw s (k / 8) 4 := by
          rw [swk_at, h8]
          exact swor3 s (k / 8) k (by omega)
        have RR := hide (R2.set (k / 8) (sw s (k / 8) 4))
        have R1' := hide (R1.other (a := ⟨w.heap.size + 1, k / 8, none⟩) (by simp) (.int .u64 (sw s (k / 8) 4)))
        have B' := hide (B.other (a := ⟨w.heap.size + 1, k / 8, none⟩) (by simp; omega) (.int .u64 (sw s (k / 8) 4)))
        have O' := hide (O.setCell (p := ⟨w.heap.size + 1, k / 8, none⟩) (by simp) (.int .u64 (sw s (k / 8) 4)))
        have HN := hide (fun i => swk_next s k i)
        rw [h8] at HN
        clear R1 R2 B O
        go_wp2_with fail
        go_region
        go_wp2
        exact ⟨⟨k + 1, by omega, by go_num, rowD R1'.out, rowD (RR.out.congr (fun i _ => HN.out i)), B'.out.drew, O'.out.drew⟩, by simp [intOf]; omega⟩
      · have a3 : (k : Int) % 8 = 4 := by omega
        have hor : bits BinOp.or IntKind.u64 (swk s k (k / 8)) (bt s k * 4294967296) = sw s (k / 8) 5 := by
          rw [swk_at, h8]
          exact swor4 s (k / 8) k (by omega)
        have RR := hide (R2.set (k / 8) (sw s (k / 8) 5))
        have R1' := hide (R1.other (a := ⟨w.heap.size + 1, k / 8, none⟩) (by simp) (.int .u64 (sw s (k / 8) 5)))
        have B' := hide (B.other (a := ⟨w.heap.size + 1, k / 8, none⟩) (by simp; omega) (.int .u64 (sw s (k / 8) 5)))
        have O' := hide (O.setCell (p := ⟨w.heap.size + 1, k / 8, none⟩) (by simp) (.int .u64 (sw s (k / 8) 5)))
        have HN := hide (fun i => swk_next s k i)
        rw [h8] at HN
        clear R1 R2 B O
        go_wp2_with fail
        go_region
        go_wp2
        exact ⟨⟨k + 1, by omega, by go_num, rowD R1'.out, rowD (RR.out.congr (fun i _ => HN.out i)), B'.out.drew, O'.out.drew⟩, by simp [intOf]; omega⟩
      · have a3 : (k : Int) % 8 = 5 := by omega
        have hor : bits BinOp.or IntKind.u64 (swk s k (k / 8)) (bt s k * 1099511627776) = sw s (k / 8) 6 := by
          rw [swk_at, h8]
          exact swor5 s (k / 8) k (by omega)
        have RR := hide (R2.set (k / 8) (sw s (k / 8) 6))
        have R1' := hide (R1.other (a := ⟨w.heap.size + 1, k / 8, none⟩) (by simp) (.int .u64 (sw s (k / 8) 6)))
        have B' := hide (B.other (a := ⟨w.heap.size + 1, k / 8, none⟩) (by simp; omega) (.int .u64 (sw s (k / 8) 6)))
        have O' := hide (O.setCell (p := ⟨w.heap.size + 1, k / 8, none⟩) (by simp) (.int .u64 (sw s (k / 8) 6)))
        have HN := hide (fun i => swk_next s k i)
        rw [h8] at HN
        clear R1 R2 B O
        go_wp2_with fail
        go_region
        go_wp2
        exact ⟨⟨k + 1, by omega, by go_num, rowD R1'.out, rowD (RR.out.congr (fun i _ => HN.out i)), B'.out.drew, O'.out.drew⟩, by simp [intOf]; omega⟩
      · have a3 : (k : Int) % 8 = 6 := by omega
        have hor : bits BinOp.or IntKind.u64 (swk s k (k / 8)) (bt s k * 281474976710656) = sw s (k / 8) 7 := by
          rw [swk_at, h8]
          exact swor6 s (k / 8) k (by omega)
        have RR := hide (R2.set (k / 8) (sw s (k / 8) 7))
        have R1' := hide (R1.other (a := ⟨w.heap.size + 1, k / 8, none⟩) (by simp) (.int .u64 (sw s (k / 8) 7)))
        have B' := hide (B.other (a := ⟨w.heap.size + 1, k / 8, none⟩) (by simp; omega) (.int .u64 (sw s (k / 8) 7)))
        have O' := hide (O.setCell (p := ⟨w.heap.size + 1, k / 8, none⟩) (by simp) (.int .u64 (sw s (k / 8) 7)))
        have HN := hide (fun i => swk_next s k i)
        rw [h8] at HN
        clear R1 R2 B O
        go_wp2_with fail
        go_region
        go_wp2
        exact ⟨⟨k + 1, by omega, by go_num, rowD R1'.out, rowD (RR.out.congr (fun i _ => HN.out i)), B'.out.drew, O'.out.drew⟩, by simp [intOf]; omega⟩
      · have a3 : (k : Int) % 8 = 7 := by omega
        have hor : bits BinOp.or IntKind.u64 (swk s k (k / 8)) (bt s k * 72057594037927936) = sw s (k / 8) 8 := by
          rw [swk_at, h8]
          exact swor7 s (k / 8) k (by omega)
        have RR := hide (R2.set (k / 8) (sw s (k / 8) 8))
        have R1' := hide (R1.other (a := ⟨w.heap.size + 1, k / 8, none⟩) (by simp) (.int .u64 (sw s (k / 8) 8)))
        have B' := hide (B.other (a := ⟨w.heap.size + 1, k / 8, none⟩) (by simp; omega) (.int .u64 (sw s (k / 8) 8)))
        have O' := hide (O.setCell (p := ⟨w.heap.size + 1, k / 8, none⟩) (by simp) (.int .u64 (sw s (k / 8) 8)))
        have HN := hide (fun i => swk_next s k i)
        rw [h8] at HN
        clear R1 R2 B O
        go_wp2_with fail
        go_region
        go_wp2
        exact ⟨⟨k + 1, by omega, by go_num, rowD R1'.out, rowD (RR.out.congr (fun i _ => HN.out i)), B'.out.drew, O'.out.drew⟩, by simp [intOf]; omega⟩

    · have hk' : k = s.size := by omega
      subst hk'
      have HR := hide (R2.congr (f' := fun j => sw s j 8) (fun i _ => swk_end s i))
      have RR := hide (R1.setAll (fun j => sw s j 8))
      have OO := hide (below_setCells (g := w.heap.size) (Nat.le_refl _) (arr 8 fun j => sw s j 8).toList 0 O)
      clear R2 O B
      generalize hff : (fun j => sw s j 8) = f at HR RR OO
      have HF := hide hff
      clear hff
      go_wp2_with (first | (refine wpList_load_row rfl 68 _ rfl (w.heap.size + 1) rfl 68 (arr 8 f) (0, 0) _ HR.out Tryz.underlying68 rfl (info68 _) ?_) | (refine wpList_store_mid rfl 68 _ _ rfl w.heap.size 0 (arr 8 f) rfl rfl ?tho (info68 _) (arr_one _ _) ?_))
      case tho => rw [arr_size]; exact R1.there
      exact bodyPost_ret (v := .agg (arr 8 f)) (results_cell_row Tryz.results31 _ _ w.heap.size 68 (arr 8 f) (0, 0) _ rfl RR.out Tryz.underlying68 rfl (info68 _)) rfl ⟨by rw [HF.out], OO.out⟩

end Go.Proofs.YtkeocdebfgcnnaaGreat.Ord

/- The contracts of Of, Canonical and Clamp, of the law's of, and of the document's. -/
namespace Go.Proofs.YtkeocdebfgcnnaaGreat.Ord
open Go.RowKit

/-- The number of a string's bytes modulo the order. -/
def ofN (s : ByteArray) : Int := bv s s.size % Lm
theorem ofN_bd (s : ByteArray) : 0 ≤ ofN s ∧ ofN s < Lm := lmod _

theorem mod_bytes (s : ByteArray) (w : World) (hs : s.size ≤ 64) :
    Calls Tryz.prog 32 #[.agg (arr 8 fun j => sw s j 8)] w fun x w' => x = .returned (.agg (arr 4 (d64 (ofN s)))) ∧ Below w.heap.size w w' := by
  have h := modulo_any (fun j => sw s j 8) w (sw_wds s 8)
  rw [Q_bv s 8, bv_64 s hs] at h
  exact h

set_option maxRecDepth 100000 in
set_option maxHeartbeats 1000000 in
theorem of_any (s : ByteArray) (w : World) (hs : s.size ≤ 64) (hp : s.size = 32 ∨ s.size = 64) :
    Calls Tryz.prog 6 #[.string s] w fun r w' => r = .returned (.tuple #[.agg (arr 4 (d64 (ofN s))), .int .i64 0]) ∧ Below w.heap.size w w' := by
  have HM := hide fun w => mod_bytes s w hs
  have R : Row (w.alloc (.cells #[Value.int IntKind.u64 0, Value.int IntKind.u64 0, Value.int IntKind.u64 0, Value.int IntKind.u64 0] 34)) w.heap.size 34 4 (fun _ => 0) := Row.new w 34 4 (fun _ => 0)
  have O : Below w.heap.size w (w.alloc (.cells #[Value.int IntKind.u64 0, Value.int IntKind.u64 0, Value.int IntKind.u64 0, Value.int IntKind.u64 0] 34)) := new_below w _
  obtain ⟨cap, W1, hcv, B, hb⟩ := conv_str (w.alloc (.cells #[Value.int IntKind.u64 0, Value.int IntKind.u64 0, Value.int IntKind.u64 0, Value.int IntKind.u64 0] 34)) s
  rw [show (w.alloc (.cells #[Value.int IntKind.u64 0, Value.int IntKind.u64 0, Value.int IntKind.u64 0, Value.int IntKind.u64 0] 34)).heap.size = w.heap.size + 1 by simp] at hcv B
  have HB := hide B
  replace R := R.keep hb
  replace O := O.trans (hb.mono O.size)
  clear B hb
  generalize ofN s = V at *
  have fin : ∀ w', Row w' w.heap.size 34 4 (fun _ => 0) → Below w.heap.size w w' → True := fun _ _ _ => trivial
  clear fin
  rcases hp with hp | hp
  · have n0 : ((s.size : Int) != 32) = false := by simp [hp]
    go_enter Tryz.func6, Tryz.ntmps6
    go_wp2_with fail
    have HC := dbl_any s _ cap W1 hs HB.out
    rw [hp] at HC
    refine HC.mono ?_
    clear HC
    rintro _ w1 ⟨rfl, hb1⟩
    replace R := R.keep hb1
    replace O := O.trans (hb1.mono O.size)
    clear hb1 HB hcv n0
    go_wp2_with fail
    refine (HM.out _).mono ?_
    rintro _ w2 ⟨rfl, hb1⟩
    replace R := R.keep hb1
    replace O := O.trans (hb1.mono O.size)
    clear hb1 HM
    have RR := hide (R.setAll (d64 V))
    have OO := hide (below_setCells (g := w.heap.size) (Nat.le_refl _) (arr 4 (d64 V)).toList 0 O)
    clear O
    go_wp2_with (refine wpList_store_mid rfl 34 _ _ rfl w.heap.size 0 (arr 4 (d64 V)) rfl rfl ?thn (info34 _) (arr_one _ _) ?_)
    case thn => rw [arr_size]; exact R.there
    exact bodyPost_ret (v := .tuple #[.agg (arr 4 (d64 V)), .int .i64 0]) (results_cell_tmp Tryz.results6 _ _ w.heap.size 34 (arr 4 (d64 V)) (0, 0) _ _ rfl rfl RR.out Tryz.underlying34 rfl (info34 _)) rfl ⟨rfl, OO.out⟩
  · have n0 : ((s.size : Int) != 32) = true := by simp [hp]
    have n1 : ((s.size : Int) != 64) = false := by simp [hp]
    go_enter Tryz.func6, Tryz.ntmps6
    go_wp2_with fail
    have HC := dbl_any s _ cap W1 hs HB.out
    rw [hp] at HC
    refine HC.mono ?_
    clear HC
    rintro _ w1 ⟨rfl, hb1⟩
    replace R := R.keep hb1
    replace O := O.trans (hb1.mono O.size)
    clear hb1 HB hcv n0 n1
    go_wp2_with fail
    refine (HM.out _).mono ?_
    rintro _ w2 ⟨rfl, hb1⟩
    replace R := R.keep hb1
    replace O := O.trans (hb1.mono O.size)
    clear hb1 HM
    have RR := hide (R.setAll (d64 V))
    have OO := hide (below_setCells (g := w.heap.size) (Nat.le_refl _) (arr 4 (d64 V)).toList 0 O)
    clear O
    go_wp2_with (refine wpList_store_mid rfl 34 _ _ rfl w.heap.size 0 (arr 4 (d64 V)) rfl rfl ?thm (info34 _) (arr_one _ _) ?_)
    case thm => rw [arr_size]; exact R.there
    exact bodyPost_ret (v := .tuple #[.agg (arr 4 (d64 V)), .int .i64 0]) (results_cell_tmp Tryz.results6 _ _ w.heap.size 34 (arr 4 (d64 V)) (0, 0) _ _ rfl rfl RR.out Tryz.underlying34 rfl (info34 _)) rfl ⟨rfl, OO.out⟩

set_option maxHeartbeats 400000 in
theorem of_no (s : ByteArray) (w : World) (h1 : s.size ≠ 32) (h2 : s.size ≠ 64) :
    Calls Tryz.prog 6 #[.string s] w fun r w' => r = .returned (.tuple #[.agg (arr 4 (d64 0)), .int .i64 2]) ∧ Below w.heap.size w w' := by
  have n0 : ((s.size : Int) != 32) = true := by simp; omega
  have n1 : ((s.size : Int) != 64) = true := by simp; omega
  go_enter Tryz.func6, Tryz.ntmps6
  go_wp2
  exact bodyPost_ret (v := .tuple #[.agg (arr 4 (d64 0)), .int .i64 2]) (by simp [results, Tryz.results6, go_sem]; rfl) rfl ⟨rfl, (Below.refl _ _).alloc (Nat.le_refl _) _⟩

end Go.Proofs.YtkeocdebfgcnnaaGreat.Ord

/- What the multiples are: the program's and the document's are those of one point; the base point's order. -/
namespace Go.Proofs.YtkeocdebfgcnnaaGreat
open Go.RowKit

namespace Ord
theorem leb_le (N : Int) : lebytes N = bs (le N 32) := by
  unfold lebytes le digs
  have e : ∀ (i j : Nat), (N / 18446744073709551616 ^ i % 18446744073709551616) / 256 ^ j % 256 = N / 256 ^ (8 * i + j) % 256 ∨ 8 ≤ j := by
    intro i j
    by_cases hj : 8 ≤ j
    · exact .inr hj
    · left
      have e1 : (256 : Int) ^ (8 * i + j) = 18446744073709551616 ^ i * 256 ^ j := by
        rw [Int.pow_add, Int.pow_mul]
        rfl
      have hp := p64 i
      rw [e1, ← Int.ediv_ediv_of_nonneg (by omega)]
      generalize N / 18446744073709551616 ^ i = A
      rcases (show j = 0 ∨ j = 1 ∨ j = 2 ∨ j = 3 ∨ j = 4 ∨ j = 5 ∨ j = 6 ∨ j = 7 by omega) with rfl | rfl | rfl | rfl | rfl | rfl | rfl | rfl
      · simp only [Int.pow_zero]; omega
      · simp only [show (256 : Int) ^ 1 = 256 from by decide]; omega
      · simp only [show (256 : Int) ^ 2 = 65536 from by decide]; omega
      · simp only [show (256 : Int) ^ 3 = 16777216 from by decide]; omega
      · simp only [show (256 : Int) ^ 4 = 4294967296 from by decide]; omega
      · simp only [show (256 : Int) ^ 5 = 1099511627776 from by decide]; omega
      · simp only [show (256 : Int) ^ 6 = 281474976710656 from by decide]; omega
      · simp only [show (256 : Int) ^ 7 = 72057594037927936 from by decide]; omega
  congr 1
  have e' : ∀ (i j : Nat), j < 8 → N / 256 ^ (8 * i + j) % 256 = (N / 18446744073709551616 ^ i % 18446744073709551616) / 256 ^ j % 256 := fun i j hj => by
    rcases e i j with h | h
    · exact h.symm
    · omega
  have hl : List.range 32 = [8 * 0 + 0, 8 * 0 + 1, 8 * 0 + 2, 8 * 0 + 3, 8 * 0 + 4, 8 * 0 + 5, 8 * 0 + 6, 8 * 0 + 7, 8 * 1 + 0, 8 * 1 + 1, 8 * 1 + 2, 8 * 1 + 3, 8 * 1 + 4, 8 * 1 + 5, 8 * 1 + 6, 8 * 1 + 7, 8 * 2 + 0, 8 * 2 + 1, 8 * 2 + 2, 8 * 2 + 3, 8 * 2 + 4, 8 * 2 + 5, 8 * 2 + 6, 8 * 2 + 7, 8 * 3 + 0, 8 * 3 + 1, 8 * 3 + 2, 8 * 3 + 3, 8 * 3 + 4, 8 * 3 + 5, 8 * 3 + 6, 8 * 3 + 7] := by decide
  rw [hl]
  simp only [List.map_cons, List.map_nil]
  rw [e' 0 0 (by omega), e' 0 1 (by omega), e' 0 2 (by omega), e' 0 3 (by omega), e' 0 4 (by omega), e' 0 5 (by omega), e' 0 6 (by omega), e' 0 7 (by omega), e' 1 0 (by omega), e' 1 1 (by omega), e' 1 2 (by omega), e' 1 3 (by omega), e' 1 4 (by omega), e' 1 5 (by omega), e' 1 6 (by omega), e' 1 7 (by omega), e' 2 0 (by omega), e' 2 1 (by omega), e' 2 2 (by omega), e' 2 3 (by omega), e' 2 4 (by omega), e' 2 5 (by omega), e' 2 6 (by omega), e' 2 7 (by omega), e' 3 0 (by omega), e' 3 1 (by omega), e' 3 2 (by omega), e' 3 3 (by omega), e' 3 4 (by omega), e' 3 5 (by omega), e' 3 6 (by omega), e' 3 7 (by omega)]
  simp

theorem leb_size (N : Int) : (lebytes N).size = 32 := by
  unfold lebytes
  rw [bs_size]
  rfl

theorem leb_bv {N : Int} (hN : 0 ≤ N ∧ N < Lm) : bv (lebytes N) 32 = N := by
  have hP := Lm_P
  rw [leb_le N, bv_le N hN.1 32 32 (by omega)]
  have e : (256 : Int) ^ 32 = 18446744073709551616 ^ 4 := by decide
  rw [e, Int.emod_eq_of_lt hN.1 (by omega)]

end Ord

theorem add_self (P : Pt) : P.add P = P.mul 2 := by
  show _ = (zeroP.add P).add P
  rw [add_comm' zeroP, add_zero']
theorem Rep.dbl2 {p : P5} {P : Pt} (h : Rep p P) : Rep (dblF p) (P.mul 2) := by
  rw [← add_self]
  exact h.dbl
theorem Rep.d4 {p : P5} {P : Pt} {n : Nat} (h : Rep p (P.mul n)) : Rep (d4 p) (P.mul (n * 16)) := by
  have e : P.mul (n * 16) = ((((P.mul n).mul 2).mul 2).mul 2).mul 2 := by
    rw [← mul_mul', ← mul_mul', ← mul_mul', ← mul_mul']
  rw [e]
  exact h.dbl2.dbl2.dbl2.dbl2
theorem Rep.mulT {p : P5} {P : Pt} (h : Rep p P) : ∀ k, Rep (mulT p k) (P.mul k)
  | 0 => zero5_rep
  | k + 1 => (Rep.mulT h k).sum h
theorem Rep.sumN {p q : P5} {P : Pt} {m n : Nat} (hp : Rep p (P.mul m)) (hq : Rep q (P.mul n)) : Rep (sumF p q) (P.mul (m + n)) := by
  rw [mul_add']
  exact hp.sum hq
theorem div_step {A : Int} {B b : Nat} (h0 : 0 ≤ A) (h1 : (A / B).toNat = b) (hB : 0 < B) : A.toNat = b * B + (A % B).toNat := by
  have h2 := Int.emod_nonneg A (show (B : Int) ≠ 0 by omega)
  have h3 : 0 ≤ A / B := Int.ediv_nonneg h0 (by omega)
  have h4 := Int.mul_ediv_add_emod A B
  apply Int.ofNat.inj
  show (A.toNat : Int) = ((b * B + (A % B).toNat : Nat) : Int)
  rw [Int.natCast_add, Int.natCast_mul, ← h1, Int.toNat_of_nonneg h0, Int.toNat_of_nonneg h3, Int.toNat_of_nonneg h2, Int.mul_comm]
  exact h4.symm
theorem Rep.acc {p : P5} {P : Pt} (h : Rep p P) (s : ByteArray) : ∀ j, j ≤ 32 → Rep (acc p s j) (P.mul (Ord.bv s 32 / 256 ^ (32 - j)).toNat)
  | 0, _ => by
    have hb := Ord.bv_bd s 32
    rw [Int.ediv_eq_zero_of_lt hb.1 hb.2]
    exact zero5_rep
  | j + 1, hj => by
    have ih := Rep.acc h s j (by omega)
    have hb := Ord.bv_bd s 32
    have ha := Ord.bv_at s (j := 31 - j) (m := 32) (by omega)
    have hp := Ord.p8 (31 - j)
    rw [show 32 - j = 31 - j + 1 by omega, Int.pow_succ, ← Int.ediv_ediv_of_nonneg (by omega)] at ih
    rw [show 32 - (j + 1) = 31 - j by omega]
    have hA : 0 ≤ Ord.bv s 32 / 256 ^ (31 - j) := Int.ediv_nonneg hb.1 (by omega)
    generalize Ord.bv s 32 / 256 ^ (31 - j) = A at *
    have hd := div_step (B := 256) hA rfl (by omega)
    rw [hd, show (A % ((256 : Nat) : Int)) = A % 256 from rfl, ha]
    have ht := bt_bd s (31 - j)
    show Rep (sumF (_root_.Go.Proofs.YtkeocdebfgcnnaaGreat.d4 (sumF (_root_.Go.Proofs.YtkeocdebfgcnnaaGreat.d4 (_root_.Go.Proofs.YtkeocdebfgcnnaaGreat.acc p s j)) (_root_.Go.Proofs.YtkeocdebfgcnnaaGreat.mulT p (bt s (31 - j) / 16).toNat))) (_root_.Go.Proofs.YtkeocdebfgcnnaaGreat.mulT p (bt s (31 - j) % 16).toNat)) _
    have h2 := ((ih.d4.sumN (h.mulT (bt s (31 - j) / 16).toNat)).d4).sumN (h.mulT (bt s (31 - j) % 16).toNat)
    have e : ((A / 256).toNat * 16 + (bt s (31 - j) / 16).toNat) * 16 + (bt s (31 - j) % 16).toNat = (A / ((256 : Nat) : Int)).toNat * 256 + (bt s (31 - j)).toNat := by
      rw [show (A / ((256 : Nat) : Int)) = A / 256 from rfl]
      omega
    rw [e] at h2
    exact h2

/-- Mul by a scalar. -/
def mulV (p : P5) (N : Int) : P5 := acc p (Ord.lebytes N) 32
theorem Rep.mul {p : P5} {P : Pt} (h : Rep p P) {N : Int} (hN : 0 ≤ N ∧ N < Ord.Lm) : Rep (mulV p N) (P.mul N.toNat) := by
  have h2 := h.acc (Ord.lebytes N) 32 (Nat.le_refl _)
  rw [Ord.leb_bv hN, Nat.sub_self, Int.pow_zero, Int.ediv_one] at h2
  exact h2
theorem c_mul {p : P5} {P : Pt} (h : Rep p P) (N : Int) (w : World) : Calls Tryz.prog 15 #[.agg (arr 20 p.f), .agg (arr 4 (Ord.d64 N))] w fun r w' => r = .returned (.agg (arr 20 (mulV p N).f)) ∧ Below w.heap.size w w' :=
  mulY_gen p (Ord.d64 N) (Ord.lebytes N) w ⟨trivial⟩ h.ok h.none (Ord.leb_size N) (fun w => Ord.bytes_any N w)

theorem pb_d16 (N : Int) (i : Nat) : pb (Ord.d16 N) i = N / 2 ^ i % 2 := by
  have e : (2 : Int) ^ i = 65536 ^ (i / 16) * 2 ^ (i % 16) := by
    have e1 : (65536 : Int) ^ (i / 16) = 2 ^ (16 * (i / 16)) := by rw [Int.pow_mul]; rfl
    rw [e1, ← Int.pow_add]
    congr 1
    omega
  have hp : (0 : Int) < 65536 ^ (i / 16) := Int.pow_pos (by decide)
  unfold pb Ord.d16
  rw [e, ← Int.ediv_ediv_of_nonneg (by omega)]
  generalize N / 65536 ^ (i / 16) = A
  have h8 : i % 16 < 16 := by omega
  generalize i % 16 = r at *
  rcases (show r = 0 ∨ r = 1 ∨ r = 2 ∨ r = 3 ∨ r = 4 ∨ r = 5 ∨ r = 6 ∨ r = 7 ∨ r = 8 ∨ r = 9 ∨ r = 10 ∨ r = 11 ∨ r = 12 ∨ r = 13 ∨ r = 14 ∨ r = 15 by omega) with rfl | rfl | rfl | rfl | rfl | rfl | rfl | rfl | rfl | rfl | rfl | rfl | rfl | rfl | rfl | rfl
  · rw [show (2 : Int) ^ 0 = 1 by decide]; omega
  · rw [show (2 : Int) ^ 1 = 2 by decide]; omega
  · rw [show (2 : Int) ^ 2 = 4 by decide]; omega
  · rw [show (2 : Int) ^ 3 = 8 by decide]; omega
  · rw [show (2 : Int) ^ 4 = 16 by decide]; omega
  · rw [show (2 : Int) ^ 5 = 32 by decide]; omega
  · rw [show (2 : Int) ^ 6 = 64 by decide]; omega
  · rw [show (2 : Int) ^ 7 = 128 by decide]; omega
  · rw [show (2 : Int) ^ 8 = 256 by decide]; omega
  · rw [show (2 : Int) ^ 9 = 512 by decide]; omega
  · rw [show (2 : Int) ^ 10 = 1024 by decide]; omega
  · rw [show (2 : Int) ^ 11 = 2048 by decide]; omega
  · rw [show (2 : Int) ^ 12 = 4096 by decide]; omega
  · rw [show (2 : Int) ^ 13 = 8192 by decide]; omega
  · rw [show (2 : Int) ^ 14 = 16384 by decide]; omega
  · rw [show (2 : Int) ^ 15 = 32768 by decide]; omega
theorem RRep.dblN {q : RQ} {P : Pt} {n : Nat} (h : RRep q (P.mul n)) : RRep (raddV q q) (P.mul (n * 2)) := by
  rw [mul_mul', ← add_self]
  exact h.add h
theorem RRep.rmul {q : RQ} {P : Pt} (h : RRep q P) {N : Int} (h0 : 0 ≤ N) (h1 : N < 2 ^ 256) : ∀ j, j ≤ 256 → RRep (racc q (Ord.d16 N) j) (P.mul (N / 2 ^ (256 - j)).toNat)
  | 0, _ => by
    rw [Int.ediv_eq_zero_of_lt h0 h1]
    exact rzero_rep
  | j + 1, hj => by
    have ih := RRep.rmul h h0 h1 j (by omega)
    have hb := pb_d16 N (255 - j)
    have hp : (0 : Int) < 2 ^ (255 - j) := Int.pow_pos (by decide)
    rw [show 256 - j = 255 - j + 1 by omega, Int.pow_succ, ← Int.ediv_ediv_of_nonneg (by omega)] at ih
    rw [show 256 - (j + 1) = 255 - j by omega]
    have hA : 0 ≤ N / 2 ^ (255 - j) := Int.ediv_nonneg h0 (by omega)
    generalize N / 2 ^ (255 - j) = A at *
    have hd := div_step (B := 2) hA rfl (by omega)
    rw [hd]
    show RRep (if pb (Ord.d16 N) (255 - j) = 1 then raddV (raddV (racc q (Ord.d16 N) j) (racc q (Ord.d16 N) j)) q else raddV (racc q (Ord.d16 N) j) (racc q (Ord.d16 N) j)) _
    have h2 := ih.dblN
    by_cases hbit : pb (Ord.d16 N) (255 - j) = 1
    · rw [if_pos hbit]
      rw [hb] at hbit
      rw [show (A % ((2 : Nat) : Int)) = A % 2 from rfl, hbit]
      exact h2.add h
    · rw [if_neg hbit]
      rw [hb] at hbit
      rw [show (A % ((2 : Nat) : Int)) = A % 2 from rfl, show A % 2 = 0 by omega]
      exact h2

end Go.Proofs.YtkeocdebfgcnnaaGreat

/- The base point, as often as its order tells, is the zero point. -/
namespace Go.Proofs.YtkeocdebfgcnnaaGreat
open Go.RowKit

def o10 : RQ := ⟨27747334574616394001671544972397522701443406515410373621549800952286789188031, 8199122845177527114994708208354772536036717138860348540088995815280918949742, 5134118114367787481165291208904372290085401719766489595368751140561486979321, 54909114419988028932990657036010681893848110131280402308041711995246989110530⟩
def o11 : RQ := ⟨47916525168426179058218639806050604838489673677967769462188175335800095451463, 30617327695503016912621504384003028789359232859295326909963525387337587687837, 15147999521824012262492808253667687103168467042379860254812284001570090082820, 29164916684187026905245983522567931035026027657278887173783286103699229397309⟩
end Go.Proofs.YtkeocdebfgcnnaaGreat
