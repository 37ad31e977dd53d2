/- The contract of the document's twice. -/
import Derived.Test.YtaaijicpdampiaaOrdJ
namespace Go.Proofs.Ytaaijicpdampiaa
open Go.RowKit

/-- The carry into digit k. -/
def tc (a : Nat → Int) (one : Int) : Nat → Int
  | 0 => one
  | k + 1 => (2 * a k + tc a one k) / 65536
def tl (a : Nat → Int) (one : Int) : Nat → Int := fun k => (2 * a k + tc a one k) % 65536
theorem tc_bd {a : Nat → Int} {one : Int} (ha : Dig a 16) (h0 : 0 ≤ one) (h1 : one ≤ 1) : ∀ k, k ≤ 16 → 0 ≤ tc a one k ∧ tc a one k ≤ 1
  | 0, _ => ⟨h0, h1⟩
  | k + 1, h => by
    have ih := tc_bd ha h0 h1 k (by omega)
    have := ha k (by omega)
    simp only [tc]
    omega
theorem tl_dig (a : Nat → Int) (one : Int) (n : Nat) : Dig (tl a one) n := fun i _ => by unfold tl; omega
theorem tl_S (a : Nat → Int) (one : Int) : ∀ k, S (tl a one) k + tc a one k * 65536 ^ k = 2 * S a k + one
  | 0 => by simp [S, tc]
  | k + 1 => by
    have ih := tl_S a one k
    have e : tc a one (k + 1) * 65536 ^ (k + 1) = 65536 * tc a one (k + 1) * 65536 ^ k := by rw [p16s, ← Int.mul_assoc, Int.mul_comm (tc a one (k + 1)) 65536]
    have e2 : tl a one k = 2 * a k + tc a one k - 65536 * tc a one (k + 1) := by
      simp only [tl, tc]
      omega
    simp only [S]
    rw [e, e2, Int.sub_mul, Int.add_mul, Int.mul_add, ← Int.mul_assoc]
    omega

set_option maxRecDepth 100000 in
set_option maxHeartbeats 1000000 in
theorem twice_gen (a : Nat → Int) (one : Int) (w : World) (ha : Dig a 16) (h0 : 0 ≤ one) (h1 : one ≤ 1) :
    Calls Try.prog 32 #[.agg (arr 16 a), .int .u64 one] w fun r w' => r = .returned (.agg (arr 16 (tl a one))) ∧ Below w.heap.size w w' := by
  go_enter Try.func32, Try.ntmps32
  go_wp2
  rw [show #[Value.int IntKind.u64 0, Value.int IntKind.u64 0, Value.int IntKind.u64 0, Value.int IntKind.u64 0, Value.int IntKind.u64 0, Value.int IntKind.u64 0, Value.int IntKind.u64 0, Value.int IntKind.u64 0, Value.int IntKind.u64 0, Value.int IntKind.u64 0, Value.int IntKind.u64 0, Value.int IntKind.u64 0, Value.int IntKind.u64 0, Value.int IntKind.u64 0, Value.int IntKind.u64 0, Value.int IntKind.u64 0] = arr 16 (fun _ => 0) from rfl]
  have R1 : Row (((w.alloc (.cells (arr 16 a) 38)).alloc (.cells (arr 16 fun _ => 0) 38)).alloc (.cells (arr 16 fun _ => 0) 38)) w.heap.size 38 16 a := ((Row.new w 38 16 a).alloc _).alloc _
  have R2 : Row (((w.alloc (.cells (arr 16 a) 38)).alloc (.cells (arr 16 fun _ => 0) 38)).alloc (.cells (arr 16 fun _ => 0) 38)) (w.heap.size + 1) 38 16 (fun _ => 0) := (Row.new' _ 38 16 _ (by simp)).alloc _
  have R3 : Row (((w.alloc (.cells (arr 16 a) 38)).alloc (.cells (arr 16 fun _ => 0) 38)).alloc (.cells (arr 16 fun _ => 0) 38)) (w.heap.size + 1 + 1) 38 16 (fun _ => 0) := Row.new' _ 38 16 _ (by simp)
  have O : Below w.heap.size w (((w.alloc (.cells (arr 16 a) 38)).alloc (.cells (arr 16 fun _ => 0) 38)).alloc (.cells (arr 16 fun _ => 0) 38)) := (((Below.refl _ _).alloc (Nat.le_refl _) _).alloc (by simp) _).alloc (by simp; omega) _
  generalize (((w.alloc (.cells (arr 16 a) 38)).alloc (.cells (arr 16 fun _ => 0) 38)).alloc (.cells (arr 16 fun _ => 0) 38)) = W at R1 R2 R3 O ⊢
  go_loopw [6, 7] (fun c i wr => ∃ k : Nat, k ≤ 16 ∧ c = .int .u64 (tc a one k) ∧ i = .int .i64 k ∧ Row wr w.heap.size 38 16 a ∧ Row wr (w.heap.size + 1) 38 16 (fun _ => 0) ∧ Row wr (w.heap.size + 1 + 1) 38 16 (upto k (tl a one) (fun _ => 0)) ∧ Below w.heap.size w wr) (fun _ i _ => 16 - (intOf i).toNat)
  case atStart => exact ⟨0, by omega, rfl, rfl, R1, R2, R3.congr (fun i _ => upto_zero (tl a one) (fun _ => 0) i), O⟩
  case round =>
    clear R1 R2 R3 O
    obtain ⟨k, hk, rfl, rfl, R1, R2, R3, O⟩ := hrel
    by_cases hlt : k < 16
    · have c := R1.cell hlt
      have d := R3.cell (i := k) hlt
      have e := R3.free k
      obtain ⟨a0, a1⟩ := ha k hlt
      obtain ⟨b0, b1⟩ := tc_bd ha h0 h1 k hk
      have ea := and16 (x := 2 * a k + tc a one k) (by omega) (by omega)
      have HN := hide (show tc a one (k + 1) = (2 * a k + tc a one k) / 65536 from rfl)
      have RR := hide ((R3.set k ((2 * a k + tc a one k) % 65536)).congr (fun i _ => upto_next k (tl a one) (fun _ => 0) rfl i))
      have R1' := hide (R1.other (a := ⟨w.heap.size + 1 + 1, k, none⟩) (by simp <;> omega) (.int .u64 ((2 * a k + tc a one k) % 65536)))
      have R2' := hide (R2.other (a := ⟨w.heap.size + 1 + 1, k, none⟩) (by simp) (.int .u64 ((2 * a k + tc a one k) % 65536)))
      have O' := hide (O.setCell (p := ⟨w.heap.size + 1 + 1, k, none⟩) (by simp; omega) (.int .u64 ((2 * a k + tc a one k) % 65536)))
      clear R1 R2 R3 O
      go_wp2
      go_roundw
      case rel => exact ⟨k + 1, by omega, by rw [HN.out], by go_num, R1'.out, R2'.out, RR.out, O'.out⟩
      case measure => simp [intOf]; omega
    · have hk' : k = 16 := by omega
      subst hk'
      replace R3 := R3.congr (f' := tl a one) (fun i hi => upto_end _ _ i hi)
      have RR := hide (R2.setAll (tl a one))
      have OO := hide (below_setCells (g := w.heap.size + 1) (by omega) (arr 16 (tl a one)).toList 0 O)
      have HX := hide R3
      clear R3 O R1
      go_wp2_with (first | (refine wpList_load_row rfl 38 _ rfl (w.heap.size + 1 + 1) rfl 38 (arr 16 (tl a one)) (0, 0) _ HX.out Try.underlying38 rfl (info38 _) ?_) | (refine wpList_store_mid rfl 38 _ _ rfl (w.heap.size + 1) 0 (arr 16 (tl a one)) rfl rfl ?tht (info38 _) (arr_one _ _) ?_))
      case tht => rw [arr_size]; exact R2.there
      exact bodyPost_ret (v := .agg (arr 16 (tl a one))) (results_cell_row Try.results32 _ _ (w.heap.size + 1) 38 (arr 16 (tl a one)) (0, 0) _ rfl RR.out Try.underlying38 rfl (info38 _)) rfl ⟨rfl, OO.out⟩

theorem L16 : 2 * Lm + 1 < 65536 ^ 16 := by decide
theorem dSL {N : Int} (h0 : 0 ≤ N) (h1 : N < 65536 ^ 16) : S (d16 N) 16 = N := by rw [d16_S _ h0, Int.emod_eq_of_lt h0 h1]

theorem twice_any (N one : Int) (w : World) (hN : 0 ≤ N ∧ N < Lm) (h0 : 0 ≤ one) (h1 : one ≤ 1) :
    Calls Try.prog 32 #[.agg (arr 16 (d16 N)), .int .u64 one] w fun r w' => r = .returned (.agg (arr 16 (d16 (2 * N + one)))) ∧ Below w.heap.size w w' := by
  have hL := L16
  have e := tl_S (d16 N) one 16
  have hc := tc_bd (d16_dig N 16) h0 h1 16 (by omega)
  have hb := S_bd (tl_dig (d16 N) one 16)
  rw [dSL hN.1 (by omega)] at e
  have hs : S (tl (d16 N) one) 16 = 2 * N + one := by
    rcases (show tc (d16 N) one 16 = 0 ∨ tc (d16 N) one 16 = 1 by omega) with h | h
    · rw [h] at e; omega
    · rw [h] at e; omega
  have := twice_gen (d16 N) one w (d16_dig N 16) h0 h1
  rwa [arr_congr (S_inj (tl_dig (d16 N) one 16) (d16_dig (2 * N + one) 16) (by rw [hs, dSL (by omega) (by omega)]))] at this

end Go.Proofs.Ytaaijicpdampiaa
