/- The contract of the document's Mul. -/
import Derived.Test.YtiiniodidkfbiaaRmulA
namespace Go.Proofs.Ytiiniodidkfbiaa
open Go.RowKit

set_option maxRecDepth 100000 in
set_option maxHeartbeats 1000000 in
theorem rmul_any (a b : Nat → Int) (w : World) (ha : Dig a 16) (hb : Dig b 16) :
    Calls Try.prog 35 #[.agg (arr 16 a), .agg (arr 16 b)] w fun r w' => r = .returned (.agg (arr 16 (d16 ((S a 16 * S b 16) % Pm)))) ∧ Below w.heap.size w w' := by
  go_enter Try.func35, Try.ntmps35
  go_wp2
  rw [show #[Value.int IntKind.u64 0, Value.int IntKind.u64 0, Value.int IntKind.u64 0, Value.int IntKind.u64 0, Value.int IntKind.u64 0, Value.int IntKind.u64 0, Value.int IntKind.u64 0, Value.int IntKind.u64 0, Value.int IntKind.u64 0, Value.int IntKind.u64 0, Value.int IntKind.u64 0, Value.int IntKind.u64 0, Value.int IntKind.u64 0, Value.int IntKind.u64 0, Value.int IntKind.u64 0, Value.int IntKind.u64 0] = arr 16 (fun _ => 0) from rfl, show #[Value.int IntKind.u64 0, Value.int IntKind.u64 0, Value.int IntKind.u64 0, Value.int IntKind.u64 0, Value.int IntKind.u64 0, Value.int IntKind.u64 0, Value.int IntKind.u64 0, Value.int IntKind.u64 0, Value.int IntKind.u64 0, Value.int IntKind.u64 0, Value.int IntKind.u64 0, Value.int IntKind.u64 0, Value.int IntKind.u64 0, Value.int IntKind.u64 0, Value.int IntKind.u64 0, Value.int IntKind.u64 0, Value.int IntKind.u64 0, Value.int IntKind.u64 0, Value.int IntKind.u64 0, Value.int IntKind.u64 0, Value.int IntKind.u64 0, Value.int IntKind.u64 0, Value.int IntKind.u64 0, Value.int IntKind.u64 0, Value.int IntKind.u64 0, Value.int IntKind.u64 0, Value.int IntKind.u64 0, Value.int IntKind.u64 0, Value.int IntKind.u64 0, Value.int IntKind.u64 0, Value.int IntKind.u64 0, Value.int IntKind.u64 0] = arr 32 (fun _ => 0) from rfl]
  have R1 : Row ((((w.alloc (.cells (arr 16 a) 35)).alloc (.cells (arr 16 b) 35)).alloc (.cells (arr 16 fun _ => 0) 35)).alloc (.cells (arr 32 fun _ => 0) 50)) w.heap.size 35 16 a := (((Row.new w 35 16 a).alloc _).alloc _).alloc _
  have R2 : Row ((((w.alloc (.cells (arr 16 a) 35)).alloc (.cells (arr 16 b) 35)).alloc (.cells (arr 16 fun _ => 0) 35)).alloc (.cells (arr 32 fun _ => 0) 50)) (w.heap.size + 1) 35 16 b := ((Row.new' _ 35 16 _ (by simp)).alloc _).alloc _
  have R3 : Row ((((w.alloc (.cells (arr 16 a) 35)).alloc (.cells (arr 16 b) 35)).alloc (.cells (arr 16 fun _ => 0) 35)).alloc (.cells (arr 32 fun _ => 0) 50)) (w.heap.size + 1 + 1) 35 16 (fun _ => 0) := (Row.new' _ 35 16 _ (by simp)).alloc _
  have R4 : Row ((((w.alloc (.cells (arr 16 a) 35)).alloc (.cells (arr 16 b) 35)).alloc (.cells (arr 16 fun _ => 0) 35)).alloc (.cells (arr 32 fun _ => 0) 50)) (w.heap.size + 1 + 1 + 1) 50 32 (fun _ => 0) := Row.new' _ 50 32 _ (by simp)
  have O : Below w.heap.size w ((((w.alloc (.cells (arr 16 a) 35)).alloc (.cells (arr 16 b) 35)).alloc (.cells (arr 16 fun _ => 0) 35)).alloc (.cells (arr 32 fun _ => 0) 50)) := ((((Below.refl _ _).alloc (Nat.le_refl _) _).alloc (by simp) _).alloc (by simp; omega) _).alloc (by simp; omega) _
  generalize ((((w.alloc (.cells (arr 16 a) 35)).alloc (.cells (arr 16 b) 35)).alloc (.cells (arr 16 fun _ => 0) 35)).alloc (.cells (arr 32 fun _ => 0) 50)) = W at R1 R2 R3 R4 O ⊢
  go_loopw [6] (fun x wr => ∃ i : Nat, i ≤ 16 ∧ x = .int .i64 i ∧ Row wr w.heap.size 35 16 a ∧ Row wr (w.heap.size + 1) 35 16 b ∧ Row wr (w.heap.size + 1 + 1) 35 16 (fun _ => 0) ∧ Row wr (w.heap.size + 1 + 1 + 1) 50 32 (mp a b i) ∧ Below w.heap.size w wr) (fun x _ => 16 - (intOf x).toNat)
  case atStart => exact ⟨0, by omega, rfl, R1, R2, R3, R4, O⟩
  case round =>
    clear R1 R2 R3 R4 O
    obtain ⟨i, hi, rfl, R1, R2, R3, R4, O⟩ := hrel
    by_cases hlt : i < 16
    · go_wp2
      go_loopw [7] (fun y wq => ∃ k : Nat, k ≤ 16 ∧ y = .int .i64 k ∧ Row wq w.heap.size 35 16 a ∧ Row wq (w.heap.size + 1) 35 16 b ∧ Row wq (w.heap.size + 1 + 1) 35 16 (fun _ => 0) ∧ Row wq (w.heap.size + 1 + 1 + 1) 50 32 (mq a b i k) ∧ Below w.heap.size w wq) (fun y _ => 16 - (intOf y).toNat)
      case atStart => exact ⟨0, by omega, rfl, R1, R2, R3, R4.congr (fun j _ => (mq_zero a b i j).symm), O⟩
      case round =>
        clear R1 R2 R3 R4 O
        obtain ⟨k, hk, rfl, R1, R2, R3, R4, O⟩ := hrel
        by_cases hkl : k < 16
        · have c := R1.cell hlt
          have d := R2.cell hkl
          have e := R4.cell (i := i + k) (by omega)
          rw [mq_at] at e
          have f := R4.free
          have hp := dmul (ha i hlt) (hb k hkl)
          have hm := mp_bd ha hb (i + k) i hi
          have i1 : (0 : Int) ≤ (i : Int) := by omega
          have i2 : (i : Int) < 16 := by omega
          have k1 : (0 : Int) ≤ (k : Int) := by omega
          have k2 : (k : Int) < 16 := by omega
          obtain ⟨p0, p1⟩ := hp
          obtain ⟨m0, m1⟩ := hm
          have m2 : mp a b i (i + k) < 100000000000 := by omega
          clear m1
          go_wp2_with fail
          go_region
          go_wp2
          exact ⟨⟨k + 1, by omega, by go_num, rowD (R1.other (a := ⟨w.heap.size + 1 + 1 + 1, i + k, none⟩) (by simp <;> omega) _), rowD (R2.other (a := ⟨w.heap.size + 1 + 1 + 1, i + k, none⟩) (by simp <;> omega) _), rowD (R3.other (a := ⟨w.heap.size + 1 + 1 + 1, i + k, none⟩) (by simp) _), rowD ((R4.set (i + k) (mp a b i (i + k) + a i * b k)).congr (fun j _ => mq_next a b i k j)), (O.setCell (p := ⟨w.heap.size + 1 + 1 + 1, i + k, none⟩) (by simp <;> omega) _).drew⟩, by simp [intOf]; omega⟩
        · have hk' : k = 16 := by omega
          subst hk'
          go_wp2
          exact ⟨⟨i + 1, by omega, by go_num, R1, R2, R3, R4, O⟩, by simp [intOf]; omega⟩
    · have hi' : i = 16 := by omega
      subst hi'
      have HR := hide R4
      clear R4 R1 R2
      go_wp2_with (refine wpList_load_row rfl 50 _ rfl (w.heap.size + 1 + 1 + 1) rfl 50 (arr 32 (mp a b 16)) (0, 0) _ HR.out Try.underlying50 rfl (info50 _) ?_)
      try rw [show ∀ (a : Act) (v : Value), a.put none v = a from fun _ _ => rfl]
      refine (reduce_any (mp a b 16) _ (mp_48 ha hb)).mono ?_
      rintro _ w3 ⟨rfl, hb3⟩
      replace R3 := R3.keep hb3
      replace O := O.trans (hb3.mono O.size)
      clear hb3 HR
      rw [mp_S a b 16 (by omega)]
      have RR := hide (R3.setAll (d16 ((S a 16 * S b 16) % Pm)))
      have OO := hide (below_setCells (g := w.heap.size + 1 + 1) (by omega) (arr 16 (d16 ((S a 16 * S b 16) % Pm))).toList 0 O)
      go_wp2_with (refine wpList_store_mid rfl 35 _ _ rfl (w.heap.size + 1 + 1) 0 (arr 16 (d16 ((S a 16 * S b 16) % Pm))) rfl rfl (by rw [arr_size]; exact R3.there) (info35 _) (arr_one _ _) ?_)
      exact bodyPost_ret (v := .agg (arr 16 (d16 ((S a 16 * S b 16) % Pm)))) (results_cell_row Try.results35 _ _ (w.heap.size + 1 + 1) 35 (arr 16 (d16 ((S a 16 * S b 16) % Pm))) (0, 0) _ rfl RR.out Try.underlying35 rfl (info35 _)) rfl ⟨rfl, OO.out⟩

end Go.Proofs.Ytiiniodidkfbiaa
