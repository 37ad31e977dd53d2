/- The contracts of the scalars' Mul, Same and Bytes. -/
import Derived.Test.YtaaijicpdampiaaOrdH
import Derived.Test.YtaaijicpdampiaaText
import Derived.Test.YtaaijicpdampiaaEql
namespace Go.Proofs.Ytaaijicpdampiaa
open Go.RowKit

theorem prod_Q {M N : Int} (hM : 0 ≤ M ∧ M < Lm) (hN : 0 ≤ N ∧ N < Lm) : Q (d64 (M * N)) 8 = M * N := by
  have h0 : 0 ≤ M * N := Int.mul_nonneg hM.1 hN.1
  have h1 : M * N ≤ Lm * Lm := Int.mul_le_mul (by omega) (by omega) hN.1 (by decide)
  have h2 : Lm * Lm < 18446744073709551616 ^ 8 := by decide
  rw [d64_Q _ h0, Int.emod_eq_of_lt h0 (by omega)]

set_option maxRecDepth 100000 in
set_option maxHeartbeats 1000000 in
theorem mul_any (M N : Int) (w : World) (hM : 0 ≤ M ∧ M < Lm) (hN : 0 ≤ N ∧ N < Lm) :
    Calls Try.prog 18 #[.agg (arr 4 (d64 M)), .agg (arr 4 (d64 N))] w fun x w' => x = .returned (.agg (arr 4 (d64 (M * N % Lm)))) ∧ Below w.heap.size w w' := by
  have C1 : Hid (∀ w, Calls Try.prog 37 #[.agg (arr 4 (d64 M)), .agg (arr 4 (d64 N))] w fun x w' => x = .returned (.agg (arr 8 (d64 (M * N)))) ∧ Below w.heap.size w w') := hide fun w => by
    have := times_any (d64 M) (d64 N) w (d64_wds _ 4) (d64_wds _ 4)
    rwa [dQ hM, dQ hN] at this
  have C2 : Hid (∀ w, Calls Try.prog 26 #[.agg (arr 8 (d64 (M * N)))] w fun x w' => x = .returned (.agg (arr 4 (d64 (M * N % Lm)))) ∧ Below w.heap.size w w') := hide fun w => by
    have := modulo_any (d64 (M * N)) w (d64_wds _ 8)
    rwa [prod_Q hM hN] at this
  have R1 : Row (((w.alloc (.cells (arr 4 (d64 M)) 27)).alloc (.cells (arr 4 (d64 N)) 27)).alloc (.cells (arr 4 fun _ => 0) 27)) w.heap.size 27 4 (d64 M) := ((Row.new w 27 4 _).alloc _).alloc _
  have R2 : Row (((w.alloc (.cells (arr 4 (d64 M)) 27)).alloc (.cells (arr 4 (d64 N)) 27)).alloc (.cells (arr 4 fun _ => 0) 27)) (w.heap.size + 1) 27 4 (d64 N) := (Row.new' _ 27 4 _ (by simp)).alloc _
  have R3 : Row (((w.alloc (.cells (arr 4 (d64 M)) 27)).alloc (.cells (arr 4 (d64 N)) 27)).alloc (.cells (arr 4 fun _ => 0) 27)) (w.heap.size + 1 + 1) 27 4 (fun _ => 0) := Row.new' _ 27 4 _ (by simp)
  have O : Below w.heap.size w (((w.alloc (.cells (arr 4 (d64 M)) 27)).alloc (.cells (arr 4 (d64 N)) 27)).alloc (.cells (arr 4 fun _ => 0) 27)) := (((Below.refl _ _).alloc (Nat.le_refl _) _).alloc (by simp) _).alloc (by simp; omega) _
  have HR := hide (And.intro R1 (And.intro R2 (And.intro R3 O)))
  clear R1 R2 R3 O
  generalize d64 (M * N) = p at *
  generalize M * N % Lm = V at *
  go_enter Try.func18, Try.ntmps18
  go_wp2_with (first | (refine wpList_load_row rfl 25 _ rfl w.heap.size rfl 27 (arr 4 (d64 M)) (0, 0) _ HR.out.1 Try.underlying25 rfl (info25 _) ?_) | (refine wpList_load_row rfl 25 _ rfl (w.heap.size + 1) rfl 27 (arr 4 (d64 N)) (0, 0) _ HR.out.2.1 Try.underlying25 rfl (info25 _) ?_))
  refine (C1.out _).mono ?_
  rintro _ w1 ⟨rfl, hb1⟩
  have R3 := HR.out.2.2.1.keep hb1
  have O := HR.out.2.2.2.trans (hb1.mono HR.out.2.2.2.size)
  clear hb1 HR
  go_wp2_with fail
  refine (C2.out _).mono ?_
  rintro _ w2 ⟨rfl, hb2⟩
  replace R3 := R3.keep hb2
  replace O := O.trans (hb2.mono O.size)
  clear hb2
  have RR := hide (R3.setAll (d64 V))
  have OO := hide (below_setCells (g := w.heap.size + 1 + 1) (by omega) (arr 4 (d64 V)).toList 0 O)
  clear O
  go_wp2_with (refine wpList_store_mid rfl 27 _ _ rfl (w.heap.size + 1 + 1) 0 (arr 4 (d64 V)) rfl rfl ?thn (info27 _) (arr_one _ _) ?_)
  case thn => rw [arr_size]; exact R3.there
  exact bodyPost_ret (v := .agg (arr 4 (d64 V))) (results_cell_row Try.results18 _ _ (w.heap.size + 1 + 1) 27 (arr 4 (d64 V)) (0, 0) _ rfl RR.out Try.underlying27 rfl (info27 _)) rfl ⟨rfl, OO.out⟩

theorem leb_d64 (N : Int) : lebytes N = bs (digs (d64 N 0) ++ digs (d64 N 1) ++ digs (d64 N 2) ++ digs (d64 N 3)) := by
  have e0 : d64 N 0 = N % 18446744073709551616 := by simp [d64]
  have e1 : d64 N 1 = N / 18446744073709551616 % 18446744073709551616 := by simp [d64]
  have e2 : d64 N 2 = N / 340282366920938463463374607431768211456 % 18446744073709551616 := by simp [d64]
  have e3 : d64 N 3 = N / 6277101735386680763835789423207666416102355444464034512896 % 18446744073709551616 := by simp [d64]
  rw [e0, e1, e2, e3]
  rfl

set_option maxRecDepth 100000 in
set_option maxHeartbeats 1000000 in
theorem bytes_any (N : Int) (w : World) :
    Calls Try.prog 22 #[.agg (arr 4 (d64 N))] w fun x w' => x = .returned (.string (lebytes N)) ∧ Below w.heap.size w w' := by
  have C1 : Hid (∀ w, Calls Try.prog 38 #[.agg (arr 4 (d64 N))] w fun x w' => x = .returned (.string (lebytes N)) ∧ Below w.heap.size w w') := hide fun w => by
    rw [leb_d64]
    exact text_any (d64 N 0) (d64 N 1) (d64 N 2) (d64 N 3) w
  have HR := hide (And.intro (Row.new w 27 4 (d64 N)) (new_below w (.cells (arr 4 (d64 N)) 27)))
  generalize lebytes N = B at *
  go_enter Try.func22, Try.ntmps22
  go_wp2_with (refine wpList_load_row rfl 25 _ rfl w.heap.size rfl 27 (arr 4 (d64 N)) (0, 0) _ HR.out.1 Try.underlying25 rfl (info25 _) ?_)
  refine (C1.out _).mono ?_
  rintro _ w1 ⟨rfl, hb1⟩
  have O := HR.out.2.trans (hb1.mono HR.out.2.size)
  clear hb1 HR
  go_wp2
  go_ret
  exact ⟨rfl, O⟩

theorem same_val {M N : Int} (hM : 0 ≤ M ∧ M < Lm) (hN : 0 ≤ N ∧ N < Lm) : eqw (d64 M) (d64 N) 0 4 = (M == N) := by
  rw [Bool.eq_iff_iff, eqw_iff, beq_iff_eq]
  constructor
  · intro h
    rw [← dQ hM, ← dQ hN]
    exact Q_congr fun i hi => h i (by omega) (by omega)
  · intro h i _ _
    rw [h]

set_option maxRecDepth 100000 in
set_option maxHeartbeats 1000000 in
theorem same_any (M N : Int) (w : World) (hM : 0 ≤ M ∧ M < Lm) (hN : 0 ≤ N ∧ N < Lm) :
    Calls Try.prog 12 #[.agg (arr 4 (d64 M)), .agg (arr 4 (d64 N))] w fun x w' => x = .returned (.bool (M == N)) ∧ Below w.heap.size w w' := by
  have hgu : Try.prog.eqGuardType Try.prog.depth 25 = false := by kernel_rfl
  have he := fun w => run_eql_words 25 4 (d64 M) (d64 N) w Try.underlying25
  rw [same_val hM hN] at he
  have R1 : Row ((w.alloc (.cells (arr 4 (d64 M)) 27)).alloc (.cells (arr 4 (d64 N)) 27)) w.heap.size 27 4 (d64 M) := (Row.new w 27 4 _).alloc _
  have R2 : Row ((w.alloc (.cells (arr 4 (d64 M)) 27)).alloc (.cells (arr 4 (d64 N)) 27)) (w.heap.size + 1) 27 4 (d64 N) := Row.new' _ 27 4 _ (by simp)
  have O : Below w.heap.size w ((w.alloc (.cells (arr 4 (d64 M)) 27)).alloc (.cells (arr 4 (d64 N)) 27)) := ((Below.refl _ _).alloc (Nat.le_refl _) _).alloc (by simp) _
  have HR := hide (And.intro R1 (And.intro R2 O))
  clear R1 R2 O
  go_enter Try.func12, Try.ntmps12
  go_wp2_with (first | (refine wpList_load_row rfl 25 _ rfl w.heap.size rfl 27 (arr 4 (d64 M)) (0, 0) _ HR.out.1 Try.underlying25 rfl (info25 _) ?_) | (refine wpList_load_row rfl 25 _ rfl (w.heap.size + 1) rfl 27 (arr 4 (d64 N)) (0, 0) _ HR.out.2.1 Try.underlying25 rfl (info25 _) ?_))
  go_ret
  exact ⟨rfl, HR.out.2.2⟩

end Go.Proofs.Ytaaijicpdampiaa
