/- The contract of the document's Neg. -/
import Derived.Test.YtaaijicpdampiaaOrdK
namespace Go.Proofs.Ytaaijicpdampiaa
open Go.RowKit

theorem neg_zero {a : Nat → Int} (h : eqw a (fun _ => 0) 0 16 = true) : arr 16 (d16 ((- S a 16) % Lm)) = arr 16 a := by
  have hz := (eqw_iff a (fun _ => 0) 16 0).1 h
  have e : S a 16 = 0 := by rw [S_congr (g := fun _ => 0) fun i hi => hz i (by omega) (by omega), S_zero]
  rw [e]
  refine arr_congr fun i hi => ?_
  rw [hz i (by omega) (by omega)]
  simp [d16]

theorem neg_some {a : Nat → Int} (ha : Dig a 16) (hlt : S a 16 < Lm) (h : eqw a (fun _ => 0) 0 16 = false) : arr 16 (d16 ((- S a 16) % Lm)) = arr 16 (minusF oF a) := by
  have hm : S (minusF oF a) 16 = Lm - S a 16 := by rw [minus_le oF_dig ha (by rw [oF_S]; omega), oF_S]
  have h0 := (S_bd ha).1
  have hne : S a 16 ≠ 0 := by
    intro e
    have hz : ∀ i, i < 16 → a i = 0 := fun i hi => S_inj (f := a) (g := fun _ => 0) ha (fun _ _ => ⟨Int.le_refl 0, (by decide : (0 : Int) < 65536)⟩) (by rw [e, S_zero]) i hi
    have := (eqw_iff a (fun _ => 0) 16 0).2 fun i _ hi => hz i (by omega)
    rw [this] at h
    cases h
  have e : (- S a 16) % Lm = Lm - S a 16 := by
    have e2 : (- S a 16) % Lm = (- S a 16 + Lm) % Lm := by rw [Int.add_emod_right]
    rw [e2, Int.emod_eq_of_lt (by omega) (by omega)]
    omega
  have hL := L16
  refine arr_congr (S_inj (d16_dig _ 16) (minusF_dig oF a 16) ?_)
  rw [e, dSL (by omega) (by omega), hm]

set_option maxRecDepth 100000 in
set_option maxHeartbeats 1000000 in
theorem rneg_any (a : Nat → Int) (w : World) (ha : Dig a 16) (hlt : S a 16 < Lm) :
    Calls Try.prog 21 #[.agg (arr 16 a)] w fun r w' => r = .returned (.agg (arr 16 (d16 ((- S a 16) % Lm)))) ∧ Below w.heap.size w w' := by
  have hgu : Try.prog.eqGuardType Try.prog.depth 38 = false := by kernel_rfl
  have he : ∀ w, (binOp .eql 38 (.agg (arr 16 a)) (.agg #[Value.int IntKind.u64 0, Value.int IntKind.u64 0, Value.int IntKind.u64 0, Value.int IntKind.u64 0, Value.int IntKind.u64 0, Value.int IntKind.u64 0, Value.int IntKind.u64 0, Value.int IntKind.u64 0, Value.int IntKind.u64 0, Value.int IntKind.u64 0, Value.int IntKind.u64 0, Value.int IntKind.u64 0, Value.int IntKind.u64 0, Value.int IntKind.u64 0, Value.int IntKind.u64 0, Value.int IntKind.u64 0])).run Try.prog w = .ok (.bool (eqw a (fun _ => 0) 0 16)) w := fun w => run_eql_words 38 16 a (fun _ => 0) w Try.underlying38
  have R1 : Row ((w.alloc (.cells (arr 16 a) 38)).alloc (.cells #[Value.int IntKind.u64 0, Value.int IntKind.u64 0, Value.int IntKind.u64 0, Value.int IntKind.u64 0, Value.int IntKind.u64 0, Value.int IntKind.u64 0, Value.int IntKind.u64 0, Value.int IntKind.u64 0, Value.int IntKind.u64 0, Value.int IntKind.u64 0, Value.int IntKind.u64 0, Value.int IntKind.u64 0, Value.int IntKind.u64 0, Value.int IntKind.u64 0, Value.int IntKind.u64 0, Value.int IntKind.u64 0] 38)) w.heap.size 38 16 a := (Row.new w 38 16 a).alloc _
  have R3 : Row ((w.alloc (.cells (arr 16 a) 38)).alloc (.cells #[Value.int IntKind.u64 0, Value.int IntKind.u64 0, Value.int IntKind.u64 0, Value.int IntKind.u64 0, Value.int IntKind.u64 0, Value.int IntKind.u64 0, Value.int IntKind.u64 0, Value.int IntKind.u64 0, Value.int IntKind.u64 0, Value.int IntKind.u64 0, Value.int IntKind.u64 0, Value.int IntKind.u64 0, Value.int IntKind.u64 0, Value.int IntKind.u64 0, Value.int IntKind.u64 0, Value.int IntKind.u64 0] 38)) (w.heap.size + 1) 38 16 (fun _ => 0) := Row.new' _ 38 16 (fun _ => 0) (by simp)
  have O : Below w.heap.size w ((w.alloc (.cells (arr 16 a) 38)).alloc (.cells #[Value.int IntKind.u64 0, Value.int IntKind.u64 0, Value.int IntKind.u64 0, Value.int IntKind.u64 0, Value.int IntKind.u64 0, Value.int IntKind.u64 0, Value.int IntKind.u64 0, Value.int IntKind.u64 0, Value.int IntKind.u64 0, Value.int IntKind.u64 0, Value.int IntKind.u64 0, Value.int IntKind.u64 0, Value.int IntKind.u64 0, Value.int IntKind.u64 0, Value.int IntKind.u64 0, Value.int IntKind.u64 0] 38)) := ((Below.refl _ _).alloc (Nat.le_refl _) _).alloc (by simp) _
  have H1 := hide R1
  have H3 := hide R3
  have H4 := hide O
  clear R1 R3 O
  cases hz : eqw a (fun _ => 0) 0 16
  · rw [hz] at he
    have HE := hide (neg_some ha hlt hz)
    clear hz
    go_enter Try.func21, Try.ntmps21
    go_wp2_with (refine wpList_load_row rfl 38 _ rfl w.heap.size rfl 38 (arr 16 a) (0, 0) _ H1.out Try.underlying38 rfl (info38 _) ?_)
    try rw [show ∀ (a : Act) (v : Value), a.put none v = a from fun _ _ => rfl]
    have R1 := H1.out
    have R3 := H3.out
    have O := H4.out
    clear H1 H3 H4
    generalize (w.alloc (.cells (arr 16 a) 38)).alloc (.cells #[Value.int IntKind.u64 0, Value.int IntKind.u64 0, Value.int IntKind.u64 0, Value.int IntKind.u64 0, Value.int IntKind.u64 0, Value.int IntKind.u64 0, Value.int IntKind.u64 0, Value.int IntKind.u64 0, Value.int IntKind.u64 0, Value.int IntKind.u64 0, Value.int IntKind.u64 0, Value.int IntKind.u64 0, Value.int IntKind.u64 0, Value.int IntKind.u64 0, Value.int IntKind.u64 0, Value.int IntKind.u64 0] 38) = W at *
    have hne := KW.some W
    have hg3 : ∀ w', (∃ s : KW W, w' = s.w) → w'.heap[w.heap.size]? = some (.cells (arr 16 a) 38 (0, 0)) := by
      rintro _ ⟨s, rfl⟩
      exact R1.keep s.keep
    have HG := hide hg3
    clear hg3 R1 he hgu
    refine wp_region_keep_tail 3 (by kernel_rfl) (by kernel_rfl) ?_
    simp only [List.take_succ_cons, List.take_zero, List.drop_succ_cons, List.drop_zero]
    go_big_quiet_step ((exact keep_of (order_any _)))
    go_big_quiet_want
    refine quiet_load_row 38 _ rfl w.heap.size rfl 38 (arr 16 a) (0, 0) _ HG.out Try.underlying38 rfl (info38 _) ?_
    go_simp
    go_big_quiet_on
    go_big_quiet_step ((exact keep_of (rminus_any oF a _ oF_dig ha)))
    refine wpQuiet_nil ?_
    intro s
    replace R3 := R3.keep s.keep
    replace O := O.trans (s.keep.mono O.size)
    generalize s.w = W8 at R3 O ⊢
    have RR := hide (R3.setAll (minusF oF a))
    have OO := hide (below_setCells (g := w.heap.size + 1) (by omega) (arr 16 (minusF oF a)).toList 0 O)
    clear HG hne
    go_wp2_with (refine wpList_store_mid rfl 38 _ _ rfl (w.heap.size + 1) 0 (arr 16 (minusF oF a)) rfl rfl (by rw [arr_size]; exact R3.there) (info38 _) (arr_one _ _) ?_)
    exact bodyPost_ret (v := .agg (arr 16 (minusF oF a))) (results_cell_row Try.results21 _ _ (w.heap.size + 1) 38 (arr 16 (minusF oF a)) (0, 0) _ rfl RR.out Try.underlying38 rfl (info38 _)) rfl ⟨by rw [HE.out], OO.out⟩
  · rw [hz] at he
    have HE := hide (neg_zero hz)
    clear hz
    have RR := hide (H3.out.setAll a)
    have OO := hide (below_setCells (g := w.heap.size + 1) (by omega) (arr 16 a).toList 0 H4.out)
    go_enter Try.func21, Try.ntmps21
    go_wp2_with (first | (refine wpList_load_row rfl 38 _ rfl w.heap.size rfl 38 (arr 16 a) (0, 0) _ H1.out Try.underlying38 rfl (info38 _) ?_) | (refine wpList_store_mid rfl 38 _ _ rfl (w.heap.size + 1) 0 (arr 16 a) rfl rfl (by rw [arr_size]; exact H3.out.there) (info38 _) (arr_one _ _) ?_))
    exact bodyPost_ret (v := .agg (arr 16 a)) (results_cell_row Try.results21 _ _ (w.heap.size + 1) 38 (arr 16 a) (0, 0) _ rfl RR.out Try.underlying38 rfl (info38 _)) rfl ⟨by rw [HE.out], OO.out⟩

end Go.Proofs.Ytaaijicpdampiaa
