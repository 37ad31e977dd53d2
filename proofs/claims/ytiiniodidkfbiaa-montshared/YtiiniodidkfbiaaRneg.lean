/- The contracts of the document's Neg and Sub. -/
import Derived.Test.YtiiniodidkfbiaaRadd
namespace Go.Proofs.Ytiiniodidkfbiaa
open Go.RowKit

theorem neg_zero {a : Nat → Int} (h : eqw a (fun _ => 0) 0 16 = true) : arr 16 (d16 ((- S a 16) % Pm)) = arr 16 a := by
  have hz := (eqw_iff a (fun _ => 0) 16 0).1 h
  have e : S a 16 = 0 := by rw [S_congr (g := fun _ => 0) fun i hi => hz i (by omega) (by omega), S_zero]
  rw [e]
  refine arr_congr fun i hi => ?_
  rw [hz i (by omega) (by omega)]
  simp [d16]

theorem neg_some {a : Nat → Int} (ha : Dig a 16) (hlt : S a 16 < Pm) (h : eqw a (fun _ => 0) 0 16 = false) : arr 16 (d16 ((- S a 16) % Pm)) = arr 16 (minusF pF a) := by
  have hm : S (minusF pF a) 16 = Pm - S a 16 := by rw [minus_le pF_dig ha (by rw [pF_S]; omega), pF_S]
  have h0 := (S_bd ha).1
  have hne : S a 16 ≠ 0 := by
    intro e
    have hz : ∀ i, i < 16 → a i = 0 := fun i hi => S_inj (f := a) (g := fun _ => 0) ha (fun _ _ => ⟨Int.le_refl 0, (by decide : (0 : Int) < 65536)⟩) (by rw [e, S_zero]) i hi
    have := (eqw_iff a (fun _ => 0) 16 0).2 fun i _ hi => hz i (by omega)
    rw [this] at h
    cases h
  exact fin_eq (minusF_dig pF a 16) (by rw [hm]; exact ⟨1, by omega⟩) (by rw [hm]; omega)

set_option maxRecDepth 100000 in
set_option maxHeartbeats 1000000 in
theorem rneg_any (a : Nat → Int) (w : World) (ha : Dig a 16) (hlt : S a 16 < Pm) :
    Calls Try.prog 52 #[.agg (arr 16 a)] w fun r w' => r = .returned (.agg (arr 16 (d16 ((- S a 16) % Pm)))) ∧ Below w.heap.size w w' := by
  have hgu : Try.prog.eqGuardType Try.prog.depth 35 = false := by kernel_rfl
  have he : ∀ w, (binOp .eql 35 (.agg (arr 16 a)) (.agg #[Value.int IntKind.u64 0, Value.int IntKind.u64 0, Value.int IntKind.u64 0, Value.int IntKind.u64 0, Value.int IntKind.u64 0, Value.int IntKind.u64 0, Value.int IntKind.u64 0, Value.int IntKind.u64 0, Value.int IntKind.u64 0, Value.int IntKind.u64 0, Value.int IntKind.u64 0, Value.int IntKind.u64 0, Value.int IntKind.u64 0, Value.int IntKind.u64 0, Value.int IntKind.u64 0, Value.int IntKind.u64 0])).run Try.prog w = .ok (.bool (eqw a (fun _ => 0) 0 16)) w := fun w => run_eql_words 35 16 a (fun _ => 0) w Try.underlying35
  have R1 : Row ((w.alloc (.cells (arr 16 a) 35)).alloc (.cells #[Value.int IntKind.u64 0, Value.int IntKind.u64 0, Value.int IntKind.u64 0, Value.int IntKind.u64 0, Value.int IntKind.u64 0, Value.int IntKind.u64 0, Value.int IntKind.u64 0, Value.int IntKind.u64 0, Value.int IntKind.u64 0, Value.int IntKind.u64 0, Value.int IntKind.u64 0, Value.int IntKind.u64 0, Value.int IntKind.u64 0, Value.int IntKind.u64 0, Value.int IntKind.u64 0, Value.int IntKind.u64 0] 35)) w.heap.size 35 16 a := (Row.new w 35 16 a).alloc _
  have R3 : Row ((w.alloc (.cells (arr 16 a) 35)).alloc (.cells #[Value.int IntKind.u64 0, Value.int IntKind.u64 0, Value.int IntKind.u64 0, Value.int IntKind.u64 0, Value.int IntKind.u64 0, Value.int IntKind.u64 0, Value.int IntKind.u64 0, Value.int IntKind.u64 0, Value.int IntKind.u64 0, Value.int IntKind.u64 0, Value.int IntKind.u64 0, Value.int IntKind.u64 0, Value.int IntKind.u64 0, Value.int IntKind.u64 0, Value.int IntKind.u64 0, Value.int IntKind.u64 0] 35)) (w.heap.size + 1) 35 16 (fun _ => 0) := Row.new' _ 35 16 (fun _ => 0) (by simp)
  have O : Below w.heap.size w ((w.alloc (.cells (arr 16 a) 35)).alloc (.cells #[Value.int IntKind.u64 0, Value.int IntKind.u64 0, Value.int IntKind.u64 0, Value.int IntKind.u64 0, Value.int IntKind.u64 0, Value.int IntKind.u64 0, Value.int IntKind.u64 0, Value.int IntKind.u64 0, Value.int IntKind.u64 0, Value.int IntKind.u64 0, Value.int IntKind.u64 0, Value.int IntKind.u64 0, Value.int IntKind.u64 0, Value.int IntKind.u64 0, Value.int IntKind.u64 0, Value.int IntKind.u64 0] 35)) := ((Below.refl _ _).alloc (Nat.le_refl _) _).alloc (by simp) _
  have H1 := hide R1
  have H3 := hide R3
  have H4 := hide O
  clear R1 R3 O
  cases hz : eqw a (fun _ => 0) 0 16
  · rw [hz] at he
    have HE := hide (neg_some ha hlt hz)
    clear hz
    go_enter Try.func52, Try.ntmps52
    go_wp2_with (refine wpList_load_row rfl 35 _ rfl w.heap.size rfl 35 (arr 16 a) (0, 0) _ H1.out Try.underlying35 rfl (info35 _) ?_)
    try rw [show ∀ (a : Act) (v : Value), a.put none v = a from fun _ _ => rfl]
    have R1 := H1.out
    have R3 := H3.out
    have O := H4.out
    clear H1 H3 H4
    generalize (w.alloc (.cells (arr 16 a) 35)).alloc (.cells #[Value.int IntKind.u64 0, Value.int IntKind.u64 0, Value.int IntKind.u64 0, Value.int IntKind.u64 0, Value.int IntKind.u64 0, Value.int IntKind.u64 0, Value.int IntKind.u64 0, Value.int IntKind.u64 0, Value.int IntKind.u64 0, Value.int IntKind.u64 0, Value.int IntKind.u64 0, Value.int IntKind.u64 0, Value.int IntKind.u64 0, Value.int IntKind.u64 0, Value.int IntKind.u64 0, Value.int IntKind.u64 0] 35) = W at *
    have hne := KW.some W
    have hg3 : ∀ w', (∃ s : KW W, w' = s.w) → w'.heap[w.heap.size]? = some (.cells (arr 16 a) 35 (0, 0)) := by
      rintro _ ⟨s, rfl⟩
      exact R1.keep s.keep
    have HG := hide hg3
    clear hg3 R1 he hgu
    refine wp_region_keep_tail 3 (by kernel_rfl) (by kernel_rfl) ?_
    simp only [List.take_succ_cons, List.take_zero, List.drop_succ_cons, List.drop_zero]
    go_big_quiet_step ((exact keep_of (prime_any _)))
    go_big_quiet_want
    refine quiet_load_row 35 _ rfl w.heap.size rfl 35 (arr 16 a) (0, 0) _ HG.out Try.underlying35 rfl (info35 _) ?_
    go_simp
    go_big_quiet_on
    go_big_quiet_step ((exact keep_of (minus_any pF a _ pF_dig ha)))
    refine wpQuiet_nil ?_
    intro s
    replace R3 := R3.keep s.keep
    replace O := O.trans (s.keep.mono O.size)
    generalize s.w = W8 at R3 O ⊢
    have RR := hide (R3.setAll (minusF pF a))
    have OO := hide (below_setCells (g := w.heap.size + 1) (by omega) (arr 16 (minusF pF a)).toList 0 O)
    clear HG hne
    go_wp2_with (refine wpList_store_mid rfl 35 _ _ rfl (w.heap.size + 1) 0 (arr 16 (minusF pF a)) rfl rfl (by rw [arr_size]; exact R3.there) (info35 _) (arr_one _ _) ?_)
    exact bodyPost_ret (v := .agg (arr 16 (minusF pF a))) (results_cell_row Try.results52 _ _ (w.heap.size + 1) 35 (arr 16 (minusF pF a)) (0, 0) _ rfl RR.out Try.underlying35 rfl (info35 _)) rfl ⟨by rw [HE.out], OO.out⟩
  · rw [hz] at he
    have HE := hide (neg_zero hz)
    clear hz
    have RR := hide (H3.out.setAll a)
    have OO := hide (below_setCells (g := w.heap.size + 1) (by omega) (arr 16 a).toList 0 H4.out)
    go_enter Try.func52, Try.ntmps52
    go_wp2_with (first | (refine wpList_load_row rfl 35 _ rfl w.heap.size rfl 35 (arr 16 a) (0, 0) _ H1.out Try.underlying35 rfl (info35 _) ?_) | (refine wpList_store_mid rfl 35 _ _ rfl (w.heap.size + 1) 0 (arr 16 a) rfl rfl (by rw [arr_size]; exact H3.out.there) (info35 _) (arr_one _ _) ?_))
    exact bodyPost_ret (v := .agg (arr 16 a)) (results_cell_row Try.results52 _ _ (w.heap.size + 1) 35 (arr 16 a) (0, 0) _ rfl RR.out Try.underlying35 rfl (info35 _)) rfl ⟨by rw [HE.out], OO.out⟩

theorem sub_val {a b : Nat → Int} : (S a 16 + S (d16 ((- S b 16) % Pm)) 16) % Pm = (S a 16 - S b 16) % Pm := by
  have h0 : 0 ≤ (- S b 16) % Pm := Int.emod_nonneg _ (by decide)
  have h1 : (- S b 16) % Pm < Pm := Int.emod_lt_of_pos _ (by decide)
  have hP : Pm < 65536 ^ 16 := by decide
  rw [d16_S _ h0, Int.emod_eq_of_lt h0 (by omega)]
  exact ((Cg.refl (S a 16)).add (cg_emod (- S b 16))).emod

set_option maxRecDepth 100000 in
set_option maxHeartbeats 1000000 in
theorem rsub_any (a b : Nat → Int) (w : World) (ha : Dig a 16) (hb : Dig b 16) (hlt : S b 16 < Pm) :
    Calls Try.prog 36 #[.agg (arr 16 a), .agg (arr 16 b)] w fun r w' => r = .returned (.agg (arr 16 (d16 ((S a 16 - S b 16) % Pm)))) ∧ Below w.heap.size w w' := by
  have hcall : ∀ w, Calls Try.prog 34 #[.agg (arr 16 a), .agg (arr 16 (d16 ((- S b 16) % Pm)))] w fun r w' => r = .returned (.agg (arr 16 (d16 ((S a 16 - S b 16) % Pm)))) ∧ Below w.heap.size w w' := fun w => by
    have := radd_any a (d16 ((- S b 16) % Pm)) w ha (d16_dig _ 16)
    rwa [sub_val] at this
  have HC := hide hcall
  clear hcall
  have R1 : Row (((w.alloc (.cells (arr 16 a) 35)).alloc (.cells (arr 16 b) 35)).alloc (.cells #[Value.int IntKind.u64 0, Value.int IntKind.u64 0, Value.int IntKind.u64 0, Value.int IntKind.u64 0, Value.int IntKind.u64 0, Value.int IntKind.u64 0, Value.int IntKind.u64 0, Value.int IntKind.u64 0, Value.int IntKind.u64 0, Value.int IntKind.u64 0, Value.int IntKind.u64 0, Value.int IntKind.u64 0, Value.int IntKind.u64 0, Value.int IntKind.u64 0, Value.int IntKind.u64 0, Value.int IntKind.u64 0] 35)) w.heap.size 35 16 a := ((Row.new w 35 16 a).alloc _).alloc _
  have R2 : Row (((w.alloc (.cells (arr 16 a) 35)).alloc (.cells (arr 16 b) 35)).alloc (.cells #[Value.int IntKind.u64 0, Value.int IntKind.u64 0, Value.int IntKind.u64 0, Value.int IntKind.u64 0, Value.int IntKind.u64 0, Value.int IntKind.u64 0, Value.int IntKind.u64 0, Value.int IntKind.u64 0, Value.int IntKind.u64 0, Value.int IntKind.u64 0, Value.int IntKind.u64 0, Value.int IntKind.u64 0, Value.int IntKind.u64 0, Value.int IntKind.u64 0, Value.int IntKind.u64 0, Value.int IntKind.u64 0] 35)) (w.heap.size + 1) 35 16 b := (Row.new' _ 35 16 _ (by simp)).alloc _
  have R3 : Row (((w.alloc (.cells (arr 16 a) 35)).alloc (.cells (arr 16 b) 35)).alloc (.cells #[Value.int IntKind.u64 0, Value.int IntKind.u64 0, Value.int IntKind.u64 0, Value.int IntKind.u64 0, Value.int IntKind.u64 0, Value.int IntKind.u64 0, Value.int IntKind.u64 0, Value.int IntKind.u64 0, Value.int IntKind.u64 0, Value.int IntKind.u64 0, Value.int IntKind.u64 0, Value.int IntKind.u64 0, Value.int IntKind.u64 0, Value.int IntKind.u64 0, Value.int IntKind.u64 0, Value.int IntKind.u64 0] 35)) (w.heap.size + 1 + 1) 35 16 (fun _ => 0) := Row.new' _ 35 16 (fun _ => 0) (by simp)
  have O : Below w.heap.size w (((w.alloc (.cells (arr 16 a) 35)).alloc (.cells (arr 16 b) 35)).alloc (.cells #[Value.int IntKind.u64 0, Value.int IntKind.u64 0, Value.int IntKind.u64 0, Value.int IntKind.u64 0, Value.int IntKind.u64 0, Value.int IntKind.u64 0, Value.int IntKind.u64 0, Value.int IntKind.u64 0, Value.int IntKind.u64 0, Value.int IntKind.u64 0, Value.int IntKind.u64 0, Value.int IntKind.u64 0, Value.int IntKind.u64 0, Value.int IntKind.u64 0, Value.int IntKind.u64 0, Value.int IntKind.u64 0] 35)) := (((Below.refl _ _).alloc (Nat.le_refl _) _).alloc (by simp) _).alloc (by simp; omega) _
  go_enter Try.func36, Try.ntmps36
  go_wp2_with fail
  generalize ((w.alloc (.cells (arr 16 a) 35)).alloc (.cells (arr 16 b) 35)).alloc (.cells #[Value.int IntKind.u64 0, Value.int IntKind.u64 0, Value.int IntKind.u64 0, Value.int IntKind.u64 0, Value.int IntKind.u64 0, Value.int IntKind.u64 0, Value.int IntKind.u64 0, Value.int IntKind.u64 0, Value.int IntKind.u64 0, Value.int IntKind.u64 0, Value.int IntKind.u64 0, Value.int IntKind.u64 0, Value.int IntKind.u64 0, Value.int IntKind.u64 0, Value.int IntKind.u64 0, Value.int IntKind.u64 0] 35) = W at *
  have hne := KW.some W
  have hg1 : ∀ w', (∃ s : KW W, w' = s.w) → w'.heap[w.heap.size]? = some (.cells (arr 16 a) 35 (0, 0)) := by
    rintro _ ⟨s, rfl⟩
    exact R1.keep s.keep
  have hg2 : ∀ w', (∃ s : KW W, w' = s.w) → w'.heap[w.heap.size + 1]? = some (.cells (arr 16 b) 35 (0, 0)) := by
    rintro _ ⟨s, rfl⟩
    exact R2.keep s.keep
  have HG1 := hide hg1
  have HG2 := hide hg2
  clear hg1 hg2 R1 R2
  refine wp_region_keep_tail 4 (by kernel_rfl) (by kernel_rfl) ?_
  simp only [List.take_succ_cons, List.take_zero, List.drop_succ_cons, List.drop_zero]
  go_big_quiet_want
  refine quiet_load_row 35 _ rfl w.heap.size rfl 35 (arr 16 a) (0, 0) _ HG1.out Try.underlying35 rfl (info35 _) ?_
  go_simp
  go_big_quiet_on
  go_big_quiet_want
  refine quiet_load_row 35 _ rfl (w.heap.size + 1) rfl 35 (arr 16 b) (0, 0) _ HG2.out Try.underlying35 rfl (info35 _) ?_
  go_simp
  go_big_quiet_on
  go_big_quiet_step ((exact keep_of (rneg_any b _ hb hlt)))
  go_big_quiet_step ((exact keep_of (HC.out _)))
  refine wpQuiet_nil ?_
  intro s
  replace R3 := R3.keep s.keep
  replace O := O.trans (s.keep.mono O.size)
  generalize s.w = W8 at R3 O ⊢
  have RR := hide (R3.setAll (d16 ((S a 16 - S b 16) % Pm)))
  have OO := hide (below_setCells (g := w.heap.size + 1 + 1) (by omega) (arr 16 (d16 ((S a 16 - S b 16) % Pm))).toList 0 O)
  clear HG1 HG2 hne HC
  go_wp2_with (refine wpList_store_mid rfl 35 _ _ rfl (w.heap.size + 1 + 1) 0 (arr 16 (d16 ((S a 16 - S b 16) % Pm))) rfl rfl (by rw [arr_size]; exact R3.there) (info35 _) (arr_one _ _) ?_)
  exact bodyPost_ret (v := .agg (arr 16 (d16 ((S a 16 - S b 16) % Pm)))) (results_cell_row Try.results36 _ _ (w.heap.size + 1 + 1) 35 (arr 16 (d16 ((S a 16 - S b 16) % Pm))) (0, 0) _ rfl RR.out Try.underlying35 rfl (info35 _)) rfl ⟨rfl, OO.out⟩

end Go.Proofs.Ytiiniodidkfbiaa
