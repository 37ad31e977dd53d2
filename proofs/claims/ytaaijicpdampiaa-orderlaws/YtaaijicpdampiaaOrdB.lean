/- The contracts of plus and minus. -/
import Derived.Test.YtaaijicpdampiaaOrdA
import Derived.Test.YtaaijicpdampiaaSteps
import Derived.Deep.RegionWith
namespace Go.Proofs.Ytaaijicpdampiaa
open Go.RowKit


set_option maxRecDepth 100000 in
set_option maxHeartbeats 1000000 in
theorem plus_any (f g : Nat → Int) (w : World) (hf : Wds f 4) (hg : Wds g 4) :
    Calls Try.prog 34 #[.agg (arr 4 f), .agg (arr 4 g)] w fun r w' => r = .returned (.tuple #[.agg (arr 4 (ps f g)), .int .u64 (pc f g 4)]) ∧ Below w.heap.size w w' := by
  go_enter Try.func34, Try.ntmps34
  go_wp2
  rw [show #[Value.int IntKind.u64 0, Value.int IntKind.u64 0, Value.int IntKind.u64 0, Value.int IntKind.u64 0] = arr 4 (fun _ => 0) from rfl]
  have R1 : Row (((w.alloc (.cells (arr 4 f) 25)).alloc (.cells (arr 4 g) 25)).alloc (.cells (arr 4 fun _ => 0) 25)) w.heap.size 25 4 f := ((Row.new w 25 4 f).alloc _).alloc _
  have R2 : Row (((w.alloc (.cells (arr 4 f) 25)).alloc (.cells (arr 4 g) 25)).alloc (.cells (arr 4 fun _ => 0) 25)) (w.heap.size + 1) 25 4 g := (Row.new' _ 25 4 _ (by simp)).alloc _
  have R3 : Row (((w.alloc (.cells (arr 4 f) 25)).alloc (.cells (arr 4 g) 25)).alloc (.cells (arr 4 fun _ => 0) 25)) (w.heap.size + 1 + 1) 25 4 (fun _ => 0) := Row.new' _ 25 4 _ (by simp)
  have O : Below w.heap.size w (((w.alloc (.cells (arr 4 f) 25)).alloc (.cells (arr 4 g) 25)).alloc (.cells (arr 4 fun _ => 0) 25)) := (((Below.refl _ _).alloc (Nat.le_refl _) _).alloc (by simp) _).alloc (by simp; omega) _
  generalize (((w.alloc (.cells (arr 4 f) 25)).alloc (.cells (arr 4 g) 25)).alloc (.cells (arr 4 fun _ => 0) 25)) = W at R1 R2 R3 O ⊢
  go_loopw [6, 8] (fun c i wr => ∃ k : Nat, k ≤ 4 ∧ c = .int .u64 (pc f g k) ∧ i = .int .i64 k ∧ Row wr w.heap.size 25 4 (upto k (ps f g) f) ∧ Row wr (w.heap.size + 1) 25 4 g ∧ Row wr (w.heap.size + 1 + 1) 25 4 (fun _ => 0) ∧ Below w.heap.size w wr) (fun _ i _ => 4 - (intOf i).toNat)
  case atStart => exact ⟨0, by omega, rfl, rfl, R1.congr (fun i _ => upto_zero _ _ i), R2, R3, O⟩
  case round =>
    clear R1 R2 R3 O
    obtain ⟨k, hk, rfl, rfl, R1, R2, R3, O⟩ := hrel
    by_cases hlt : k < 4
    · have c := R1.cell (i := k) hlt
      rw [upto_at] at c
      have d := R2.cell hlt
      have e := R1.free
      have i1 : (0 : Int) ≤ (k : Int) := by omega
      have i2 : (k : Int) < 4 := by omega
      have hb := pc_bd hf hg k hk
      have hr := add64_run (f k) (g k) (pc f g k) (hf k hlt).1 (hg k hlt).1 hb.1 hb.2
      have HN := hide (show pc f g (k + 1) = (f k + g k + pc f g k) / 18446744073709551616 from rfl)
      have HM := hide (show ps f g k = (f k + g k + pc f g k) % 18446744073709551616 from rfl)
      go_wp2_with fail
      go_region_with fail
      all_goals
        go_wp2
        exact ⟨⟨k + 1, by omega, by rw [HN.out], by go_num, rowD ((R1.set k ((f k + g k + pc f g k) % 18446744073709551616)).congr (fun i _ => upto_next k _ _ HM.out i)), rowD (R2.other (a := ⟨w.heap.size, k, none⟩) (by simp) _), rowD (R3.other (a := ⟨w.heap.size, k, none⟩) (by simp <;> omega) _), (O.setCell (p := ⟨w.heap.size, k, none⟩) (Nat.le_refl _) _).drew⟩, by simp [intOf]; omega⟩
    · have hk' : k = 4 := by omega
      subst hk'
      replace R1 := R1.congr (f' := ps f g) (fun i hi => upto_end _ _ i hi)
      have RR := hide (R3.setAll (ps f g))
      have OO := hide (below_setCells (g := w.heap.size + 1 + 1) (by omega) (arr 4 (ps f g)).toList 0 O)
      have HX := hide R1
      clear R1 R2 O
      go_wp2_with (first | (refine wpList_load_row rfl 25 _ rfl w.heap.size rfl 25 (arr 4 (ps f g)) (0, 0) _ ?hgplus Try.underlying25 rfl (info25 _) ?_) | (refine wpList_store_mid rfl 25 _ _ rfl (w.heap.size + 1 + 1) 0 (arr 4 (ps f g)) rfl rfl ?thplus (info25 _) (arr_one _ _) ?_))
      case hgplus => exact HX.out
      case thplus => rw [arr_size]; exact R3.there
      exact bodyPost_ret (v := .tuple #[.agg (arr 4 (ps f g)), .int .u64 (pc f g 4)]) (results_cell_tmp Try.results34 _ _ (w.heap.size + 1 + 1) 25 (arr 4 (ps f g)) (0, 0) _ (.int .u64 (pc f g 4)) rfl rfl RR.out Try.underlying25 rfl (info25 _)) rfl ⟨rfl, OO.out⟩

set_option maxRecDepth 100000 in
set_option maxHeartbeats 1000000 in
theorem minus_any (f g : Nat → Int) (w : World) (hf : Wds f 4) (hg : Wds g 4) :
    Calls Try.prog 28 #[.agg (arr 4 f), .agg (arr 4 g)] w fun r w' => r = .returned (.tuple #[.agg (arr 4 (ms f g)), .int .u64 (br f g 4)]) ∧ Below w.heap.size w w' := by
  go_enter Try.func28, Try.ntmps28
  go_wp2
  rw [show #[Value.int IntKind.u64 0, Value.int IntKind.u64 0, Value.int IntKind.u64 0, Value.int IntKind.u64 0] = arr 4 (fun _ => 0) from rfl]
  have R1 : Row (((w.alloc (.cells (arr 4 f) 25)).alloc (.cells (arr 4 g) 25)).alloc (.cells (arr 4 fun _ => 0) 25)) w.heap.size 25 4 f := ((Row.new w 25 4 f).alloc _).alloc _
  have R2 : Row (((w.alloc (.cells (arr 4 f) 25)).alloc (.cells (arr 4 g) 25)).alloc (.cells (arr 4 fun _ => 0) 25)) (w.heap.size + 1) 25 4 g := (Row.new' _ 25 4 _ (by simp)).alloc _
  have R3 : Row (((w.alloc (.cells (arr 4 f) 25)).alloc (.cells (arr 4 g) 25)).alloc (.cells (arr 4 fun _ => 0) 25)) (w.heap.size + 1 + 1) 25 4 (fun _ => 0) := Row.new' _ 25 4 _ (by simp)
  have O : Below w.heap.size w (((w.alloc (.cells (arr 4 f) 25)).alloc (.cells (arr 4 g) 25)).alloc (.cells (arr 4 fun _ => 0) 25)) := (((Below.refl _ _).alloc (Nat.le_refl _) _).alloc (by simp) _).alloc (by simp; omega) _
  generalize (((w.alloc (.cells (arr 4 f) 25)).alloc (.cells (arr 4 g) 25)).alloc (.cells (arr 4 fun _ => 0) 25)) = W at R1 R2 R3 O ⊢
  go_loopw [6, 8] (fun c i wr => ∃ k : Nat, k ≤ 4 ∧ c = .int .u64 (br f g k) ∧ i = .int .i64 k ∧ Row wr w.heap.size 25 4 (upto k (ms f g) f) ∧ Row wr (w.heap.size + 1) 25 4 g ∧ Row wr (w.heap.size + 1 + 1) 25 4 (fun _ => 0) ∧ Below w.heap.size w wr) (fun _ i _ => 4 - (intOf i).toNat)
  case atStart => exact ⟨0, by omega, rfl, rfl, R1.congr (fun i _ => upto_zero _ _ i), R2, R3, O⟩
  case round =>
    clear R1 R2 R3 O
    obtain ⟨k, hk, rfl, rfl, R1, R2, R3, O⟩ := hrel
    by_cases hlt : k < 4
    · have c := R1.cell (i := k) hlt
      rw [upto_at] at c
      have d := R2.cell hlt
      have e := R1.free
      have i1 : (0 : Int) ≤ (k : Int) := by omega
      have i2 : (k : Int) < 4 := by omega
      have hb := br_bd f g k
      have hr := sub64_run (f k) (g k) (br f g k) (hf k hlt) (hg k hlt) hb.1 hb.2
      have HN := hide (show br f g (k + 1) = if f k < g k + br f g k then 1 else 0 from rfl)
      have HM := hide (show ms f g k = (f k - g k - br f g k) % 18446744073709551616 from rfl)
      go_wp2_with fail
      go_region_with fail
      all_goals
        go_wp2
        exact ⟨⟨k + 1, by omega, by rw [HN.out], by go_num, rowD ((R1.set k ((f k - g k - br f g k) % 18446744073709551616)).congr (fun i _ => upto_next k _ _ HM.out i)), rowD (R2.other (a := ⟨w.heap.size, k, none⟩) (by simp) _), rowD (R3.other (a := ⟨w.heap.size, k, none⟩) (by simp <;> omega) _), (O.setCell (p := ⟨w.heap.size, k, none⟩) (Nat.le_refl _) _).drew⟩, by simp [intOf]; omega⟩
    · have hk' : k = 4 := by omega
      subst hk'
      replace R1 := R1.congr (f' := ms f g) (fun i hi => upto_end _ _ i hi)
      have RR := hide (R3.setAll (ms f g))
      have OO := hide (below_setCells (g := w.heap.size + 1 + 1) (by omega) (arr 4 (ms f g)).toList 0 O)
      have HX := hide R1
      clear R1 R2 O
      go_wp2_with (first | (refine wpList_load_row rfl 25 _ rfl w.heap.size rfl 25 (arr 4 (ms f g)) (0, 0) _ ?hgminus Try.underlying25 rfl (info25 _) ?_) | (refine wpList_store_mid rfl 25 _ _ rfl (w.heap.size + 1 + 1) 0 (arr 4 (ms f g)) rfl rfl ?thminus (info25 _) (arr_one _ _) ?_))
      case hgminus => exact HX.out
      case thminus => rw [arr_size]; exact R3.there
      exact bodyPost_ret (v := .tuple #[.agg (arr 4 (ms f g)), .int .u64 (br f g 4)]) (results_cell_tmp Try.results28 _ _ (w.heap.size + 1 + 1) 25 (arr 4 (ms f g)) (0, 0) _ (.int .u64 (br f g 4)) rfl rfl RR.out Try.underlying25 rfl (info25 _)) rfl ⟨rfl, OO.out⟩

end Go.Proofs.Ytaaijicpdampiaa
