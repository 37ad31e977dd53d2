/- Part 2 of the walks and facts behind edwLaws_holds. -/
import Derived.Test.YtkeocdebfgcnnaaGreatCl1
import Derived.Deep.LoopGhost
import Derived.Laws.IdiomStrings
import Derived.Laws.StructEq
import Derived.LoopN
import Derived.Test.YtkeocdebfgcnnaaGreatRows
/- The contract of the document's reduce: the number modulo the prime, in 16 digits. -/
namespace Go.Proofs.YtkeocdebfgcnnaaGreat
open Go.RowKit

/-- The first k places have been carried. -/
def ps (t : Nat → Int) (k : Nat) : Nat → Int := fun i => if i < k then lo t i else t i
/-- Of the upper places the first k have come round. -/
def fs (u : Nat → Int) (k : Nat) : Nat → Int := fun i => if i < k then u i + 38 * u (16 + i) else if 16 ≤ i ∧ i < 16 + k then 0 else u i

theorem fs_step (u : Nat → Int) (m i : Nat) (hm : m < 16) (hi : i < 32) : upd (upd (fs u m) m (u m + 38 * u (16 + m))) (16 + m) 0 i = fs u (m + 1) i := by
  unfold upd fs
  repeat' split
  all_goals first | omega | (have e : i = m := by omega
                             subst e
                             omega)

theorem fs_last (t : Nat → Int) (i : Nat) (hi : i < 32) : upd (fs (lo t) 16) 0 (lo t 0 + 38 * lo t 16 + 1444 * cf t 32) i = T1 t i := by
  unfold T1 upd fs foldF
  by_cases h1 : i = 0
  · simp [h1]
  · rw [if_neg h1, if_neg h1]
    by_cases h2 : i < 16
    · rw [if_pos h2, if_pos h2]
    · rw [if_neg h2, if_neg h2, if_pos (by omega)]

theorem rowD {w : World} {g : Nat} {T : TypeId} {n : Nat} {f : Nat → Int} (h : Row w g T n f) : Row w.drew g T n f := h

theorem fin_eq {u : Nat → Int} {N : Int} (hU : Dig u 16) (hC : Cg (S u 16) N) (hlt : S u 16 < Pm) : arr 16 (d16 (N % Pm)) = arr 16 u := by
  have e := hC.emod
  have h0 := (S_bd hU).1
  rw [Int.emod_eq_of_lt h0 hlt] at e
  rw [← e]
  refine arr_congr (S_inj (d16_dig _ 16) hU ?_)
  rw [d16_S _ h0, Int.emod_eq_of_lt h0 (S_bd hU).2]

/-- The number that block g holds, for the last loop's measure. -/
def meas (W : World) (g : Nat) : Nat :=
  match W.heap[g]? with
  | some (.cells cs _ _) => (S (fun i => intOf (cs.getD i undef)) 16).toNat
  | _ => 0

theorem meas_row {W : World} {g : Nat} {T : TypeId} {f : Nat → Int} (h : Row W g T 16 f) : meas W g = (S f 16).toNat := by
  unfold meas
  rw [h]
  show (S (fun i => intOf ((arr 16 f).getD i undef)) 16).toNat = _
  rw [S_congr (g := f) fun i hi => by
    rw [Array.getD_eq_getD_getElem?, arr_get 16 f i hi]
    rfl]

set_option maxRecDepth 100000 in
set_option maxHeartbeats 4000000 in
theorem reduce_any (t0 : Nat → Int) (w : World) (h0 : B48 t0) : Calls Tryz.prog 80 #[.agg (arr 32 t0)] w fun r w' => r = .returned (.agg (arr 16 (d16 (S t0 32 % Pm)))) ∧ Below w.heap.size w w' := by
  go_enter Tryz.func80, Tryz.ntmps80
  go_wp2
  rw [show #[Value.int IntKind.u64 0, Value.int IntKind.u64 0, Value.int IntKind.u64 0, Value.int IntKind.u64 0, Value.int IntKind.u64 0, Value.int IntKind.u64 0, Value.int IntKind.u64 0, Value.int IntKind.u64 0, Value.int IntKind.u64 0, Value.int IntKind.u64 0, Value.int IntKind.u64 0, Value.int IntKind.u64 0, Value.int IntKind.u64 0, Value.int IntKind.u64 0, Value.int IntKind.u64 0, Value.int IntKind.u64 0] = arr 16 (fun _ => 0) from rfl]
  have R1 : Row ((w.alloc (.cells (arr 32 t0) 103)).alloc (.cells (arr 16 fun _ => 0) 39)) w.heap.size 103 32 t0 := (Row.new w 103 32 t0).alloc _
  have R2 : Row ((w.alloc (.cells (arr 32 t0) 103)).alloc (.cells (arr 16 fun _ => 0) 39)) (w.heap.size + 1) 39 16 (fun _ => 0) := Row.new' _ 39 16 _ (by simp)
  have O : Below w.heap.size w ((w.alloc (.cells (arr 32 t0) 103)).alloc (.cells (arr 16 fun _ => 0) 39)) := ((Below.refl _ _).alloc (Nat.le_refl _) _).alloc (by simp) _
  generalize (w.alloc (.cells (arr 32 t0) 103)).alloc (.cells (arr 16 fun _ => 0) 39) = W at R1 R2 O ⊢
  go_loopw [3] (fun r wr => ∃ k : Nat, k ≤ 3 ∧ r = .int .i64 k ∧ (∃ t, Jl k t ∧ Cg (S t 32) (S t0 32) ∧ Row wr w.heap.size 103 32 t) ∧ Row wr (w.heap.size + 1) 39 16 (fun _ => 0) ∧ Below w.heap.size w wr) (fun r _ => 3 - (intOf r).toNat)
  case atStart => exact ⟨0, by omega, rfl, ⟨t0, h0, Cg.refl _, R1⟩, R2, O⟩
  case round =>
    clear R1 R2 O
    obtain ⟨k, hk, rfl, ⟨t, hJ, hC, R1⟩, R2, O⟩ := hrel
    by_cases hlt : k < 3
    · have hB := hJ.b48 hk
      have HJ := hide (hJ.next hlt)
      have HC := hide ((T1_S t).trans hC)
      clear hJ hC
      go_wp2
      go_loopw [4, 5] (fun c i wq => ∃ j : Nat, j ≤ 32 ∧ c = .int .u64 (cf t j) ∧ i = .int .i64 j ∧ Row wq w.heap.size 103 32 (ps t j) ∧ Row wq (w.heap.size + 1) 39 16 (fun _ => 0) ∧ Below w.heap.size w wq) (fun _ i _ => 32 - (intOf i).toNat)
      case atStart => exact ⟨0, by omega, rfl, rfl, R1.congr (fun i _ => by unfold ps; rw [if_neg (by omega)]), R2, O⟩
      case round =>
        clear R1 R2 O
        obtain ⟨j, hj, rfl, rfl, R1, R2, O⟩ := hrel
        by_cases hjl : j < 32
        · have c := R1.cell hjl
          rw [show ps t j j = t j by unfold ps; rw [if_neg (by omega)]] at c
          have e := R1.free j
          obtain ⟨a0, a1⟩ := hB.b j hjl
          obtain ⟨b0, b1⟩ := cf_bd hB j (by omega)
          have ea := and16 (x := t j + cf t j) (by omega) (by omega)
          have HN := hide (show cf t (j + 1) = (t j + cf t j) / 65536 from rfl)
          have HL := hide (show lo t j = (t j + cf t j) % 65536 from rfl)
          have RR := hide (R1.set j ((t j + cf t j) % 65536))
          have R2' := hide (R2.other (a := ⟨w.heap.size, j, none⟩) (by simp) (.int .u64 ((t j + cf t j) % 65536)))
          have O' := hide (O.setCell (p := ⟨w.heap.size, j, none⟩) (by simp) (.int .u64 ((t j + cf t j) % 65536)))
          clear R1 R2 O
          go_wp2
          go_roundw
          case rel => exact ⟨j + 1, by omega, by rw [HN.out], by go_num, RR.out.congr (fun i _ => by
            unfold upd ps
            by_cases h : i = j
            · subst h
              simp [HL.out]
            · by_cases h2 : i < j
              · simp [h, h2, show i < j + 1 by omega]
              · simp [h, h2, show ¬ i < j + 1 by omega]), R2'.out, O'.out⟩
          case measure => simp [intOf]; omega
        · have hj' : j = 32 := by omega
          subst hj'
          have R1' : Row wr w.heap.size 103 32 (fs (lo t) 0) := R1.congr (fun i hi => by
            unfold ps fs
            rw [if_pos hi, if_neg (by omega), if_neg (by omega)])
          have hlo := lo_dig t 32
          have hcf := cf_bd hB 32 (by omega)
          clear R1
          go_wp2
          go_loopw [7] (fun i wq => ∃ m : Nat, m ≤ 16 ∧ i = .int .i64 m ∧ Row wq w.heap.size 103 32 (fs (lo t) m) ∧ Row wq (w.heap.size + 1) 39 16 (fun _ => 0) ∧ Below w.heap.size w wq) (fun i _ => 16 - (intOf i).toNat)
          case atStart => exact ⟨0, by omega, rfl, R1', R2, O⟩
          case round =>
            clear R1' R2 O
            obtain ⟨m, hm, rfl, R1, R2, O⟩ := hrel
            by_cases hml : m < 16
            · have c := R1.cell (i := m) (by omega)
              have d := R1.cell (i := 16 + m) (by omega)
              rw [show fs (lo t) m m = lo t m by unfold fs; rw [if_neg (by omega), if_neg (by omega)]] at c
              rw [show fs (lo t) m (16 + m) = lo t (16 + m) by unfold fs; rw [if_neg (by omega), if_neg (by omega)]] at d
              have e := R1.free
              obtain ⟨a0, a1⟩ := hlo m (by omega)
              obtain ⟨b0, b1⟩ := hlo (16 + m) (by omega)
              have i1 : (0 : Int) ≤ (m : Int) := by omega
              have i2 : (m : Int) < 16 := by omega
              clear hlo hcf hB
              go_wp2_with fail
              go_region
              go_wp2
              exact ⟨⟨m + 1, by omega, by go_num, rowD (((R1.set m (lo t m + 38 * lo t (16 + m))).set (16 + m) 0).congr (fun i hi => fs_step (lo t) m i hml hi)), rowD ((R2.other (a := ⟨w.heap.size, m, none⟩) (by simp) _).other (a := ⟨w.heap.size, 16 + m, none⟩) (by simp) _), ((O.setCell (p := ⟨w.heap.size, m, none⟩) (Nat.le_refl _) _).setCell (p := ⟨w.heap.size, 16 + m, none⟩) (Nat.le_refl _) _).drew⟩, by simp [intOf]; omega⟩
            · have hm' : m = 16 := by omega
              subst hm'
              have c := R1.cell (i := 0) (by omega)
              have e := R1.free 0
              rw [show fs (lo t) 16 0 = lo t 0 + 38 * lo t 16 by unfold fs; rw [if_pos (by omega)]] at c
              obtain ⟨a0, a1⟩ := hlo 0 (by omega)
              obtain ⟨b0, b1⟩ := hlo 16 (by omega)
              obtain ⟨f0, f1⟩ := hcf
              have RR := hide ((R1.set 0 (lo t 0 + 38 * lo t 16 + 1444 * cf t 32)).congr (f' := T1 t) (fun i hi => fs_last t i hi))
              have R2' := hide (R2.other (a := ⟨w.heap.size, 0, none⟩) (by simp) (.int .u64 (lo t 0 + 38 * lo t 16 + 1444 * cf t 32)))
              have O' := hide (O.setCell (p := ⟨w.heap.size, 0, none⟩) (Nat.le_refl _) (.int .u64 (lo t 0 + 38 * lo t 16 + 1444 * cf t 32)))
              clear R1 R2 O hlo hB
              go_wp2
              exact ⟨⟨k + 1, by omega, by go_num, ⟨T1 t, HJ.out, HC.out, RR.out⟩, R2'.out, O'.out⟩, by simp [intOf]; omega⟩
    · have hk' : k = 3 := by omega
      subst hk'
      obtain ⟨hz, hD⟩ := hJ
      have HV := hide (show Cg (S t 16) (S t0 32) by rw [← S_upper_zero t hz]; exact hC)
      clear hC hlt hk
      go_wp2
      go_loopw [8] (fun r wq => ∃ k : Nat, k ≤ 3 ∧ r = .int .i64 k ∧ Row wq w.heap.size 103 32 t ∧ Row wq (w.heap.size + 1) 39 16 (fun _ => 0) ∧ Below w.heap.size w wq) (fun r _ => 3 - (intOf r).toNat)
      case atStart => exact ⟨0, by omega, rfl, R1, R2, O⟩
      case round =>
        clear R1 R2 O
        obtain ⟨k, hk, rfl, R1, R2, O⟩ := hrel
        by_cases hlt : k < 3
        · go_wp2
          go_loopw [9, 10] (fun c i wq => ∃ j : Nat, j ≤ 16 ∧ c = .int .u64 0 ∧ i = .int .i64 j ∧ Row wq w.heap.size 103 32 t ∧ Row wq (w.heap.size + 1) 39 16 (fun _ => 0) ∧ Below w.heap.size w wq) (fun _ i _ => 16 - (intOf i).toNat)
          case atStart => exact ⟨0, by omega, rfl, rfl, R1, R2, O⟩
          case round =>
            clear R1 R2 O
            obtain ⟨j, hj, rfl, rfl, R1, R2, O⟩ := hrel
            by_cases hjl : j < 16
            · have c := R1.cell (i := j) (by omega)
              have e := R1.free j
              obtain ⟨a0, a1⟩ := hD j hjl
              have ea : bits BinOp.and IntKind.u64 (t j) 65535 = t j := by rw [and16 a0 (by omega)]; omega
              have ed : t j / 65536 = 0 := by omega
              have RR := hide ((R1.set j (t j)).congr (f' := t) (fun i _ => by unfold upd; by_cases h : i = j <;> simp [h]))
              have R2' := hide (R2.other (a := ⟨w.heap.size, j, none⟩) (by simp) (.int .u64 (t j)))
              have O' := hide (O.setCell (p := ⟨w.heap.size, j, none⟩) (Nat.le_refl _) (.int .u64 (t j)))
              clear R1 R2 O
              go_wp2
              go_roundw
              case rel => exact ⟨j + 1, by omega, rfl, by go_num, RR.out, R2'.out, O'.out⟩
              case measure => simp [intOf]; omega
            · have hj' : j = 16 := by omega
              subst hj'
              have c := R1.cell (i := 0) (by omega)
              have e := R1.free 0
              obtain ⟨a0, a1⟩ := hD 0 (by omega)
              have RR := hide ((R1.set 0 (t 0)).congr (f' := t) (fun i _ => by unfold upd; by_cases h : i = 0 <;> simp [h]))
              have R2' := hide (R2.other (a := ⟨w.heap.size, 0, none⟩) (by simp) (.int .u64 (t 0)))
              have O' := hide (O.setCell (p := ⟨w.heap.size, 0, none⟩) (Nat.le_refl _) (.int .u64 (t 0)))
              clear R1 R2 O
              go_wp2
              exact ⟨⟨k + 1, by omega, by go_num, RR.out, R2'.out, O'.out⟩, by simp [intOf]; omega⟩
        · have hk' : k = 3 := by omega
          subst hk'
          go_wp2
          rw [show #[Value.int IntKind.u64 0, Value.int IntKind.u64 0, Value.int IntKind.u64 0, Value.int IntKind.u64 0, Value.int IntKind.u64 0, Value.int IntKind.u64 0, Value.int IntKind.u64 0, Value.int IntKind.u64 0, Value.int IntKind.u64 0, Value.int IntKind.u64 0, Value.int IntKind.u64 0, Value.int IntKind.u64 0, Value.int IntKind.u64 0, Value.int IntKind.u64 0, Value.int IntKind.u64 0, Value.int IntKind.u64 0] = arr 16 (fun _ => 0) from rfl]
          have hg := R2.lt
          have R3 : Row (wr.alloc (.cells (arr 16 fun _ => 0) 39)) wr.heap.size 39 16 (fun _ => 0) := Row.new _ 39 16 _
          replace R1 := R1.alloc (.cells (arr 16 fun _ => 0) 39)
          replace R2 := R2.alloc (.cells (arr 16 fun _ => 0) 39)
          replace O := O.alloc (by omega) (.cells (arr 16 fun _ => 0) 39)
          generalize wr.heap.size = gN at *
          generalize wr.alloc (.cells (arr 16 fun _ => 0) 39) = W6 at *
          go_loopw [13] (fun i wq => ∃ m : Nat, m ≤ 16 ∧ i = .int .i64 m ∧ Row wq w.heap.size 103 32 t ∧ Row wq (w.heap.size + 1) 39 16 (fun _ => 0) ∧ Row wq gN 39 16 (wid t m) ∧ Below w.heap.size w wq) (fun i _ => 16 - (intOf i).toNat)
          case atStart => exact ⟨0, by omega, rfl, R1, R2, R3, O⟩
          case round =>
            clear R1 R2 R3 O
            obtain ⟨m, hm, rfl, R1, R2, R3, O⟩ := hrel
            by_cases hml : m < 16
            · have c := R1.cell (i := m) (by omega)
              have d := R3.cell (i := m) (by omega)
              have e := R3.free m
              have RR := hide ((R3.set m (t m)).congr (f' := wid t (m + 1)) (fun i _ => by unfold upd wid; by_cases h : i = m <;> simp [h] <;> omega))
              have R1' := hide (R1.other (a := ⟨gN, m, none⟩) (by simp; omega) (.int .u64 (t m)))
              have R2' := hide (R2.other (a := ⟨gN, m, none⟩) (by simp; omega) (.int .u64 (t m)))
              have O' := hide (O.setCell (p := ⟨gN, m, none⟩) (by simp; omega) (.int .u64 (t m)))
              clear R1 R2 R3 O
              go_wp2
              go_roundw
              case rel => exact ⟨m + 1, by omega, by go_num, R1'.out, R2'.out, RR.out, O'.out⟩
              case measure => simp [intOf]; omega
            · have hm' : m = 16 := by omega
              subst hm'
              replace R3 := R3.congr (f' := t) (fun i hi => by unfold wid; rw [if_pos hi])
              clear R1 hz hml hm
              go_wp2_with fail
              go_loopw [91] (fun _ wq => ∃ u : Nat → Int, Dig u 16 ∧ Cg (S u 16) (S t0 32) ∧ Row wq (w.heap.size + 1) 39 16 (fun _ => 0) ∧ Row wq gN 39 16 u ∧ Below w.heap.size w wq) (fun _ wq => meas wq gN)
              case atStart => exact ⟨t, hD, HV.out, R2, R3, O⟩
              case round =>
                clear R2 R3 O HV hD
                obtain ⟨u, hU, hC, R2, R3, O⟩ := hrel
                have HC := hide hC
                clear hC
                have hne := KW.some wr
                have hg3 : ∀ w', (∃ s : KW wr, w' = s.w) → w'.heap[gN]? = some (.cells (arr 16 u) 39 (0, 0)) := by
                  rintro _ ⟨s, rfl⟩
                  exact R3.keep s.keep
                have HG := hide hg3
                clear hg3
                go_wp2_with fail
                refine wp_region_keep (by kernel_rfl) (by kernel_rfl) ?_
                go_big_quiet_want
                refine quiet_load_row 39 _ rfl gN rfl 39 (arr 16 u) (0, 0) _ HG.out Tryz.underlying39 rfl (info39 _) ?_
                go_simp
                go_big_quiet_on
                go_big_quiet_step ((exact keep_of (prime_any _)))
                go_big_quiet_step ((exact keep_of (less_any u pF _ hU pF_dig)))
                rw [pF_S]
                by_cases hlt : S u 16 < Pm
                · rw [decide_eq_true hlt]
                  go_big_quiet_step (fail)
                  refine wpQuiet_nil ?_
                  intro s
                  replace R2 := R2.keep s.keep
                  replace R3 := R3.keep s.keep
                  replace O := O.trans (s.keep.mono O.size)
                  generalize s.w = W7 at R2 R3 O ⊢
                  have RR := hide (R2.setAll u)
                  have OO := hide (below_setCells (g := w.heap.size + 1) (by omega) (arr 16 u).toList 0 O)
                  have HE := hide (fin_eq hU HC.out hlt)
                  clear HG hne hlt
                  go_wp2_with (first | (refine wpList_load_row rfl 39 _ rfl gN rfl 39 (arr 16 u) (0, 0) _ R3 Tryz.underlying39 rfl (info39 _) ?_) | (refine wpList_store_mid rfl 39 _ _ rfl (w.heap.size + 1) 0 (arr 16 u) rfl rfl (by rw [arr_size]; exact R2.there) (info39 _) (arr_one _ _) ?_))
                  exact bodyPost_ret (v := .agg (arr 16 u)) (results_cell_row Tryz.results80 _ _ (w.heap.size + 1) 39 (arr 16 u) (0, 0) _ rfl RR.out Tryz.underlying39 rfl (info39 _)) rfl ⟨by rw [HE.out], OO.out⟩
                · rw [decide_eq_false hlt]
                  go_big_quiet_step (fail)
                  refine wpQuiet_nil ?_
                  intro s
                  have HM := hide (meas_row R3)
                  replace R2 := R2.keep s.keep
                  replace R3 := R3.keep s.keep
                  replace O := O.trans (s.keep.mono O.size)
                  generalize s.w = W7 at R2 R3 O ⊢
                  have hle : S pF 16 ≤ S u 16 := by rw [pF_S]; omega
                  have HS := hide (minus_le hU pF_dig hle)
                  have HL := hide hle
                  clear HG hne hlt hle
                  have hne := KW.some W7
                  have hg3 : ∀ w', (∃ s : KW W7, w' = s.w) → w'.heap[gN]? = some (.cells (arr 16 u) 39 (0, 0)) := by
                    rintro _ ⟨s, rfl⟩
                    exact R3.keep s.keep
                  have HG := hide hg3
                  clear hg3
                  go_wp2_with fail
                  refine wp_region_keep_tail 3 (by kernel_rfl) (by kernel_rfl) ?_
                  simp only [List.take_succ_cons, List.take_zero, List.drop_succ_cons, List.drop_zero]
                  go_big_quiet_want
                  refine quiet_load_row 39 _ rfl gN rfl 39 (arr 16 u) (0, 0) _ HG.out Tryz.underlying39 rfl (info39 _) ?_
                  go_simp
                  go_big_quiet_on
                  go_big_quiet_step ((exact keep_of (prime_any _)))
                  go_big_quiet_step ((exact keep_of (minus_any u pF _ hU pF_dig)))
                  refine wpQuiet_nil ?_
                  intro s
                  replace R2 := R2.keep s.keep
                  replace R3 := R3.keep s.keep
                  replace O := O.trans (s.keep.mono O.size)
                  generalize s.w = W8 at R2 R3 O ⊢
                  have RR := hide (R3.setAll (minusF u pF))
                  have R2' := hide (R2.setOther (k := gN) (by omega) 0 (arr 16 (minusF u pF)).toList)
                  have OO := hide (below_setCells (g := gN) (by omega) (arr 16 (minusF u pF)).toList 0 O)
                  clear HG hne
                  go_wp2_with (refine wpList_store_mid rfl 39 _ _ rfl gN 0 (arr 16 (minusF u pF)) rfl rfl (by rw [arr_size]; exact R3.there) (info39 _) (arr_one _ _) ?_)
                  refine ⟨⟨_, _, _, _, _, _, _, ⟨minusF u pF, minusF_dig u pF 16, ?_, R2'.out, RR.out, OO.out⟩, rfl⟩, ?_⟩
                  · rw [HS.out, pF_S]
                    have := Cg.sub_P (S u 16) 1
                    rw [Int.one_mul] at this
                    exact this.trans HC.out
                  · rw [meas_row RR.out, HM.out, HS.out, pF_S]
                    have := HL.out
                    rw [pF_S] at this
                    unfold Pm at *
                    omega

end Go.Proofs.YtkeocdebfgcnnaaGreat

/- The contract of the document's Parts: 32 bytes as 16 digits. -/
namespace Go.Proofs.YtkeocdebfgcnnaaGreat
open Go.RowKit

/-- Digit i when k bytes have been read. -/
def pt (s : ByteArray) (k : Nat) : Nat → Int := fun i => (if 2 * i < k then bt s (2 * i) else 0) + (if 2 * i + 1 < k then bt s (2 * i + 1) * 256 else 0)

theorem ptor0 (s : ByteArray) (i : Nat) : bits BinOp.or IntKind.u64 0 (bt s i) = bt s i := by
  have hb := bt_bd s i
  rw [or_join 8 256 (by decide) ⟨by decide, by decide⟩ ⟨hb.1, by omega⟩ (by decide) (by omega)]
  omega
theorem ptor1 (s : ByteArray) (i j : Nat) : bits BinOp.or IntKind.u64 (bt s i) (bt s j * 256) = bt s i + bt s j * 256 := by
  have hb := bt_bd s i
  have hc := bt_bd s j
  exact or_join' 8 256 (by decide) ⟨hb.1, by omega⟩ ⟨by omega, by omega⟩ (by omega) (by omega)

theorem pt_dig (s : ByteArray) (k : Nat) : Dig (pt s k) 16 := fun i _ => by
  have hb := bt_bd s (2 * i)
  have hc := bt_bd s (2 * i + 1)
  unfold pt
  split <;> split <;> omega

theorem pt_even (s : ByteArray) (j i : Nat) : upd (pt s (2 * j)) j (bt s (2 * j)) i = pt s (2 * j + 1) i := by
  unfold upd pt
  by_cases h : i = j
  · subst h
    simp
  · rw [if_neg h]
    congr 1
    · by_cases h2 : 2 * i < 2 * j
      · rw [if_pos h2, if_pos (by omega)]
      · rw [if_neg h2, if_neg (by omega)]
    · by_cases h2 : 2 * i + 1 < 2 * j
      · rw [if_pos h2, if_pos (by omega)]
      · rw [if_neg h2, if_neg (by omega)]

theorem pt_odd (s : ByteArray) (j i : Nat) : upd (pt s (2 * j + 1)) j (bt s (2 * j) + bt s (2 * j + 1) * 256) i = pt s (2 * j + 1 + 1) i := by
  unfold upd pt
  by_cases h : i = j
  · subst h
    simp
    intro h
    omega
  · rw [if_neg h]
    congr 1
    · by_cases h2 : 2 * i < 2 * j + 1
      · rw [if_pos h2, if_pos (by omega)]
      · rw [if_neg h2, if_neg (by omega)]
    · by_cases h2 : 2 * i + 1 < 2 * j + 1
      · rw [if_pos h2, if_pos (by omega)]
      · rw [if_neg h2, if_neg (by omega)]

theorem pt_S (s : ByteArray) : S (pt s 32) 16 = val s := by
  simp [S, pt, val, sw]
  omega

set_option maxRecDepth 100000 in
set_option maxHeartbeats 8000000 in
theorem parts_any (s : ByteArray) (w : World) (hs : s.size = 32) :
    Calls Tryz.prog 78 #[.string s] w fun r w' => r = .returned (.agg (arr 16 (pt s 32))) ∧ Below w.heap.size w w' := by
  go_enter Tryz.func78, Tryz.ntmps78
  go_wp2
  rw [show #[Value.int IntKind.u64 0, Value.int IntKind.u64 0, Value.int IntKind.u64 0, Value.int IntKind.u64 0, Value.int IntKind.u64 0, Value.int IntKind.u64 0, Value.int IntKind.u64 0, Value.int IntKind.u64 0, Value.int IntKind.u64 0, Value.int IntKind.u64 0, Value.int IntKind.u64 0, Value.int IntKind.u64 0, Value.int IntKind.u64 0, Value.int IntKind.u64 0, Value.int IntKind.u64 0, Value.int IntKind.u64 0] = arr 16 (fun _ => 0) from rfl]
  have R1 : Row ((w.alloc (.cells (arr 16 fun _ => 0) 39)).alloc (.cells (arr 16 fun _ => 0) 39)) w.heap.size 39 16 (fun _ => 0) := (Row.new w 39 16 _).alloc _
  have R2 : Row ((w.alloc (.cells (arr 16 fun _ => 0) 39)).alloc (.cells (arr 16 fun _ => 0) 39)) (w.heap.size + 1) 39 16 (pt s 0) := (Row.new' _ 39 16 _ (by simp)).congr (fun i _ => by simp [pt])
  have O : Below w.heap.size w ((w.alloc (.cells (arr 16 fun _ => 0) 39)).alloc (.cells (arr 16 fun _ => 0) 39)) := ((Below.refl _ _).alloc (Nat.le_refl _) _).alloc (by simp) _
  generalize (w.alloc (.cells (arr 16 fun _ => 0) 39)).alloc (.cells (arr 16 fun _ => 0) 39) = W at R1 R2 O ⊢
  go_loopw [4] (fun i wr => ∃ k : Nat, k ≤ 32 ∧ i = .int .i64 k ∧ Row wr w.heap.size 39 16 (fun _ => 0) ∧ Row wr (w.heap.size + 1) 39 16 (pt s k) ∧ Below w.heap.size w wr) (fun i _ => 32 - (intOf i).toNat)
  case atStart => exact ⟨0, by omega, rfl, R1, R2, O⟩
  case round =>
    clear R1 R2 O
    obtain ⟨k, hk, rfl, R1, R2, O⟩ := hrel
    by_cases hlt : k < 32
    · have hc : k = 0 ∨ k = 1 ∨ k = 2 ∨ k = 3 ∨ k = 4 ∨ k = 5 ∨ k = 6 ∨ k = 7 ∨ k = 8 ∨ k = 9 ∨ k = 10 ∨ k = 11 ∨ k = 12 ∨ k = 13 ∨ k = 14 ∨ k = 15 ∨ k = 16 ∨ k = 17 ∨ k = 18 ∨ k = 19 ∨ k = 20 ∨ k = 21 ∨ k = 22 ∨ k = 23 ∨ k = 24 ∨ k = 25 ∨ k = 26 ∨ k = 27 ∨ k = 28 ∨ k = 29 ∨ k = 30 ∨ k = 31 := by omega
      clear hlt hk
      rcases hc with rfl | rfl | rfl | rfl | rfl | rfl | rfl | rfl | rfl | rfl | rfl | rfl | rfl | rfl | rfl | rfl | rfl | rfl | rfl | rfl | rfl | rfl | rfl | rfl | rfl | rfl | rfl | rfl | rfl | rfl | rfl | rfl
      · have hb := bt_at s 0 (by omega)
        obtain ⟨p, q⟩ := bt_bd s 0
        have e := ptor0 s 0
        have c := R2.cell (i := 0) (by omega)
        rw [show pt s 0 0 = 0 by simp [pt]] at c
        have f := R2.free 0
        have RR := hide ((R2.set 0 (bt s 0)).congr (fun i _ => pt_even s 0 i))
        have R1' := hide (R1.other (a := ⟨w.heap.size + 1, 0, none⟩) (by simp) (.int .u64 (bt s 0)))
        have O' := hide (O.setCell (p := ⟨w.heap.size + 1, 0, none⟩) (by simp) (.int .u64 (bt s 0)))
        clear R1 R2 O
        go_wp2_with fail
        go_region
        go_wp2
        first | exact ⟨⟨1, by omega, rfl, R1'.out, RR.out, O'.out.drew⟩, by simp [intOf]⟩ | (go_roundw; (case rel => exact ⟨1, by omega, rfl, R1'.out, RR.out, O'.out.drew⟩); (case measure => simp [intOf]))
      · have hb := bt_at s 1 (by omega)
        obtain ⟨p, q⟩ := bt_bd s 1
        have e := ptor1 s 0 1
        have c := R2.cell (i := 0) (by omega)
        rw [show pt s 1 0 = bt s 0 by simp [pt]] at c
        have f := R2.free 0
        have RR := hide ((R2.set 0 (bt s 0 + bt s 1 * 256)).congr (fun i _ => pt_odd s 0 i))
        have R1' := hide (R1.other (a := ⟨w.heap.size + 1, 0, none⟩) (by simp) (.int .u64 (bt s 0 + bt s 1 * 256)))
        have O' := hide (O.setCell (p := ⟨w.heap.size + 1, 0, none⟩) (by simp) (.int .u64 (bt s 0 + bt s 1 * 256)))
        clear R1 R2 O
        go_wp2_with fail
        go_region
        go_wp2
        first | exact ⟨⟨2, by omega, rfl, R1'.out, RR.out, O'.out.drew⟩, by simp [intOf]⟩ | (go_roundw; (case rel => exact ⟨2, by omega, rfl, R1'.out, RR.out, O'.out.drew⟩); (case measure => simp [intOf]))
      · have hb := bt_at s 2 (by omega)
        obtain ⟨p, q⟩ := bt_bd s 2
        have e := ptor0 s 2
        have c := R2.cell (i := 1) (by omega)
        rw [show pt s 2 1 = 0 by simp [pt]] at c
        have f := R2.free 1
        have RR := hide ((R2.set 1 (bt s 2)).congr (fun i _ => pt_even s 1 i))
        have R1' := hide (R1.other (a := ⟨w.heap.size + 1, 1, none⟩) (by simp) (.int .u64 (bt s 2)))
        have O' := hide (O.setCell (p := ⟨w.heap.size + 1, 1, none⟩) (by simp) (.int .u64 (bt s 2)))
        clear R1 R2 O
        go_wp2_with fail
        go_region
        go_wp2
        first | exact ⟨⟨3, by omega, rfl, R1'.out, RR.out, O'.out.drew⟩, by simp [intOf]⟩ | (go_roundw; (case rel => exact ⟨3, by omega, rfl, R1'.out, RR.out, O'.out.drew⟩); (case measure => simp [intOf]))
      · have hb := bt_at s 3 (by omega)
        obtain ⟨p, q⟩ := bt_bd s 3
        have e := ptor1 s 2 3
        have c := R2.cell (i := 1) (by omega)
        rw [show pt s 3 1 = bt s 2 by simp [pt]] at c
        have f := R2.free 1
        have RR := hide ((R2.set 1 (bt s 2 + bt s 3 * 256)).congr (fun i _ => pt_odd s 1 i))
        have R1' := hide (R1.other (a := ⟨w.heap.size + 1, 1, none⟩) (by simp) (.int .u64 (bt s 2 + bt s 3 * 256)))
        have O' := hide (O.setCell (p := ⟨w.heap.size + 1, 1, none⟩) (by simp) (.int .u64 (bt s 2 + bt s 3 * 256)))
        clear R1 R2 O
        go_wp2_with fail
        go_region
        go_wp2
        first | exact ⟨⟨4, by omega, rfl, R1'.out, RR.out, O'.out.drew⟩, by simp [intOf]⟩ | (go_roundw; (case rel => exact ⟨4, by omega, rfl, R1'.out, RR.out, O'.out.drew⟩); (case measure => simp [intOf]))
      · have hb := bt_at s 4 (by omega)
        obtain ⟨p, q⟩ := bt_bd s 4
        have e := ptor0 s 4
        have c := R2.cell (i := 2) (by omega)
        rw [show pt s 4 2 = 0 by simp [pt]] at c
        have f := R2.free 2
        have RR := hide ((R2.set 2 (bt s 4)).congr (fun i _ => pt_even s 2 i))
        have R1' := hide (R1.other (a := ⟨w.heap.size + 1, 2, none⟩) (by simp) (.int .u64 (bt s 4)))
        have O' := hide (O.setCell (p := ⟨w.heap.size + 1, 2, none⟩) (by simp) (.int .u64 (bt s 4)))
        clear R1 R2 O
        go_wp2_with fail
        go_region
        go_wp2
        first | exact ⟨⟨5, by omega, rfl, R1'.out, RR.out, O'.out.drew⟩, by simp [intOf]⟩ | (go_roundw; (case rel => exact ⟨5, by omega, rfl, R1'.out, RR.out, O'.out.drew⟩); (case measure => simp [intOf]))
      · have hb := bt_at s 5 (by omega)
        obtain ⟨p, q⟩ := bt_bd s 5
        have e := ptor1 s 4 5
        have c := R2.cell (i := 2) (by omega)
        rw [show pt s 5 2 = bt s 4 by simp [pt]] at c
        have f := R2.free 2
        have RR := hide ((R2.set 2 (bt s 4 + bt s 5 * 256)).congr (fun i _ => pt_odd s 2 i))
        have R1' := hide (R1.other (a := ⟨w.heap.size + 1, 2, none⟩) (by simp) (.int .u64 (bt s 4 + bt s 5 * 256)))
        have O' := hide (O.setCell (p := ⟨w.heap.size + 1, 2, none⟩) (by simp) (.int .u64 (bt s 4 + bt s 5 * 256)))
        clear R1 R2 O
        go_wp2_with fail
        go_region
        go_wp2
        first | exact ⟨⟨6, by omega, rfl, R1'.out, RR.out, O'.out.drew⟩, by simp [intOf]⟩ | (go_roundw; (case rel => exact ⟨6, by omega, rfl, R1'.out, RR.out, O'.out.drew⟩); (case measure => simp [intOf]))
      · have hb := bt_at s 6 (by omega)
        obtain ⟨p, q⟩ := bt_bd s 6
        have e := ptor0 s 6
        have c := R2.cell (i := 3) (by omega)
        rw [show pt s 6 3 = 0 by simp [pt]] at c
        have f := R2.free 3
        have RR := hide ((R2.set 3 (bt s 6)).congr (fun i _ => pt_even s 3 i))
        have R1' := hide (R1.other (a := ⟨w.heap.size + 1, 3, none⟩) (by simp) (.int .u64 (bt s 6)))
        have O' := hide (O.setCell (p := ⟨w.heap.size + 1, 3, none⟩) (by simp) (.int .u64 (bt s 6)))
        clear R1 R2 O
        go_wp2_with fail
        go_region
        go_wp2
        first | exact ⟨⟨7, by omega, rfl, R1'.out, RR.out, O'.out.drew⟩, by simp [intOf]⟩ | (go_roundw; (case rel => exact ⟨7, by omega, rfl, R1'.out, RR.out, O'.out.drew⟩); (case measure => simp [intOf]))
      · have hb := bt_at s 7 (by omega)
        obtain ⟨p, q⟩ := bt_bd s 7
        have e := ptor1 s 6 7
        have c := R2.cell (i := 3) (by omega)
        rw [show pt s 7 3 = bt s 6 by simp [pt]] at c
        have f := R2.free 3
        have RR := hide ((R2.set 3 (bt s 6 + bt s 7 * 256)).congr (fun i _ => pt_odd s 3 i))
        have R1' := hide (R1.other (a := ⟨w.heap.size + 1, 3, none⟩) (by simp) (.int .u64 (bt s 6 + bt s 7 * 256)))
        have O' := hide (O.setCell (p := ⟨w.heap.size + 1, 3, none⟩) (by simp) (.int .u64 (bt s 6 + bt s 7 * 256)))
        clear R1 R2 O
        go_wp2_with fail
        go_region
        go_wp2
        first | exact ⟨⟨8, by omega, rfl, R1'.out, RR.out, O'.out.drew⟩, by simp [intOf]⟩ | (go_roundw; (case rel => exact ⟨8, by omega, rfl, R1'.out, RR.out, O'.out.drew⟩); (case measure => simp [intOf]))
      · have hb := bt_at s 8 (by omega)
        obtain ⟨p, q⟩ := bt_bd s 8
        have e := ptor0 s 8
        have c := R2.cell (i := 4) (by omega)
        rw [show pt s 8 4 = 0 by simp [pt]] at c
        have f := R2.free 4
        have RR := hide ((R2.set 4 (bt s 8)).congr (fun i _ => pt_even s 4 i))
        have R1' := hide (R1.other (a := ⟨w.heap.size + 1, 4, none⟩) (by simp) (.int .u64 (bt s 8)))
        have O' := hide (O.setCell (p := ⟨w.heap.size + 1, 4, none⟩) (by simp) (.int .u64 (bt s 8)))
        clear R1 R2 O
        go_wp2_with fail
        go_region
        go_wp2
        first | exact ⟨⟨9, by omega, rfl, R1'.out, RR.out, O'.out.drew⟩, by simp [intOf]⟩ | (go_roundw; (case rel => exact ⟨9, by omega, rfl, R1'.out, RR.out, O'.out.drew⟩); (case measure => simp [intOf]))
      · have hb := bt_at s 9 (by omega)
        obtain ⟨p, q⟩ := bt_bd s 9
        have e := ptor1 s 8 9
        have c := R2.cell (i := 4) (by omega)
        rw [show pt s 9 4 = bt s 8 by simp [pt]] at c
        have f := R2.free 4
        have RR := hide ((R2.set 4 (bt s 8 + bt s 9 * 256)).congr (fun i _ => pt_odd s 4 i))
        have R1' := hide (R1.other (a := ⟨w.heap.size + 1, 4, none⟩) (by simp) (.int .u64 (bt s 8 + bt s 9 * 256)))
        have O' := hide (O.setCell (p := ⟨w.heap.size + 1, 4, none⟩) (by simp) (.int .u64 (bt s 8 + bt s 9 * 256)))
        clear R1 R2 O
        go_wp2_with fail
        go_region
        go_wp2
        first | exact ⟨⟨10, by omega, rfl, R1'.out, RR.out, O'.out.drew⟩, by simp [intOf]⟩ | (go_roundw; (case rel => exact ⟨10, by omega, rfl, R1'.out, RR.out, O'.out.drew⟩); (case measure => simp [intOf]))
      · have hb := bt_at s 10 (by omega)
        obtain ⟨p, q⟩ := bt_bd s 10
        have e := ptor0 s 10
        have c := R2.cell (i := 5) (by omega)
        rw [show pt s 10 5 = 0 by simp [pt]] at c
        have f := R2.free 5
        have RR := hide ((R2.set 5 (bt s 10)).congr (fun i _ => pt_even s 5 i))
        have R1' := hide (R1.other (a := ⟨w.heap.size + 1, 5, none⟩) (by simp) (.int .u64 (bt s 10)))
        have O' := hide (O.setCell (p := ⟨w.heap.size + 1, 5, none⟩) (by simp) (.int .u64 (bt s 10)))
        clear R1 R2 O
        go_wp2_with fail
        go_region
        go_wp2
        first | exact ⟨⟨11, by omega, rfl, R1'.out, RR.out, O'.out.drew⟩, by simp [intOf]⟩ | (go_roundw; (case rel => exact ⟨11, by omega, rfl, R1'.out, RR.out, O'.out.drew⟩); (case measure => simp [intOf]))
      · have hb := bt_at s 11 (by omega)
        obtain ⟨p, q⟩ := bt_bd s 11
        have e := ptor1 s 10 11
        have c := R2.cell (i := 5) (by omega)
        rw [show pt s 11 5 = bt s 10 by simp [pt]] at c
        have f := R2.free 5
        have RR := hide ((R2.set 5 (bt s 10 + bt s 11 * 256)).congr (fun i _ => pt_odd s 5 i))
        have R1' := hide (R1.other (a := ⟨w.heap.size + 1, 5, none⟩) (by simp) (.int .u64 (bt s 10 + bt s 11 * 256)))
        have O' := hide (O.setCell (p := ⟨w.heap.size + 1, 5, none⟩) (by simp) (.int .u64 (bt s 10 + bt s 11 * 256)))
        clear R1 R2 O
        go_wp2_with fail
        go_region
        go_wp2
        first | exact ⟨⟨12, by omega, rfl, R1'.out, RR.out, O'.out.drew⟩, by simp [intOf]⟩ | (go_roundw; (case rel => exact ⟨12, by omega, rfl, R1'.out, RR.out, O'.out.drew⟩); (case measure => simp [intOf]))
      · have hb := bt_at s 12 (by omega)
        obtain ⟨p, q⟩ := bt_bd s 12
        have e := ptor0 s 12
        have c := R2.cell (i := 6) (by omega)
        rw [show pt s 12 6 = 0 by simp [pt]] at c
        have f := R2.free 6
        have RR := hide ((R2.set 6 (bt s 12)).congr (fun i _ => pt_even s 6 i))
        have R1' := hide (R1.other (a := ⟨w.heap.size + 1, 6, none⟩) (by simp) (.int .u64 (bt s 12)))
        have O' := hide (O.setCell (p := ⟨w.heap.size + 1, 6, none⟩) (by simp) (.int .u64 (bt s 12)))
        clear R1 R2 O
        go_wp2_with fail
        go_region
        go_wp2
        first | exact ⟨⟨13, by omega, rfl, R1'.out, RR.out, O'.out.drew⟩, by simp [intOf]⟩ | (go_roundw; (case rel => exact ⟨13, by omega, rfl, R1'.out, RR.out, O'.out.drew⟩); (case measure => simp [intOf]))
      · have hb := bt_at s 13 (by omega)
        obtain ⟨p, q⟩ := bt_bd s 13
        have e := ptor1 s 12 13
        have c := R2.cell (i := 6) (by omega)
        rw [show pt s 13 6 = bt s 12 by simp [pt]] at c
        have f := R2.free 6
        have RR := hide ((R2.set 6 (bt s 12 + bt s 13 * 256)).congr (fun i _ => pt_odd s 6 i))
        have R1' := hide (R1.other (a := ⟨w.heap.size + 1, 6, none⟩) (by simp) (.int .u64 (bt s 12 + bt s 13 * 256)))
        have O' := hide (O.setCell (p := ⟨w.heap.size + 1, 6, none⟩) (by simp) (.int .u64 (bt s 12 + bt s 13 * 256)))
        clear R1 R2 O
        go_wp2_with fail
        go_region
        go_wp2
        first | exact ⟨⟨14, by omega, rfl, R1'.out, RR.out, O'.out.drew⟩, by simp [intOf]⟩ | (go_roundw; (case rel => exact ⟨14, by omega, rfl, R1'.out, RR.out, O'.out.drew⟩); (case measure => simp [intOf]))
      · have hb := bt_at s 14 (by omega)
        obtain ⟨p, q⟩ := bt_bd s 14
        have e := ptor0 s 14
        have c := R2.cell (i := 7) (by omega)
        rw [show pt s 14 7 = 0 by simp [pt]] at c
        have f := R2.free 7
        have RR := hide ((R2.set 7 (bt s 14)).congr (fun i _ => pt_even s 7 i))
        have R1' := hide (R1.other (a := ⟨w.heap.size + 1, 7, none⟩) (by simp) (.int .u64 (bt s 14)))
        have O' := hide (O.setCell (p := ⟨w.heap.size + 1, 7, none⟩) (by simp) (.int .u64 (bt s 14)))
        clear R1 R2 O
        go_wp2_with fail
        go_region
        go_wp2
        first | exact ⟨⟨15, by omega, rfl, R1'.out, RR.out, O'.out.drew⟩, by simp [intOf]⟩ | (go_roundw; (case rel => exact ⟨15, by omega, rfl, R1'.out, RR.out, O'.out.drew⟩); (case measure => simp [intOf]))
      · have hb := bt_at s 15 (by omega)
        obtain ⟨p, q⟩ := bt_bd s 15
        have e := ptor1 s 14 15
        have c := R2.cell (i := 7) (by omega)
        rw [show pt s 15 7 = bt s 14 by simp [pt]] at c
        have f := R2.free 7
        have RR := hide ((R2.set 7 (bt s 14 + bt s 15 * 256)).congr (fun i _ => pt_odd s 7 i))
        have R1' := hide (R1.other (a := ⟨w.heap.size + 1, 7, none⟩) (by simp) (.int .u64 (bt s 14 + bt s 15 * 256)))
        have O' := hide (O.setCell (p := ⟨w.heap.size + 1, 7, none⟩) (by simp) (.int .u64 (bt s 14 + bt s 15 * 256)))
        clear R1 R2 O
        go_wp2_with fail
        go_region
        go_wp2
        first | exact ⟨⟨16, by omega, rfl, R1'.out, RR.out, O'.out.drew⟩, by simp [intOf]⟩ | (go_roundw; (case rel => exact ⟨16, by omega, rfl, R1'.out, RR.out, O'.out.drew⟩); (case measure => simp [intOf]))
      · have hb := bt_at s 16 (by omega)
        obtain ⟨p, q⟩ := bt_bd s 16
        have e := ptor0 s 16
        have c := R2.cell (i := 8) (by omega)
        rw [show pt s 16 8 = 0 by simp [pt]] at c
        have f := R2.free 8
        have RR := hide ((R2.set 8 (bt s 16)).congr (fun i _ => pt_even s 8 i))
        have R1' := hide (R1.other (a := ⟨w.heap.size + 1, 8, none⟩) (by simp) (.int .u64 (bt s 16)))
        have O' := hide (O.setCell (p := ⟨w.heap.size + 1, 8, none⟩) (by simp) (.int .u64 (bt s 16)))
        clear R1 R2 O
        go_wp2_with fail
        go_region
        go_wp2
        first | exact ⟨⟨17, by omega, rfl, R1'.out, RR.out, O'.out.drew⟩, by simp [intOf]⟩ | (go_roundw; (case rel => exact ⟨17, by omega, rfl, R1'.out, RR.out, O'.out.drew⟩); (case measure => simp [intOf]))
      · have hb := bt_at s 17 (by omega)
        obtain ⟨p, q⟩ := bt_bd s 17
        have e := ptor1 s 16 17
        have c := R2.cell (i := 8) (by omega)
        rw [show pt s 17 8 = bt s 16 by simp [pt]] at c
        have f := R2.free 8
        have RR := hide ((R2.set 8 (bt s 16 + bt s 17 * 256)).congr (fun i _ => pt_odd s 8 i))
        have R1' := hide (R1.other (a := ⟨w.heap.size + 1, 8, none⟩) (by simp) (.int .u64 (bt s 16 + bt s 17 * 256)))
        have O' := hide (O.setCell (p := ⟨w.heap.size + 1, 8, none⟩) (by simp) (.int .u64 (bt s 16 + bt s 17 * 256)))
        clear R1 R2 O
        go_wp2_with fail
        go_region
        go_wp2
        first | exact ⟨⟨18, by omega, rfl, R1'.out, RR.out, O'.out.drew⟩, by simp [intOf]⟩ | (go_roundw; (case rel => exact ⟨18, by omega, rfl, R1'.out, RR.out, O'.out.drew⟩); (case measure => simp [intOf]))
      · have hb := bt_at s 18 (by omega)
        obtain ⟨p, q⟩ := bt_bd s 18
        have e := ptor0 s 18
        have c := R2.cell (i := 9) (by omega)
        rw [show pt s 18 9 = 0 by simp [pt]] at c
        have f := R2.free 9
        have RR := hide ((R2.set 9 (bt s 18)).congr (fun i _ => pt_even s 9 i))
        have R1' := hide (R1.other (a := ⟨w.heap.size + 1, 9, none⟩) (by simp) (.int .u64 (bt s 18)))
        have O' := hide (O.setCell (p := ⟨w.heap.size + 1, 9, none⟩) (by simp) (.int .u64 (bt s 18)))
        clear R1 R2 O
        go_wp2_with fail
        go_region
        go_wp2
        first | exact ⟨⟨19, by omega, rfl, R1'.out, RR.out, O'.out.drew⟩, by simp [intOf]⟩ | (go_roundw; (case rel => exact ⟨19, by omega, rfl, R1'.out, RR.out, O'.out.drew⟩); (case measure => simp [intOf]))
      · have hb := bt_at s 19 (by omega)
        obtain ⟨p, q⟩ := bt_bd s 19
        have e := ptor1 s 18 19
        have c := R2.cell (i := 9) (by omega)
        rw [show pt s 19 9 = bt s 18 by simp [pt]] at c
        have f := R2.free 9
        have RR := hide ((R2.set 9 (bt s 18 + bt s 19 * 256)).congr (fun i _ => pt_odd s 9 i))
        have R1' := hide (R1.other (a := ⟨w.heap.size + 1, 9, none⟩) (by simp) (.int .u64 (bt s 18 + bt s 19 * 256)))
        have O' := hide (O.setCell (p := ⟨w.heap.size + 1, 9, none⟩) (by simp) (.int .u64 (bt s 18 + bt s 19 * 256)))
        clear R1 R2 O
        go_wp2_with fail
        go_region
        go_wp2
        first | exact ⟨⟨20, by omega, rfl, R1'.out, RR.out, O'.out.drew⟩, by simp [intOf]⟩ | (go_roundw; (case rel => exact ⟨20, by omega, rfl, R1'.out, RR.out, O'.out.drew⟩); (case measure => simp [intOf]))
      · have hb := bt_at s 20 (by omega)
        obtain ⟨p, q⟩ := bt_bd s 20
        have e := ptor0 s 20
        have c := R2.cell (i := 10) (by omega)
        rw [show pt s 20 10 = 0 by simp [pt]] at c
        have f := R2.free 10
        have RR := hide ((R2.set 10 (bt s 20)).congr (fun i _ => pt_even s 10 i))
        have R1' := hide (R1.other (a := ⟨w.heap.size + 1, 10, none⟩) (by simp) (.int .u64 (bt s 20)))
        have O' := hide (O.setCell (p := ⟨w.heap.size + 1, 10, none⟩) (by simp) (.int .u64 (bt s 20)))
        clear R1 R2 O
        go_wp2_with fail
        go_region
        go_wp2
        first | exact ⟨⟨21, by omega, rfl, R1'.out, RR.out, O'.out.drew⟩, by simp [intOf]⟩ | (go_roundw; (case rel => exact ⟨21, by omega, rfl, R1'.out, RR.out, O'.out.drew⟩); (case measure => simp [intOf]))
      · have hb := bt_at s 21 (by omega)
        obtain ⟨p, q⟩ := bt_bd s 21
        have e := ptor1 s 20 21
        have c := R2.cell (i := 10) (by omega)
        rw [show pt s 21 10 = bt s 20 by simp [pt]] at c
        have f := R2.free 10
        have RR := hide ((R2.set 10 (bt s 20 + bt s 21 * 256)).congr (fun i _ => pt_odd s 10 i))
        have R1' := hide (R1.other (a := ⟨w.heap.size + 1, 10, none⟩) (by simp) (.int .u64 (bt s 20 + bt s 21 * 256)))
        have O' := hide (O.setCell (p := ⟨w.heap.size + 1, 10, none⟩) (by simp) (.int .u64 (bt s 20 + bt s 21 * 256)))
        clear R1 R2 O
        go_wp2_with fail
        go_region
        go_wp2
        first | exact ⟨⟨22, by omega, rfl, R1'.out, RR.out, O'.out.drew⟩, by simp [intOf]⟩ | (go_roundw; (case rel => exact ⟨22, by omega, rfl, R1'.out, RR.out, O'.out.drew⟩); (case measure => simp [intOf]))
      · have hb := bt_at s 22 (by omega)
        obtain ⟨p, q⟩ := bt_bd s 22
        have e := ptor0 s 22
        have c := R2.cell (i := 11) (by omega)
        rw [show pt s 22 11 = 0 by simp [pt]] at c
        have f := R2.free 11
        have RR := hide ((R2.set 11 (bt s 22)).congr (fun i _ => pt_even s 11 i))
        have R1' := hide (R1.other (a := ⟨w.heap.size + 1, 11, none⟩) (by simp) (.int .u64 (bt s 22)))
        have O' := hide (O.setCell (p := ⟨w.heap.size + 1, 11, none⟩) (by simp) (.int .u64 (bt s 22)))
        clear R1 R2 O
        go_wp2_with fail
        go_region
        go_wp2
        first | exact ⟨⟨23, by omega, rfl, R1'.out, RR.out, O'.out.drew⟩, by simp [intOf]⟩ | (go_roundw; (case rel => exact ⟨23, by omega, rfl, R1'.out, RR.out, O'.out.drew⟩); (case measure => simp [intOf]))
      · have hb := bt_at s 23 (by omega)
        obtain ⟨p, q⟩ := bt_bd s 23
        have e := ptor1 s 22 23
        have c := R2.cell (i := 11) (by omega)
        rw [show pt s 23 11 = bt s 22 by simp [pt]] at c
        have f := R2.free 11
        have RR := hide ((R2.set 11 (bt s 22 + bt s 23 * 256)).congr (fun i _ => pt_odd s 11 i))
        have R1' := hide (R1.other (a := ⟨w.heap.size + 1, 11, none⟩) (by simp) (.int .u64 (bt s 22 + bt s 23 * 256)))
        have O' := hide (O.setCell (p := ⟨w.heap.size + 1, 11, none⟩) (by simp) (.int .u64 (bt s 22 + bt s 23 * 256)))
        clear R1 R2 O
        go_wp2_with fail
        go_region
        go_wp2
        first | exact ⟨⟨24, by omega, rfl, R1'.out, RR.out, O'.out.drew⟩, by simp [intOf]⟩ | (go_roundw; (case rel => exact ⟨24, by omega, rfl, R1'.out, RR.out, O'.out.drew⟩); (case measure => simp [intOf]))
      · have hb := bt_at s 24 (by omega)
        obtain ⟨p, q⟩ := bt_bd s 24
        have e := ptor0 s 24
        have c := R2.cell (i := 12) (by omega)
        rw [show pt s 24 12 = 0 by simp [pt]] at c
        have f := R2.free 12
        have RR := hide ((R2.set 12 (bt s 24)).congr (fun i _ => pt_even s 12 i))
        have R1' := hide (R1.other (a := ⟨w.heap.size + 1, 12, none⟩) (by simp) (.int .u64 (bt s 24)))
        have O' := hide (O.setCell (p := ⟨w.heap.size + 1, 12, none⟩) (by simp) (.int .u64 (bt s 24)))
        clear R1 R2 O
        go_wp2_with fail
        go_region
        go_wp2
        first | exact ⟨⟨25, by omega, rfl, R1'.out, RR.out, O'.out.drew⟩, by simp [intOf]⟩ | (go_roundw; (case rel => exact ⟨25, by omega, rfl, R1'.out, RR.out, O'.out.drew⟩); (case measure => simp [intOf]))
      · have hb := bt_at s 25 (by omega)
        obtain ⟨p, q⟩ := bt_bd s 25
        have e := ptor1 s 24 25
        have c := R2.cell (i := 12) (by omega)
        rw [show pt s 25 12 = bt s 24 by simp [pt]] at c
        have f := R2.free 12
        have RR := hide ((R2.set 12 (bt s 24 + bt s 25 * 256)).congr (fun i _ => pt_odd s 12 i))
        have R1' := hide (R1.other (a := ⟨w.heap.size + 1, 12, none⟩) (by simp) (.int .u64 (bt s 24 + bt s 25 * 256)))
        have O' := hide (O.setCell (p := ⟨w.heap.size + 1, 12, none⟩) (by simp) (.int .u64 (bt s 24 + bt s 25 * 256)))
        clear R1 R2 O
        go_wp2_with fail
        go_region
        go_wp2
        first | exact ⟨⟨26, by omega, rfl, R1'.out, RR.out, O'.out.drew⟩, by simp [intOf]⟩ | (go_roundw; (case rel => exact ⟨26, by omega, rfl, R1'.out, RR.out, O'.out.drew⟩); (case measure => simp [intOf]))
      · have hb := bt_at s 26 (by omega)
        obtain ⟨p, q⟩ := bt_bd s 26
        have e := ptor0 s 26
        have c := R2.cell (i := 13) (by omega)
        rw [show pt s 26 13 = 0 by simp [pt]] at c
        have f := R2.free 13
        have RR := hide ((R2.set 13 (bt s 26)).congr (fun i _ => pt_even s 13 i))
        have R1' := hide (R1.other (a := ⟨w.heap.size + 1, 13, none⟩) (by simp) (.int .u64 (bt s 26)))
        have O' := hide (O.setCell (p := ⟨w.heap.size + 1, 13, none⟩) (by simp) (.int .u64 (bt s 26)))
        clear R1 R2 O
        go_wp2_with fail
        go_region
        go_wp2
        first | exact ⟨⟨27, by omega, rfl, R1'.out, RR.out, O'.out.drew⟩, by simp [intOf]⟩ | (go_roundw; (case rel => exact ⟨27, by omega, rfl, R1'.out, RR.out, O'.out.drew⟩); (case measure => simp [intOf]))
      · have hb := bt_at s 27 (by omega)
        obtain ⟨p, q⟩ := bt_bd s 27
        have e := ptor1 s 26 27
        have c := R2.cell (i := 13) (by omega)
        rw [show pt s 27 13 = bt s 26 by simp [pt]] at c
        have f := R2.free 13
        have RR := hide ((R2.set 13 (bt s 26 + bt s 27 * 256)).congr (fun i _ => pt_odd s 13 i))
        have R1' := hide (R1.other (a := ⟨w.heap.size + 1, 13, none⟩) (by simp) (.int .u64 (bt s 26 + bt s 27 * 256)))
        have O' := hide (O.setCell (p := ⟨w.heap.size + 1, 13, none⟩) (by simp) (.int .u64 (bt s 26 + bt s 27 * 256)))
        clear R1 R2 O
        go_wp2_with fail
        go_region
        go_wp2
        first | exact ⟨⟨28, by omega, rfl, R1'.out, RR.out, O'.out.drew⟩, by simp [intOf]⟩ | (go_roundw; (case rel => exact ⟨28, by omega, rfl, R1'.out, RR.out, O'.out.drew⟩); (case measure => simp [intOf]))
      · have hb := bt_at s 28 (by omega)
        obtain ⟨p, q⟩ := bt_bd s 28
        have e := ptor0 s 28
        have c := R2.cell (i := 14) (by omega)
        rw [show pt s 28 14 = 0 by simp [pt]] at c
        have f := R2.free 14
        have RR := hide ((R2.set 14 (bt s 28)).congr (fun i _ => pt_even s 14 i))
        have R1' := hide (R1.other (a := ⟨w.heap.size + 1, 14, none⟩) (by simp) (.int .u64 (bt s 28)))
        have O' := hide (O.setCell (p := ⟨w.heap.size + 1, 14, none⟩) (by simp) (.int .u64 (bt s 28)))
        clear R1 R2 O
        go_wp2_with fail
        go_region
        go_wp2
        first | exact ⟨⟨29, by omega, rfl, R1'.out, RR.out, O'.out.drew⟩, by simp [intOf]⟩ | (go_roundw; (case rel => exact ⟨29, by omega, rfl, R1'.out, RR.out, O'.out.drew⟩); (case measure => simp [intOf]))
      · have hb := bt_at s 29 (by omega)
        obtain ⟨p, q⟩ := bt_bd s 29
        have e := ptor1 s 28 29
        have c := R2.cell (i := 14) (by omega)
        rw [show pt s 29 14 = bt s 28 by simp [pt]] at c
        have f := R2.free 14
        have RR := hide ((R2.set 14 (bt s 28 + bt s 29 * 256)).congr (fun i _ => pt_odd s 14 i))
        have R1' := hide (R1.other (a := ⟨w.heap.size + 1, 14, none⟩) (by simp) (.int .u64 (bt s 28 + bt s 29 * 256)))
        have O' := hide (O.setCell (p := ⟨w.heap.size + 1, 14, none⟩) (by simp) (.int .u64 (bt s 28 + bt s 29 * 256)))
        clear R1 R2 O
        go_wp2_with fail
        go_region
        go_wp2
        first | exact ⟨⟨30, by omega, rfl, R1'.out, RR.out, O'.out.drew⟩, by simp [intOf]⟩ | (go_roundw; (case rel => exact ⟨30, by omega, rfl, R1'.out, RR.out, O'.out.drew⟩); (case measure => simp [intOf]))
      · have hb := bt_at s 30 (by omega)
        obtain ⟨p, q⟩ := bt_bd s 30
        have e := ptor0 s 30
        have c := R2.cell (i := 15) (by omega)
        rw [show pt s 30 15 = 0 by simp [pt]] at c
        have f := R2.free 15
        have RR := hide ((R2.set 15 (bt s 30)).congr (fun i _ => pt_even s 15 i))
        have R1' := hide (R1.other (a := ⟨w.heap.size + 1, 15, none⟩) (by simp) (.int .u64 (bt s 30)))
        have O' := hide (O.setCell (p := ⟨w.heap.size + 1, 15, none⟩) (by simp) (.int .u64 (bt s 30)))
        clear R1 R2 O
        go_wp2_with fail
        go_region
        go_wp2
        first | exact ⟨⟨31, by omega, rfl, R1'.out, RR.out, O'.out.drew⟩, by simp [intOf]⟩ | (go_roundw; (case rel => exact ⟨31, by omega, rfl, R1'.out, RR.out, O'.out.drew⟩); (case measure => simp [intOf]))
      · have hb := bt_at s 31 (by omega)
        obtain ⟨p, q⟩ := bt_bd s 31
        have e := ptor1 s 30 31
        have c := R2.cell (i := 15) (by omega)
        rw [show pt s 31 15 = bt s 30 by simp [pt]] at c
        have f := R2.free 15
        have RR := hide ((R2.set 15 (bt s 30 + bt s 31 * 256)).congr (fun i _ => pt_odd s 15 i))
        have R1' := hide (R1.other (a := ⟨w.heap.size + 1, 15, none⟩) (by simp) (.int .u64 (bt s 30 + bt s 31 * 256)))
        have O' := hide (O.setCell (p := ⟨w.heap.size + 1, 15, none⟩) (by simp) (.int .u64 (bt s 30 + bt s 31 * 256)))
        clear R1 R2 O
        go_wp2_with fail
        go_region
        go_wp2
        first | exact ⟨⟨32, by omega, rfl, R1'.out, RR.out, O'.out.drew⟩, by simp [intOf]⟩ | (go_roundw; (case rel => exact ⟨32, by omega, rfl, R1'.out, RR.out, O'.out.drew⟩); (case measure => simp [intOf]))
    · have e : k = 32 := by omega
      subst e
      have RR := hide (R1.setAll (pt s 32))
      have OO := hide (below_setCells (g := w.heap.size) (Nat.le_refl _) (arr 16 (pt s 32)).toList 0 O)
      go_wp2_with (first | (refine wpList_load_row rfl 39 _ rfl (w.heap.size + 1) rfl 39 (arr 16 (pt s 32)) (0, 0) _ R2 Tryz.underlying39 rfl (info39 _) ?_) | (refine wpList_store_mid rfl 39 _ _ rfl w.heap.size 0 (arr 16 (pt s 32)) rfl rfl (by rw [arr_size]; exact R1.there) (info39 _) (arr_one _ _) ?_))
      exact bodyPost_ret (v := .agg (arr 16 (pt s 32))) (results_cell_row Tryz.results78 _ _ w.heap.size 39 (arr 16 (pt s 32)) (0, 0) _ rfl RR.out Tryz.underlying39 rfl (info39 _)) rfl ⟨rfl, OO.out⟩

end Go.Proofs.YtkeocdebfgcnnaaGreat

/- The contracts of the document's Of, Small and Canonical. -/
namespace Go.Proofs.YtkeocdebfgcnnaaGreat
open Go.RowKit

theorem wid_S (f : Nat → Int) : S (wid f 16) 32 = S f 16 := by
  rw [S_upper_zero (wid f 16) fun i h _ => by unfold wid; rw [if_neg (by omega)]]
  exact S_congr fun i hi => by unfold wid; rw [if_pos hi]

theorem wid_48 {f : Nat → Int} (h : Dig f 16) : B48 (wid f 16) := ⟨fun i _ => by
  unfold wid
  by_cases hi : i < 16
  · rw [if_pos hi]
    have := h i hi
    omega
  · rw [if_neg hi]
    omega⟩

set_option maxRecDepth 100000 in
set_option maxHeartbeats 1000000 in
theorem rof_any (s : ByteArray) (w : World) (hs : s.size = 32) :
    Calls Tryz.prog 38 #[.string s] w fun r w' => r = .returned (.agg (arr 16 (d16 (val s % Pm)))) ∧ Below w.heap.size w w' := by
  go_enter Tryz.func38, Tryz.ntmps38
  go_wp2_with fail
  rw [show #[Value.int IntKind.u64 0, Value.int IntKind.u64 0, Value.int IntKind.u64 0, Value.int IntKind.u64 0, Value.int IntKind.u64 0, Value.int IntKind.u64 0, Value.int IntKind.u64 0, Value.int IntKind.u64 0, Value.int IntKind.u64 0, Value.int IntKind.u64 0, Value.int IntKind.u64 0, Value.int IntKind.u64 0, Value.int IntKind.u64 0, Value.int IntKind.u64 0, Value.int IntKind.u64 0, Value.int IntKind.u64 0] = arr 16 (fun _ => 0) from rfl]
  have R := Row.new w 39 16 (fun _ => 0)
  have O := new_below w (.cells (arr 16 (fun _ => 0)) 39)
  refine (parts_any s _ hs).mono ?_
  rintro _ w1 ⟨rfl, hb⟩
  replace R := R.keep hb
  replace O := O.trans (hb.mono O.size)
  clear hb
  go_wp2_with fail
  refine (wide_any (pt s 32) _).mono ?_
  rintro _ w2 ⟨rfl, hb⟩
  replace R := R.keep hb
  replace O := O.trans (hb.mono O.size)
  clear hb
  go_wp2_with fail
  refine (reduce_any (wid (pt s 32) 16) _ (wid_48 (pt_dig s 32))).mono ?_
  rintro _ w3 ⟨rfl, hb⟩
  replace R := R.keep hb
  replace O := O.trans (hb.mono O.size)
  clear hb
  rw [wid_S, pt_S]
  have RR := hide (R.setAll (d16 (val s % Pm)))
  have OO := hide (below_setCells (g := w.heap.size) (Nat.le_refl _) (arr 16 (d16 (val s % Pm))).toList 0 O)
  go_wp2_with (refine wpList_store_mid rfl 39 _ _ rfl w.heap.size 0 (arr 16 (d16 (val s % Pm))) rfl rfl (by rw [arr_size]; exact R.there) (info39 _) (arr_one _ _) ?_)
  exact bodyPost_ret (v := .agg (arr 16 (d16 (val s % Pm)))) (results_cell_row Tryz.results38 _ _ w.heap.size 39 (arr 16 (d16 (val s % Pm))) (0, 0) _ rfl RR.out Tryz.underlying39 rfl (info39 _)) rfl ⟨rfl, OO.out⟩

theorem and16u {x : Int} (h0 : 0 ≤ x) (h1 : x < 4294967296) : bits .and .u32 x 65535 = x % 65536 := by
  rw [u32_and x _ h0 h1 (by decide) (by decide)]
  have e : (65535 : Int).toNat = 65535 := by decide
  rw [e, nat_mask16]
  omega

theorem small_arr {n : Int} (h0 : 0 ≤ n) (h1 : n < 4294967296) : arr 16 (d16 n) = #[.int .u64 (n % 65536), .int .u64 (n / 65536), .int .u64 0, .int .u64 0, .int .u64 0, .int .u64 0, .int .u64 0, .int .u64 0, .int .u64 0, .int .u64 0, .int .u64 0, .int .u64 0, .int .u64 0, .int .u64 0, .int .u64 0, .int .u64 0] := by
  have e : arr 16 (d16 n) = arr 16 (fun i => if i = 0 then n % 65536 else if i = 1 then n / 65536 else 0) := by
    refine arr_congr fun i hi => ?_
    unfold d16
    by_cases i0 : i = 0
    · subst i0; simp
    · by_cases i1 : i = 1
      · subst i1; simp; omega
      · rw [if_neg i0, if_neg i1]
        have hp : (4294967296 : Int) ≤ 65536 ^ i := by
          obtain ⟨j, rfl⟩ : ∃ j, i = j + 2 := ⟨i - 2, by omega⟩
          rw [Int.pow_add]
          have := p16 j
          have e2 : (65536 : Int) ^ 2 = 4294967296 := by decide
          rw [e2]
          omega
        rw [Int.ediv_eq_zero_of_lt h0 (by omega)]
        decide
  rw [e]
  rfl

set_option maxRecDepth 100000 in
set_option maxHeartbeats 1000000 in
theorem rsmall_any (n : Int) (w : World) (h0 : 0 ≤ n) (h1 : n < 4294967296) :
    Calls Tryz.prog 41 #[.int .u32 n] w fun r w' => r = .returned (.agg (arr 16 (d16 n))) ∧ Below w.heap.size w w' := by
  have e := and16u h0 h1
  have HA := hide (small_arr h0 h1)
  go_enter Tryz.func41, Tryz.ntmps41
  go_wp2
  refine bodyPost_ret (v := .agg (arr 16 (d16 n))) ?_ rfl ⟨rfl, (Below.refl _ _).alloc (Nat.le_refl _) _⟩
  rw [HA.out]
  simp [results, Tryz.results41, go_sem]

set_option maxRecDepth 100000 in
set_option maxHeartbeats 1000000 in
theorem rcanon_yes (s : ByteArray) (w : World) (hs : s.size = 32) :
    Calls Tryz.prog 37 #[.string s] w fun r w' => r = .returned (.bool (decide (val s < Pm))) ∧ Below w.heap.size w w' := by
  have n0 : ((s.size : Int) == 32) = true := by simp [hs]
  go_enter Tryz.func37, Tryz.ntmps37
  go_wp2_with fail
  refine (parts_any s _ hs).mono ?_
  rintro _ w1 ⟨rfl, hb1⟩
  go_wp2_with fail
  refine (prime_any _).mono ?_
  rintro _ w2 ⟨rfl, hb2⟩
  go_wp2_with fail
  refine (less_any (pt s 32) pF _ (pt_dig s 32) pF_dig).mono ?_
  rintro _ w3 ⟨rfl, hb3⟩
  rw [pF_S, pt_S]
  have O := hide ((hb1.trans (hb2.mono hb1.size)).trans (hb3.mono (by have := hb1.size; have := hb2.size; omega)))
  clear hb1 hb2 hb3
  generalize hd : decide (val s < Pm) = d
  have HD := hide hd
  clear hd
  go_wp2
  go_ret
  exact ⟨by rw [HD.out]; rfl, O.out⟩

end Go.Proofs.YtkeocdebfgcnnaaGreat

/- When two arrays of words are the same. -/
namespace Go.Proofs.YtkeocdebfgcnnaaGreat
open Go.RowKit

/-- The words from k on, m of them, are the same. -/
def eqw (f g : Nat → Int) : Nat → Nat → Bool
  | _, 0 => true
  | k, m + 1 => (f k == g k) && eqw f g (k + 1) m

theorem run_eqs_from (d n : Nat) (f g : Nat → Int) (w : World) : ∀ (m k : Nat), k + m ≤ n →
    Sem.run Tryz.prog (forIn (List.range' k m 1) ((none, ()) : Option Bool × Unit) fun i _ => do
      let a ← part 22 (arr n f) i
      let b ← part 22 (arr n g) i
      let r ← Op.equalIn (d + 1) 22 a b
      if (!r) = true then pure (ForInStep.done (some false, ())) else pure (ForInStep.yield (none, ()))) w = .ok (if eqw f g k m = true then none else some false, ()) w := by
  intro m
  induction m with
  | zero => intro k _; simp [eqw, Sem.run_pure]
  | succ m ih =>
    intro k hk
    have hp : ∀ h : Nat → Int, (part 22 (arr n h) k).run Tryz.prog w = .ok (.int .u64 (h k)) w := fun h => by
      have ha : (isAgg 22).run Tryz.prog w = .ok false w := by kernel_rfl
      simp [part, Sem.run_bind, ha, arr_get n h k (by omega)]
    simp only [List.range'_succ, List.forIn_cons, Sem.run_bind, hp, Result.andThen_ok, run_equalIn_int w d 22 .u64 .u64 (f k) (g k) Tryz.underlying22]
    cases hc : (f k == g k)
    · simp [eqw, hc, Sem.run_pure]
    · simp only [Bool.not_true, Bool.false_eq_true, if_false, Sem.run_pure, Result.andThen_ok, eqw, hc, Bool.true_and]
      exact ih (k + 1) (by omega)

theorem run_equalIn_words (d : Nat) (t : TypeId) (n : Nat) (f g : Nat → Int) (w : World) (ht : Tryz.prog.underlying t = some (.array n 22)) :
    (Op.equalIn (d + 1 + 1) t (.agg (arr n f)) (.agg (arr n g))).run Tryz.prog w = .ok (eqw f g 0 n) w := by
  have hz : (sizeOf 22).run Tryz.prog w = .ok 1 w := by kernel_rfl
  rw [Op.equalIn]
  simp only [Sem.run_bind, run_underlying ht, Result.andThen_ok, hz, Nat.mul_one]
  rw [Std.Legacy.Range.forIn_eq_forIn_range']
  have e : ([:n] : Std.Legacy.Range).size = n := by simp [Std.Legacy.Range.size]
  rw [e]
  have h := run_eqs_from d n f g w n 0 (by omega)
  rw [h]
  cases hc : eqw f g 0 n <;> simp [Sem.run_pure]

theorem run_eql_words (t : TypeId) (n : Nat) (f g : Nat → Int) (w : World) (ht : Tryz.prog.underlying t = some (.array n 22)) :
    (binOp .eql t (.agg (arr n f)) (.agg (arr n g))).run Tryz.prog w = .ok (.bool (eqw f g 0 n)) w := by
  rw [run_eql_struct, run_equalIn_words 9998 t n f g w ht]
  rfl

def E5.fn (x : E5) (i : Nat) : Int := [x.a, x.b, x.c, x.d, x.e].getD i 0
/-- Part by part the same. -/
def eq5 (x y : E5) : Bool := eqw x.fn y.fn 0 5

theorem run_eql_e5 (x y : E5) (w : World) : (binOp .eql 23 x.v y.v).run Tryz.prog w = .ok (.bool (eq5 x y)) w :=
  run_eql_words 23 5 x.fn y.fn w Tryz.underlying23

theorem eq5_iff (x y : E5) : eq5 x y = true ↔ x = y := by
  obtain ⟨a, b, c, d, e⟩ := x
  obtain ⟨f, g, h, i, j⟩ := y
  simp only [eq5, eqw, E5.fn, E5.mk.injEq]
  simp

theorem eqw_iff (f g : Nat → Int) : ∀ (m k : Nat), eqw f g k m = true ↔ ∀ i, k ≤ i → i < k + m → f i = g i := by
  intro m
  induction m with
  | zero => intro k; simp only [eqw]; exact ⟨fun _ i h1 h2 => by omega, fun _ => trivial⟩
  | succ m ih =>
    intro k
    simp only [eqw, Bool.and_eq_true, beq_iff_eq, ih (k + 1)]
    constructor
    · intro h i h1 h2
      by_cases e : i = k
      · rw [e]; exact h.1
      · exact h.2 i (by omega) (by omega)
    · intro h
      exact ⟨h k (by omega) (by omega), fun i h1 h2 => h i (by omega) (by omega)⟩

end Go.Proofs.YtkeocdebfgcnnaaGreat

/- The contracts of Same and Odd. -/
namespace Go.Proofs.YtkeocdebfgcnnaaGreat
open Go.RowKit

theorem oddR {y : E5} {n : Int} (h : y.Low) (e : y.n = n) : (bits BinOp.and IntKind.u64 y.a 1 == 1) = (n % 2 == 1) := by
  obtain ⟨a0, a1, b0, b1, c0, c1, d0, d1, e0, e1⟩ := h
  rw [u64_and y.a 1 a0 (by omega) (by decide) (by decide), show (1 : Int).toNat = 1 from rfl, nat_mask1, ← e]
  have : ((y.a.toNat % 2 : Nat) : Int) = y.n % 2 := by simp only [E5.n]; omega
  rw [this]

set_option maxRecDepth 100000 in
set_option maxHeartbeats 1000000 in
theorem odd_any (x : E5) (w : World) (hx : x.Ok) :
    Calls Tryz.prog 29 #[x.v] w fun r w' => r = .returned (.bool (x.n % Pm % 2 == 1)) ∧ Below w.heap.size w w' := by
  have HN := hide (leastF_n hx)
  go_enter Tryz.func29, Tryz.ntmps29
  go_wp2_with fail
  refine (least_any x _ hx).mono ?_
  rintro _ w1 ⟨rfl, hb⟩
  have hl := leastF_low x
  generalize leastF x = y at *
  have i0 : ∀ w, (Instr.index 23 (.agg #[.int .u64 y.a, .int .u64 y.b, .int .u64 y.c, .int .u64 y.d, .int .u64 y.e]) (.int .i64 0)).run Tryz.prog w = .ok (.int .u64 y.a) w := fun _ => by kernel_rfl
  have H3 := hide (below1 hb)
  clear hb
  go_wp2
  go_ret
  exact ⟨by rw [← oddR hl HN.out]; rfl, H3.out⟩

theorem low_inj {x y : E5} (hx : x.Low) (hy : y.Low) (h : x.n = y.n) : x = y := by
  obtain ⟨a, b, c, d, e⟩ := x
  obtain ⟨f, g, i, j, k⟩ := y
  obtain ⟨a0, a1, b0, b1, c0, c1, d0, d1, e0, e1⟩ := hx
  obtain ⟨f0, f1, g0, g1, h0, h1, i0, i1, j0, j1⟩ := hy
  simp only [E5.n] at *
  have h1 : a = f := by omega
  have h2 : b = g := by omega
  have h3 : c = i := by omega
  have h4 : d = j := by omega
  have h5 : e = k := by omega
  rw [h1, h2, h3, h4, h5]

theorem sameR {x y : E5} (hx : x.Ok) (hy : y.Ok) : eq5 (leastF x) (leastF y) = (x.n % Pm == y.n % Pm) := by
  rw [Bool.eq_iff_iff, eq5_iff, beq_iff_eq, ← leastF_n hx, ← leastF_n hy]
  exact ⟨fun h => by rw [h], fun h => low_inj (leastF_low x) (leastF_low y) h⟩

set_option maxRecDepth 100000 in
set_option maxHeartbeats 1000000 in
theorem same_any (x y : E5) (w : World) (hx : x.Ok) (hy : y.Ok) :
    Calls Tryz.prog 60 #[x.v, y.v] w fun r w' => r = .returned (.bool (x.n % Pm == y.n % Pm)) ∧ Below w.heap.size w w' := by
  have hg : Tryz.prog.eqGuardType Tryz.prog.depth 23 = false := by kernel_rfl
  have he := run_eql_e5 (leastF x) (leastF y)
  go_enter Tryz.func60, Tryz.ntmps60
  go_wp2_with fail
  have A := (EAt.new w x 25).alloc (.cells #[.int .u64 y.a, .int .u64 y.b, .int .u64 y.c, .int .u64 y.d, .int .u64 y.e] 25)
  have B := EAt.new (w.alloc (.cells #[.int .u64 x.a, .int .u64 x.b, .int .u64 x.c, .int .u64 x.d, .int .u64 x.e] 25)) y 25
  rw [World.size_alloc] at B
  have O := hide (((Below.refl w.heap.size w).alloc (Nat.le_refl _) (.cells #[.int .u64 x.a, .int .u64 x.b, .int .u64 x.c, .int .u64 x.d, .int .u64 x.e] 25)).alloc (by simp) (.cells #[.int .u64 y.a, .int .u64 y.b, .int .u64 y.c, .int .u64 y.d, .int .u64 y.e] 25))
  generalize (w.alloc (.cells #[.int .u64 x.a, .int .u64 x.b, .int .u64 x.c, .int .u64 x.d, .int .u64 x.e] 25)).alloc (.cells #[.int .u64 y.a, .int .u64 y.b, .int .u64 y.c, .int .u64 y.d, .int .u64 y.e] 25) = W at A B O ⊢
  have hne := KW.some W
  have c0 := A.k0
  have d0 := B.k0
  have c1 := A.k1
  have d1 := B.k1
  have c2 := A.k2
  have d2 := B.k2
  have c3 := A.k3
  have d3 := B.k3
  have c4 := A.k4
  have d4 := B.k4
  clear A B
  refine wp_region_keep (by kernel_rfl) (by kernel_rfl) ?_
  repeat (go_big_quiet_step ((go_at_call 75; exact keep_of (least_any _ _ (by first | exact hx | exact hy)))))
  refine wpQuiet_nil ?_
  intro s
  have hw := O.out.trans (s.keep.mono O.out.size)
  have HR := hide (sameR hx hy)
  clear he hg c0 c1 c2 c3 c4 d0 d1 d2 d3 d4 O hne
  go_wp2
  go_ret
  exact ⟨by rw [← HR.out]; rfl, hw⟩

end Go.Proofs.YtkeocdebfgcnnaaGreat

/- When an answer is the document's: the bytes are the same; and the contract of Canonical. -/
namespace Go.Proofs.YtkeocdebfgcnnaaGreat
open Go.RowKit

set_option maxHeartbeats 2000000 in
theorem digs4 {a b c d : Int} (ha : 0 ≤ a ∧ a < 65536) (hb : 0 ≤ b ∧ b < 65536) (hc : 0 ≤ c ∧ c < 65536) (_hd : 0 ≤ d ∧ d < 65536) :
    digs (a + 65536 * b + 4294967296 * c + 281474976710656 * d) = [a % 256, a / 256 % 256, b % 256, b / 256 % 256, c % 256, c / 256 % 256, d % 256, d / 256 % 256] := by
  unfold digs
  have h1 : (a + 65536 * b + 4294967296 * c + 281474976710656 * d) % 256 = a % 256 := by omega
  have h2 : (a + 65536 * b + 4294967296 * c + 281474976710656 * d) / 256 % 256 = a / 256 % 256 := by omega
  have h3 : (a + 65536 * b + 4294967296 * c + 281474976710656 * d) / 65536 % 256 = b % 256 := by omega
  have h4 : (a + 65536 * b + 4294967296 * c + 281474976710656 * d) / 16777216 % 256 = b / 256 % 256 := by omega
  have h5 : (a + 65536 * b + 4294967296 * c + 281474976710656 * d) / 4294967296 % 256 = c % 256 := by omega
  have h6 : (a + 65536 * b + 4294967296 * c + 281474976710656 * d) / 1099511627776 % 256 = c / 256 % 256 := by omega
  have h7 : (a + 65536 * b + 4294967296 * c + 281474976710656 * d) / 281474976710656 % 256 = d % 256 := by omega
  have h8 : (a + 65536 * b + 4294967296 * c + 281474976710656 * d) / 72057594037927936 % 256 = d / 256 % 256 := by omega
  rw [h1, h2, h3, h4, h5, h6, h7, h8]

theorem S16 (f : Nat → Int) : S f 16 = f 0 + f 1 * 65536 + f 2 * 4294967296 + f 3 * 281474976710656 + f 4 * 18446744073709551616 + f 5 * 1208925819614629174706176 + f 6 * 79228162514264337593543950336 + f 7 * 5192296858534827628530496329220096 + f 8 * 340282366920938463463374607431768211456 + f 9 * 22300745198530623141535718272648361505980416 + f 10 * 1461501637330902918203684832716283019655932542976 + f 11 * 95780971304118053647396689196894323976171195136475136 + f 12 * 6277101735386680763835789423207666416102355444464034512896 + f 13 * 411376139330301510538742295639337626245683966408394965837152256 + f 14 * 26959946667150639794667015087019630673637144422540572481103610249216 + f 15 * 1766847064778384329583297500742918515827483896875618958121606201292619776 := by
  simp [S]

set_option maxHeartbeats 2000000 in
theorem lebytes_S {f : Nat → Int} (hf : Dig f 16) : lebytes (S f 16) = bs (rb f 32) := by
  have h0 := hf 0 (by omega)
  have h1 := hf 1 (by omega)
  have h2 := hf 2 (by omega)
  have h3 := hf 3 (by omega)
  have h4 := hf 4 (by omega)
  have h5 := hf 5 (by omega)
  have h6 := hf 6 (by omega)
  have h7 := hf 7 (by omega)
  have h8 := hf 8 (by omega)
  have h9 := hf 9 (by omega)
  have h10 := hf 10 (by omega)
  have h11 := hf 11 (by omega)
  have h12 := hf 12 (by omega)
  have h13 := hf 13 (by omega)
  have h14 := hf 14 (by omega)
  have h15 := hf 15 (by omega)
  have e := S16 f
  have w0 : S f 16 % 18446744073709551616 = f 0 + 65536 * f 1 + 4294967296 * f 2 + 281474976710656 * f 3 := by rw [e]; omega
  have w1 : S f 16 / 18446744073709551616 % 18446744073709551616 = f 4 + 65536 * f 5 + 4294967296 * f 6 + 281474976710656 * f 7 := by rw [e]; omega
  have w2 : S f 16 / 340282366920938463463374607431768211456 % 18446744073709551616 = f 8 + 65536 * f 9 + 4294967296 * f 10 + 281474976710656 * f 11 := by rw [e]; omega
  have w3 : S f 16 / 6277101735386680763835789423207666416102355444464034512896 % 18446744073709551616 = f 12 + 65536 * f 13 + 4294967296 * f 14 + 281474976710656 * f 15 := by rw [e]; omega
  unfold lebytes
  rw [w0, w1, w2, w3, digs4 h0 h1 h2 h3, digs4 h4 h5 h6 h7, digs4 h8 h9 h10 h11, digs4 h12 h13 h14 h15]
  congr 1
  simp [rb, by16, List.range, List.range.loop]

end Go.Proofs.YtkeocdebfgcnnaaGreat

/- The contracts of the law's of; when an answer is the document's. -/
namespace Go.Proofs.YtkeocdebfgcnnaaGreat
open Go.RowKit

theorem Pm_pos : (0 : Int) < Pm := by decide
theorem Pm_16 : Pm < 65536 ^ 16 := by decide
theorem dS (M : Int) : S (d16 (M % Pm)) 16 = M % Pm := by
  have h0 := Int.emod_nonneg M (show Pm ≠ 0 by decide)
  have h1 := Int.emod_lt_of_pos M Pm_pos
  have h2 := Pm_16
  rw [d16_S _ h0, Int.emod_eq_of_lt h0 (by omega)]
theorem quiet_neq {C : World → Prop} {o : Oper} {a : Act} {K : Act → Prop} (f g : Nat → Int) (x y : Operand) (rt : TypeId) (ho : o.op = .binOp .neq 39 x y rt) (hx : a.eval x = .agg (arr 16 f)) (hy : a.eval y = .agg (arr 16 g))
    (hk : K (a.put o.dst (.bool (!eqw f g 0 16)))) : o.quiet Tryz.prog a C K := by
  have hgu : Tryz.prog.eqGuardType Tryz.prog.depth 39 = false := by kernel_rfl
  have hn : ∀ w, (binOp .neq 39 (.agg (arr 16 f)) (.agg (arr 16 g))).run Tryz.prog w = .ok (.bool (!eqw f g 0 16)) w := fun w => by
    rw [run_neq_struct, run_equalIn_words 9998 39 16 f g w Tryz.underlying39]
    rfl
  refine ⟨.bool (!eqw f g 0 16), fun w hw => ?_, hk⟩
  unfold Oper.quietAt execOp
  simp only [ho, hx, hy, Sem.run_bind, Result.andThen_ok, run_eqGuard_agg (hm := hgu), hn, Sem.run_pure]
  exact ⟨rfl, rfl⟩

end Go.Proofs.YtkeocdebfgcnnaaGreat

/- The walks of the document's points, told by what their callees hand back. -/
namespace Go.Proofs.YtkeocdebfgcnnaaGreat
open Go.RowKit

theorem run_eq16 (f g : Nat → Int) {a : Act} {o : Oper} (x y : Operand) {rt : TypeId} (ho : o.op = .binOp .eql 39 x y rt) (hx : a.eval x = .agg (arr 16 f)) (hy : a.eval y = .agg (arr 16 g)) (hgu : ∀ w, (eqGuard .eql 39 x y (.agg (arr 16 f)) (.agg (arr 16 g))).run Tryz.prog w = .ok () w) (w : World) :
    (execOp a.eval o).run Tryz.prog w = .ok (.value (.bool (eqw f g 0 16))) w := by
  unfold execOp
  simp only [ho, hx, hy, hgu, run_eql_words 39 16 f g w Tryz.underlying39, Sem.run_bind, Result.andThen_ok, Sem.run_pure]

structure rofF (x y r1 r2 : Nat → Int) : Prop where
  h1 : ∀ w, Calls Tryz.prog 41 #[.int .u32 1] w fun r w' => r = .returned (.agg (arr 16 r1)) ∧ Below w.heap.size w w'
  h2 : ∀ w, Calls Tryz.prog 39 #[.agg (arr 16 x), .agg (arr 16 y)] w fun r w' => r = .returned (.agg (arr 16 r2)) ∧ Below w.heap.size w w'

set_option maxRecDepth 100000 in
set_option maxHeartbeats 4000000 in
theorem rof_gen (x y r1 r2 : Nat → Int) (w : World) (F : rofF x y r1 r2)  :
    Calls Tryz.prog 47 #[.agg (arr 16 x), .agg (arr 16 y)] w fun r w' => r = .returned (.agg (arr 64 (p4 16 x y r1 r2))) ∧ Below w.heap.size w w' := by
  go_enter Tryz.func47, Tryz.ntmps47
  have M := Mem.start w
  refine sr ?_
  refine pl_new M (want_no rfl) (some 2) rfl (.cells (arr 16 x) 39) (fun _ => by kernel_rfl) ?_
  intro g1 w1 M
  replace M : Mem w [⟨g1, .cells (arr 16 x) 39⟩] w1 := M
  refine pl_new M (want_no rfl) (some 3) rfl (.cells (arr 16 y) 39) (fun _ => by kernel_rfl) ?_
  intro g2 w2 M
  replace M : Mem w [⟨g1, .cells (arr 16 x) 39⟩, ⟨g2, .cells (arr 16 y) 39⟩] w2 := M
  refine pl_new M (want_no rfl) (some 4) rfl (.cells (arr 64 (fun _ => 0)) 41) (fun _ => by kernel_rfl) ?_
  intro g3 w3 M
  replace M : Mem w [⟨g1, .cells (arr 16 x) 39⟩, ⟨g2, .cells (arr 16 y) 39⟩, ⟨g3, .cells (arr 64 (fun _ => 0)) 41⟩] w3 := M
  refine nt ?_
  refine wp_seq ?_
  refine rg_tail M 7 (by kernel_rfl) (by kernel_rfl) ?_
  simp only [List.take_succ_cons, List.take_zero]
  refine k_load M (want_no rfl) (some 5) rfl 39 _ rfl 0 g1 0 (by kernel_rfl) 16 39 x rfl 16 x (Part.all _ _) (by decide) _ Tryz.underlying39 rfl inz39 ?_
  refine k_load M (want_no rfl) (some 6) rfl 39 _ rfl 1 g2 0 (by kernel_rfl) 16 39 y rfl 16 y (Part.all _ _) (by decide) _ Tryz.underlying39 rfl inz39 ?_
  refine k_call (want_no rfl) (some 7) rfl 41 #[.int .u32 1] (.agg (arr 16 r1)) (fun _ => by kernel_rfl) F.h1 ?_
  refine k_load M (want_no rfl) (some 8) rfl 39 _ rfl 0 g1 0 (by kernel_rfl) 16 39 x rfl 16 x (Part.all _ _) (by decide) _ Tryz.underlying39 rfl inz39 ?_
  refine k_load M (want_no rfl) (some 9) rfl 39 _ rfl 1 g2 0 (by kernel_rfl) 16 39 y rfl 16 y (Part.all _ _) (by decide) _ Tryz.underlying39 rfl inz39 ?_
  refine k_call (want_no rfl) (some 10) rfl 39 #[.agg (arr 16 x), .agg (arr 16 y)] (.agg (arr 16 r2)) (fun _ => by kernel_rfl) F.h2 ?_
  refine kv 11 (.agg (arr 64 (p4 16 x y r1 r2))) ?_
  refine kl_nil ?_
  intro w4 M
  replace M : Mem w [⟨g1, .cells (arr 16 x) 39⟩, ⟨g2, .cells (arr 16 y) 39⟩, ⟨g3, .cells (arr 64 (fun _ => 0)) 41⟩] w4 := M
  refine pl_put M (want_no rfl) rfl 41 _ _ rfl 2 g3 (by kernel_rfl) 64 41 (fun _ => 0) (p4 16 x y r1 r2) rfl (by kernel_rfl) inz41 ?_
  intro w5 M
  replace M : Mem w [⟨g1, .cells (arr 16 x) 39⟩, ⟨g2, .cells (arr 16 y) 39⟩, ⟨g3, .cells (arr 64 (p4 16 x y r1 r2)) 41⟩] w5 := M
  refine nt ?_
  refine wp_ret ?_
  exact bodyPost_ret (v := .agg (arr 64 (p4 16 x y r1 r2))) (results_cell_row Tryz.results47 _ _ g3 41 (arr 64 (p4 16 x y r1 r2)) (0, 0) _ (by kernel_rfl) (M.get 2 rfl) Tryz.underlying41 rfl (by rw [arr_size]; exact inz41)) (by kernel_rfl) ⟨rfl, M.old⟩

structure rDF (r1 r2 r3 r4 r5 : Nat → Int) : Prop where
  h1 : ∀ w, Calls Tryz.prog 41 #[.int .u32 121665] w fun r w' => r = .returned (.agg (arr 16 r1)) ∧ Below w.heap.size w w'
  h2 : ∀ w, Calls Tryz.prog 46 #[.agg (arr 16 r1)] w fun r w' => r = .returned (.agg (arr 16 r2)) ∧ Below w.heap.size w w'
  h3 : ∀ w, Calls Tryz.prog 41 #[.int .u32 121666] w fun r w' => r = .returned (.agg (arr 16 r3)) ∧ Below w.heap.size w w'
  h4 : ∀ w, Calls Tryz.prog 44 #[.agg (arr 16 r3)] w fun r w' => r = .returned (.agg (arr 16 r4)) ∧ Below w.heap.size w w'
  h5 : ∀ w, Calls Tryz.prog 39 #[.agg (arr 16 r2), .agg (arr 16 r4)] w fun r w' => r = .returned (.agg (arr 16 r5)) ∧ Below w.heap.size w w'

set_option maxRecDepth 100000 in
set_option maxHeartbeats 4000000 in
theorem rD_gen (r1 r2 r3 r4 r5 : Nat → Int) (w : World) (F : rDF r1 r2 r3 r4 r5)  :
    Calls Tryz.prog 42 #[] w fun r w' => r = .returned (.agg (arr 16 r5)) ∧ Below w.heap.size w w' := by
  go_enter Tryz.func42, Tryz.ntmps42
  have M := Mem.start w
  refine sr ?_
  refine pl_new M (want_no rfl) (some 0) rfl (.cells (arr 16 (fun _ => 0)) 39) (fun _ => by kernel_rfl) ?_
  intro g1 w1 M
  replace M : Mem w [⟨g1, .cells (arr 16 (fun _ => 0)) 39⟩] w1 := M
  refine nt ?_
  refine sr ?_
  refine pl_call M (want_no rfl) (some 1) rfl 41 #[.int .u32 121665] (.agg (arr 16 r1)) (fun _ => by kernel_rfl) F.h1 ?_
  intro w2 M
  refine pl_call M (want_no rfl) (some 2) rfl 46 #[.agg (arr 16 r1)] (.agg (arr 16 r2)) (fun _ => by kernel_rfl) F.h2 ?_
  intro w3 M
  refine pl_call M (want_no rfl) (some 3) rfl 41 #[.int .u32 121666] (.agg (arr 16 r3)) (fun _ => by kernel_rfl) F.h3 ?_
  intro w4 M
  refine pl_call M (want_no rfl) (some 4) rfl 44 #[.agg (arr 16 r3)] (.agg (arr 16 r4)) (fun _ => by kernel_rfl) F.h4 ?_
  intro w5 M
  refine pl_call M (want_no rfl) (some 5) rfl 39 #[.agg (arr 16 r2), .agg (arr 16 r4)] (.agg (arr 16 r5)) (fun _ => by kernel_rfl) F.h5 ?_
  intro w6 M
  refine pl_put M (want_no rfl) rfl 39 _ _ rfl 0 g1 (by kernel_rfl) 16 39 (fun _ => 0) r5 rfl (by kernel_rfl) inz39 ?_
  intro w7 M
  replace M : Mem w [⟨g1, .cells (arr 16 r5) 39⟩] w7 := M
  refine nt ?_
  refine wp_ret ?_
  exact bodyPost_ret (v := .agg (arr 16 r5)) (results_cell_row Tryz.results42 _ _ g1 39 (arr 16 r5) (0, 0) _ (by kernel_rfl) (M.get 0 rfl) Tryz.underlying39 rfl (by rw [arr_size]; exact inz39)) (by kernel_rfl) ⟨rfl, M.old⟩

end Go.Proofs.YtkeocdebfgcnnaaGreat

/- Bytes of a string in memory of their own; the contracts of both Clamp. -/
namespace Go.Proofs.YtkeocdebfgcnnaaGreat
open Go.RowKit

theorem bs_size (l : List Int) : (bs l).size = l.length := by simp [bs, ByteArray.size]
theorem bt_bs (l : List Int) (i : Nat) (x : Int) (hl : l[i]? = some x) (h0 : 0 ≤ x) (h1 : x < 256) : bt (bs l) i = x := by
  unfold bt bs
  simp only [List.getElem?_toArray, List.getElem?_map, hl, Option.map_some, Option.getD_some]
  simp only [UInt8.toNat_ofNat']
  omega

/-- Block g holds the bytes f 0 .. f (n - 1), and may be written. -/
structure BC (W : World) (g : Nat) (f : Nat → Int) (n : Nat) : Prop where
  lt : g < W.heap.size
  c : ∀ i, i < n → W.cell? ⟨g, i, none⟩ = some (.int .u8 (f i))
  fz : ∀ i, i < n → W.frozen? ⟨g, i, none⟩ = false

set_option maxRecDepth 100000 in
theorem conv_back {W : World} {g n : Nat} {f : Nat → Int} (h : BC W g f n) (cap : Nat) (hf : ∀ i, i < n → 0 ≤ f i ∧ f i < 256) :
    (convert 70 9 (.slice (some ⟨g, 0, none⟩) n cap)).run Tryz.prog W = .ok (.string (bs ((List.range n).map f))) W := by
  have hl : ((List.range n).map fun i => UInt8.ofNat (f i).toNat).length = n := by simp
  have h2 := run_convert_bytes_back (P := Tryz.prog) W 70 9 5 ⟨g, 0, none⟩ cap ((List.range n).map fun i => UInt8.ofNat (f i).toNat) Tryz.underlying70 Tryz.underlying5 Tryz.underlying9 (fun j hj => by
    rw [hl] at hj
    have hadd : (⟨g, 0, none⟩ : Addr).add j = ⟨g, j, none⟩ := by unfold Addr.add; split <;> simp_all
    rw [hadd, h.c j hj]
    have := hf j hj
    simp
    omega)
  rw [hl] at h2
  rw [h2]
  unfold bs
  congr 3
  simp [List.map_map]

end Go.Proofs.YtkeocdebfgcnnaaGreat

/- Bytes in memory, for a walk that a program types. -/
namespace Go.Proofs.YtkeocdebfgcnnaaGreat
open Go.RowKit

/-- The block holds these n bytes, and they may be written. -/
structure ByZ (Z : Obj) (n : Nat) (f : Nat → Int) : Prop where
  ex : ∃ cs T fr, Z = .cells cs T fr ∧ (∀ i, i < n → cs[i]? = some (.int .u8 (f i))) ∧ ∀ i, i < n → (decide (fr.1 ≤ i) && decide (i < fr.2)) = false

theorem ByZ.bc {Z : Obj} {n : Nat} {f : Nat → Int} (h : ByZ Z n f) {W : World} {g : Nat} (hz : W.heap[g]? = some Z) : BC W g f n := by
  obtain ⟨cs, T, fr, rfl, h1, h2⟩ := h.ex
  refine ⟨(Array.getElem?_eq_some_iff.1 hz).1, fun i hi => ?_, fun i hi => ?_⟩
  · unfold World.cell?
    rw [hz]
    simpa using h1 i hi
  · unfold World.frozen?
    rw [hz]
    exact h2 i hi

theorem ByZ.congr {Z : Obj} {n : Nat} {f f' : Nat → Int} (h : ByZ Z n f) (e : ∀ i, i < n → f i = f' i) : ByZ Z n f' := by
  obtain ⟨cs, T, fr, rfl, h1, h2⟩ := h.ex
  exact ⟨cs, T, fr, rfl, fun i hi => by rw [h1 i hi, e i hi], h2⟩

theorem ByZ.set {Z : Obj} {n : Nat} {f : Nat → Int} (h : ByZ Z n f) {k : Nat} (hk : k < n) (v : Int) {W : World} {g : Nat} (hz : W.heap[g]? = some Z) : ∃ Z', (W.setCell ⟨g, k, none⟩ (.int .u8 v)).heap[g]? = some Z' ∧ ByZ Z' n (upd f k v) := by
  obtain ⟨cs, T, fr, rfl, h1, h2⟩ := h.ex
  refine ⟨.cells (cs.setIfInBounds k (.int .u8 v)) T fr, ?_, ⟨_, T, fr, rfl, fun i hi => ?_, h2⟩⟩
  · simp [World.setCell, Array.getElem?_modify, hz]
  · have hs := (Array.getElem?_eq_some_iff.1 (h1 k hk)).1
    rw [Array.getElem?_setIfInBounds]
    by_cases e : k = i
    · subst e
      simp [hs, upd]
    · rw [if_neg e, h1 i hi]
      simp [upd, Ne.symm e]

/-- n bytes, all written over. -/
theorem ByZ.setAll {Z : Obj} {n : Nat} {f : Nat → Int} (h : ByZ Z n f) (f' : Nat → Int) {W : World} {g : Nat} (hz : W.heap[g]? = some Z) (l : List Value) (hl : l.length = n) (hv : ∀ i, i < n → l[i]? = some (.int .u8 (f' i))) : ∃ Z', (W.setCells g 0 l).heap[g]? = some Z' ∧ ByZ Z' n f' := by
  have key : ∀ (l : List Value) (o : Nat) (W : World) (Z : Obj) (f : Nat → Int) (fn : Nat → Int), W.heap[g]? = some Z → ByZ Z n f → o + l.length ≤ n → (∀ i, i < l.length → l[i]? = some (.int .u8 (fn i))) → ∃ Z', (W.setCells g o l).heap[g]? = some Z' ∧ ByZ Z' n (fun i => if o ≤ i ∧ i < o + l.length then fn (i - o) else f i) := by
    intro l
    induction l with
    | nil =>
      intro o W Z f fn hz h _ _
      exact ⟨Z, hz, h.congr fun i _ => by rw [if_neg (by simp only [List.length_nil]; omega)]⟩
    | cons v l ih =>
      intro o W Z f fn hz h ho hv
      have h0 := hv 0 (by simp)
      simp only [List.getElem?_cons_zero, Option.some.injEq] at h0
      subst h0
      simp only [List.length_cons] at ho
      obtain ⟨Z1, hz1, hb1⟩ := h.set (k := o) (by omega) (fn 0) hz
      obtain ⟨Z2, hz2, hb2⟩ := ih (o + 1) _ Z1 _ (fun i => fn (i + 1)) hz1 hb1 (by omega) (fun i hi => by
        have := hv (i + 1) (by simp; omega)
        simpa using this)
      refine ⟨Z2, hz2, hb2.congr fun i _ => ?_⟩
      simp only [List.length_cons]
      by_cases e1 : o + 1 ≤ i ∧ i < o + 1 + l.length
      · rw [if_pos e1, if_pos (by omega), show i - (o + 1) + 1 = i - o by omega]
      · rw [if_neg e1]
        by_cases e2 : i = o
        · subst e2
          rw [if_pos (by omega), show i - i = 0 by omega]
          simp [upd]
        · rw [if_neg (by omega)]
          simp [upd, e2]
  obtain ⟨Z', h1, h2⟩ := key l 0 W Z f f' hz h (by omega) (fun i hi => hv i (by omega))
  exact ⟨Z', h1, h2.congr fun i hi => by rw [if_pos (by omega), Nat.sub_zero]⟩

/-- n bytes that are 0. -/
def bz (n : Nat) : Array Value := ((List.range n).map fun _ => Value.int .u8 0).toArray
theorem ByZ.zero (n : Nat) (T : TypeId) : ByZ (.cells (bz n) T) n (fun _ => 0) :=
  ⟨bz n, T, (0, 0), rfl, fun i hi => by simp [bz, hi], fun i _ => by simp⟩

section
variable {P : Program} {ops : Array Oper} {rest : List Oper} {o : Oper} {a : Act} {w w0 : World} {L : List Blk} {Q : Exit → Act → World → Prop}

theorem run_byte {w : World} {g k : Nat} {v : Value} (hc : w.cell? ⟨g, k, none⟩ = some v) (ty : TypeId) (hag : ∀ w, (isAgg ty).run P w = .ok false w) : (Instr.loadAt ty (.pointer (some ⟨g, k, none⟩))).run P w = .ok v w := by
  simp [Instr.loadAt, Instr.sureAddr, loadVar, hag, hc]

theorem pl_loadb (M : Mem w0 L w) (hw : Region.wanted o (yielded ops a.tmps) = true) (d : Option Tmp) (hd : o.dst = d) (ty : TypeId) (x : Operand) (ho : o.op = .load ty x) (i g k : Nat) (hx : a.eval x = .pointer (some ⟨g, k, none⟩)) (Z : Obj) (hi : L[i]? = some ⟨g, Z⟩) (n : Nat) (f : Nat → Int) (hz : ByZ Z n f) (hk : k < n) (hag : ∀ w, (isAgg ty).run P w = .ok false w)
    (h : PL P ops Q rest (a.put d (.int .u8 (f k))) w) : PL P ops Q (o :: rest) a w := by
  refine pl_to hw d hd (.int .u8 (f k)) w ?_ h
  have hc := run_byte (P := P) ((hz.bc (M.get i hi)).c k hk) ty hag
  unfold execOp
  simp only [ho, hx, Sem.run_bind, hc, Result.andThen_ok, Sem.run_pure]

theorem k_loadb {W : World} {K : Act → Prop} (M : Mem w0 L W) (hw : Region.wanted o (yielded ops a.tmps) = true) (d : Option Tmp) (hd : o.dst = d) (ty : TypeId) (x : Operand) (ho : o.op = .load ty x) (i g k : Nat) (hx : a.eval x = .pointer (some ⟨g, k, none⟩)) (Z : Obj) (hi : L[i]? = some ⟨g, Z⟩) (n : Nat) (f : Nat → Int) (hz : ByZ Z n f) (hk : k < n) (hag : ∀ w, (isAgg ty).run P w = .ok false w)
    (h : KL P ops W K rest (a.put d (.int .u8 (f k)))) : KL P ops W K (o :: rest) a := by
  refine k_any hw d hd (.int .u8 (f k)) (fun s => ?_) h
  have hc := run_byte (P := P) ((hz.bc ((M.keep s.keep).get i hi)).c k hk) ty hag
  unfold execOp
  simp only [ho, hx, Sem.run_bind, hc, Result.andThen_ok, Sem.run_pure]

/-- One word of a row. -/
theorem k_loadw {W : World} {K : Act → Prop} (M : Mem w0 L W) (hw : Region.wanted o (yielded ops a.tmps) = true) (d : Option Tmp) (hd : o.dst = d) (ty : TypeId) (x : Operand) (ho : o.op = .load ty x) (i g k : Nat) (hx : a.eval x = .pointer (some ⟨g, k, none⟩)) (n T : Nat) (f : Nat → Int) (hi : L[i]? = some ⟨g, .cells (arr n f) T⟩) (hk : k < n) (hag : ∀ w, (isAgg ty).run P w = .ok false w)
    (h : KL P ops W K rest (a.put d (.int .u64 (f k)))) : KL P ops W K (o :: rest) a := by
  refine k_any hw d hd (.int .u64 (f k)) (fun s => ?_) h
  have hc := run_byte (P := P) (((M.keep s.keep).row i hi).cell hk) ty hag
  unfold execOp
  simp only [ho, hx, Sem.run_bind, hc, Result.andThen_ok, Sem.run_pure]

theorem pl_storeb (M : Mem w0 L w) (hw : Region.wanted o (yielded ops a.tmps) = true) (hd : o.dst = none) (ty : TypeId) (x y : Operand) (ho : o.op = .store ty x y) (i g k : Nat) (hx : a.eval x = .pointer (some ⟨g, k, none⟩)) (v : Int) (hy : a.eval y = .int .u8 v) (Z : Obj) (hi : L[i]? = some ⟨g, Z⟩) (n : Nat) (f : Nat → Int) (hz : ByZ Z n f) (hk : k < n) (hs : (P.info? ty).map (·.size) = some 1)
    (h : ∀ Z' w', ByZ Z' n (upd f k v) → Mem w0 (L.set i ⟨g, Z'⟩) w' → PL P ops Q rest a w') : PL P ops Q (o :: rest) a w := by
  have hB := hz.bc (M.get i hi)
  obtain ⟨Z', h1, h2⟩ := hz.set hk v (M.get i hi)
  have h3 := h Z' _ h2 (M.put i ⟨g, Z⟩ hi Z' h1 (fun j hj => Below.heap_setCell _ _ _ _ hj) (fun B u hB hu => hu.setCell hB _))
  have hrun : (Instr.storeAt ty (.pointer (some ⟨g, k, none⟩)) (.int .u8 v)).run P w = .ok () (w.setCell ⟨g, k, none⟩ (.int .u8 v)) := by
    cases hq : P.info? ty with
    | none => simp [hq] at hs
    | some t =>
      have ht : t.size = 1 := by simpa [hq] using hs
      have hc := run_storeCells_cells (P := P) g k [.int .u8 v] 0 w (by intro j hj; simp at hj; subst hj; simp [hB.c k hk]) (by intro j hj; simp at hj; subst hj; simpa using hB.fz k hk) (by simp [Value.oneCell'])
      simp only [Nat.add_zero, World.setCells] at hc
      simp [Instr.storeAt, Instr.sureAddr, storeVar, sizeOf, typeInfo, hq, ht, Value.cells, hc]
  refine ⟨Go.BigFrame.wpList_want hw fun K hK => ?_⟩
  unfold Oper.wp execOp
  simp only [ho, hx, hy, Sem.run_bind, hrun, Result.andThen_ok, Sem.run_pure]
  show K (a.put o.dst undef) _
  rw [hd]
  exact hK _ _ h3.out

/-- The bytes of a string, copied into n bytes. -/
theorem run_copy_str (w : World) (dT sT ty elem : TypeId) (g n cap : Nat) (s : ByteArray) (f : Nat → Int) (hB : BC w g f n) (hs : s.size = n)
    (hu : P.underlying dT = some (.slice elem)) (hi : (P.info? elem).map (·.size) = some 1) :
    (Builtin.copy_ #[dT, sT] ty #[.slice (some ⟨g, 0, none⟩) n cap, .string s]).run P w = .ok (goInt n) (w.setCells g 0 ((List.range n).map fun i => Value.int .u8 (bt s i))) := by
  have e : ((s.extract 0 n).data.map fun b => Value.int .u8 b.toNat).toList = (List.range n).map fun i => Value.int .u8 (bt s i) := by
    apply List.ext_getElem?
    intro i
    have hsd : s.data.size = n := hs
    by_cases hi : i < n
    · simp only [Array.toList_map, List.getElem?_map, List.getElem?_range hi, Option.map_some]
      have : (s.extract 0 n).data.toList[i]? = some (s.data[i]'(by omega)) := by
        simp [ByteArray.data_extract, hi, hsd]
      rw [this]
      unfold bt
      rw [Array.getElem?_eq_getElem (by omega)]
      rfl
    · rw [List.getElem?_eq_none (by simp [ByteArray.data_extract]; omega), List.getElem?_eq_none (by simp; omega)]
  have hst := run_storeCells_cells (P := P) g 0 ((List.range n).map fun i => Value.int .u8 (bt s i)) 0 w (by intro j hj; simp at hj; simp [hB.c j hj]) (by intro j hj; simp at hj; simpa using hB.fz j hj) (by simp [Value.oneCell'])
  have e3 : List.take n (List.map (fun b => Value.int IntKind.u8 b.toNat) s.data.toList) = (List.range n).map fun i => Value.int .u8 (bt s i) := by
    rw [← e]
    simp [ByteArray.data_extract]
  cases hq : P.info? elem with
  | none => simp [hq] at hi
  | some t =>
    simp only [Nat.add_zero] at hst
    simp [Builtin.copy_, run_underlying hu, Builtin.lenOf, Builtin.firstCells, sizeOf, typeInfo, hq, hs, e3, hst]

theorem pl_copy (M : Mem w0 L w) (hw : Region.wanted o (yielded ops a.tmps) = true) (d : Option Tmp) (hd : o.dst = d) (dT sT ty elem : TypeId) (i g n cap : Nat) (s : ByteArray) (hs : s.size = n) (Z : Obj) (hi : L[i]? = some ⟨g, Z⟩) (f : Nat → Int) (hz : ByZ Z n f)
    (hu : P.underlying dT = some (.slice elem)) (hz1 : (P.info? elem).map (·.size) = some 1)
    (hrun : ∀ w, (execOp a.eval o).run P w = (do pure (Next.value (← Builtin.copy_ #[dT, sT] ty #[.slice (some ⟨g, 0, none⟩) n cap, .string s]))).run P w)
    (h : ∀ Z' w', ByZ Z' n (bt s) → Mem w0 (L.set i ⟨g, Z'⟩) w' → PL P ops Q rest (a.put d (goInt n)) w') : PL P ops Q (o :: rest) a w := by
  have hB := hz.bc (M.get i hi)
  obtain ⟨Z', h1, h2⟩ := hz.setAll (bt s) (M.get i hi) ((List.range n).map fun i => Value.int .u8 (bt s i)) (by simp) (fun j hj => by simp [hj])
  refine pl_to hw d hd (goInt n) _ ?_ (h Z' _ h2 (M.put i ⟨g, Z⟩ hi Z' h1 (fun j hj => heap_setCells_other g j hj _ _ _) (fun B u hB hu => below_setCells hB _ 0 hu)))
  rw [hrun]
  simp only [Sem.run_bind, run_copy_str w dT sT ty elem g n cap s f hB hs hu hz1, Result.andThen_ok, Sem.run_pure]
end

end Go.Proofs.YtkeocdebfgcnnaaGreat

/- More steps of a walk that a program types: loops, places of an array, bytes of a string, strings out of bytes. -/
namespace Go.Proofs.YtkeocdebfgcnnaaGreat
open Go.RowKit

section
variable {P : Program} {ops : Array Oper} {rest : List Oper} {o : Oper} {a : Act} {w w0 : World} {L : List Blk} {Q : Exit → Act → World → Prop}

theorem au_loop {c : Code} (I : Nat → Act → World → Prop) (N : Nat) (h0 : I 0 a w) (round : ∀ j a w, j < N → I j a w → c.wp P (Exit.then (I (j + 1)) Q) a w) (last : ∀ a w, I N a w → c.wp P (Exit.then (fun _ _ => False) Q) a w) : (Code.loop c).wp P Q a w := by
  refine wp_loop_ghost (fun n a w => n ≤ N ∧ I (N - n) a w) N ⟨Nat.le_refl _, by rw [Nat.sub_self]; exact h0⟩ fun n a w ⟨hn, hI⟩ => ?_
  cases n with
  | zero =>
    rw [Nat.sub_zero] at hI
    refine wp_mono (last a w hI) fun e a' w' hq => ?_
    cases e <;> first | exact hq | exact hq.elim
  | succ n =>
    refine wp_mono (round (N - (n + 1)) a w (by omega) hI) fun e a' w' hq => ?_
    rw [show N - (n + 1) + 1 = N - n by omega] at hq
    cases e <;> first | exact hq | exact ⟨n, by omega, by omega, hq⟩

theorem rounds_go {c : Code} {n : Nat} (h : c.wp P (Exit.then (Code.rounds P c Q n) Q) a w) : Code.rounds P c Q (n + 1) a w := h

theorem run_ix (t : TypeId) (len sz : Nat) (elem : TypeId) (hu : P.underlying t = some (.array len elem)) (hs : (P.info? elem).map (·.size) = some sz) (x ix : Operand) (ho : o.op = .indexAddr t x ix) (g : Nat) (hx : a.eval x = .pointer (some ⟨g, 0, none⟩)) (k : IntKind) (i : Nat) (hi : a.eval ix = .int k (i : Int)) (hlt : i < len) (w : World) :
    (execOp a.eval o).run P w = .ok (.value (.pointer (some ⟨g, i * sz, none⟩))) w := by
  have hadd : (⟨g, 0, none⟩ : Addr).add (i * sz) = ⟨g, i * sz, none⟩ := by unfold Addr.add; split <;> simp_all
  cases hq : P.info? elem with
  | none => simp [hq] at hs
  | some u =>
    have hsz : u.size = sz := by simpa [hq] using hs
    unfold execOp
    simp [ho, hx, hi, Instr.indexAt, Instr.sureAddr, asIntOf, run_underlying hu, sizeOf, typeInfo, hq, hsz, hadd, hlt]

theorem run_ixS (t : TypeId) (hu : P.underlying t = some .string) (x ix : Operand) (ho : o.op = .index t x ix) (s : ByteArray) (hx : a.eval x = .string s) (k : IntKind) (i : Nat) (hi : a.eval ix = .int k (i : Int)) (hlt : i < s.size) (w : World) :
    (execOp a.eval o).run P w = .ok (.value (.int .u8 (bt s i))) w := by
  have hb : s[i]? = some (s[i]'hlt) := getElem?_pos s i hlt
  have hv : bt s i = ((s[i]'hlt).toNat : Int) := by
    unfold bt
    rw [Array.getElem?_eq_getElem hlt]
    rfl
  unfold execOp
  simp [ho, hx, hi, Instr.index, asIntOf, run_underlying hu, hb, hv]

theorem run_bin (op : BinOp) (t : TypeId) (x y : Operand) {rt : TypeId} (ho : o.op = .binOp op t x y rt) {vx vy v : Value} (hx : a.eval x = vx) (hy : a.eval y = vy) (hg : ∀ w, (eqGuard op t x y vx vy).run P w = .ok () w) (hb : ∀ w, (binOp op t vx vy).run P w = .ok v w) (w : World) :
    (execOp a.eval o).run P w = .ok (.value v) w := by
  unfold execOp
  simp only [ho, hx, hy, Sem.run_bind, hg, hb, Result.andThen_ok, Sem.run_pure]
theorem run_shr7 (x : Int) (w : World) : (binOp .shr 5 (.int .u8 x) (.int .u64 7)).run Tryz.prog w = .ok (.int .u8 (x / 128)) w := by
  simp [binOp, go_sem]
theorem run_shr4 (x : Int) (w : World) : (binOp .shr 5 (.int .u8 x) (.int .u64 4)).run Tryz.prog w = .ok (.int .u8 (x / 16)) w := by
  simp [binOp, go_sem]

theorem wrap64 {x : Int} (h0 : -9223372036854775808 ≤ x) (h1 : x < 9223372036854775808) : IntKind.wrap .i64 x = x := by
  simp [IntKind.wrap, IntKind.signed, IntKind.bits, go_sem]
  omega

theorem setAll_part (n : Nat) (f f' fn : Nat → Int) (off k : Nat) (hk : off + k ≤ n) (hfn : ∀ j, j < n → (if off ≤ j ∧ j < off + k then f' (j - off) else f j) = fn j) : setAll (arr n f) off (arr k f').toList = arr n fn := by
  have hlen : (arr k f').toList.length = k := by simp [arr_size]
  have hsz : ∀ (vs : List Value) (cs : Array Value) (o : Nat), (setAll cs o vs).size = cs.size := by
    intro vs
    induction vs with
    | nil => intro cs o; rfl
    | cons v vs ih => intro cs o; simp [setAll, ih]
  apply Array.ext_getElem?
  intro i
  rw [setAll_get _ _ _ _ (by rw [hlen, arr_size]; exact hk), hlen]
  by_cases hi : i < n
  · rw [arr_get n fn i hi, ← hfn i hi]
    by_cases h : off ≤ i ∧ i < off + k
    · rw [if_pos h, if_pos h, Array.getElem?_toList, arr_get k f' _ (by omega)]
    · rw [if_neg h, if_neg h, arr_get n f i hi]
  · rw [if_neg (by omega), Array.getElem?_eq_none (by rw [arr_size]; omega), Array.getElem?_eq_none (by rw [arr_size]; omega)]

theorem Row.setPart {W : World} {g : Nat} {T : TypeId} {n : Nat} {f : Nat → Int} (h : Row W g T n f) (f' fn : Nat → Int) (off k : Nat) (hk : off + k ≤ n) (hfn : ∀ j, j < n → (if off ≤ j ∧ j < off + k then f' (j - off) else f j) = fn j) : Row (W.setCells g off (arr k f').toList) g T n fn := by
  unfold Row
  rw [heap_setCells g T _ W _ off h, setAll_part n f f' fn off k hk hfn]

theorem Row.thereP {W : World} {g : Nat} {T : TypeId} {n : Nat} {f : Nat → Int} (h : Row W g T n f) (off k : Nat) (hk : off + k ≤ n) : W.there g off k := fun j hj => by
  have := h.there (off + j) (by omega)
  simpa using this

theorem pl_putm (M : Mem w0 L w) (hw : Region.wanted o (yielded ops a.tmps) = true) (hd : o.dst = none) (ty : TypeId) (x y : Operand) (ho : o.op = .store ty x y) (i g off : Nat) (hx : a.eval x = .pointer (some ⟨g, off, none⟩)) (n T : Nat) (f : Nat → Int) (hi : L[i]? = some ⟨g, .cells (arr n f) T⟩) (k : Nat) (f' fn : Nat → Int)
    (hy : a.eval y = .agg (arr k f')) (hz : (P.info? ty).map (·.size) = some k) (hk : off + k ≤ n) (hfn : ∀ j, j < n → (if off ≤ j ∧ j < off + k then f' (j - off) else f j) = fn j)
    (h : ∀ w', Mem w0 (L.set i ⟨g, .cells (arr n fn) T⟩) w' → PL P ops Q rest a w') : PL P ops Q (o :: rest) a w := by
  have R := M.row i hi
  refine ⟨Go.BigFrame.wpList_want hw fun K hK => wp_store_mid ty x y ho g off (arr k f') hx hy (by rw [arr_size]; exact R.thereP off k hk) (by rw [hz, arr_size]) (arr_one _ _) (hK _ _ ?_)⟩
  rw [hd]
  refine PL.out ?_
  exact h _ (M.put i ⟨g, _⟩ hi _ (R.setPart f' fn off k hk hfn) (fun k hk => heap_setCells_other g k hk _ _ _) (fun B u hB hu => below_setCells hB _ _ hu))
end

section
variable {ops : Array Oper} {rest : List Oper} {o : Oper} {a : Act} {w w0 : World} {L : List Blk} {Q : Exit → Act → World → Prop}

theorem conv_strZ (W : World) (s : ByteArray) : ∃ (cap : Nat) (W1 : World) (Z : Obj), (convert 9 70 (.string s)).run Tryz.prog W = .ok (.slice (some ⟨W.heap.size, 0, none⟩) s.size cap) W1 ∧ W1.heap[W.heap.size]? = some Z ∧ ByZ Z s.size (bt s) ∧ Below W.heap.size W W1 := by
  have h := run_bytes_of_string (P := Tryz.prog) W 9 70 5 s Tryz.underlying9 Tryz.underlying70 Tryz.underlying5
  generalize grownCap W s.size 0 5 = cap at h
  have hsz : s.size ≤ (bytesRow s cap).size := by
    simp [bytesRow]
  refine ⟨cap, _, .cells (bytesRow s cap) 5 ((bytesRow s cap).size, (bytesRow s cap).size + 1), h, heap_alloc_new W.drew _, ⟨_, _, _, rfl, fun i hi => ?_, fun i hi => ?_⟩, ((Below.refl _ _).drew).alloc (Nat.le_refl _) _⟩
  · have hi' : i < s.data.size := hi
    unfold bytesRow bt
    rw [Array.getElem?_append_left (by simpa using hi'), Array.getElem?_map, Array.getElem?_eq_getElem hi']
    rfl
  · simp
    omega

theorem pl_conv (M : Mem w0 L w) (hw : Region.wanted o (yielded ops a.tmps) = true) (d : Option Tmp) (hd : o.dst = d) (x : Operand) (ho : o.op = .convert 9 70 x) (s : ByteArray) (hx : a.eval x = .string s) (n : Nat) (hn : s.size = n)
    (h : ∀ g cap Z w', ByZ Z n (bt s) → Mem w0 (L ++ [⟨g, Z⟩]) w' → PL Tryz.prog ops Q rest (a.put d (.slice (some ⟨g, 0, none⟩) n cap)) w') : PL Tryz.prog ops Q (o :: rest) a w := by
  obtain ⟨cap, W1, Z, h1, h2, h3, h4⟩ := conv_strZ w s
  rw [hn] at h1 h3
  refine pl_to hw d hd (.slice (some ⟨w.heap.size, 0, none⟩) n cap) W1 ?_ (h w.heap.size cap Z W1 h3 (M.new _ Z h4 h2 (Nat.le_refl _)))
  unfold execOp
  simp only [ho, hx, Sem.run_bind, h1, Result.andThen_ok, Sem.run_pure]

theorem pl_back (M : Mem w0 L w) (hw : Region.wanted o (yielded ops a.tmps) = true) (d : Option Tmp) (hd : o.dst = d) (x : Operand) (ho : o.op = .convert 70 9 x) (i g n cap : Nat) (hx : a.eval x = .slice (some ⟨g, 0, none⟩) n cap) (Z : Obj) (hi : L[i]? = some ⟨g, Z⟩) (f : Nat → Int) (hz : ByZ Z n f) (hf : ∀ i, i < n → 0 ≤ f i ∧ f i < 256)
    (h : PL Tryz.prog ops Q rest (a.put d (.string (bs ((List.range n).map f)))) w) : PL Tryz.prog ops Q (o :: rest) a w := by
  refine pl_to hw d hd _ w ?_ h
  have hb := conv_back (hz.bc (M.get i hi)) cap hf
  unfold execOp
  simp only [ho, hx, Sem.run_bind, hb, Result.andThen_ok, Sem.run_pure]
end

section
variable {ops : Array Oper} {rest : List Oper} {o : Oper} {a : Act} {w w0 : World} {L : List Blk} {Q : Exit → Act → World → Prop}
theorem pl_backS (M : Mem w0 L w) (hw : Region.wanted o (yielded ops a.tmps) = true) (d : Option Tmp) (hd : o.dst = d) (x : Operand) (ho : o.op = .convert 70 9 x) (i g n cap : Nat) (hx : a.eval x = .slice (some ⟨g, 0, none⟩) n cap) (Z : Obj) (hi : L[i]? = some ⟨g, Z⟩) (f : Nat → Int) (hz : ByZ Z n f) (hf : ∀ i, i < n → 0 ≤ f i ∧ f i < 256) (S : ByteArray) (hS : bs ((List.range n).map f) = S)
    (h : PL Tryz.prog ops Q rest (a.put d (.string S)) w) : PL Tryz.prog ops Q (o :: rest) a w := by
  subst hS
  exact pl_back M hw d hd x ho i g n cap hx Z hi f hz hf h
theorem pl_mk {P : Program} (M : Mem w0 L w) (hw : Region.wanted o (yielded ops a.tmps) = true) (d : Option Tmp) (hd : o.dst = d) (v : Nat → Value) (Z : Obj) (hrun : ∀ w, (execOp a.eval o).run P w = .ok (.value (v w.heap.size)) (w.alloc Z))
    (h : ∀ g w', Mem w0 (L ++ [⟨g, Z⟩]) w' → PL P ops Q rest (a.put d (v g)) w') : PL P ops Q (o :: rest) a w :=
  pl_to hw d hd _ _ (hrun w) (h w.heap.size (w.alloc Z) (M.new _ Z (new_below w Z) (heap_alloc_new w Z) (Nat.le_refl _)))
end

section
variable {P : Program} {ops : Array Oper} {md : Region.Mode} {Q : Exit → Act → World → Prop} {fuel : Nat} {listed : Array Bool} {a : Act} {w w0 : World} {L : List Blk} {i : Nat} {o : Oper} {rs : List Nat}

theorem rd_load (M : Mem w0 L w) (ho : ops[i]? = some o) (hgd : o.guard = none) (d : Option Tmp) (hd : o.dst = d) (ty : TypeId) (x : Operand) (hop : o.op = .load ty x) (k g : Nat) (hx : a.eval x = .pointer (some ⟨g, 0, none⟩)) (n T : Nat) (f : Nat → Int) (hi : L[k]? = some ⟨g, .cells (arr n f) T⟩) (t : TypeDesc) (hu : P.underlying ty = some t) (ht : (match t with | .struct _ | .array _ _ => true | _ => false) = true) (hz : (P.info? ty).map (·.size) = some n)
    (h : wpAny P md ops Q fuel (listed.setIfInBounds i true) (a.put d (.agg (arr n f))) w) (hs : AllReady P md ops Q fuel listed a w rs) : AllReady P md ops Q fuel listed a w (i :: rs) := by
  subst hd
  exact ready_load ho hgd ty x hop g hx T (arr n f) (0, 0) t (M.get k hi) hu ht (by rw [hz, arr_size]) h hs

theorem rd_call (M : Mem w0 L w) (ho : ops[i]? = some o) (hgd : o.guard = none) (d : Option Tmp) (hd : o.dst = d) (f : FuncId) (args : Array Value) (v : Value) (hrun : ∀ w, (execOp a.eval o).run P w = .ok (.enter f args) w) (hc : ∀ w, Calls P f args w fun e w' => e = .returned v ∧ Below w.heap.size w w')
    (h : ∀ w', Mem w0 L w' → wpAny P md ops Q fuel (listed.setIfInBounds i true) (a.put d v) w') (hs : AllReady P md ops Q fuel listed a w rs) : AllReady P md ops Q fuel listed a w (i :: rs) := by
  subst hd
  exact ready_call f args ho hgd (hrun w) ((hc w).mono fun e w' ⟨he, hb⟩ => ⟨v, he, h w' (M.keep hb)⟩) hs

theorem rd_new (M : Mem w0 L w) (ho : ops[i]? = some o) (hgd : o.guard = none) (d : Option Tmp) (hd : o.dst = d) (Z : Obj) (hrun : ∀ w, (execOp a.eval o).run P w = .ok (.value (.pointer (some ⟨w.heap.size, 0, none⟩))) (w.alloc Z))
    (h : ∀ g w', Mem w0 (L ++ [⟨g, Z⟩]) w' → wpAny P md ops Q fuel (listed.setIfInBounds i true) (a.put d (.pointer (some ⟨g, 0, none⟩))) w') (hs : AllReady P md ops Q fuel listed a w rs) : AllReady P md ops Q fuel listed a w (i :: rs) := by
  subst hd
  exact ready_alloc Z ho hgd (hrun w) (h _ _ (M.new _ Z (new_below w Z) (heap_alloc_new w Z) (Nat.le_refl _))) hs

theorem rd_put (M : Mem w0 L w) (ho : ops[i]? = some o) (hgd : o.guard = none) (hd : o.dst = none) (ty : TypeId) (x y : Operand) (hop : o.op = .store ty x y) (k g : Nat) (hx : a.eval x = .pointer (some ⟨g, 0, none⟩)) (n T : Nat) (f f' : Nat → Int) (hi : L[k]? = some ⟨g, .cells (arr n f) T⟩) (hy : a.eval y = .agg (arr n f')) (hz : (P.info? ty).map (·.size) = some n)
    (h : ∀ w', Mem w0 (L.set k ⟨g, .cells (arr n f') T⟩) w' → wpAny P md ops Q fuel (listed.setIfInBounds i true) a w') (hs : AllReady P md ops Q fuel listed a w rs) : AllReady P md ops Q fuel listed a w (i :: rs) := by
  have R := M.row k hi
  refine ready_store ho hgd ty x y hop g 0 (arr n f') hx hy (by rw [arr_size]; exact R.there) (by rw [hz, arr_size]) (arr_one _ _) ?_ hs
  rw [hd]
  exact h _ (M.put k ⟨g, _⟩ hi _ (R.setAll f') (fun k hk => heap_setCells_other g k hk _ _ _) (fun B u hB hu => below_setCells hB _ 0 hu))

theorem rd_end (hr : Region.ready md ops listed = []) (h : Q .normal a w) (fuel : Nat) : wpAny P md ops Q fuel listed a w := wpAny_done hr h fuel
end

theorem Mem.drew {w0 W : World} {L : List Blk} (M : Mem w0 L W) : Mem w0 L W.drew := ⟨M.old.drew, M.at_, M.ge, M.nodup⟩

section
variable {P : Program} {ops : Array Oper} {md : Region.Mode} {Q : Exit → Act → World → Prop} {fuel : Nat} {listed : Array Bool} {a : Act} {w : World}
theorem rdy (rs : List Nat) (h : AllReady P md ops Q fuel listed a w rs) (hr : Region.ready md ops listed = rs := by kernel_rfl) (hne : rs ≠ [] := by simp) : wpAny P md ops Q (fuel + 1) listed a w := wpAny_ready hr hne h
theorem tk (i : Nat) {oi : Oper} (v : Value) (h : wpAny P md ops Q fuel (listed.setIfInBounds i true) (a.put oi.dst v) w) (hi : ops[i]? = some oi := by exact rfl) (hs : Region.noSelect ops = true := by kernel_rfl) (hf : Region.free md ops listed i = true := by kernel_rfl) (hr : (Region.ready md ops listed).contains i = true := by kernel_rfl)
    (hQ : ∀ c a w, Q (.panic c) (a.put oi.dst v) w → Q (.panic c) a w := by exact fun _ _ _ h => h) (hy : Yields P ops oi v a := by exact Or.inl ⟨want_no rfl, fun _ => by kernel_rfl⟩) : wpAny P md ops Q (fuel + 1) listed a w :=
  wpAny_take hi hs hf hr hQ hy h
end

end Go.Proofs.YtkeocdebfgcnnaaGreat

/- The walks that go by bytes, told by what their callees hand back. -/
namespace Go.Proofs.YtkeocdebfgcnnaaGreat
open Go.RowKit

theorem inzb : (Tryz.prog.info? 5).map (·.size) = some 1 := by kernel_rfl

structure partedF (s : ByteArray)  : Prop where
  h0 : True

set_option maxRecDepth 100000 in
set_option maxHeartbeats 4000000 in
theorem parted_gen (s : ByteArray)  (w : World) (_F : partedF s ) (hs : s.size = 32) (hf : ∀ i, i < 32 → 0 ≤ (upd (bt s) 31 (bits .andNot .u8 (bt s 31) 128)) i ∧ (upd (bt s) 31 (bits .andNot .u8 (bt s 31) 128)) i < 256) :
    Calls Tryz.prog 24 #[.string s] w fun r w' => r = .returned (.tuple #[.string (bs ((List.range 32).map (upd (bt (s)) 31 (bits .andNot .u8 ((bt (s)) 31) 128)))), .bool (!(decide (bits .and .u8 (bt (s) 31) 128 = 0)))]) ∧ Below w.heap.size w w' := by
  go_enter Tryz.func24, Tryz.ntmps24
  have M := Mem.start w
  refine sr ?_
  refine pv 2 (.string ⟨#[]⟩) ?_
  refine pv 3 (.bool false) ?_
  refine nt ?_
  refine sr ?_
  refine pl_new M (want_no rfl) (some 4) rfl (.cells (bz 32) 96) (fun _ => by kernel_rfl) ?_
  intro g1 w1 M
  replace M : Mem w [⟨g1, .cells (bz 32) 96⟩] w1 := M
  refine nt ?_
  refine sr ?_
  refine pv 6 (.slice (some ⟨g1, 0, none⟩) 32 32) ?_
  refine pv 7 (.string s) ?_
  refine pl_copy M (want_no rfl) (some 8) rfl 70 9 3 5 0 g1 32 32 (s) hs (.cells (bz 32) 96) rfl (fun _ => 0) (ByZ.zero 32 96) Tryz.underlying70 inzb (fun _ => by kernel_rfl) ?_
  intro Z1 w2 z1 M
  replace M : Mem w [⟨g1, Z1⟩] w2 := M
  refine nt ?_
  refine sr ?_
  refine pv 9 (.pointer (some ⟨g1, 31, none⟩)) ?_
  refine pl_loadb M (want_no rfl) (some 10) rfl 5 _ rfl 0 g1 31 (by kernel_rfl) (Z1) rfl 32 (bt (s)) z1 (by decide) (fun _ => by kernel_rfl) ?_
  refine pv 11 (.int .u8 (bits .and .u8 ((bt (s)) 31) 128)) ?_
  refine pv 12 (.bool (!(decide (bits .and .u8 (bt (s) 31) 128 = 0)))) ?_
  refine pv 5 (.bool (!(decide (bits .and .u8 (bt (s) 31) 128 = 0)))) ?_
  refine nt ?_
  refine sr ?_
  refine pv 13 (.pointer (some ⟨g1, 31, none⟩)) ?_
  refine pl_loadb M (want_no rfl) (some 14) rfl 5 _ rfl 0 g1 31 (by kernel_rfl) (Z1) rfl 32 (bt (s)) z1 (by decide) (fun _ => by kernel_rfl) ?_
  refine pv 15 (.int .u8 (bits .andNot .u8 ((bt (s)) 31) 128)) ?_
  refine pv 16 (.pointer (some ⟨g1, 31, none⟩)) ?_
  refine pl_storeb M (want_no rfl) rfl 5 _ _ rfl 0 g1 31 (by kernel_rfl) (bits .andNot .u8 ((bt (s)) 31) 128) (by kernel_rfl) (Z1) rfl 32 (bt (s)) z1 (by decide) inzb ?_
  intro Z2 w3 z2 M
  replace M : Mem w [⟨g1, Z2⟩] w3 := M
  refine nt ?_
  refine sr ?_
  refine pv 17 (.slice (some ⟨g1, 0, none⟩) 32 32) ?_
  refine pl_back M (want_no rfl) (some 18) rfl _ rfl 0 g1 32 32 (by kernel_rfl) (Z2) rfl (upd (bt (s)) 31 (bits .andNot .u8 ((bt (s)) 31) 128)) z2 hf ?_
  refine pv 19 (.bool (!(decide (bits .and .u8 (bt (s) 31) 128 = 0)))) ?_
  refine pv 2 (.string (bs ((List.range 32).map (upd (bt (s)) 31 (bits .andNot .u8 ((bt (s)) 31) 128))))) ?_
  refine pv 3 (.bool (!(decide (bits .and .u8 (bt (s) 31) 128 = 0)))) ?_
  refine nt ?_
  refine wp_ret ?_
  exact bodyPost_ret (v := .tuple #[.string (bs ((List.range 32).map (upd (bt (s)) 31 (bits .andNot .u8 ((bt (s)) 31) 128)))), .bool (!(decide (bits .and .u8 (bt (s) 31) 128 = 0)))]) (results_tmp2 Tryz.results24 _ _ _ _ (by kernel_rfl) (by kernel_rfl)) (by kernel_rfl) ⟨rfl, M.old⟩

structure bytesNF (px py pz pt : Nat → Int) : Prop where
  h1 : ∀ w, Calls Tryz.prog 52 #[.agg (arr 20 (p4 5 px py pz pt))] w fun r w' => r = .returned (.bool true) ∧ Below w.heap.size w w'

set_option maxRecDepth 100000 in
set_option maxHeartbeats 4000000 in
theorem bytesN_gen (px py pz pt : Nat → Int) (w : World) (F : bytesNF px py pz pt)  :
    Calls Tryz.prog 33 #[.agg (arr 20 (p4 5 px py pz pt))] w fun r w' => r = .returned (.string ⟨#[]⟩) ∧ Below w.heap.size w w' := by
  go_enter Tryz.func33, Tryz.ntmps33
  have M := Mem.start w
  refine sr ?_
  refine pl_new M (want_no rfl) (some 1) rfl (.cells (arr 20 (p4 5 px py pz pt)) 27) (fun _ => by kernel_rfl) ?_
  intro g1 w1 M
  replace M : Mem w [⟨g1, .cells (arr 20 (p4 5 px py pz pt)) 27⟩] w1 := M
  refine pv 2 (.string ⟨#[]⟩) ?_
  refine nt ?_
  refine wp_seq ?_
  refine sr ?_
  refine pl_load M (want_no rfl) (some 5) rfl 27 _ rfl 0 g1 0 (by kernel_rfl) 20 27 (p4 5 px py pz pt) rfl 20 (p4 5 px py pz pt) (Part.all _ _) (by decide) _ Tryz.underlying27 rfl inz27 ?_
  refine pl_call M (want_no rfl) (some 6) rfl 52 #[.agg (arr 20 (p4 5 px py pz pt))] (.bool true) (fun _ => by kernel_rfl) F.h1 ?_
  intro w2 M
  refine nt ?_
  refine wp_cond_true (by kernel_rfl) ?_
  refine sr ?_
  refine pv 2 (.string ⟨#[]⟩) ?_
  refine nt ?_
  refine wp_ret ?_
  refine au_then_ret ?_
  exact bodyPost_ret (v := .string ⟨#[]⟩) (results_tmp1 Tryz.results33 _ _ _ (by kernel_rfl)) (by kernel_rfl) ⟨rfl, M.old⟩

structure bytesFF (px py pz pt r1 r2 r4 : Nat → Int) (s3 : ByteArray) : Prop where
  h1 : ∀ w, Calls Tryz.prog 52 #[.agg (arr 20 (p4 5 px py pz pt))] w fun r w' => r = .returned (.bool false) ∧ Below w.heap.size w w'
  h2 : ∀ w, Calls Tryz.prog 73 #[.agg (arr 5 pz)] w fun r w' => r = .returned (.agg (arr 5 r1)) ∧ Below w.heap.size w w'
  h3 : ∀ w, Calls Tryz.prog 59 #[.agg (arr 5 py), .agg (arr 5 r1)] w fun r w' => r = .returned (.agg (arr 5 r2)) ∧ Below w.heap.size w w'
  h4 : ∀ w, Calls Tryz.prog 67 #[.agg (arr 5 r2)] w fun r w' => r = .returned (.string s3) ∧ Below w.heap.size w w'
  h5 : ∀ w, Calls Tryz.prog 59 #[.agg (arr 5 px), .agg (arr 5 r1)] w fun r w' => r = .returned (.agg (arr 5 r4)) ∧ Below w.heap.size w w'
  h6 : ∀ w, Calls Tryz.prog 29 #[.agg (arr 5 r4)] w fun r w' => r = .returned (.bool false) ∧ Below w.heap.size w w'

set_option maxRecDepth 100000 in
set_option maxHeartbeats 4000000 in
theorem bytesF_gen (px py pz pt r1 r2 r4 : Nat → Int) (s3 : ByteArray) (w : World) (F : bytesFF px py pz pt r1 r2 r4 s3) (hs : s3.size = 32) (hf : ∀ i, i < 32 → 0 ≤ bt s3 i ∧ bt s3 i < 256) :
    Calls Tryz.prog 33 #[.agg (arr 20 (p4 5 px py pz pt))] w fun r w' => r = .returned (.string (bs ((List.range 32).map (bt (s3))))) ∧ Below w.heap.size w w' := by
  go_enter Tryz.func33, Tryz.ntmps33
  have M := Mem.start w
  refine sr ?_
  refine pl_new M (want_no rfl) (some 1) rfl (.cells (arr 20 (p4 5 px py pz pt)) 27) (fun _ => by kernel_rfl) ?_
  intro g1 w1 M
  replace M : Mem w [⟨g1, .cells (arr 20 (p4 5 px py pz pt)) 27⟩] w1 := M
  refine pv 2 (.string ⟨#[]⟩) ?_
  refine nt ?_
  refine wp_seq ?_
  refine sr ?_
  refine pl_load M (want_no rfl) (some 5) rfl 27 _ rfl 0 g1 0 (by kernel_rfl) 20 27 (p4 5 px py pz pt) rfl 20 (p4 5 px py pz pt) (Part.all _ _) (by decide) _ Tryz.underlying27 rfl inz27 ?_
  refine pl_call M (want_no rfl) (some 6) rfl 52 #[.agg (arr 20 (p4 5 px py pz pt))] (.bool false) (fun _ => by kernel_rfl) F.h1 ?_
  intro w2 M
  refine nt ?_
  refine wp_cond_false (by kernel_rfl) ?_
  refine wp_skip ?_
  refine au_then ?_
  refine sr ?_
  refine pv 7 (.pointer (some ⟨g1, 10, none⟩)) ?_
  refine pl_load M (want_no rfl) (some 8) rfl 25 _ rfl 0 g1 10 (by kernel_rfl) 20 27 (p4 5 px py pz pt) rfl 5 pz (p4_2 5 px py pz pt 10 rfl) (by decide) _ Tryz.underlying25 rfl inz25 ?_
  refine pl_call M (want_no rfl) (some 9) rfl 73 #[.agg (arr 5 pz)] (.agg (arr 5 r1)) (fun _ => by kernel_rfl) F.h2 ?_
  intro w3 M
  refine pl_new M (want_no rfl) (some 3) rfl (.cells (arr 5 (fun _ => 0)) 25) (fun _ => by kernel_rfl) ?_
  intro g2 w4 M
  replace M : Mem w [⟨g1, .cells (arr 20 (p4 5 px py pz pt)) 27⟩, ⟨g2, .cells (arr 5 (fun _ => 0)) 25⟩] w4 := M
  refine pl_put M (want_no rfl) rfl 25 _ _ rfl 1 g2 (by kernel_rfl) 5 25 (fun _ => 0) r1 rfl (by kernel_rfl) inz25 ?_
  intro w5 M
  replace M : Mem w [⟨g1, .cells (arr 20 (p4 5 px py pz pt)) 27⟩, ⟨g2, .cells (arr 5 r1) 25⟩] w5 := M
  refine nt ?_
  refine sr ?_
  refine pl_new M (want_no rfl) (some 4) rfl (.cells (bz 32) 96) (fun _ => by kernel_rfl) ?_
  intro g3 w6 M
  replace M : Mem w [⟨g1, .cells (arr 20 (p4 5 px py pz pt)) 27⟩, ⟨g2, .cells (arr 5 r1) 25⟩, ⟨g3, .cells (bz 32) 96⟩] w6 := M
  refine nt ?_
  refine wp_seq ?_
  refine rg_tail M 6 (by kernel_rfl) (by kernel_rfl) ?_
  simp only [List.take_succ_cons, List.take_zero]
  refine kv 10 (.slice (some ⟨g3, 0, none⟩) 32 32) ?_
  refine kv 11 (.pointer (some ⟨g1, 5, none⟩)) ?_
  refine k_load M (want_no rfl) (some 12) rfl 25 _ rfl 0 g1 5 (by kernel_rfl) 20 27 (p4 5 px py pz pt) rfl 5 py (p4_1 5 px py pz pt 5 rfl) (by decide) _ Tryz.underlying25 rfl inz25 ?_
  refine k_load M (want_no rfl) (some 13) rfl 25 _ rfl 1 g2 0 (by kernel_rfl) 5 25 r1 rfl 5 r1 (Part.all _ _) (by decide) _ Tryz.underlying25 rfl inz25 ?_
  refine k_call (want_no rfl) (some 14) rfl 59 #[.agg (arr 5 py), .agg (arr 5 r1)] (.agg (arr 5 r2)) (fun _ => by kernel_rfl) F.h3 ?_
  refine k_call (want_no rfl) (some 15) rfl 67 #[.agg (arr 5 r2)] (.string s3) (fun _ => by kernel_rfl) F.h4 ?_
  refine kl_nil ?_
  intro w7 M
  replace M : Mem w [⟨g1, .cells (arr 20 (p4 5 px py pz pt)) 27⟩, ⟨g2, .cells (arr 5 r1) 25⟩, ⟨g3, .cells (bz 32) 96⟩] w7 := M
  refine pl_copy M (want_no rfl) (some 16) rfl 70 9 3 5 2 g3 32 32 (s3) hs (.cells (bz 32) 96) rfl (fun _ => 0) (ByZ.zero 32 96) Tryz.underlying70 inzb (fun _ => by kernel_rfl) ?_
  intro Z1 w8 z1 M
  replace M : Mem w [⟨g1, .cells (arr 20 (p4 5 px py pz pt)) 27⟩, ⟨g2, .cells (arr 5 r1) 25⟩, ⟨g3, Z1⟩] w8 := M
  refine nt ?_
  refine wp_seq ?_
  refine sr ?_
  refine pv 17 (.pointer (some ⟨g1, 0, none⟩)) ?_
  refine pl_load M (want_no rfl) (some 18) rfl 25 _ rfl 0 g1 0 (by kernel_rfl) 20 27 (p4 5 px py pz pt) rfl 5 px (p4_0 5 px py pz pt 0 rfl) (by decide) _ Tryz.underlying25 rfl inz25 ?_
  refine pl_load M (want_no rfl) (some 19) rfl 25 _ rfl 1 g2 0 (by kernel_rfl) 5 25 r1 rfl 5 r1 (Part.all _ _) (by decide) _ Tryz.underlying25 rfl inz25 ?_
  refine pl_call M (want_no rfl) (some 20) rfl 59 #[.agg (arr 5 px), .agg (arr 5 r1)] (.agg (arr 5 r4)) (fun _ => by kernel_rfl) F.h5 ?_
  intro w9 M
  refine pl_call M (want_no rfl) (some 21) rfl 29 #[.agg (arr 5 r4)] (.bool false) (fun _ => by kernel_rfl) F.h6 ?_
  intro w10 M
  refine nt ?_
  refine wp_cond_false (by kernel_rfl) ?_
  refine wp_skip ?_
  refine au_then ?_
  refine sr ?_
  refine pv 26 (.slice (some ⟨g3, 0, none⟩) 32 32) ?_
  refine pl_back M (want_no rfl) (some 27) rfl _ rfl 2 g3 32 32 (by kernel_rfl) (Z1) rfl (bt (s3)) z1 hf ?_
  refine pv 2 (.string (bs ((List.range 32).map (bt (s3))))) ?_
  refine nt ?_
  refine wp_ret ?_
  exact bodyPost_ret (v := .string (bs ((List.range 32).map (bt (s3))))) (results_tmp1 Tryz.results33 _ _ _ (by kernel_rfl)) (by kernel_rfl) ⟨rfl, M.old⟩

structure bytesTF (px py pz pt r1 r2 r4 : Nat → Int) (s3 : ByteArray) : Prop where
  h1 : ∀ w, Calls Tryz.prog 52 #[.agg (arr 20 (p4 5 px py pz pt))] w fun r w' => r = .returned (.bool false) ∧ Below w.heap.size w w'
  h2 : ∀ w, Calls Tryz.prog 73 #[.agg (arr 5 pz)] w fun r w' => r = .returned (.agg (arr 5 r1)) ∧ Below w.heap.size w w'
  h3 : ∀ w, Calls Tryz.prog 59 #[.agg (arr 5 py), .agg (arr 5 r1)] w fun r w' => r = .returned (.agg (arr 5 r2)) ∧ Below w.heap.size w w'
  h4 : ∀ w, Calls Tryz.prog 67 #[.agg (arr 5 r2)] w fun r w' => r = .returned (.string s3) ∧ Below w.heap.size w w'
  h5 : ∀ w, Calls Tryz.prog 59 #[.agg (arr 5 px), .agg (arr 5 r1)] w fun r w' => r = .returned (.agg (arr 5 r4)) ∧ Below w.heap.size w w'
  h6 : ∀ w, Calls Tryz.prog 29 #[.agg (arr 5 r4)] w fun r w' => r = .returned (.bool true) ∧ Below w.heap.size w w'

set_option maxRecDepth 100000 in
set_option maxHeartbeats 4000000 in
theorem bytesT_gen (px py pz pt r1 r2 r4 : Nat → Int) (s3 : ByteArray) (w : World) (F : bytesTF px py pz pt r1 r2 r4 s3) (hs : s3.size = 32) (hf : ∀ i, i < 32 → 0 ≤ (upd (bt s3) 31 (bits .or .u8 (bt s3 31) 128)) i ∧ (upd (bt s3) 31 (bits .or .u8 (bt s3 31) 128)) i < 256) :
    Calls Tryz.prog 33 #[.agg (arr 20 (p4 5 px py pz pt))] w fun r w' => r = .returned (.string (bs ((List.range 32).map (upd (bt (s3)) 31 (bits .or .u8 ((bt (s3)) 31) 128))))) ∧ Below w.heap.size w w' := by
  go_enter Tryz.func33, Tryz.ntmps33
  have M := Mem.start w
  refine sr ?_
  refine pl_new M (want_no rfl) (some 1) rfl (.cells (arr 20 (p4 5 px py pz pt)) 27) (fun _ => by kernel_rfl) ?_
  intro g1 w1 M
  replace M : Mem w [⟨g1, .cells (arr 20 (p4 5 px py pz pt)) 27⟩] w1 := M
  refine pv 2 (.string ⟨#[]⟩) ?_
  refine nt ?_
  refine wp_seq ?_
  refine sr ?_
  refine pl_load M (want_no rfl) (some 5) rfl 27 _ rfl 0 g1 0 (by kernel_rfl) 20 27 (p4 5 px py pz pt) rfl 20 (p4 5 px py pz pt) (Part.all _ _) (by decide) _ Tryz.underlying27 rfl inz27 ?_
  refine pl_call M (want_no rfl) (some 6) rfl 52 #[.agg (arr 20 (p4 5 px py pz pt))] (.bool false) (fun _ => by kernel_rfl) F.h1 ?_
  intro w2 M
  refine nt ?_
  refine wp_cond_false (by kernel_rfl) ?_
  refine wp_skip ?_
  refine au_then ?_
  refine sr ?_
  refine pv 7 (.pointer (some ⟨g1, 10, none⟩)) ?_
  refine pl_load M (want_no rfl) (some 8) rfl 25 _ rfl 0 g1 10 (by kernel_rfl) 20 27 (p4 5 px py pz pt) rfl 5 pz (p4_2 5 px py pz pt 10 rfl) (by decide) _ Tryz.underlying25 rfl inz25 ?_
  refine pl_call M (want_no rfl) (some 9) rfl 73 #[.agg (arr 5 pz)] (.agg (arr 5 r1)) (fun _ => by kernel_rfl) F.h2 ?_
  intro w3 M
  refine pl_new M (want_no rfl) (some 3) rfl (.cells (arr 5 (fun _ => 0)) 25) (fun _ => by kernel_rfl) ?_
  intro g2 w4 M
  replace M : Mem w [⟨g1, .cells (arr 20 (p4 5 px py pz pt)) 27⟩, ⟨g2, .cells (arr 5 (fun _ => 0)) 25⟩] w4 := M
  refine pl_put M (want_no rfl) rfl 25 _ _ rfl 1 g2 (by kernel_rfl) 5 25 (fun _ => 0) r1 rfl (by kernel_rfl) inz25 ?_
  intro w5 M
  replace M : Mem w [⟨g1, .cells (arr 20 (p4 5 px py pz pt)) 27⟩, ⟨g2, .cells (arr 5 r1) 25⟩] w5 := M
  refine nt ?_
  refine sr ?_
  refine pl_new M (want_no rfl) (some 4) rfl (.cells (bz 32) 96) (fun _ => by kernel_rfl) ?_
  intro g3 w6 M
  replace M : Mem w [⟨g1, .cells (arr 20 (p4 5 px py pz pt)) 27⟩, ⟨g2, .cells (arr 5 r1) 25⟩, ⟨g3, .cells (bz 32) 96⟩] w6 := M
  refine nt ?_
  refine wp_seq ?_
  refine rg_tail M 6 (by kernel_rfl) (by kernel_rfl) ?_
  simp only [List.take_succ_cons, List.take_zero]
  refine kv 10 (.slice (some ⟨g3, 0, none⟩) 32 32) ?_
  refine kv 11 (.pointer (some ⟨g1, 5, none⟩)) ?_
  refine k_load M (want_no rfl) (some 12) rfl 25 _ rfl 0 g1 5 (by kernel_rfl) 20 27 (p4 5 px py pz pt) rfl 5 py (p4_1 5 px py pz pt 5 rfl) (by decide) _ Tryz.underlying25 rfl inz25 ?_
  refine k_load M (want_no rfl) (some 13) rfl 25 _ rfl 1 g2 0 (by kernel_rfl) 5 25 r1 rfl 5 r1 (Part.all _ _) (by decide) _ Tryz.underlying25 rfl inz25 ?_
  refine k_call (want_no rfl) (some 14) rfl 59 #[.agg (arr 5 py), .agg (arr 5 r1)] (.agg (arr 5 r2)) (fun _ => by kernel_rfl) F.h3 ?_
  refine k_call (want_no rfl) (some 15) rfl 67 #[.agg (arr 5 r2)] (.string s3) (fun _ => by kernel_rfl) F.h4 ?_
  refine kl_nil ?_
  intro w7 M
  replace M : Mem w [⟨g1, .cells (arr 20 (p4 5 px py pz pt)) 27⟩, ⟨g2, .cells (arr 5 r1) 25⟩, ⟨g3, .cells (bz 32) 96⟩] w7 := M
  refine pl_copy M (want_no rfl) (some 16) rfl 70 9 3 5 2 g3 32 32 (s3) hs (.cells (bz 32) 96) rfl (fun _ => 0) (ByZ.zero 32 96) Tryz.underlying70 inzb (fun _ => by kernel_rfl) ?_
  intro Z1 w8 z1 M
  replace M : Mem w [⟨g1, .cells (arr 20 (p4 5 px py pz pt)) 27⟩, ⟨g2, .cells (arr 5 r1) 25⟩, ⟨g3, Z1⟩] w8 := M
  refine nt ?_
  refine wp_seq ?_
  refine sr ?_
  refine pv 17 (.pointer (some ⟨g1, 0, none⟩)) ?_
  refine pl_load M (want_no rfl) (some 18) rfl 25 _ rfl 0 g1 0 (by kernel_rfl) 20 27 (p4 5 px py pz pt) rfl 5 px (p4_0 5 px py pz pt 0 rfl) (by decide) _ Tryz.underlying25 rfl inz25 ?_
  refine pl_load M (want_no rfl) (some 19) rfl 25 _ rfl 1 g2 0 (by kernel_rfl) 5 25 r1 rfl 5 r1 (Part.all _ _) (by decide) _ Tryz.underlying25 rfl inz25 ?_
  refine pl_call M (want_no rfl) (some 20) rfl 59 #[.agg (arr 5 px), .agg (arr 5 r1)] (.agg (arr 5 r4)) (fun _ => by kernel_rfl) F.h5 ?_
  intro w9 M
  refine pl_call M (want_no rfl) (some 21) rfl 29 #[.agg (arr 5 r4)] (.bool true) (fun _ => by kernel_rfl) F.h6 ?_
  intro w10 M
  refine nt ?_
  refine wp_cond_true (by kernel_rfl) ?_
  refine rg_lit ?_
  refine pv 22 (.pointer (some ⟨g3, 31, none⟩)) ?_
  refine pl_loadb M (want_no rfl) (some 23) rfl 5 _ rfl 2 g3 31 (by kernel_rfl) (Z1) rfl 32 (bt (s3)) z1 (by decide) (fun _ => by kernel_rfl) ?_
  refine pv 24 (.int .u8 (bits .or .u8 ((bt (s3)) 31) 128)) ?_
  refine pv 25 (.pointer (some ⟨g3, 31, none⟩)) ?_
  refine pl_storeb M (want_no rfl) rfl 5 _ _ rfl 2 g3 31 (by kernel_rfl) (bits .or .u8 ((bt (s3)) 31) 128) (by kernel_rfl) (Z1) rfl 32 (bt (s3)) z1 (by decide) inzb ?_
  intro Z2 w11 z2 M
  replace M : Mem w [⟨g1, .cells (arr 20 (p4 5 px py pz pt)) 27⟩, ⟨g2, .cells (arr 5 r1) 25⟩, ⟨g3, Z2⟩] w11 := M
  refine nt ?_
  refine sr ?_
  refine pv 26 (.slice (some ⟨g3, 0, none⟩) 32 32) ?_
  refine pl_back M (want_no rfl) (some 27) rfl _ rfl 2 g3 32 32 (by kernel_rfl) (Z2) rfl (upd (bt (s3)) 31 (bits .or .u8 ((bt (s3)) 31) 128)) z2 hf ?_
  refine pv 2 (.string (bs ((List.range 32).map (upd (bt (s3)) 31 (bits .or .u8 ((bt (s3)) 31) 128))))) ?_
  refine nt ?_
  refine wp_ret ?_
  exact bodyPost_ret (v := .string (bs ((List.range 32).map (upd (bt (s3)) 31 (bits .or .u8 ((bt (s3)) 31) 128))))) (results_tmp1 Tryz.results33 _ _ _ (by kernel_rfl)) (by kernel_rfl) ⟨rfl, M.old⟩

structure rbytesFF (px py pz pt r1 r2 r3 : Nat → Int) (s4 : ByteArray) : Prop where
  h1 : ∀ w, Calls Tryz.prog 44 #[.agg (arr 16 pz)] w fun r w' => r = .returned (.agg (arr 16 r1)) ∧ Below w.heap.size w w'
  h2 : ∀ w, Calls Tryz.prog 39 #[.agg (arr 16 px), .agg (arr 16 r1)] w fun r w' => r = .returned (.agg (arr 16 r2)) ∧ Below w.heap.size w w'
  h3 : ∀ w, Calls Tryz.prog 39 #[.agg (arr 16 py), .agg (arr 16 r1)] w fun r w' => r = .returned (.agg (arr 16 r3)) ∧ Below w.heap.size w w'
  h4 : ∀ w, Calls Tryz.prog 77 #[.agg (arr 16 r3)] w fun r w' => r = .returned (.string s4) ∧ Below w.heap.size w w'

set_option maxRecDepth 100000 in
set_option maxHeartbeats 4000000 in
theorem rbytesF_gen (px py pz pt r1 r2 r3 : Nat → Int) (s4 : ByteArray) (w : World) (F : rbytesFF px py pz pt r1 r2 r3 s4) (hp : bits .and .u64 (r2 0) 1 = 0) (hs : s4.size = 32) (hf : ∀ i, i < 32 → 0 ≤ (upd (bt s4) 31 (bits .or .u8 (bt s4 31) 0)) i ∧ (upd (bt s4) 31 (bits .or .u8 (bt s4 31) 0)) i < 256) :
    Calls Tryz.prog 36 #[.agg (arr 64 (p4 16 px py pz pt))] w fun r w' => r = .returned (.string (bs ((List.range 32).map (upd (bt (s4)) 31 (bits .or .u8 ((bt (s4)) 31) 0))))) ∧ Below w.heap.size w w' := by
  go_enter Tryz.func36, Tryz.ntmps36
  have M := Mem.start w
  refine sr ?_
  refine pl_new M (want_no rfl) (some 1) rfl (.cells (arr 64 (p4 16 px py pz pt)) 41) (fun _ => by kernel_rfl) ?_
  intro g1 w1 M
  replace M : Mem w [⟨g1, .cells (arr 64 (p4 16 px py pz pt)) 41⟩] w1 := M
  refine pv 2 (.string ⟨#[]⟩) ?_
  refine nt ?_
  refine sr ?_
  refine pv 6 (.pointer (some ⟨g1, 32, none⟩)) ?_
  refine pl_load M (want_no rfl) (some 7) rfl 39 _ rfl 0 g1 32 (by kernel_rfl) 64 41 (p4 16 px py pz pt) rfl 16 pz (p4_2 16 px py pz pt 32 rfl) (by decide) _ Tryz.underlying39 rfl inz39 ?_
  refine pl_call M (want_no rfl) (some 8) rfl 44 #[.agg (arr 16 pz)] (.agg (arr 16 r1)) (fun _ => by kernel_rfl) F.h1 ?_
  intro w2 M
  refine pl_new M (want_no rfl) (some 3) rfl (.cells (arr 16 (fun _ => 0)) 39) (fun _ => by kernel_rfl) ?_
  intro g2 w3 M
  replace M : Mem w [⟨g1, .cells (arr 64 (p4 16 px py pz pt)) 41⟩, ⟨g2, .cells (arr 16 (fun _ => 0)) 39⟩] w3 := M
  refine pl_put M (want_no rfl) rfl 39 _ _ rfl 1 g2 (by kernel_rfl) 16 39 (fun _ => 0) r1 rfl (by kernel_rfl) inz39 ?_
  intro w4 M
  replace M : Mem w [⟨g1, .cells (arr 64 (p4 16 px py pz pt)) 41⟩, ⟨g2, .cells (arr 16 r1) 39⟩] w4 := M
  refine nt ?_
  refine sr ?_
  refine pv 9 (.pointer (some ⟨g1, 0, none⟩)) ?_
  refine pl_load M (want_no rfl) (some 10) rfl 39 _ rfl 0 g1 0 (by kernel_rfl) 64 41 (p4 16 px py pz pt) rfl 16 px (p4_0 16 px py pz pt 0 rfl) (by decide) _ Tryz.underlying39 rfl inz39 ?_
  refine pl_load M (want_no rfl) (some 11) rfl 39 _ rfl 1 g2 0 (by kernel_rfl) 16 39 r1 rfl 16 r1 (Part.all _ _) (by decide) _ Tryz.underlying39 rfl inz39 ?_
  refine pl_call M (want_no rfl) (some 12) rfl 39 #[.agg (arr 16 px), .agg (arr 16 r1)] (.agg (arr 16 r2)) (fun _ => by kernel_rfl) F.h2 ?_
  intro w5 M
  refine pl_new M (want_no rfl) (some 4) rfl (.cells (arr 16 (fun _ => 0)) 39) (fun _ => by kernel_rfl) ?_
  intro g3 w6 M
  replace M : Mem w [⟨g1, .cells (arr 64 (p4 16 px py pz pt)) 41⟩, ⟨g2, .cells (arr 16 r1) 39⟩, ⟨g3, .cells (arr 16 (fun _ => 0)) 39⟩] w6 := M
  refine pl_put M (want_no rfl) rfl 39 _ _ rfl 2 g3 (by kernel_rfl) 16 39 (fun _ => 0) r2 rfl (by kernel_rfl) inz39 ?_
  intro w7 M
  replace M : Mem w [⟨g1, .cells (arr 64 (p4 16 px py pz pt)) 41⟩, ⟨g2, .cells (arr 16 r1) 39⟩, ⟨g3, .cells (arr 16 r2) 39⟩] w7 := M
  refine nt ?_
  refine sr ?_
  refine pv 13 (.pointer (some ⟨g1, 16, none⟩)) ?_
  refine pl_load M (want_no rfl) (some 14) rfl 39 _ rfl 0 g1 16 (by kernel_rfl) 64 41 (p4 16 px py pz pt) rfl 16 py (p4_1 16 px py pz pt 16 rfl) (by decide) _ Tryz.underlying39 rfl inz39 ?_
  refine pl_load M (want_no rfl) (some 15) rfl 39 _ rfl 1 g2 0 (by kernel_rfl) 16 39 r1 rfl 16 r1 (Part.all _ _) (by decide) _ Tryz.underlying39 rfl inz39 ?_
  refine pl_call M (want_no rfl) (some 16) rfl 39 #[.agg (arr 16 py), .agg (arr 16 r1)] (.agg (arr 16 r3)) (fun _ => by kernel_rfl) F.h3 ?_
  intro w8 M
  refine pl_call M (want_no rfl) (some 17) rfl 77 #[.agg (arr 16 r3)] (.string s4) (fun _ => by kernel_rfl) F.h4 ?_
  intro w9 M
  refine pl_conv M (want_no rfl) (some 18) rfl _ rfl (s4) (by kernel_rfl) 32 hs ?_
  intro g4 cg4 Z1 w10 z1 M
  replace M : Mem w [⟨g1, .cells (arr 64 (p4 16 px py pz pt)) 41⟩, ⟨g2, .cells (arr 16 r1) 39⟩, ⟨g3, .cells (arr 16 r2) 39⟩, ⟨g4, Z1⟩] w10 := M
  refine pv 5 (.slice (some ⟨g4, 0, none⟩) 32 cg4) ?_
  refine nt ?_
  refine wp_seq ?_
  refine rg_tail M 11 (by kernel_rfl) (by kernel_rfl) ?_
  simp only [List.take_succ_cons, List.take_zero]
  refine kv 19 (.slice (some ⟨g4, 0, none⟩) 32 cg4) ?_
  refine kv 20 (.slice (some ⟨g4, 0, none⟩) 32 cg4) ?_
  refine kv 21 (.pointer (some ⟨g4, 31, none⟩)) ?_
  refine k_loadb M (want_no rfl) (some 22) rfl 5 _ rfl 3 g4 31 (by kernel_rfl) (Z1) rfl 32 (bt (s4)) z1 (by decide) (fun _ => by kernel_rfl) ?_
  refine kv 23 (.pointer (some ⟨g3, 0, none⟩)) ?_
  refine k_loadw M (want_no rfl) (some 24) rfl 22 _ rfl 2 g3 0 (by kernel_rfl) 16 39 r2 rfl (by decide) (fun _ => by kernel_rfl) ?_
  refine k_val (want_no rfl) (some 25) rfl (.int .u64 0) (fun w => Eq.trans (b := .ok (.value (.int .u64 (bits .and .u64 (r2 0) 1))) w) (by kernel_rfl) (by rw [hp])) ?_
  refine kv 26 (.int .u8 0) ?_
  refine kv 27 (.int .u8 0) ?_
  refine kv 28 (.int .u8 (bits .or .u8 ((bt (s4)) 31) 0)) ?_
  refine kv 29 (.pointer (some ⟨g4, 31, none⟩)) ?_
  refine kl_nil ?_
  intro w11 M
  replace M : Mem w [⟨g1, .cells (arr 64 (p4 16 px py pz pt)) 41⟩, ⟨g2, .cells (arr 16 r1) 39⟩, ⟨g3, .cells (arr 16 r2) 39⟩, ⟨g4, Z1⟩] w11 := M
  refine pl_storeb M (want_no rfl) rfl 5 _ _ rfl 3 g4 31 (by kernel_rfl) (bits .or .u8 ((bt (s4)) 31) 0) (by kernel_rfl) (Z1) rfl 32 (bt (s4)) z1 (by decide) inzb ?_
  intro Z2 w12 z2 M
  replace M : Mem w [⟨g1, .cells (arr 64 (p4 16 px py pz pt)) 41⟩, ⟨g2, .cells (arr 16 r1) 39⟩, ⟨g3, .cells (arr 16 r2) 39⟩, ⟨g4, Z2⟩] w12 := M
  refine nt ?_
  refine sr ?_
  refine pv 30 (.slice (some ⟨g4, 0, none⟩) 32 cg4) ?_
  refine pl_back M (want_no rfl) (some 31) rfl _ rfl 3 g4 32 cg4 (by kernel_rfl) (Z2) rfl (upd (bt (s4)) 31 (bits .or .u8 ((bt (s4)) 31) 0)) z2 hf ?_
  refine pv 2 (.string (bs ((List.range 32).map (upd (bt (s4)) 31 (bits .or .u8 ((bt (s4)) 31) 0))))) ?_
  refine nt ?_
  refine wp_ret ?_
  exact bodyPost_ret (v := .string (bs ((List.range 32).map (upd (bt (s4)) 31 (bits .or .u8 ((bt (s4)) 31) 0))))) (results_tmp1 Tryz.results36 _ _ _ (by kernel_rfl)) (by kernel_rfl) ⟨rfl, M.old⟩

structure rbytesTF (px py pz pt r1 r2 r3 : Nat → Int) (s4 : ByteArray) : Prop where
  h1 : ∀ w, Calls Tryz.prog 44 #[.agg (arr 16 pz)] w fun r w' => r = .returned (.agg (arr 16 r1)) ∧ Below w.heap.size w w'
  h2 : ∀ w, Calls Tryz.prog 39 #[.agg (arr 16 px), .agg (arr 16 r1)] w fun r w' => r = .returned (.agg (arr 16 r2)) ∧ Below w.heap.size w w'
  h3 : ∀ w, Calls Tryz.prog 39 #[.agg (arr 16 py), .agg (arr 16 r1)] w fun r w' => r = .returned (.agg (arr 16 r3)) ∧ Below w.heap.size w w'
  h4 : ∀ w, Calls Tryz.prog 77 #[.agg (arr 16 r3)] w fun r w' => r = .returned (.string s4) ∧ Below w.heap.size w w'

set_option maxRecDepth 100000 in
set_option maxHeartbeats 4000000 in
theorem rbytesT_gen (px py pz pt r1 r2 r3 : Nat → Int) (s4 : ByteArray) (w : World) (F : rbytesTF px py pz pt r1 r2 r3 s4) (hp : bits .and .u64 (r2 0) 1 = 1) (hs : s4.size = 32) (hf : ∀ i, i < 32 → 0 ≤ (upd (bt s4) 31 (bits .or .u8 (bt s4 31) 128)) i ∧ (upd (bt s4) 31 (bits .or .u8 (bt s4 31) 128)) i < 256) :
    Calls Tryz.prog 36 #[.agg (arr 64 (p4 16 px py pz pt))] w fun r w' => r = .returned (.string (bs ((List.range 32).map (upd (bt (s4)) 31 (bits .or .u8 ((bt (s4)) 31) 128))))) ∧ Below w.heap.size w w' := by
  go_enter Tryz.func36, Tryz.ntmps36
  have M := Mem.start w
  refine sr ?_
  refine pl_new M (want_no rfl) (some 1) rfl (.cells (arr 64 (p4 16 px py pz pt)) 41) (fun _ => by kernel_rfl) ?_
  intro g1 w1 M
  replace M : Mem w [⟨g1, .cells (arr 64 (p4 16 px py pz pt)) 41⟩] w1 := M
  refine pv 2 (.string ⟨#[]⟩) ?_
  refine nt ?_
  refine sr ?_
  refine pv 6 (.pointer (some ⟨g1, 32, none⟩)) ?_
  refine pl_load M (want_no rfl) (some 7) rfl 39 _ rfl 0 g1 32 (by kernel_rfl) 64 41 (p4 16 px py pz pt) rfl 16 pz (p4_2 16 px py pz pt 32 rfl) (by decide) _ Tryz.underlying39 rfl inz39 ?_
  refine pl_call M (want_no rfl) (some 8) rfl 44 #[.agg (arr 16 pz)] (.agg (arr 16 r1)) (fun _ => by kernel_rfl) F.h1 ?_
  intro w2 M
  refine pl_new M (want_no rfl) (some 3) rfl (.cells (arr 16 (fun _ => 0)) 39) (fun _ => by kernel_rfl) ?_
  intro g2 w3 M
  replace M : Mem w [⟨g1, .cells (arr 64 (p4 16 px py pz pt)) 41⟩, ⟨g2, .cells (arr 16 (fun _ => 0)) 39⟩] w3 := M
  refine pl_put M (want_no rfl) rfl 39 _ _ rfl 1 g2 (by kernel_rfl) 16 39 (fun _ => 0) r1 rfl (by kernel_rfl) inz39 ?_
  intro w4 M
  replace M : Mem w [⟨g1, .cells (arr 64 (p4 16 px py pz pt)) 41⟩, ⟨g2, .cells (arr 16 r1) 39⟩] w4 := M
  refine nt ?_
  refine sr ?_
  refine pv 9 (.pointer (some ⟨g1, 0, none⟩)) ?_
  refine pl_load M (want_no rfl) (some 10) rfl 39 _ rfl 0 g1 0 (by kernel_rfl) 64 41 (p4 16 px py pz pt) rfl 16 px (p4_0 16 px py pz pt 0 rfl) (by decide) _ Tryz.underlying39 rfl inz39 ?_
  refine pl_load M (want_no rfl) (some 11) rfl 39 _ rfl 1 g2 0 (by kernel_rfl) 16 39 r1 rfl 16 r1 (Part.all _ _) (by decide) _ Tryz.underlying39 rfl inz39 ?_
  refine pl_call M (want_no rfl) (some 12) rfl 39 #[.agg (arr 16 px), .agg (arr 16 r1)] (.agg (arr 16 r2)) (fun _ => by kernel_rfl) F.h2 ?_
  intro w5 M
  refine pl_new M (want_no rfl) (some 4) rfl (.cells (arr 16 (fun _ => 0)) 39) (fun _ => by kernel_rfl) ?_
  intro g3 w6 M
  replace M : Mem w [⟨g1, .cells (arr 64 (p4 16 px py pz pt)) 41⟩, ⟨g2, .cells (arr 16 r1) 39⟩, ⟨g3, .cells (arr 16 (fun _ => 0)) 39⟩] w6 := M
  refine pl_put M (want_no rfl) rfl 39 _ _ rfl 2 g3 (by kernel_rfl) 16 39 (fun _ => 0) r2 rfl (by kernel_rfl) inz39 ?_
  intro w7 M
  replace M : Mem w [⟨g1, .cells (arr 64 (p4 16 px py pz pt)) 41⟩, ⟨g2, .cells (arr 16 r1) 39⟩, ⟨g3, .cells (arr 16 r2) 39⟩] w7 := M
  refine nt ?_
  refine sr ?_
  refine pv 13 (.pointer (some ⟨g1, 16, none⟩)) ?_
  refine pl_load M (want_no rfl) (some 14) rfl 39 _ rfl 0 g1 16 (by kernel_rfl) 64 41 (p4 16 px py pz pt) rfl 16 py (p4_1 16 px py pz pt 16 rfl) (by decide) _ Tryz.underlying39 rfl inz39 ?_
  refine pl_load M (want_no rfl) (some 15) rfl 39 _ rfl 1 g2 0 (by kernel_rfl) 16 39 r1 rfl 16 r1 (Part.all _ _) (by decide) _ Tryz.underlying39 rfl inz39 ?_
  refine pl_call M (want_no rfl) (some 16) rfl 39 #[.agg (arr 16 py), .agg (arr 16 r1)] (.agg (arr 16 r3)) (fun _ => by kernel_rfl) F.h3 ?_
  intro w8 M
  refine pl_call M (want_no rfl) (some 17) rfl 77 #[.agg (arr 16 r3)] (.string s4) (fun _ => by kernel_rfl) F.h4 ?_
  intro w9 M
  refine pl_conv M (want_no rfl) (some 18) rfl _ rfl (s4) (by kernel_rfl) 32 hs ?_
  intro g4 cg4 Z1 w10 z1 M
  replace M : Mem w [⟨g1, .cells (arr 64 (p4 16 px py pz pt)) 41⟩, ⟨g2, .cells (arr 16 r1) 39⟩, ⟨g3, .cells (arr 16 r2) 39⟩, ⟨g4, Z1⟩] w10 := M
  refine pv 5 (.slice (some ⟨g4, 0, none⟩) 32 cg4) ?_
  refine nt ?_
  refine wp_seq ?_
  refine rg_tail M 11 (by kernel_rfl) (by kernel_rfl) ?_
  simp only [List.take_succ_cons, List.take_zero]
  refine kv 19 (.slice (some ⟨g4, 0, none⟩) 32 cg4) ?_
  refine kv 20 (.slice (some ⟨g4, 0, none⟩) 32 cg4) ?_
  refine kv 21 (.pointer (some ⟨g4, 31, none⟩)) ?_
  refine k_loadb M (want_no rfl) (some 22) rfl 5 _ rfl 3 g4 31 (by kernel_rfl) (Z1) rfl 32 (bt (s4)) z1 (by decide) (fun _ => by kernel_rfl) ?_
  refine kv 23 (.pointer (some ⟨g3, 0, none⟩)) ?_
  refine k_loadw M (want_no rfl) (some 24) rfl 22 _ rfl 2 g3 0 (by kernel_rfl) 16 39 r2 rfl (by decide) (fun _ => by kernel_rfl) ?_
  refine k_val (want_no rfl) (some 25) rfl (.int .u64 1) (fun w => Eq.trans (b := .ok (.value (.int .u64 (bits .and .u64 (r2 0) 1))) w) (by kernel_rfl) (by rw [hp])) ?_
  refine kv 26 (.int .u8 1) ?_
  refine kv 27 (.int .u8 128) ?_
  refine kv 28 (.int .u8 (bits .or .u8 ((bt (s4)) 31) 128)) ?_
  refine kv 29 (.pointer (some ⟨g4, 31, none⟩)) ?_
  refine kl_nil ?_
  intro w11 M
  replace M : Mem w [⟨g1, .cells (arr 64 (p4 16 px py pz pt)) 41⟩, ⟨g2, .cells (arr 16 r1) 39⟩, ⟨g3, .cells (arr 16 r2) 39⟩, ⟨g4, Z1⟩] w11 := M
  refine pl_storeb M (want_no rfl) rfl 5 _ _ rfl 3 g4 31 (by kernel_rfl) (bits .or .u8 ((bt (s4)) 31) 128) (by kernel_rfl) (Z1) rfl 32 (bt (s4)) z1 (by decide) inzb ?_
  intro Z2 w12 z2 M
  replace M : Mem w [⟨g1, .cells (arr 64 (p4 16 px py pz pt)) 41⟩, ⟨g2, .cells (arr 16 r1) 39⟩, ⟨g3, .cells (arr 16 r2) 39⟩, ⟨g4, Z2⟩] w12 := M
  refine nt ?_
  refine sr ?_
  refine pv 30 (.slice (some ⟨g4, 0, none⟩) 32 cg4) ?_
  refine pl_back M (want_no rfl) (some 31) rfl _ rfl 3 g4 32 cg4 (by kernel_rfl) (Z2) rfl (upd (bt (s4)) 31 (bits .or .u8 ((bt (s4)) 31) 128)) z2 hf ?_
  refine pv 2 (.string (bs ((List.range 32).map (upd (bt (s4)) 31 (bits .or .u8 ((bt (s4)) 31) 128))))) ?_
  refine nt ?_
  refine wp_ret ?_
  exact bodyPost_ret (v := .string (bs ((List.range 32).map (upd (bt (s4)) 31 (bits .or .u8 ((bt (s4)) 31) 128))))) (results_tmp1 Tryz.results36 _ _ _ (by kernel_rfl)) (by kernel_rfl) ⟨rfl, M.old⟩

structure rdecLF (s : ByteArray)  : Prop where
  h0 : True

set_option maxRecDepth 100000 in
set_option maxHeartbeats 4000000 in
theorem rdecL_gen (s : ByteArray)  (w : World) (_F : rdecLF s ) (hs : ¬ (s.size : Int) = 32) :
    Calls Tryz.prog 8 #[.string s] w fun r w' => r = .returned (.tuple #[.agg (arr 64 (fun _ => 0)), .int .i64 2]) ∧ Below w.heap.size w w' := by
  go_enter Tryz.func8, Tryz.ntmps8
  have M := Mem.start w
  refine sr ?_
  refine pl_new M (want_no rfl) (some 2) rfl (.cells (arr 64 (fun _ => 0)) 41) (fun _ => by kernel_rfl) ?_
  intro g1 w1 M
  replace M : Mem w [⟨g1, .cells (arr 64 (fun _ => 0)) 41⟩] w1 := M
  refine pv 3 (.int .i64 0) ?_
  refine nt ?_
  refine wp_seq ?_
  refine sr ?_
  refine pv 12 (.string s) ?_
  refine pv 13 (.int .i64 (s.size : Int)) ?_
  refine pl_val (want_no rfl) (some 14) rfl (.bool true) (fun w => Eq.trans (b := .ok (.value (.bool (!(decide ((s.size : Int) = 32))))) w) (by kernel_rfl) (by rw [decide_eq_false hs]; rfl)) ?_
  refine nt ?_
  refine wp_cond_true (by kernel_rfl) ?_
  refine sr ?_
  refine pv 15 (.agg (arr 64 (fun _ => 0))) ?_
  refine pl_put M (want_no rfl) rfl 41 _ _ rfl 0 g1 (by kernel_rfl) 64 41 (fun _ => 0) (fun _ => 0) rfl (by kernel_rfl) inz41 ?_
  intro w2 M
  replace M : Mem w [⟨g1, .cells (arr 64 (fun _ => 0)) 41⟩] w2 := M
  refine pv 3 (.int .i64 2) ?_
  refine nt ?_
  refine wp_ret ?_
  refine au_then_ret ?_
  exact bodyPost_ret (v := .tuple #[.agg (arr 64 (fun _ => 0)), .int .i64 2]) (results_cell_tmp Tryz.results8 _ _ g1 41 (arr 64 (fun _ => 0)) (0, 0) _ (.int .i64 2) (by kernel_rfl) (by kernel_rfl) (M.get 0 rfl) Tryz.underlying41 rfl (by rw [arr_size]; exact inz41)) (by kernel_rfl) ⟨rfl, M.old⟩

structure rdecCF (s : ByteArray)  : Prop where
  h1 : ∀ w, Calls Tryz.prog 37 #[.string (bs ((List.range 32).map (upd (bt (s)) 31 (bits .and .u8 ((bt (s)) 31) 127))))] w fun r w' => r = .returned (.bool false) ∧ Below w.heap.size w w'

set_option maxRecDepth 100000 in
set_option maxHeartbeats 4000000 in
theorem rdecC_gen (s : ByteArray)  (w : World) (F : rdecCF s ) (hs : s.size = 32) (hf : ∀ i, i < 32 → 0 ≤ (upd (bt s) 31 (bits .and .u8 (bt s 31) 127)) i ∧ (upd (bt s) 31 (bits .and .u8 (bt s 31) 127)) i < 256) :
    Calls Tryz.prog 8 #[.string s] w fun r w' => r = .returned (.tuple #[.agg (arr 64 (fun _ => 0)), .int .i64 40]) ∧ Below w.heap.size w w' := by
  go_enter Tryz.func8, Tryz.ntmps8
  have M := Mem.start w
  refine sr ?_
  refine pl_new M (want_no rfl) (some 2) rfl (.cells (arr 64 (fun _ => 0)) 41) (fun _ => by kernel_rfl) ?_
  intro g1 w1 M
  replace M : Mem w [⟨g1, .cells (arr 64 (fun _ => 0)) 41⟩] w1 := M
  refine pv 3 (.int .i64 0) ?_
  refine nt ?_
  refine wp_seq ?_
  refine sr ?_
  refine pv 12 (.string s) ?_
  refine pl_val (want_no rfl) (some 13) rfl (.int .i64 32) (fun w => Eq.trans (b := .ok (.value (.int .i64 (s.size : Int))) w) (by kernel_rfl) (by rw [hs]; rfl)) ?_
  refine pv 14 (.bool false) ?_
  refine nt ?_
  refine wp_cond_false (by kernel_rfl) ?_
  refine wp_skip ?_
  refine au_then ?_
  refine sr ?_
  refine pv 16 (.string s) ?_
  refine pl_conv M (want_no rfl) (some 17) rfl _ rfl (s) (by kernel_rfl) 32 hs ?_
  intro g2 cg2 Z1 w2 z1 M
  replace M : Mem w [⟨g1, .cells (arr 64 (fun _ => 0)) 41⟩, ⟨g2, Z1⟩] w2 := M
  refine pv 4 (.slice (some ⟨g2, 0, none⟩) 32 cg2) ?_
  refine nt ?_
  refine sr ?_
  refine pv 18 (.slice (some ⟨g2, 0, none⟩) 32 cg2) ?_
  refine pv 19 (.pointer (some ⟨g2, 31, none⟩)) ?_
  refine pl_loadb M (want_no rfl) (some 20) rfl 5 _ rfl 1 g2 31 (by kernel_rfl) (Z1) rfl 32 (bt (s)) z1 (by decide) (fun _ => by kernel_rfl) ?_
  refine pl_val (want_no rfl) (some 21) rfl (.int .u8 (bt (s) 31 / 128)) (fun w => run_bin .shr 5 _ _ rfl (by kernel_rfl) (by kernel_rfl) (fun _ => by kernel_rfl) (run_shr7 _) w) ?_
  refine pv 22 (.bool (decide (bt (s) 31 / 128 = 1))) ?_
  refine pv 5 (.bool (decide (bt (s) 31 / 128 = 1))) ?_
  refine nt ?_
  refine sr ?_
  refine pv 23 (.slice (some ⟨g2, 0, none⟩) 32 cg2) ?_
  refine pv 24 (.slice (some ⟨g2, 0, none⟩) 32 cg2) ?_
  refine pv 25 (.pointer (some ⟨g2, 31, none⟩)) ?_
  refine pl_loadb M (want_no rfl) (some 26) rfl 5 _ rfl 1 g2 31 (by kernel_rfl) (Z1) rfl 32 (bt (s)) z1 (by decide) (fun _ => by kernel_rfl) ?_
  refine pv 27 (.int .u8 (bits .and .u8 ((bt (s)) 31) 127)) ?_
  refine pv 28 (.pointer (some ⟨g2, 31, none⟩)) ?_
  refine pl_storeb M (want_no rfl) rfl 5 _ _ rfl 1 g2 31 (by kernel_rfl) (bits .and .u8 ((bt (s)) 31) 127) (by kernel_rfl) (Z1) rfl 32 (bt (s)) z1 (by decide) inzb ?_
  intro Z2 w3 z2 M
  replace M : Mem w [⟨g1, .cells (arr 64 (fun _ => 0)) 41⟩, ⟨g2, Z2⟩] w3 := M
  refine nt ?_
  refine wp_seq ?_
  refine sr ?_
  refine pv 29 (.slice (some ⟨g2, 0, none⟩) 32 cg2) ?_
  refine pl_back M (want_no rfl) (some 30) rfl _ rfl 1 g2 32 cg2 (by kernel_rfl) (Z2) rfl (upd (bt (s)) 31 (bits .and .u8 ((bt (s)) 31) 127)) z2 hf ?_
  refine pl_call M (want_no rfl) (some 31) rfl 37 #[.string (bs ((List.range 32).map (upd (bt (s)) 31 (bits .and .u8 ((bt (s)) 31) 127))))] (.bool false) (fun _ => by kernel_rfl) F.h1 ?_
  intro w4 M
  refine pv 32 (.bool true) ?_
  refine nt ?_
  refine wp_cond_true (by kernel_rfl) ?_
  refine sr ?_
  refine pv 33 (.agg (arr 64 (fun _ => 0))) ?_
  refine pl_put M (want_no rfl) rfl 41 _ _ rfl 0 g1 (by kernel_rfl) 64 41 (fun _ => 0) (fun _ => 0) rfl (by kernel_rfl) inz41 ?_
  intro w5 M
  replace M : Mem w [⟨g1, .cells (arr 64 (fun _ => 0)) 41⟩, ⟨g2, Z2⟩] w5 := M
  refine pv 3 (.int .i64 40) ?_
  refine nt ?_
  refine wp_ret ?_
  refine au_then_ret ?_
  exact bodyPost_ret (v := .tuple #[.agg (arr 64 (fun _ => 0)), .int .i64 40]) (results_cell_tmp Tryz.results8 _ _ g1 41 (arr 64 (fun _ => 0)) (0, 0) _ (.int .i64 40) (by kernel_rfl) (by kernel_rfl) (M.get 0 rfl) Tryz.underlying41 rfl (by rw [arr_size]; exact inz41)) (by kernel_rfl) ⟨rfl, M.old⟩


end Go.Proofs.YtkeocdebfgcnnaaGreat
