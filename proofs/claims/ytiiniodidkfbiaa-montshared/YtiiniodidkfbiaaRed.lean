/- The contract of the document's reduce: the number modulo the prime, in 16 digits. -/
import Derived.Test.YtiiniodidkfbiaaRefC
import Derived.Test.YtiiniodidkfbiaaLie
namespace Go.Proofs.Ytiiniodidkfbiaa
open Go.RowKit

/-- The first k places have been carried. -/
def ps (t : Nat → Int) (k : Nat) : Nat → Int := fun i => if i < k then lo t i else t i
/-- Of the upper places the first k have come round. -/
def fs (u : Nat → Int) (k : Nat) : Nat → Int := fun i => if i < k then u i + 38 * u (16 + i) else if 16 ≤ i ∧ i < 16 + k then 0 else u i

theorem fs_step (u : Nat → Int) (m i : Nat) (hm : m < 16) (hi : i < 32) : upd (upd (fs u m) m (u m + 38 * u (16 + m))) (16 + m) 0 i = fs u (m + 1) i := by
  unfold upd fs
  repeat' split
  all_goals first | omega | (have e : i = m := by omega
                             subst e
                             omega)

theorem fs_last (t : Nat → Int) (i : Nat) (hi : i < 32) : upd (fs (lo t) 16) 0 (lo t 0 + 38 * lo t 16 + 1444 * cf t 32) i = T1 t i := by
  unfold T1 upd fs foldF
  by_cases h1 : i = 0
  · simp [h1]
  · rw [if_neg h1, if_neg h1]
    by_cases h2 : i < 16
    · rw [if_pos h2, if_pos h2]
    · rw [if_neg h2, if_neg h2, if_pos (by omega)]

theorem rowD {w : World} {g : Nat} {T : TypeId} {n : Nat} {f : Nat → Int} (h : Row w g T n f) : Row w.drew g T n f := h

theorem fin_eq {u : Nat → Int} {N : Int} (hU : Dig u 16) (hC : Cg (S u 16) N) (hlt : S u 16 < Pm) : arr 16 (d16 (N % Pm)) = arr 16 u := by
  have e := hC.emod
  have h0 := (S_bd hU).1
  rw [Int.emod_eq_of_lt h0 hlt] at e
  rw [← e]
  refine arr_congr (S_inj (d16_dig _ 16) hU ?_)
  rw [d16_S _ h0, Int.emod_eq_of_lt h0 (S_bd hU).2]

/-- The number that block g holds, for the last loop's measure. -/
def meas (W : World) (g : Nat) : Nat :=
  match W.heap[g]? with
  | some (.cells cs _ _) => (S (fun i => intOf (cs.getD i undef)) 16).toNat
  | _ => 0

theorem meas_row {W : World} {g : Nat} {T : TypeId} {f : Nat → Int} (h : Row W g T 16 f) : meas W g = (S f 16).toNat := by
  unfold meas
  rw [h]
  show (S (fun i => intOf ((arr 16 f).getD i undef)) 16).toNat = _
  rw [S_congr (g := f) fun i hi => by
    rw [Array.getD_eq_getD_getElem?, arr_get 16 f i hi]
    rfl]

set_option maxRecDepth 100000 in
set_option maxHeartbeats 4000000 in
theorem reduce_any (t0 : Nat → Int) (w : World) (h0 : B48 t0) : Calls Try.prog 21 #[.agg (arr 32 t0)] w fun r w' => r = .returned (.agg (arr 16 (d16 (S t0 32 % Pm)))) ∧ Below w.heap.size w w' := by
  go_enter Try.func21, Try.ntmps21
  go_wp2
  rw [show #[Value.int IntKind.u64 0, Value.int IntKind.u64 0, Value.int IntKind.u64 0, Value.int IntKind.u64 0, Value.int IntKind.u64 0, Value.int IntKind.u64 0, Value.int IntKind.u64 0, Value.int IntKind.u64 0, Value.int IntKind.u64 0, Value.int IntKind.u64 0, Value.int IntKind.u64 0, Value.int IntKind.u64 0, Value.int IntKind.u64 0, Value.int IntKind.u64 0, Value.int IntKind.u64 0, Value.int IntKind.u64 0] = arr 16 (fun _ => 0) from rfl]
  have R1 : Row ((w.alloc (.cells (arr 32 t0) 50)).alloc (.cells (arr 16 fun _ => 0) 35)) w.heap.size 50 32 t0 := (Row.new w 50 32 t0).alloc _
  have R2 : Row ((w.alloc (.cells (arr 32 t0) 50)).alloc (.cells (arr 16 fun _ => 0) 35)) (w.heap.size + 1) 35 16 (fun _ => 0) := Row.new' _ 35 16 _ (by simp)
  have O : Below w.heap.size w ((w.alloc (.cells (arr 32 t0) 50)).alloc (.cells (arr 16 fun _ => 0) 35)) := ((Below.refl _ _).alloc (Nat.le_refl _) _).alloc (by simp) _
  generalize (w.alloc (.cells (arr 32 t0) 50)).alloc (.cells (arr 16 fun _ => 0) 35) = W at R1 R2 O ⊢
  go_loopw [3] (fun r wr => ∃ k : Nat, k ≤ 3 ∧ r = .int .i64 k ∧ (∃ t, Jl k t ∧ Cg (S t 32) (S t0 32) ∧ Row wr w.heap.size 50 32 t) ∧ Row wr (w.heap.size + 1) 35 16 (fun _ => 0) ∧ Below w.heap.size w wr) (fun r _ => 3 - (intOf r).toNat)
  case atStart => exact ⟨0, by omega, rfl, ⟨t0, h0, Cg.refl _, R1⟩, R2, O⟩
  case round =>
    clear R1 R2 O
    obtain ⟨k, hk, rfl, ⟨t, hJ, hC, R1⟩, R2, O⟩ := hrel
    by_cases hlt : k < 3
    · have hB := hJ.b48 hk
      have HJ := hide (hJ.next hlt)
      have HC := hide ((T1_S t).trans hC)
      clear hJ hC
      go_wp2
      go_loopw [4, 5] (fun c i wq => ∃ j : Nat, j ≤ 32 ∧ c = .int .u64 (cf t j) ∧ i = .int .i64 j ∧ Row wq w.heap.size 50 32 (ps t j) ∧ Row wq (w.heap.size + 1) 35 16 (fun _ => 0) ∧ Below w.heap.size w wq) (fun _ i _ => 32 - (intOf i).toNat)
      case atStart => exact ⟨0, by omega, rfl, rfl, R1.congr (fun i _ => by unfold ps; rw [if_neg (by omega)]), R2, O⟩
      case round =>
        clear R1 R2 O
        obtain ⟨j, hj, rfl, rfl, R1, R2, O⟩ := hrel
        by_cases hjl : j < 32
        · have c := R1.cell hjl
          rw [show ps t j j = t j by unfold ps; rw [if_neg (by omega)]] at c
          have e := R1.free j
          obtain ⟨a0, a1⟩ := hB.b j hjl
          obtain ⟨b0, b1⟩ := cf_bd hB j (by omega)
          have ea := and16 (x := t j + cf t j) (by omega) (by omega)
          have HN := hide (show cf t (j + 1) = (t j + cf t j) / 65536 from rfl)
          have HL := hide (show lo t j = (t j + cf t j) % 65536 from rfl)
          have RR := hide (R1.set j ((t j + cf t j) % 65536))
          have R2' := hide (R2.other (a := ⟨w.heap.size, j, none⟩) (by simp) (.int .u64 ((t j + cf t j) % 65536)))
          have O' := hide (O.setCell (p := ⟨w.heap.size, j, none⟩) (by simp) (.int .u64 ((t j + cf t j) % 65536)))
          clear R1 R2 O
          go_wp2
          go_roundw
          case rel => exact ⟨j + 1, by omega, by rw [HN.out], by go_num, RR.out.congr (fun i _ => by
            unfold upd ps
            by_cases h : i = j
            · subst h
              simp [HL.out]
            · by_cases h2 : i < j
              · simp [h, h2, show i < j + 1 by omega]
              · simp [h, h2, show ¬ i < j + 1 by omega]), R2'.out, O'.out⟩
          case measure => simp [intOf]; omega
        · have hj' : j = 32 := by omega
          subst hj'
          have R1' : Row wr w.heap.size 50 32 (fs (lo t) 0) := R1.congr (fun i hi => by
            unfold ps fs
            rw [if_pos hi, if_neg (by omega), if_neg (by omega)])
          have hlo := lo_dig t 32
          have hcf := cf_bd hB 32 (by omega)
          clear R1
          go_wp2
          go_loopw [7] (fun i wq => ∃ m : Nat, m ≤ 16 ∧ i = .int .i64 m ∧ Row wq w.heap.size 50 32 (fs (lo t) m) ∧ Row wq (w.heap.size + 1) 35 16 (fun _ => 0) ∧ Below w.heap.size w wq) (fun i _ => 16 - (intOf i).toNat)
          case atStart => exact ⟨0, by omega, rfl, R1', R2, O⟩
          case round =>
            clear R1' R2 O
            obtain ⟨m, hm, rfl, R1, R2, O⟩ := hrel
            by_cases hml : m < 16
            · have c := R1.cell (i := m) (by omega)
              have d := R1.cell (i := 16 + m) (by omega)
              rw [show fs (lo t) m m = lo t m by unfold fs; rw [if_neg (by omega), if_neg (by omega)]] at c
              rw [show fs (lo t) m (16 + m) = lo t (16 + m) by unfold fs; rw [if_neg (by omega), if_neg (by omega)]] at d
              have e := R1.free
              obtain ⟨a0, a1⟩ := hlo m (by omega)
              obtain ⟨b0, b1⟩ := hlo (16 + m) (by omega)
              have i1 : (0 : Int) ≤ (m : Int) := by omega
              have i2 : (m : Int) < 16 := by omega
              clear hlo hcf hB
              go_wp2_with fail
              go_region
              go_wp2
              exact ⟨⟨m + 1, by omega, by go_num, rowD (((R1.set m (lo t m + 38 * lo t (16 + m))).set (16 + m) 0).congr (fun i hi => fs_step (lo t) m i hml hi)), rowD ((R2.other (a := ⟨w.heap.size, m, none⟩) (by simp) _).other (a := ⟨w.heap.size, 16 + m, none⟩) (by simp) _), ((O.setCell (p := ⟨w.heap.size, m, none⟩) (Nat.le_refl _) _).setCell (p := ⟨w.heap.size, 16 + m, none⟩) (Nat.le_refl _) _).drew⟩, by simp [intOf]; omega⟩
            · have hm' : m = 16 := by omega
              subst hm'
              have c := R1.cell (i := 0) (by omega)
              have e := R1.free 0
              rw [show fs (lo t) 16 0 = lo t 0 + 38 * lo t 16 by unfold fs; rw [if_pos (by omega)]] at c
              obtain ⟨a0, a1⟩ := hlo 0 (by omega)
              obtain ⟨b0, b1⟩ := hlo 16 (by omega)
              obtain ⟨f0, f1⟩ := hcf
              have RR := hide ((R1.set 0 (lo t 0 + 38 * lo t 16 + 1444 * cf t 32)).congr (f' := T1 t) (fun i hi => fs_last t i hi))
              have R2' := hide (R2.other (a := ⟨w.heap.size, 0, none⟩) (by simp) (.int .u64 (lo t 0 + 38 * lo t 16 + 1444 * cf t 32)))
              have O' := hide (O.setCell (p := ⟨w.heap.size, 0, none⟩) (Nat.le_refl _) (.int .u64 (lo t 0 + 38 * lo t 16 + 1444 * cf t 32)))
              clear R1 R2 O hlo hB
              go_wp2
              exact ⟨⟨k + 1, by omega, by go_num, ⟨T1 t, HJ.out, HC.out, RR.out⟩, R2'.out, O'.out⟩, by simp [intOf]; omega⟩
    · have hk' : k = 3 := by omega
      subst hk'
      obtain ⟨hz, hD⟩ := hJ
      have HV := hide (show Cg (S t 16) (S t0 32) by rw [← S_upper_zero t hz]; exact hC)
      clear hC hlt hk
      go_wp2
      go_loopw [8] (fun r wq => ∃ k : Nat, k ≤ 3 ∧ r = .int .i64 k ∧ Row wq w.heap.size 50 32 t ∧ Row wq (w.heap.size + 1) 35 16 (fun _ => 0) ∧ Below w.heap.size w wq) (fun r _ => 3 - (intOf r).toNat)
      case atStart => exact ⟨0, by omega, rfl, R1, R2, O⟩
      case round =>
        clear R1 R2 O
        obtain ⟨k, hk, rfl, R1, R2, O⟩ := hrel
        by_cases hlt : k < 3
        · go_wp2
          go_loopw [9, 10] (fun c i wq => ∃ j : Nat, j ≤ 16 ∧ c = .int .u64 0 ∧ i = .int .i64 j ∧ Row wq w.heap.size 50 32 t ∧ Row wq (w.heap.size + 1) 35 16 (fun _ => 0) ∧ Below w.heap.size w wq) (fun _ i _ => 16 - (intOf i).toNat)
          case atStart => exact ⟨0, by omega, rfl, rfl, R1, R2, O⟩
          case round =>
            clear R1 R2 O
            obtain ⟨j, hj, rfl, rfl, R1, R2, O⟩ := hrel
            by_cases hjl : j < 16
            · have c := R1.cell (i := j) (by omega)
              have e := R1.free j
              obtain ⟨a0, a1⟩ := hD j hjl
              have ea : bits BinOp.and IntKind.u64 (t j) 65535 = t j := by rw [and16 a0 (by omega)]; omega
              have ed : t j / 65536 = 0 := by omega
              have RR := hide ((R1.set j (t j)).congr (f' := t) (fun i _ => by unfold upd; by_cases h : i = j <;> simp [h]))
              have R2' := hide (R2.other (a := ⟨w.heap.size, j, none⟩) (by simp) (.int .u64 (t j)))
              have O' := hide (O.setCell (p := ⟨w.heap.size, j, none⟩) (Nat.le_refl _) (.int .u64 (t j)))
              clear R1 R2 O
              go_wp2
              go_roundw
              case rel => exact ⟨j + 1, by omega, rfl, by go_num, RR.out, R2'.out, O'.out⟩
              case measure => simp [intOf]; omega
            · have hj' : j = 16 := by omega
              subst hj'
              have c := R1.cell (i := 0) (by omega)
              have e := R1.free 0
              obtain ⟨a0, a1⟩ := hD 0 (by omega)
              have RR := hide ((R1.set 0 (t 0)).congr (f' := t) (fun i _ => by unfold upd; by_cases h : i = 0 <;> simp [h]))
              have R2' := hide (R2.other (a := ⟨w.heap.size, 0, none⟩) (by simp) (.int .u64 (t 0)))
              have O' := hide (O.setCell (p := ⟨w.heap.size, 0, none⟩) (Nat.le_refl _) (.int .u64 (t 0)))
              clear R1 R2 O
              go_wp2
              exact ⟨⟨k + 1, by omega, by go_num, RR.out, R2'.out, O'.out⟩, by simp [intOf]; omega⟩
        · have hk' : k = 3 := by omega
          subst hk'
          go_wp2
          rw [show #[Value.int IntKind.u64 0, Value.int IntKind.u64 0, Value.int IntKind.u64 0, Value.int IntKind.u64 0, Value.int IntKind.u64 0, Value.int IntKind.u64 0, Value.int IntKind.u64 0, Value.int IntKind.u64 0, Value.int IntKind.u64 0, Value.int IntKind.u64 0, Value.int IntKind.u64 0, Value.int IntKind.u64 0, Value.int IntKind.u64 0, Value.int IntKind.u64 0, Value.int IntKind.u64 0, Value.int IntKind.u64 0] = arr 16 (fun _ => 0) from rfl]
          have hg := R2.lt
          have R3 : Row (wr.alloc (.cells (arr 16 fun _ => 0) 35)) wr.heap.size 35 16 (fun _ => 0) := Row.new _ 35 16 _
          replace R1 := R1.alloc (.cells (arr 16 fun _ => 0) 35)
          replace R2 := R2.alloc (.cells (arr 16 fun _ => 0) 35)
          replace O := O.alloc (by omega) (.cells (arr 16 fun _ => 0) 35)
          generalize wr.heap.size = gN at *
          generalize wr.alloc (.cells (arr 16 fun _ => 0) 35) = W6 at *
          go_loopw [13] (fun i wq => ∃ m : Nat, m ≤ 16 ∧ i = .int .i64 m ∧ Row wq w.heap.size 50 32 t ∧ Row wq (w.heap.size + 1) 35 16 (fun _ => 0) ∧ Row wq gN 35 16 (wid t m) ∧ Below w.heap.size w wq) (fun i _ => 16 - (intOf i).toNat)
          case atStart => exact ⟨0, by omega, rfl, R1, R2, R3, O⟩
          case round =>
            clear R1 R2 R3 O
            obtain ⟨m, hm, rfl, R1, R2, R3, O⟩ := hrel
            by_cases hml : m < 16
            · have c := R1.cell (i := m) (by omega)
              have d := R3.cell (i := m) (by omega)
              have e := R3.free m
              have RR := hide ((R3.set m (t m)).congr (f' := wid t (m + 1)) (fun i _ => by unfold upd wid; by_cases h : i = m <;> simp [h] <;> omega))
              have R1' := hide (R1.other (a := ⟨gN, m, none⟩) (by simp; omega) (.int .u64 (t m)))
              have R2' := hide (R2.other (a := ⟨gN, m, none⟩) (by simp; omega) (.int .u64 (t m)))
              have O' := hide (O.setCell (p := ⟨gN, m, none⟩) (by simp; omega) (.int .u64 (t m)))
              clear R1 R2 R3 O
              go_wp2
              go_roundw
              case rel => exact ⟨m + 1, by omega, by go_num, R1'.out, R2'.out, RR.out, O'.out⟩
              case measure => simp [intOf]; omega
            · have hm' : m = 16 := by omega
              subst hm'
              replace R3 := R3.congr (f' := t) (fun i hi => by unfold wid; rw [if_pos hi])
              clear R1 hz hml hm
              go_wp2_with fail
              go_loopw [91] (fun _ wq => ∃ u : Nat → Int, Dig u 16 ∧ Cg (S u 16) (S t0 32) ∧ Row wq (w.heap.size + 1) 35 16 (fun _ => 0) ∧ Row wq gN 35 16 u ∧ Below w.heap.size w wq) (fun _ wq => meas wq gN)
              case atStart => exact ⟨t, hD, HV.out, R2, R3, O⟩
              case round =>
                clear R2 R3 O HV hD
                obtain ⟨u, hU, hC, R2, R3, O⟩ := hrel
                have HC := hide hC
                clear hC
                have hne := KW.some wr
                have hg3 : ∀ w', (∃ s : KW wr, w' = s.w) → w'.heap[gN]? = some (.cells (arr 16 u) 35 (0, 0)) := by
                  rintro _ ⟨s, rfl⟩
                  exact R3.keep s.keep
                have HG := hide hg3
                clear hg3
                go_wp2_with fail
                refine wp_region_keep (by kernel_rfl) (by kernel_rfl) ?_
                go_big_quiet_want
                refine quiet_load_row 35 _ rfl gN rfl 35 (arr 16 u) (0, 0) _ HG.out Try.underlying35 rfl (info35 _) ?_
                go_simp
                go_big_quiet_on
                go_big_quiet_step ((exact keep_of (prime_any _)))
                go_big_quiet_step ((exact keep_of (less_any u pF _ hU pF_dig)))
                rw [pF_S]
                by_cases hlt : S u 16 < Pm
                · rw [decide_eq_true hlt]
                  go_big_quiet_step (fail)
                  refine wpQuiet_nil ?_
                  intro s
                  replace R2 := R2.keep s.keep
                  replace R3 := R3.keep s.keep
                  replace O := O.trans (s.keep.mono O.size)
                  generalize s.w = W7 at R2 R3 O ⊢
                  have RR := hide (R2.setAll u)
                  have OO := hide (below_setCells (g := w.heap.size + 1) (by omega) (arr 16 u).toList 0 O)
                  have HE := hide (fin_eq hU HC.out hlt)
                  clear HG hne hlt
                  go_wp2_with (first | (refine wpList_load_row rfl 35 _ rfl gN rfl 35 (arr 16 u) (0, 0) _ R3 Try.underlying35 rfl (info35 _) ?_) | (refine wpList_store_mid rfl 35 _ _ rfl (w.heap.size + 1) 0 (arr 16 u) rfl rfl (by rw [arr_size]; exact R2.there) (info35 _) (arr_one _ _) ?_))
                  exact bodyPost_ret (v := .agg (arr 16 u)) (results_cell_row Try.results21 _ _ (w.heap.size + 1) 35 (arr 16 u) (0, 0) _ rfl RR.out Try.underlying35 rfl (info35 _)) rfl ⟨by rw [HE.out], OO.out⟩
                · rw [decide_eq_false hlt]
                  go_big_quiet_step (fail)
                  refine wpQuiet_nil ?_
                  intro s
                  have HM := hide (meas_row R3)
                  replace R2 := R2.keep s.keep
                  replace R3 := R3.keep s.keep
                  replace O := O.trans (s.keep.mono O.size)
                  generalize s.w = W7 at R2 R3 O ⊢
                  have hle : S pF 16 ≤ S u 16 := by rw [pF_S]; omega
                  have HS := hide (minus_le hU pF_dig hle)
                  have HL := hide hle
                  clear HG hne hlt hle
                  have hne := KW.some W7
                  have hg3 : ∀ w', (∃ s : KW W7, w' = s.w) → w'.heap[gN]? = some (.cells (arr 16 u) 35 (0, 0)) := by
                    rintro _ ⟨s, rfl⟩
                    exact R3.keep s.keep
                  have HG := hide hg3
                  clear hg3
                  go_wp2_with fail
                  refine wp_region_keep_tail 3 (by kernel_rfl) (by kernel_rfl) ?_
                  simp only [List.take_succ_cons, List.take_zero, List.drop_succ_cons, List.drop_zero]
                  go_big_quiet_want
                  refine quiet_load_row 35 _ rfl gN rfl 35 (arr 16 u) (0, 0) _ HG.out Try.underlying35 rfl (info35 _) ?_
                  go_simp
                  go_big_quiet_on
                  go_big_quiet_step ((exact keep_of (prime_any _)))
                  go_big_quiet_step ((exact keep_of (minus_any u pF _ hU pF_dig)))
                  refine wpQuiet_nil ?_
                  intro s
                  replace R2 := R2.keep s.keep
                  replace R3 := R3.keep s.keep
                  replace O := O.trans (s.keep.mono O.size)
                  generalize s.w = W8 at R2 R3 O ⊢
                  have RR := hide (R3.setAll (minusF u pF))
                  have R2' := hide (R2.setOther (k := gN) (by omega) 0 (arr 16 (minusF u pF)).toList)
                  have OO := hide (below_setCells (g := gN) (by omega) (arr 16 (minusF u pF)).toList 0 O)
                  clear HG hne
                  go_wp2_with (refine wpList_store_mid rfl 35 _ _ rfl gN 0 (arr 16 (minusF u pF)) rfl rfl (by rw [arr_size]; exact R3.there) (info35 _) (arr_one _ _) ?_)
                  refine ⟨⟨_, _, _, _, _, _, _, ⟨minusF u pF, minusF_dig u pF 16, ?_, R2'.out, RR.out, OO.out⟩, rfl⟩, ?_⟩
                  · rw [HS.out, pF_S]
                    have := Cg.sub_P (S u 16) 1
                    rw [Int.one_mul] at this
                    exact this.trans HC.out
                  · rw [meas_row RR.out, HM.out, HS.out, pF_S]
                    have := HL.out
                    rw [pF_S] at this
                    unfold Pm at *
                    omega

end Go.Proofs.Ytiiniodidkfbiaa
