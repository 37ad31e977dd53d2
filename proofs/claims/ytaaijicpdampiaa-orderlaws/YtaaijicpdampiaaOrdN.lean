/- The contract of the document's Of: bytes, bit by bit, modulo the order. -/
import Derived.Test.YtaaijicpdampiaaOrdM
import Derived.Test.YtaaijicpdampiaaStr
namespace Go.Proofs.Ytaaijicpdampiaa
open Go.RowKit

theorem and1u {x : Int} (h0 : 0 ≤ x) (h1 : x < 256) : bits .and .u8 x 1 = x % 2 := by
  obtain ⟨X, rfl⟩ := Int.eq_ofNat_of_zero_le h0
  have hX : X < 256 := by omega
  have h : ∀ n : Fin 256, bits .and .u8 ((n.val : Nat) : Int) 1 = ((n.val : Nat) : Int) % 2 := by decide +kernel
  exact h ⟨X, hX⟩

/-- Bit i of a string. -/
def bit (s : ByteArray) (i : Nat) : Int := bt s (i / 8) / 2 ^ (i % 8) % 2
/-- What k bits are, the highest first. -/
def ov (s : ByteArray) (n : Nat) : Nat → Int
  | 0 => 0
  | k + 1 => (2 * ov s n k + bit s (n - 1 - k)) % Lm

theorem ov_next (s : ByteArray) (n : Nat) (N : Int) {p : Nat} {b : Int} (hp : p + 1 ≤ n) (hb : bit s p = b) (hN : N = ov s n (n - (p + 1))) :
    (0 ≤ 2 * N + b → 2 * N + b < Lm → 2 * N + b = ov s n (n - p)) ∧ (2 * N + b < 2 * Lm → ¬ 2 * N + b < Lm → 2 * N + b - Lm = ov s n (n - p)) := by
  have e : n - p = n - (p + 1) + 1 := by omega
  have e2 : n - 1 - (n - (p + 1)) = p := by omega
  have e3 : ov s n (n - p) = (2 * N + b) % Lm := by
    rw [e]
    show (2 * ov s n (n - (p + 1)) + bit s (n - 1 - (n - (p + 1)))) % Lm = _
    rw [e2, hb, ← hN]
  rw [e3]
  refine ⟨fun h0 h1 => (Int.emod_eq_of_lt h0 h1).symm, fun h1 h2 => ?_⟩
  have e4 : (2 * N + b) % Lm = (2 * N + b - Lm) % Lm := by rw [Int.sub_emod_right]
  rw [e4, Int.emod_eq_of_lt (by omega) (by omega)]

theorem sub_val {X : Int} (h : ¬ X < Lm) (h1 : X < 2 * Lm) : arr 16 (minusF (d16 X) oF) = arr 16 (d16 (X - Lm)) := by
  have hL := L16
  have hX : S (d16 X) 16 = X := dSL (by have := Lm_pos; omega) (by omega)
  refine arr_congr (S_inj (minusF_dig _ _ 16) (d16_dig _ 16) ?_)
  rw [minus_le (d16_dig X 16) oF_dig (by rw [hX, oF_S]; omega), hX, oF_S, dSL (by omega) (by omega)]

set_option maxRecDepth 100000 in
set_option maxHeartbeats 8000000 in
theorem rof_any (s : ByteArray) (n : Nat) (w : World) (hs : s.size ≤ 64) (hn : n = 8 * s.size) :
    Calls Try.prog 14 #[.string s] w fun x w' => x = .returned (.agg (arr 16 (d16 (ov s n n)))) ∧ Below w.heap.size w w' := by
  have n1 : IntKind.i64.wrap (8 * (s.size : Int)) = 8 * (s.size : Int) := by rw [IntKind.wrap_i64]; omega
  have n2 : IntKind.i64.wrap (8 * (s.size : Int) - 1) = 8 * (s.size : Int) - 1 := by rw [IntKind.wrap_i64]; omega
  have Hn := hide hn
  clear hn
  go_enter Try.func14, Try.ntmps14
  go_wp2
  rw [show #[Value.int IntKind.u64 0, Value.int IntKind.u64 0, Value.int IntKind.u64 0, Value.int IntKind.u64 0, Value.int IntKind.u64 0, Value.int IntKind.u64 0, Value.int IntKind.u64 0, Value.int IntKind.u64 0, Value.int IntKind.u64 0, Value.int IntKind.u64 0, Value.int IntKind.u64 0, Value.int IntKind.u64 0, Value.int IntKind.u64 0, Value.int IntKind.u64 0, Value.int IntKind.u64 0, Value.int IntKind.u64 0] = arr 16 (fun _ => 0) from rfl]
  have R1 : Row ((w.alloc (.cells (arr 16 fun _ => 0) 38)).alloc (.cells (arr 16 fun _ => 0) 38)) w.heap.size 38 16 (fun _ => 0) := (Row.new w 38 16 _).alloc _
  have R2 : Row ((w.alloc (.cells (arr 16 fun _ => 0) 38)).alloc (.cells (arr 16 fun _ => 0) 38)) (w.heap.size + 1) 38 16 (fun _ => 0) := Row.new' _ 38 16 _ (by simp)
  have O : Below w.heap.size w ((w.alloc (.cells (arr 16 fun _ => 0) 38)).alloc (.cells (arr 16 fun _ => 0) 38)) := ((Below.refl _ _).alloc (Nat.le_refl _) _).alloc (by simp) _
  generalize ((w.alloc (.cells (arr 16 fun _ => 0) 38)).alloc (.cells (arr 16 fun _ => 0) 38)) = W at R1 R2 O ⊢
  go_loopw [4] (fun v wr => ∃ m : Nat, m ≤ n ∧ (∃ x : Int, x = (m : Int) - 1 ∧ v = .int .i64 x) ∧ Row wr w.heap.size 38 16 (fun _ => 0) ∧ (∃ N, N = ov s n (n - m) ∧ 0 ≤ N ∧ N < Lm ∧ Row wr (w.heap.size + 1) 38 16 (d16 N)) ∧ Below w.heap.size w wr) (fun v _ => (intOf v + 1).toNat)
  case atStart => exact ⟨n, Nat.le_refl _, ⟨_, by rw [Hn.out]; omega, rfl⟩, R1, ⟨0, by rw [Nat.sub_self]; rfl, by omega, Lm_pos, R2.congr (fun i _ => by simp [d16])⟩, O⟩
  case round =>
    clear R1 R2 O
    obtain ⟨m, hm, ⟨x, hx, hi⟩, R1, ⟨N, hN, hN0, hN1, R2⟩, O⟩ := hrel
    rcases m with _ | p
    · have e : x = -1 := by omega
      subst e
      subst hi
      rw [Nat.sub_zero] at hN
      have HN := hide hN
      clear hN hx n1 n2
      have RR := hide (R1.setAll (d16 N))
      have OO := hide (below_setCells (g := w.heap.size) (Nat.le_refl _) (arr 16 (d16 N)).toList 0 O)
      have HX := hide R2
      clear R2 O
      go_wp2_with (first | (refine wpList_load_row rfl 38 _ rfl (w.heap.size + 1) rfl 38 (arr 16 (d16 N)) (0, 0) _ HX.out Try.underlying38 rfl (info38 _) ?_) | (refine wpList_store_mid rfl 38 _ _ rfl w.heap.size 0 (arr 16 (d16 N)) rfl rfl ?tho (info38 _) (arr_one _ _) ?_))
      case tho => rw [arr_size]; exact R1.there
      exact bodyPost_ret (v := .agg (arr 16 (d16 N))) (results_cell_row Try.results14 _ _ w.heap.size 38 (arr 16 (d16 N)) (0, 0) _ rfl RR.out Try.underlying38 rfl (info38 _)) rfl ⟨by rw [HN.out], OO.out⟩
    · have hpn : p + 1 ≤ n := hm
      have hps : p < 8 * s.size := by rw [← Hn.out]; omega
      have hp : p % 8 < 8 := by omega
      rcases (show p % 8 = 0 ∨ p % 8 = 1 ∨ p % 8 = 2 ∨ p % 8 = 3 ∨ p % 8 = 4 ∨ p % 8 = 5 ∨ p % 8 = 6 ∨ p % 8 = 7 by omega) with h8 | h8 | h8 | h8 | h8 | h8 | h8 | h8
      · have e : x = (p : Int) := by omega
        subst e
        subst hi
        have a1 : (0 : Int) ≤ (p : Int) / 8 := by omega
        have a2 : (p : Int) / 8 < (s.size : Int) := by omega
        have a3 : (p : Int) % 8 = 0 := by omega
        have a4 : p / 8 < s.size := by omega
        have a5 := bt_at s (p / 8) a4
        have a6 := bt_bd s (p / 8)
        have a7 : p % 8 = 0 := by omega
        have eb : bits BinOp.and IntKind.u8 (bt s (p / 8)) 1 = bt s (p / 8) % 2 := and1u (by omega) (by omega)
        have ew : IntKind.u64.wrap (bt s (p / 8) % 2) = bt s (p / 8) % 2 := wrap64u ⟨by omega, by omega⟩
        have hbit : bit s p = bt s (p / 8) % 2 := by unfold bit; rw [a7]; simp
        have HB := hide hbit
        have hb0 : 0 ≤ bt s (p / 8) % 2 := by omega
        have hb1 : bt s (p / 8) % 2 ≤ 1 := by omega
        have HV := hide (ov_next s n N hpn HB.out hN)
        have HH := hide (And.intro hN0 (And.intro hN1 (And.intro hb0 hb1)))
        clear n1 n2 hm hp hx hbit hN hN0 hN1 hb0 hb1
        have gl := R2.lt
        go_wp2_with fail
        have hne := KW.some wr
        have hg : ∀ w', (∃ s : KW wr, w' = s.w) → w'.heap[w.heap.size + 1]? = some (.cells (arr 16 (d16 N)) 38 (0, 0)) := by
          rintro _ ⟨s, rfl⟩
          exact R2.keep s.keep
        have HG := hide hg
        have KK := hide (And.intro R1 (And.intro R2 O))
        clear hg R1 R2 O
        refine wp_region_keep_tail 12 (by kernel_rfl) (by kernel_rfl) ?_
        simp only [List.take_succ_cons, List.take_zero, List.drop_succ_cons, List.drop_zero]
        go_big_quiet_want
        refine quiet_load_row 38 _ rfl (w.heap.size + 1) rfl 38 (arr 16 (d16 N)) (0, 0) _ HG.out Try.underlying38 rfl (info38 _) ?_
        go_simp
        go_big_quiet_on
        go_big_quiet_step (fail)
        go_big_quiet_step (fail)
        go_big_quiet_step (fail)
        go_big_quiet_step (fail)
        go_big_quiet_step (fail)
        go_big_quiet_step (fail)
        go_big_quiet_step (fail)
        go_big_quiet_step (fail)
        go_big_quiet_step (fail)
        go_big_quiet_step (fail)
        go_big_quiet_step ((exact keep_of (twice_any N _ _ ⟨HH.out.1, HH.out.2.1⟩ HH.out.2.2.1 HH.out.2.2.2)))
        refine wpQuiet_nil ?_
        intro t
        obtain ⟨R1, R2, O⟩ := KK.out
        replace R1 := R1.keep t.keep
        replace R2 := R2.keep t.keep
        replace O := O.trans (t.keep.mono O.size)
        clear KK HG hne eb ew
        generalize t.w = W8 at *
        have hX0 : 0 ≤ 2 * N + bt s (p / 8) % 2 := by have := HH.out; omega
        have hX1 : 2 * N + bt s (p / 8) % 2 < 2 * Lm := by have := HH.out; omega
        generalize 2 * N + bt s (p / 8) % 2 = X at *
        have RR := hide (R2.setAll (d16 X))
        have R1' := hide (R1.setOther (k := w.heap.size + 1) (by omega) 0 (arr 16 (d16 X)).toList)
        have O' := hide (below_setCells (g := w.heap.size + 1) (by omega) (arr 16 (d16 X)).toList 0 O)
        have HX := hide (And.intro hX0 hX1)
        clear R1 O hX0 hX1 HH
        go_wp2_with (refine wpList_store_mid rfl 38 _ _ rfl (w.heap.size + 1) 0 (arr 16 (d16 X)) rfl rfl ?th0 (info38 _) (arr_one _ _) ?_)
        case th0 => rw [arr_size]; exact R2.there
        try rw [show ∀ (a : Act) (v : Value), a.put none v = a from fun _ _ => rfl]
        have R1 := R1'.out
        replace R2 := RR.out
        have O := O'.out
        clear R1' RR O'
        generalize W8.setCells (w.heap.size + 1) 0 (arr 16 (d16 X)).toList = W9 at *
        have hL := L16
        have hSX : S (d16 X) 16 = X := dSL HX.out.1 (by have := HX.out; omega)
        have HSX := hide hSX
        clear hSX hL
        have hne := KW.some W9
        have hg : ∀ w', (∃ s : KW W9, w' = s.w) → w'.heap[w.heap.size + 1]? = some (.cells (arr 16 (d16 X)) 38 (0, 0)) := by
          rintro _ ⟨s, rfl⟩
          exact R2.keep s.keep
        have HG := hide hg
        have KK := hide (And.intro R1 (And.intro R2 O))
        clear hg R1 R2 O
        refine wp_region_keep (by kernel_rfl) (by kernel_rfl) ?_
        go_big_quiet_want
        refine quiet_load_row 38 _ rfl (w.heap.size + 1) rfl 38 (arr 16 (d16 X)) (0, 0) _ HG.out Try.underlying38 rfl (info38 _) ?_
        go_simp
        go_big_quiet_on
        go_big_quiet_step ((exact keep_of (order_any _)))
        go_big_quiet_step ((exact keep_of (less_any (d16 X) oF _ (d16_dig _ 16) oF_dig)))
        rw [HSX.out, oF_S]
        by_cases hlt2 : X < Lm
        · rw [decide_eq_true hlt2]
          go_big_quiet_step (fail)
          refine wpQuiet_nil ?_
          intro t
          obtain ⟨R1, R2, O⟩ := KK.out
          replace R1 := R1.keep t.keep
          replace R2 := R2.keep t.keep
          replace O := O.trans (t.keep.mono O.size)
          clear KK HG hne
          generalize t.w = W10 at *
          have HE := hide (HV.out.1 HX.out.1 hlt2)
          go_wp2
          go_roundw
          case rel => exact ⟨p, by omega, ⟨_, rfl, rfl⟩, R1, ⟨X, HE.out, HX.out.1, hlt2, R2⟩, O⟩
          case measure => simp [intOf]
        · rw [decide_eq_false hlt2]
          go_big_quiet_step (fail)
          refine wpQuiet_nil ?_
          intro t
          obtain ⟨R1, R2, O⟩ := KK.out
          replace R1 := R1.keep t.keep
          replace R2 := R2.keep t.keep
          replace O := O.trans (t.keep.mono O.size)
          clear KK HG hne
          generalize t.w = W10 at *
          have HE := hide (HV.out.2 HX.out.2 (by omega))
          have hm2 : arr 16 (minusF (d16 X) oF) = arr 16 (d16 (X - Lm)) := sub_val hlt2 HX.out.2
          have HM := hide hm2
          clear hm2
          go_wp2_with fail
          have hne := KW.some W10
          have hg : ∀ w', (∃ s : KW W10, w' = s.w) → w'.heap[w.heap.size + 1]? = some (.cells (arr 16 (d16 X)) 38 (0, 0)) := by
            rintro _ ⟨s, rfl⟩
            exact R2.keep s.keep
          have HG := hide hg
          have KK := hide (And.intro R1 (And.intro R2 O))
          clear hg R1 R2 O
          refine wp_region_keep_tail 3 (by kernel_rfl) (by kernel_rfl) ?_
          simp only [List.take_succ_cons, List.take_zero, List.drop_succ_cons, List.drop_zero]
          go_big_quiet_want
          refine quiet_load_row 38 _ rfl (w.heap.size + 1) rfl 38 (arr 16 (d16 X)) (0, 0) _ HG.out Try.underlying38 rfl (info38 _) ?_
          go_simp
          go_big_quiet_on
          go_big_quiet_step ((exact keep_of (order_any _)))
          go_big_quiet_step ((exact keep_of (rminus_any (d16 X) oF _ (d16_dig _ 16) oF_dig)))
          refine wpQuiet_nil ?_
          intro t2
          obtain ⟨R1, R2, O⟩ := KK.out
          replace R1 := R1.keep t2.keep
          replace R2 := R2.keep t2.keep
          replace O := O.trans (t2.keep.mono O.size)
          clear KK HG hne
          rw [HM.out]
          generalize t2.w = W11 at *
          have RR := hide (R2.setAll (d16 (X - Lm)))
          have R1' := hide (R1.setOther (k := w.heap.size + 1) (by omega) 0 (arr 16 (d16 (X - Lm))).toList)
          have O' := hide (below_setCells (g := w.heap.size + 1) (by omega) (arr 16 (d16 (X - Lm))).toList 0 O)
          clear R1 O
          go_wp2_with (refine wpList_store_mid rfl 38 _ _ rfl (w.heap.size + 1) 0 (arr 16 (d16 (X - Lm))) rfl rfl ?tm0 (info38 _) (arr_one _ _) ?_)
          case tm0 => rw [arr_size]; exact R2.there
          go_roundw
          case rel => exact ⟨p, by omega, ⟨_, rfl, rfl⟩, R1'.out, ⟨X - Lm, HE.out, by omega, by have := HX.out; omega, RR.out⟩, O'.out⟩
          case measure => simp [intOf]
      · have e : x = (p : Int) := by omega
        subst e
        subst hi
        have a1 : (0 : Int) ≤ (p : Int) / 8 := by omega
        have a2 : (p : Int) / 8 < (s.size : Int) := by omega
        have a3 : (p : Int) % 8 = 1 := by omega
        have a4 : p / 8 < s.size := by omega
        have a5 := bt_at s (p / 8) a4
        have a6 := bt_bd s (p / 8)
        have a7 : p % 8 = 1 := by omega
        have eb : bits BinOp.and IntKind.u8 (bt s (p / 8) / 2) 1 = bt s (p / 8) / 2 % 2 := and1u (by omega) (by omega)
        have ew : IntKind.u64.wrap (bt s (p / 8) / 2 % 2) = bt s (p / 8) / 2 % 2 := wrap64u ⟨by omega, by omega⟩
        have hbit : bit s p = bt s (p / 8) / 2 % 2 := by unfold bit; rw [a7]; rfl
        have HB := hide hbit
        have hb0 : 0 ≤ bt s (p / 8) / 2 % 2 := by omega
        have hb1 : bt s (p / 8) / 2 % 2 ≤ 1 := by omega
        have HV := hide (ov_next s n N hpn HB.out hN)
        have HH := hide (And.intro hN0 (And.intro hN1 (And.intro hb0 hb1)))
        clear n1 n2 hm hp hx hbit hN hN0 hN1 hb0 hb1
        have gl := R2.lt
        go_wp2_with fail
        have hne := KW.some wr
        have hg : ∀ w', (∃ s : KW wr, w' = s.w) → w'.heap[w.heap.size + 1]? = some (.cells (arr 16 (d16 N)) 38 (0, 0)) := by
          rintro _ ⟨s, rfl⟩
          exact R2.keep s.keep
        have HG := hide hg
        have KK := hide (And.intro R1 (And.intro R2 O))
        clear hg R1 R2 O
        refine wp_region_keep_tail 12 (by kernel_rfl) (by kernel_rfl) ?_
        simp only [List.take_succ_cons, List.take_zero, List.drop_succ_cons, List.drop_zero]
        go_big_quiet_want
        refine quiet_load_row 38 _ rfl (w.heap.size + 1) rfl 38 (arr 16 (d16 N)) (0, 0) _ HG.out Try.underlying38 rfl (info38 _) ?_
        go_simp
        go_big_quiet_on
        go_big_quiet_step (fail)
        go_big_quiet_step (fail)
        go_big_quiet_step (fail)
        go_big_quiet_step (fail)
        go_big_quiet_step (fail)
        go_big_quiet_step (fail)
        go_big_quiet_step (fail)
        go_big_quiet_step (fail)
        go_big_quiet_step (fail)
        go_big_quiet_step (fail)
        go_big_quiet_step ((exact keep_of (twice_any N _ _ ⟨HH.out.1, HH.out.2.1⟩ HH.out.2.2.1 HH.out.2.2.2)))
        refine wpQuiet_nil ?_
        intro t
        obtain ⟨R1, R2, O⟩ := KK.out
        replace R1 := R1.keep t.keep
        replace R2 := R2.keep t.keep
        replace O := O.trans (t.keep.mono O.size)
        clear KK HG hne eb ew
        generalize t.w = W8 at *
        have hX0 : 0 ≤ 2 * N + bt s (p / 8) / 2 % 2 := by have := HH.out; omega
        have hX1 : 2 * N + bt s (p / 8) / 2 % 2 < 2 * Lm := by have := HH.out; omega
        generalize 2 * N + bt s (p / 8) / 2 % 2 = X at *
        have RR := hide (R2.setAll (d16 X))
        have R1' := hide (R1.setOther (k := w.heap.size + 1) (by omega) 0 (arr 16 (d16 X)).toList)
        have O' := hide (below_setCells (g := w.heap.size + 1) (by omega) (arr 16 (d16 X)).toList 0 O)
        have HX := hide (And.intro hX0 hX1)
        clear R1 O hX0 hX1 HH
        go_wp2_with (refine wpList_store_mid rfl 38 _ _ rfl (w.heap.size + 1) 0 (arr 16 (d16 X)) rfl rfl ?th1 (info38 _) (arr_one _ _) ?_)
        case th1 => rw [arr_size]; exact R2.there
        try rw [show ∀ (a : Act) (v : Value), a.put none v = a from fun _ _ => rfl]
        have R1 := R1'.out
        replace R2 := RR.out
        have O := O'.out
        clear R1' RR O'
        generalize W8.setCells (w.heap.size + 1) 0 (arr 16 (d16 X)).toList = W9 at *
        have hL := L16
        have hSX : S (d16 X) 16 = X := dSL HX.out.1 (by have := HX.out; omega)
        have HSX := hide hSX
        clear hSX hL
        have hne := KW.some W9
        have hg : ∀ w', (∃ s : KW W9, w' = s.w) → w'.heap[w.heap.size + 1]? = some (.cells (arr 16 (d16 X)) 38 (0, 0)) := by
          rintro _ ⟨s, rfl⟩
          exact R2.keep s.keep
        have HG := hide hg
        have KK := hide (And.intro R1 (And.intro R2 O))
        clear hg R1 R2 O
        refine wp_region_keep (by kernel_rfl) (by kernel_rfl) ?_
        go_big_quiet_want
        refine quiet_load_row 38 _ rfl (w.heap.size + 1) rfl 38 (arr 16 (d16 X)) (0, 0) _ HG.out Try.underlying38 rfl (info38 _) ?_
        go_simp
        go_big_quiet_on
        go_big_quiet_step ((exact keep_of (order_any _)))
        go_big_quiet_step ((exact keep_of (less_any (d16 X) oF _ (d16_dig _ 16) oF_dig)))
        rw [HSX.out, oF_S]
        by_cases hlt2 : X < Lm
        · rw [decide_eq_true hlt2]
          go_big_quiet_step (fail)
          refine wpQuiet_nil ?_
          intro t
          obtain ⟨R1, R2, O⟩ := KK.out
          replace R1 := R1.keep t.keep
          replace R2 := R2.keep t.keep
          replace O := O.trans (t.keep.mono O.size)
          clear KK HG hne
          generalize t.w = W10 at *
          have HE := hide (HV.out.1 HX.out.1 hlt2)
          go_wp2
          go_roundw
          case rel => exact ⟨p, by omega, ⟨_, rfl, rfl⟩, R1, ⟨X, HE.out, HX.out.1, hlt2, R2⟩, O⟩
          case measure => simp [intOf]
        · rw [decide_eq_false hlt2]
          go_big_quiet_step (fail)
          refine wpQuiet_nil ?_
          intro t
          obtain ⟨R1, R2, O⟩ := KK.out
          replace R1 := R1.keep t.keep
          replace R2 := R2.keep t.keep
          replace O := O.trans (t.keep.mono O.size)
          clear KK HG hne
          generalize t.w = W10 at *
          have HE := hide (HV.out.2 HX.out.2 (by omega))
          have hm2 : arr 16 (minusF (d16 X) oF) = arr 16 (d16 (X - Lm)) := sub_val hlt2 HX.out.2
          have HM := hide hm2
          clear hm2
          go_wp2_with fail
          have hne := KW.some W10
          have hg : ∀ w', (∃ s : KW W10, w' = s.w) → w'.heap[w.heap.size + 1]? = some (.cells (arr 16 (d16 X)) 38 (0, 0)) := by
            rintro _ ⟨s, rfl⟩
            exact R2.keep s.keep
          have HG := hide hg
          have KK := hide (And.intro R1 (And.intro R2 O))
          clear hg R1 R2 O
          refine wp_region_keep_tail 3 (by kernel_rfl) (by kernel_rfl) ?_
          simp only [List.take_succ_cons, List.take_zero, List.drop_succ_cons, List.drop_zero]
          go_big_quiet_want
          refine quiet_load_row 38 _ rfl (w.heap.size + 1) rfl 38 (arr 16 (d16 X)) (0, 0) _ HG.out Try.underlying38 rfl (info38 _) ?_
          go_simp
          go_big_quiet_on
          go_big_quiet_step ((exact keep_of (order_any _)))
          go_big_quiet_step ((exact keep_of (rminus_any (d16 X) oF _ (d16_dig _ 16) oF_dig)))
          refine wpQuiet_nil ?_
          intro t2
          obtain ⟨R1, R2, O⟩ := KK.out
          replace R1 := R1.keep t2.keep
          replace R2 := R2.keep t2.keep
          replace O := O.trans (t2.keep.mono O.size)
          clear KK HG hne
          rw [HM.out]
          generalize t2.w = W11 at *
          have RR := hide (R2.setAll (d16 (X - Lm)))
          have R1' := hide (R1.setOther (k := w.heap.size + 1) (by omega) 0 (arr 16 (d16 (X - Lm))).toList)
          have O' := hide (below_setCells (g := w.heap.size + 1) (by omega) (arr 16 (d16 (X - Lm))).toList 0 O)
          clear R1 O
          go_wp2_with (refine wpList_store_mid rfl 38 _ _ rfl (w.heap.size + 1) 0 (arr 16 (d16 (X - Lm))) rfl rfl ?tm1 (info38 _) (arr_one _ _) ?_)
          case tm1 => rw [arr_size]; exact R2.there
          go_roundw
          case rel => exact ⟨p, by omega, ⟨_, rfl, rfl⟩, R1'.out, ⟨X - Lm, HE.out, by omega, by have := HX.out; omega, RR.out⟩, O'.out⟩
          case measure => simp [intOf]
      · have e : x = (p : Int) := by omega
        subst e
        subst hi
        have a1 : (0 : Int) ≤ (p : Int) / 8 := by omega
        have a2 : (p : Int) / 8 < (s.size : Int) := by omega
        have a3 : (p : Int) % 8 = 2 := by omega
        have a4 : p / 8 < s.size := by omega
        have a5 := bt_at s (p / 8) a4
        have a6 := bt_bd s (p / 8)
        have a7 : p % 8 = 2 := by omega
        have eb : bits BinOp.and IntKind.u8 (bt s (p / 8) / 4) 1 = bt s (p / 8) / 4 % 2 := and1u (by omega) (by omega)
        have ew : IntKind.u64.wrap (bt s (p / 8) / 4 % 2) = bt s (p / 8) / 4 % 2 := wrap64u ⟨by omega, by omega⟩
        have hbit : bit s p = bt s (p / 8) / 4 % 2 := by unfold bit; rw [a7]; rfl
        have HB := hide hbit
        have hb0 : 0 ≤ bt s (p / 8) / 4 % 2 := by omega
        have hb1 : bt s (p / 8) / 4 % 2 ≤ 1 := by omega
        have HV := hide (ov_next s n N hpn HB.out hN)
        have HH := hide (And.intro hN0 (And.intro hN1 (And.intro hb0 hb1)))
        clear n1 n2 hm hp hx hbit hN hN0 hN1 hb0 hb1
        have gl := R2.lt
        go_wp2_with fail
        have hne := KW.some wr
        have hg : ∀ w', (∃ s : KW wr, w' = s.w) → w'.heap[w.heap.size + 1]? = some (.cells (arr 16 (d16 N)) 38 (0, 0)) := by
          rintro _ ⟨s, rfl⟩
          exact R2.keep s.keep
        have HG := hide hg
        have KK := hide (And.intro R1 (And.intro R2 O))
        clear hg R1 R2 O
        refine wp_region_keep_tail 12 (by kernel_rfl) (by kernel_rfl) ?_
        simp only [List.take_succ_cons, List.take_zero, List.drop_succ_cons, List.drop_zero]
        go_big_quiet_want
        refine quiet_load_row 38 _ rfl (w.heap.size + 1) rfl 38 (arr 16 (d16 N)) (0, 0) _ HG.out Try.underlying38 rfl (info38 _) ?_
        go_simp
        go_big_quiet_on
        go_big_quiet_step (fail)
        go_big_quiet_step (fail)
        go_big_quiet_step (fail)
        go_big_quiet_step (fail)
        go_big_quiet_step (fail)
        go_big_quiet_step (fail)
        go_big_quiet_step (fail)
        go_big_quiet_step (fail)
        go_big_quiet_step (fail)
        go_big_quiet_step (fail)
        go_big_quiet_step ((exact keep_of (twice_any N _ _ ⟨HH.out.1, HH.out.2.1⟩ HH.out.2.2.1 HH.out.2.2.2)))
        refine wpQuiet_nil ?_
        intro t
        obtain ⟨R1, R2, O⟩ := KK.out
        replace R1 := R1.keep t.keep
        replace R2 := R2.keep t.keep
        replace O := O.trans (t.keep.mono O.size)
        clear KK HG hne eb ew
        generalize t.w = W8 at *
        have hX0 : 0 ≤ 2 * N + bt s (p / 8) / 4 % 2 := by have := HH.out; omega
        have hX1 : 2 * N + bt s (p / 8) / 4 % 2 < 2 * Lm := by have := HH.out; omega
        generalize 2 * N + bt s (p / 8) / 4 % 2 = X at *
        have RR := hide (R2.setAll (d16 X))
        have R1' := hide (R1.setOther (k := w.heap.size + 1) (by omega) 0 (arr 16 (d16 X)).toList)
        have O' := hide (below_setCells (g := w.heap.size + 1) (by omega) (arr 16 (d16 X)).toList 0 O)
        have HX := hide (And.intro hX0 hX1)
        clear R1 O hX0 hX1 HH
        go_wp2_with (refine wpList_store_mid rfl 38 _ _ rfl (w.heap.size + 1) 0 (arr 16 (d16 X)) rfl rfl ?th2 (info38 _) (arr_one _ _) ?_)
        case th2 => rw [arr_size]; exact R2.there
        try rw [show ∀ (a : Act) (v : Value), a.put none v = a from fun _ _ => rfl]
        have R1 := R1'.out
        replace R2 := RR.out
        have O := O'.out
        clear R1' RR O'
        generalize W8.setCells (w.heap.size + 1) 0 (arr 16 (d16 X)).toList = W9 at *
        have hL := L16
        have hSX : S (d16 X) 16 = X := dSL HX.out.1 (by have := HX.out; omega)
        have HSX := hide hSX
        clear hSX hL
        have hne := KW.some W9
        have hg : ∀ w', (∃ s : KW W9, w' = s.w) → w'.heap[w.heap.size + 1]? = some (.cells (arr 16 (d16 X)) 38 (0, 0)) := by
          rintro _ ⟨s, rfl⟩
          exact R2.keep s.keep
        have HG := hide hg
        have KK := hide (And.intro R1 (And.intro R2 O))
        clear hg R1 R2 O
        refine wp_region_keep (by kernel_rfl) (by kernel_rfl) ?_
        go_big_quiet_want
        refine quiet_load_row 38 _ rfl (w.heap.size + 1) rfl 38 (arr 16 (d16 X)) (0, 0) _ HG.out Try.underlying38 rfl (info38 _) ?_
        go_simp
        go_big_quiet_on
        go_big_quiet_step ((exact keep_of (order_any _)))
        go_big_quiet_step ((exact keep_of (less_any (d16 X) oF _ (d16_dig _ 16) oF_dig)))
        rw [HSX.out, oF_S]
        by_cases hlt2 : X < Lm
        · rw [decide_eq_true hlt2]
          go_big_quiet_step (fail)
          refine wpQuiet_nil ?_
          intro t
          obtain ⟨R1, R2, O⟩ := KK.out
          replace R1 := R1.keep t.keep
          replace R2 := R2.keep t.keep
          replace O := O.trans (t.keep.mono O.size)
          clear KK HG hne
          generalize t.w = W10 at *
          have HE := hide (HV.out.1 HX.out.1 hlt2)
          go_wp2
          go_roundw
          case rel => exact ⟨p, by omega, ⟨_, rfl, rfl⟩, R1, ⟨X, HE.out, HX.out.1, hlt2, R2⟩, O⟩
          case measure => simp [intOf]
        · rw [decide_eq_false hlt2]
          go_big_quiet_step (fail)
          refine wpQuiet_nil ?_
          intro t
          obtain ⟨R1, R2, O⟩ := KK.out
          replace R1 := R1.keep t.keep
          replace R2 := R2.keep t.keep
          replace O := O.trans (t.keep.mono O.size)
          clear KK HG hne
          generalize t.w = W10 at *
          have HE := hide (HV.out.2 HX.out.2 (by omega))
          have hm2 : arr 16 (minusF (d16 X) oF) = arr 16 (d16 (X - Lm)) := sub_val hlt2 HX.out.2
          have HM := hide hm2
          clear hm2
          go_wp2_with fail
          have hne := KW.some W10
          have hg : ∀ w', (∃ s : KW W10, w' = s.w) → w'.heap[w.heap.size + 1]? = some (.cells (arr 16 (d16 X)) 38 (0, 0)) := by
            rintro _ ⟨s, rfl⟩
            exact R2.keep s.keep
          have HG := hide hg
          have KK := hide (And.intro R1 (And.intro R2 O))
          clear hg R1 R2 O
          refine wp_region_keep_tail 3 (by kernel_rfl) (by kernel_rfl) ?_
          simp only [List.take_succ_cons, List.take_zero, List.drop_succ_cons, List.drop_zero]
          go_big_quiet_want
          refine quiet_load_row 38 _ rfl (w.heap.size + 1) rfl 38 (arr 16 (d16 X)) (0, 0) _ HG.out Try.underlying38 rfl (info38 _) ?_
          go_simp
          go_big_quiet_on
          go_big_quiet_step ((exact keep_of (order_any _)))
          go_big_quiet_step ((exact keep_of (rminus_any (d16 X) oF _ (d16_dig _ 16) oF_dig)))
          refine wpQuiet_nil ?_
          intro t2
          obtain ⟨R1, R2, O⟩ := KK.out
          replace R1 := R1.keep t2.keep
          replace R2 := R2.keep t2.keep
          replace O := O.trans (t2.keep.mono O.size)
          clear KK HG hne
          rw [HM.out]
          generalize t2.w = W11 at *
          have RR := hide (R2.setAll (d16 (X - Lm)))
          have R1' := hide (R1.setOther (k := w.heap.size + 1) (by omega) 0 (arr 16 (d16 (X - Lm))).toList)
          have O' := hide (below_setCells (g := w.heap.size + 1) (by omega) (arr 16 (d16 (X - Lm))).toList 0 O)
          clear R1 O
          go_wp2_with (refine wpList_store_mid rfl 38 _ _ rfl (w.heap.size + 1) 0 (arr 16 (d16 (X - Lm))) rfl rfl ?tm2 (info38 _) (arr_one _ _) ?_)
          case tm2 => rw [arr_size]; exact R2.there
          go_roundw
          case rel => exact ⟨p, by omega, ⟨_, rfl, rfl⟩, R1'.out, ⟨X - Lm, HE.out, by omega, by have := HX.out; omega, RR.out⟩, O'.out⟩
          case measure => simp [intOf]
      · have e : x = (p : Int) := by omega
        subst e
        subst hi
        have a1 : (0 : Int) ≤ (p : Int) / 8 := by omega
        have a2 : (p : Int) / 8 < (s.size : Int) := by omega
        have a3 : (p : Int) % 8 = 3 := by omega
        have a4 : p / 8 < s.size := by omega
        have a5 := bt_at s (p / 8) a4
        have a6 := bt_bd s (p / 8)
        have a7 : p % 8 = 3 := by omega
        have eb : bits BinOp.and IntKind.u8 (bt s (p / 8) / 8) 1 = bt s (p / 8) / 8 % 2 := and1u (by omega) (by omega)
        have ew : IntKind.u64.wrap (bt s (p / 8) / 8 % 2) = bt s (p / 8) / 8 % 2 := wrap64u ⟨by omega, by omega⟩
        have hbit : bit s p = bt s (p / 8) / 8 % 2 := by unfold bit; rw [a7]; rfl
        have HB := hide hbit
        have hb0 : 0 ≤ bt s (p / 8) / 8 % 2 := by omega
        have hb1 : bt s (p / 8) / 8 % 2 ≤ 1 := by omega
        have HV := hide (ov_next s n N hpn HB.out hN)
        have HH := hide (And.intro hN0 (And.intro hN1 (And.intro hb0 hb1)))
        clear n1 n2 hm hp hx hbit hN hN0 hN1 hb0 hb1
        have gl := R2.lt
        go_wp2_with fail
        have hne := KW.some wr
        have hg : ∀ w', (∃ s : KW wr, w' = s.w) → w'.heap[w.heap.size + 1]? = some (.cells (arr 16 (d16 N)) 38 (0, 0)) := by
          rintro _ ⟨s, rfl⟩
          exact R2.keep s.keep
        have HG := hide hg
        have KK := hide (And.intro R1 (And.intro R2 O))
        clear hg R1 R2 O
        refine wp_region_keep_tail 12 (by kernel_rfl) (by kernel_rfl) ?_
        simp only [List.take_succ_cons, List.take_zero, List.drop_succ_cons, List.drop_zero]
        go_big_quiet_want
        refine quiet_load_row 38 _ rfl (w.heap.size + 1) rfl 38 (arr 16 (d16 N)) (0, 0) _ HG.out Try.underlying38 rfl (info38 _) ?_
        go_simp
        go_big_quiet_on
        go_big_quiet_step (fail)
        go_big_quiet_step (fail)
        go_big_quiet_step (fail)
        go_big_quiet_step (fail)
        go_big_quiet_step (fail)
        go_big_quiet_step (fail)
        go_big_quiet_step (fail)
        go_big_quiet_step (fail)
        go_big_quiet_step (fail)
        go_big_quiet_step (fail)
        go_big_quiet_step ((exact keep_of (twice_any N _ _ ⟨HH.out.1, HH.out.2.1⟩ HH.out.2.2.1 HH.out.2.2.2)))
        refine wpQuiet_nil ?_
        intro t
        obtain ⟨R1, R2, O⟩ := KK.out
        replace R1 := R1.keep t.keep
        replace R2 := R2.keep t.keep
        replace O := O.trans (t.keep.mono O.size)
        clear KK HG hne eb ew
        generalize t.w = W8 at *
        have hX0 : 0 ≤ 2 * N + bt s (p / 8) / 8 % 2 := by have := HH.out; omega
        have hX1 : 2 * N + bt s (p / 8) / 8 % 2 < 2 * Lm := by have := HH.out; omega
        generalize 2 * N + bt s (p / 8) / 8 % 2 = X at *
        have RR := hide (R2.setAll (d16 X))
        have R1' := hide (R1.setOther (k := w.heap.size + 1) (by omega) 0 (arr 16 (d16 X)).toList)
        have O' := hide (below_setCells (g := w.heap.size + 1) (by omega) (arr 16 (d16 X)).toList 0 O)
        have HX := hide (And.intro hX0 hX1)
        clear R1 O hX0 hX1 HH
        go_wp2_with (refine wpList_store_mid rfl 38 _ _ rfl (w.heap.size + 1) 0 (arr 16 (d16 X)) rfl rfl ?th3 (info38 _) (arr_one _ _) ?_)
        case th3 => rw [arr_size]; exact R2.there
        try rw [show ∀ (a : Act) (v : Value), a.put none v = a from fun _ _ => rfl]
        have R1 := R1'.out
        replace R2 := RR.out
        have O := O'.out
        clear R1' RR O'
        generalize W8.setCells (w.heap.size + 1) 0 (arr 16 (d16 X)).toList = W9 at *
        have hL := L16
        have hSX : S (d16 X) 16 = X := dSL HX.out.1 (by have := HX.out; omega)
        have HSX := hide hSX
        clear hSX hL
        have hne := KW.some W9
        have hg : ∀ w', (∃ s : KW W9, w' = s.w) → w'.heap[w.heap.size + 1]? = some (.cells (arr 16 (d16 X)) 38 (0, 0)) := by
          rintro _ ⟨s, rfl⟩
          exact R2.keep s.keep
        have HG := hide hg
        have KK := hide (And.intro R1 (And.intro R2 O))
        clear hg R1 R2 O
        refine wp_region_keep (by kernel_rfl) (by kernel_rfl) ?_
        go_big_quiet_want
        refine quiet_load_row 38 _ rfl (w.heap.size + 1) rfl 38 (arr 16 (d16 X)) (0, 0) _ HG.out Try.underlying38 rfl (info38 _) ?_
        go_simp
        go_big_quiet_on
        go_big_quiet_step ((exact keep_of (order_any _)))
        go_big_quiet_step ((exact keep_of (less_any (d16 X) oF _ (d16_dig _ 16) oF_dig)))
        rw [HSX.out, oF_S]
        by_cases hlt2 : X < Lm
        · rw [decide_eq_true hlt2]
          go_big_quiet_step (fail)
          refine wpQuiet_nil ?_
          intro t
          obtain ⟨R1, R2, O⟩ := KK.out
          replace R1 := R1.keep t.keep
          replace R2 := R2.keep t.keep
          replace O := O.trans (t.keep.mono O.size)
          clear KK HG hne
          generalize t.w = W10 at *
          have HE := hide (HV.out.1 HX.out.1 hlt2)
          go_wp2
          go_roundw
          case rel => exact ⟨p, by omega, ⟨_, rfl, rfl⟩, R1, ⟨X, HE.out, HX.out.1, hlt2, R2⟩, O⟩
          case measure => simp [intOf]
        · rw [decide_eq_false hlt2]
          go_big_quiet_step (fail)
          refine wpQuiet_nil ?_
          intro t
          obtain ⟨R1, R2, O⟩ := KK.out
          replace R1 := R1.keep t.keep
          replace R2 := R2.keep t.keep
          replace O := O.trans (t.keep.mono O.size)
          clear KK HG hne
          generalize t.w = W10 at *
          have HE := hide (HV.out.2 HX.out.2 (by omega))
          have hm2 : arr 16 (minusF (d16 X) oF) = arr 16 (d16 (X - Lm)) := sub_val hlt2 HX.out.2
          have HM := hide hm2
          clear hm2
          go_wp2_with fail
          have hne := KW.some W10
          have hg : ∀ w', (∃ s : KW W10, w' = s.w) → w'.heap[w.heap.size + 1]? = some (.cells (arr 16 (d16 X)) 38 (0, 0)) := by
            rintro _ ⟨s, rfl⟩
            exact R2.keep s.keep
          have HG := hide hg
          have KK := hide (And.intro R1 (And.intro R2 O))
          clear hg R1 R2 O
          refine wp_region_keep_tail 3 (by kernel_rfl) (by kernel_rfl) ?_
          simp only [List.take_succ_cons, List.take_zero, List.drop_succ_cons, List.drop_zero]
          go_big_quiet_want
          refine quiet_load_row 38 _ rfl (w.heap.size + 1) rfl 38 (arr 16 (d16 X)) (0, 0) _ HG.out Try.underlying38 rfl (info38 _) ?_
          go_simp
          go_big_quiet_on
          go_big_quiet_step ((exact keep_of (order_any _)))
          go_big_quiet_step ((exact keep_of (rminus_any (d16 X) oF _ (d16_dig _ 16) oF_dig)))
          refine wpQuiet_nil ?_
          intro t2
          obtain ⟨R1, R2, O⟩ := KK.out
          replace R1 := R1.keep t2.keep
          replace R2 := R2.keep t2.keep
          replace O := O.trans (t2.keep.mono O.size)
          clear KK HG hne
          rw [HM.out]
          generalize t2.w = W11 at *
          have RR := hide (R2.setAll (d16 (X - Lm)))
          have R1' := hide (R1.setOther (k := w.heap.size + 1) (by omega) 0 (arr 16 (d16 (X - Lm))).toList)
          have O' := hide (below_setCells (g := w.heap.size + 1) (by omega) (arr 16 (d16 (X - Lm))).toList 0 O)
          clear R1 O
          go_wp2_with (refine wpList_store_mid rfl 38 _ _ rfl (w.heap.size + 1) 0 (arr 16 (d16 (X - Lm))) rfl rfl ?tm3 (info38 _) (arr_one _ _) ?_)
          case tm3 => rw [arr_size]; exact R2.there
          go_roundw
          case rel => exact ⟨p, by omega, ⟨_, rfl, rfl⟩, R1'.out, ⟨X - Lm, HE.out, by omega, by have := HX.out; omega, RR.out⟩, O'.out⟩
          case measure => simp [intOf]
      · have e : x = (p : Int) := by omega
        subst e
        subst hi
        have a1 : (0 : Int) ≤ (p : Int) / 8 := by omega
        have a2 : (p : Int) / 8 < (s.size : Int) := by omega
        have a3 : (p : Int) % 8 = 4 := by omega
        have a4 : p / 8 < s.size := by omega
        have a5 := bt_at s (p / 8) a4
        have a6 := bt_bd s (p / 8)
        have a7 : p % 8 = 4 := by omega
        have eb : bits BinOp.and IntKind.u8 (bt s (p / 8) / 16) 1 = bt s (p / 8) / 16 % 2 := and1u (by omega) (by omega)
        have ew : IntKind.u64.wrap (bt s (p / 8) / 16 % 2) = bt s (p / 8) / 16 % 2 := wrap64u ⟨by omega, by omega⟩
        have hbit : bit s p = bt s (p / 8) / 16 % 2 := by unfold bit; rw [a7]; rfl
        have HB := hide hbit
        have hb0 : 0 ≤ bt s (p / 8) / 16 % 2 := by omega
        have hb1 : bt s (p / 8) / 16 % 2 ≤ 1 := by omega
        have HV := hide (ov_next s n N hpn HB.out hN)
        have HH := hide (And.intro hN0 (And.intro hN1 (And.intro hb0 hb1)))
        clear n1 n2 hm hp hx hbit hN hN0 hN1 hb0 hb1
        have gl := R2.lt
        go_wp2_with fail
        have hne := KW.some wr
        have hg : ∀ w', (∃ s : KW wr, w' = s.w) → w'.heap[w.heap.size + 1]? = some (.cells (arr 16 (d16 N)) 38 (0, 0)) := by
          rintro _ ⟨s, rfl⟩
          exact R2.keep s.keep
        have HG := hide hg
        have KK := hide (And.intro R1 (And.intro R2 O))
        clear hg R1 R2 O
        refine wp_region_keep_tail 12 (by kernel_rfl) (by kernel_rfl) ?_
        simp only [List.take_succ_cons, List.take_zero, List.drop_succ_cons, List.drop_zero]
        go_big_quiet_want
        refine quiet_load_row 38 _ rfl (w.heap.size + 1) rfl 38 (arr 16 (d16 N)) (0, 0) _ HG.out Try.underlying38 rfl (info38 _) ?_
        go_simp
        go_big_quiet_on
        go_big_quiet_step (fail)
        go_big_quiet_step (fail)
        go_big_quiet_step (fail)
        go_big_quiet_step (fail)
        go_big_quiet_step (fail)
        go_big_quiet_step (fail)
        go_big_quiet_step (fail)
        go_big_quiet_step (fail)
        go_big_quiet_step (fail)
        go_big_quiet_step (fail)
        go_big_quiet_step ((exact keep_of (twice_any N _ _ ⟨HH.out.1, HH.out.2.1⟩ HH.out.2.2.1 HH.out.2.2.2)))
        refine wpQuiet_nil ?_
        intro t
        obtain ⟨R1, R2, O⟩ := KK.out
        replace R1 := R1.keep t.keep
        replace R2 := R2.keep t.keep
        replace O := O.trans (t.keep.mono O.size)
        clear KK HG hne eb ew
        generalize t.w = W8 at *
        have hX0 : 0 ≤ 2 * N + bt s (p / 8) / 16 % 2 := by have := HH.out; omega
        have hX1 : 2 * N + bt s (p / 8) / 16 % 2 < 2 * Lm := by have := HH.out; omega
        generalize 2 * N + bt s (p / 8) / 16 % 2 = X at *
        have RR := hide (R2.setAll (d16 X))
        have R1' := hide (R1.setOther (k := w.heap.size + 1) (by omega) 0 (arr 16 (d16 X)).toList)
        have O' := hide (below_setCells (g := w.heap.size + 1) (by omega) (arr 16 (d16 X)).toList 0 O)
        have HX := hide (And.intro hX0 hX1)
        clear R1 O hX0 hX1 HH
        go_wp2_with (refine wpList_store_mid rfl 38 _ _ rfl (w.heap.size + 1) 0 (arr 16 (d16 X)) rfl rfl ?th4 (info38 _) (arr_one _ _) ?_)
        case th4 => rw [arr_size]; exact R2.there
        try rw [show ∀ (a : Act) (v : Value), a.put none v = a from fun _ _ => rfl]
        have R1 := R1'.out
        replace R2 := RR.out
        have O := O'.out
        clear R1' RR O'
        generalize W8.setCells (w.heap.size + 1) 0 (arr 16 (d16 X)).toList = W9 at *
        have hL := L16
        have hSX : S (d16 X) 16 = X := dSL HX.out.1 (by have := HX.out; omega)
        have HSX := hide hSX
        clear hSX hL
        have hne := KW.some W9
        have hg : ∀ w', (∃ s : KW W9, w' = s.w) → w'.heap[w.heap.size + 1]? = some (.cells (arr 16 (d16 X)) 38 (0, 0)) := by
          rintro _ ⟨s, rfl⟩
          exact R2.keep s.keep
        have HG := hide hg
        have KK := hide (And.intro R1 (And.intro R2 O))
        clear hg R1 R2 O
        refine wp_region_keep (by kernel_rfl) (by kernel_rfl) ?_
        go_big_quiet_want
        refine quiet_load_row 38 _ rfl (w.heap.size + 1) rfl 38 (arr 16 (d16 X)) (0, 0) _ HG.out Try.underlying38 rfl (info38 _) ?_
        go_simp
        go_big_quiet_on
        go_big_quiet_step ((exact keep_of (order_any _)))
        go_big_quiet_step ((exact keep_of (less_any (d16 X) oF _ (d16_dig _ 16) oF_dig)))
        rw [HSX.out, oF_S]
        by_cases hlt2 : X < Lm
        · rw [decide_eq_true hlt2]
          go_big_quiet_step (fail)
          refine wpQuiet_nil ?_
          intro t
          obtain ⟨R1, R2, O⟩ := KK.out
          replace R1 := R1.keep t.keep
          replace R2 := R2.keep t.keep
          replace O := O.trans (t.keep.mono O.size)
          clear KK HG hne
          generalize t.w = W10 at *
          have HE := hide (HV.out.1 HX.out.1 hlt2)
          go_wp2
          go_roundw
          case rel => exact ⟨p, by omega, ⟨_, rfl, rfl⟩, R1, ⟨X, HE.out, HX.out.1, hlt2, R2⟩, O⟩
          case measure => simp [intOf]
        · rw [decide_eq_false hlt2]
          go_big_quiet_step (fail)
          refine wpQuiet_nil ?_
          intro t
          obtain ⟨R1, R2, O⟩ := KK.out
          replace R1 := R1.keep t.keep
          replace R2 := R2.keep t.keep
          replace O := O.trans (t.keep.mono O.size)
          clear KK HG hne
          generalize t.w = W10 at *
          have HE := hide (HV.out.2 HX.out.2 (by omega))
          have hm2 : arr 16 (minusF (d16 X) oF) = arr 16 (d16 (X - Lm)) := sub_val hlt2 HX.out.2
          have HM := hide hm2
          clear hm2
          go_wp2_with fail
          have hne := KW.some W10
          have hg : ∀ w', (∃ s : KW W10, w' = s.w) → w'.heap[w.heap.size + 1]? = some (.cells (arr 16 (d16 X)) 38 (0, 0)) := by
            rintro _ ⟨s, rfl⟩
            exact R2.keep s.keep
          have HG := hide hg
          have KK := hide (And.intro R1 (And.intro R2 O))
          clear hg R1 R2 O
          refine wp_region_keep_tail 3 (by kernel_rfl) (by kernel_rfl) ?_
          simp only [List.take_succ_cons, List.take_zero, List.drop_succ_cons, List.drop_zero]
          go_big_quiet_want
          refine quiet_load_row 38 _ rfl (w.heap.size + 1) rfl 38 (arr 16 (d16 X)) (0, 0) _ HG.out Try.underlying38 rfl (info38 _) ?_
          go_simp
          go_big_quiet_on
          go_big_quiet_step ((exact keep_of (order_any _)))
          go_big_quiet_step ((exact keep_of (rminus_any (d16 X) oF _ (d16_dig _ 16) oF_dig)))
          refine wpQuiet_nil ?_
          intro t2
          obtain ⟨R1, R2, O⟩ := KK.out
          replace R1 := R1.keep t2.keep
          replace R2 := R2.keep t2.keep
          replace O := O.trans (t2.keep.mono O.size)
          clear KK HG hne
          rw [HM.out]
          generalize t2.w = W11 at *
          have RR := hide (R2.setAll (d16 (X - Lm)))
          have R1' := hide (R1.setOther (k := w.heap.size + 1) (by omega) 0 (arr 16 (d16 (X - Lm))).toList)
          have O' := hide (below_setCells (g := w.heap.size + 1) (by omega) (arr 16 (d16 (X - Lm))).toList 0 O)
          clear R1 O
          go_wp2_with (refine wpList_store_mid rfl 38 _ _ rfl (w.heap.size + 1) 0 (arr 16 (d16 (X - Lm))) rfl rfl ?tm4 (info38 _) (arr_one _ _) ?_)
          case tm4 => rw [arr_size]; exact R2.there
          go_roundw
          case rel => exact ⟨p, by omega, ⟨_, rfl, rfl⟩, R1'.out, ⟨X - Lm, HE.out, by omega, by have := HX.out; omega, RR.out⟩, O'.out⟩
          case measure => simp [intOf]
      · have e : x = (p : Int) := by omega
        subst e
        subst hi
        have a1 : (0 : Int) ≤ (p : Int) / 8 := by omega
        have a2 : (p : Int) / 8 < (s.size : Int) := by omega
        have a3 : (p : Int) % 8 = 5 := by omega
        have a4 : p / 8 < s.size := by omega
        have a5 := bt_at s (p / 8) a4
        have a6 := bt_bd s (p / 8)
        have a7 : p % 8 = 5 := by omega
        have eb : bits BinOp.and IntKind.u8 (bt s (p / 8) / 32) 1 = bt s (p / 8) / 32 % 2 := and1u (by omega) (by omega)
        have ew : IntKind.u64.wrap (bt s (p / 8) / 32 % 2) = bt s (p / 8) / 32 % 2 := wrap64u ⟨by omega, by omega⟩
        have hbit : bit s p = bt s (p / 8) / 32 % 2 := by unfold bit; rw [a7]; rfl
        have HB := hide hbit
        have hb0 : 0 ≤ bt s (p / 8) / 32 % 2 := by omega
        have hb1 : bt s (p / 8) / 32 % 2 ≤ 1 := by omega
        have HV := hide (ov_next s n N hpn HB.out hN)
        have HH := hide (And.intro hN0 (And.intro hN1 (And.intro hb0 hb1)))
        clear n1 n2 hm hp hx hbit hN hN0 hN1 hb0 hb1
        have gl := R2.lt
        go_wp2_with fail
        have hne := KW.some wr
        have hg : ∀ w', (∃ s : KW wr, w' = s.w) → w'.heap[w.heap.size + 1]? = some (.cells (arr 16 (d16 N)) 38 (0, 0)) := by
          rintro _ ⟨s, rfl⟩
          exact R2.keep s.keep
        have HG := hide hg
        have KK := hide (And.intro R1 (And.intro R2 O))
        clear hg R1 R2 O
        refine wp_region_keep_tail 12 (by kernel_rfl) (by kernel_rfl) ?_
        simp only [List.take_succ_cons, List.take_zero, List.drop_succ_cons, List.drop_zero]
        go_big_quiet_want
        refine quiet_load_row 38 _ rfl (w.heap.size + 1) rfl 38 (arr 16 (d16 N)) (0, 0) _ HG.out Try.underlying38 rfl (info38 _) ?_
        go_simp
        go_big_quiet_on
        go_big_quiet_step (fail)
        go_big_quiet_step (fail)
        go_big_quiet_step (fail)
        go_big_quiet_step (fail)
        go_big_quiet_step (fail)
        go_big_quiet_step (fail)
        go_big_quiet_step (fail)
        go_big_quiet_step (fail)
        go_big_quiet_step (fail)
        go_big_quiet_step (fail)
        go_big_quiet_step ((exact keep_of (twice_any N _ _ ⟨HH.out.1, HH.out.2.1⟩ HH.out.2.2.1 HH.out.2.2.2)))
        refine wpQuiet_nil ?_
        intro t
        obtain ⟨R1, R2, O⟩ := KK.out
        replace R1 := R1.keep t.keep
        replace R2 := R2.keep t.keep
        replace O := O.trans (t.keep.mono O.size)
        clear KK HG hne eb ew
        generalize t.w = W8 at *
        have hX0 : 0 ≤ 2 * N + bt s (p / 8) / 32 % 2 := by have := HH.out; omega
        have hX1 : 2 * N + bt s (p / 8) / 32 % 2 < 2 * Lm := by have := HH.out; omega
        generalize 2 * N + bt s (p / 8) / 32 % 2 = X at *
        have RR := hide (R2.setAll (d16 X))
        have R1' := hide (R1.setOther (k := w.heap.size + 1) (by omega) 0 (arr 16 (d16 X)).toList)
        have O' := hide (below_setCells (g := w.heap.size + 1) (by omega) (arr 16 (d16 X)).toList 0 O)
        have HX := hide (And.intro hX0 hX1)
        clear R1 O hX0 hX1 HH
        go_wp2_with (refine wpList_store_mid rfl 38 _ _ rfl (w.heap.size + 1) 0 (arr 16 (d16 X)) rfl rfl ?th5 (info38 _) (arr_one _ _) ?_)
        case th5 => rw [arr_size]; exact R2.there
        try rw [show ∀ (a : Act) (v : Value), a.put none v = a from fun _ _ => rfl]
        have R1 := R1'.out
        replace R2 := RR.out
        have O := O'.out
        clear R1' RR O'
        generalize W8.setCells (w.heap.size + 1) 0 (arr 16 (d16 X)).toList = W9 at *
        have hL := L16
        have hSX : S (d16 X) 16 = X := dSL HX.out.1 (by have := HX.out; omega)
        have HSX := hide hSX
        clear hSX hL
        have hne := KW.some W9
        have hg : ∀ w', (∃ s : KW W9, w' = s.w) → w'.heap[w.heap.size + 1]? = some (.cells (arr 16 (d16 X)) 38 (0, 0)) := by
          rintro _ ⟨s, rfl⟩
          exact R2.keep s.keep
        have HG := hide hg
        have KK := hide (And.intro R1 (And.intro R2 O))
        clear hg R1 R2 O
        refine wp_region_keep (by kernel_rfl) (by kernel_rfl) ?_
        go_big_quiet_want
        refine quiet_load_row 38 _ rfl (w.heap.size + 1) rfl 38 (arr 16 (d16 X)) (0, 0) _ HG.out Try.underlying38 rfl (info38 _) ?_
        go_simp
        go_big_quiet_on
        go_big_quiet_step ((exact keep_of (order_any _)))
        go_big_quiet_step ((exact keep_of (less_any (d16 X) oF _ (d16_dig _ 16) oF_dig)))
        rw [HSX.out, oF_S]
        by_cases hlt2 : X < Lm
        · rw [decide_eq_true hlt2]
          go_big_quiet_step (fail)
          refine wpQuiet_nil ?_
          intro t
          obtain ⟨R1, R2, O⟩ := KK.out
          replace R1 := R1.keep t.keep
          replace R2 := R2.keep t.keep
          replace O := O.trans (t.keep.mono O.size)
          clear KK HG hne
          generalize t.w = W10 at *
          have HE := hide (HV.out.1 HX.out.1 hlt2)
          go_wp2
          go_roundw
          case rel => exact ⟨p, by omega, ⟨_, rfl, rfl⟩, R1, ⟨X, HE.out, HX.out.1, hlt2, R2⟩, O⟩
          case measure => simp [intOf]
        · rw [decide_eq_false hlt2]
          go_big_quiet_step (fail)
          refine wpQuiet_nil ?_
          intro t
          obtain ⟨R1, R2, O⟩ := KK.out
          replace R1 := R1.keep t.keep
          replace R2 := R2.keep t.keep
          replace O := O.trans (t.keep.mono O.size)
          clear KK HG hne
          generalize t.w = W10 at *
          have HE := hide (HV.out.2 HX.out.2 (by omega))
          have hm2 : arr 16 (minusF (d16 X) oF) = arr 16 (d16 (X - Lm)) := sub_val hlt2 HX.out.2
          have HM := hide hm2
          clear hm2
          go_wp2_with fail
          have hne := KW.some W10
          have hg : ∀ w', (∃ s : KW W10, w' = s.w) → w'.heap[w.heap.size + 1]? = some (.cells (arr 16 (d16 X)) 38 (0, 0)) := by
            rintro _ ⟨s, rfl⟩
            exact R2.keep s.keep
          have HG := hide hg
          have KK := hide (And.intro R1 (And.intro R2 O))
          clear hg R1 R2 O
          refine wp_region_keep_tail 3 (by kernel_rfl) (by kernel_rfl) ?_
          simp only [List.take_succ_cons, List.take_zero, List.drop_succ_cons, List.drop_zero]
          go_big_quiet_want
          refine quiet_load_row 38 _ rfl (w.heap.size + 1) rfl 38 (arr 16 (d16 X)) (0, 0) _ HG.out Try.underlying38 rfl (info38 _) ?_
          go_simp
          go_big_quiet_on
          go_big_quiet_step ((exact keep_of (order_any _)))
          go_big_quiet_step ((exact keep_of (rminus_any (d16 X) oF _ (d16_dig _ 16) oF_dig)))
          refine wpQuiet_nil ?_
          intro t2
          obtain ⟨R1, R2, O⟩ := KK.out
          replace R1 := R1.keep t2.keep
          replace R2 := R2.keep t2.keep
          replace O := O.trans (t2.keep.mono O.size)
          clear KK HG hne
          rw [HM.out]
          generalize t2.w = W11 at *
          have RR := hide (R2.setAll (d16 (X - Lm)))
          have R1' := hide (R1.setOther (k := w.heap.size + 1) (by omega) 0 (arr 16 (d16 (X - Lm))).toList)
          have O' := hide (below_setCells (g := w.heap.size + 1) (by omega) (arr 16 (d16 (X - Lm))).toList 0 O)
          clear R1 O
          go_wp2_with (refine wpList_store_mid rfl 38 _ _ rfl (w.heap.size + 1) 0 (arr 16 (d16 (X - Lm))) rfl rfl ?tm5 (info38 _) (arr_one _ _) ?_)
          case tm5 => rw [arr_size]; exact R2.there
          go_roundw
          case rel => exact ⟨p, by omega, ⟨_, rfl, rfl⟩, R1'.out, ⟨X - Lm, HE.out, by omega, by have := HX.out; omega, RR.out⟩, O'.out⟩
          case measure => simp [intOf]
      · have e : x = (p : Int) := by omega
        subst e
        subst hi
        have a1 : (0 : Int) ≤ (p : Int) / 8 := by omega
        have a2 : (p : Int) / 8 < (s.size : Int) := by omega
        have a3 : (p : Int) % 8 = 6 := by omega
        have a4 : p / 8 < s.size := by omega
        have a5 := bt_at s (p / 8) a4
        have a6 := bt_bd s (p / 8)
        have a7 : p % 8 = 6 := by omega
        have eb : bits BinOp.and IntKind.u8 (bt s (p / 8) / 64) 1 = bt s (p / 8) / 64 % 2 := and1u (by omega) (by omega)
        have ew : IntKind.u64.wrap (bt s (p / 8) / 64 % 2) = bt s (p / 8) / 64 % 2 := wrap64u ⟨by omega, by omega⟩
        have hbit : bit s p = bt s (p / 8) / 64 % 2 := by unfold bit; rw [a7]; rfl
        have HB := hide hbit
        have hb0 : 0 ≤ bt s (p / 8) / 64 % 2 := by omega
        have hb1 : bt s (p / 8) / 64 % 2 ≤ 1 := by omega
        have HV := hide (ov_next s n N hpn HB.out hN)
        have HH := hide (And.intro hN0 (And.intro hN1 (And.intro hb0 hb1)))
        clear n1 n2 hm hp hx hbit hN hN0 hN1 hb0 hb1
        have gl := R2.lt
        go_wp2_with fail
        have hne := KW.some wr
        have hg : ∀ w', (∃ s : KW wr, w' = s.w) → w'.heap[w.heap.size + 1]? = some (.cells (arr 16 (d16 N)) 38 (0, 0)) := by
          rintro _ ⟨s, rfl⟩
          exact R2.keep s.keep
        have HG := hide hg
        have KK := hide (And.intro R1 (And.intro R2 O))
        clear hg R1 R2 O
        refine wp_region_keep_tail 12 (by kernel_rfl) (by kernel_rfl) ?_
        simp only [List.take_succ_cons, List.take_zero, List.drop_succ_cons, List.drop_zero]
        go_big_quiet_want
        refine quiet_load_row 38 _ rfl (w.heap.size + 1) rfl 38 (arr 16 (d16 N)) (0, 0) _ HG.out Try.underlying38 rfl (info38 _) ?_
        go_simp
        go_big_quiet_on
        go_big_quiet_step (fail)
        go_big_quiet_step (fail)
        go_big_quiet_step (fail)
        go_big_quiet_step (fail)
        go_big_quiet_step (fail)
        go_big_quiet_step (fail)
        go_big_quiet_step (fail)
        go_big_quiet_step (fail)
        go_big_quiet_step (fail)
        go_big_quiet_step (fail)
        go_big_quiet_step ((exact keep_of (twice_any N _ _ ⟨HH.out.1, HH.out.2.1⟩ HH.out.2.2.1 HH.out.2.2.2)))
        refine wpQuiet_nil ?_
        intro t
        obtain ⟨R1, R2, O⟩ := KK.out
        replace R1 := R1.keep t.keep
        replace R2 := R2.keep t.keep
        replace O := O.trans (t.keep.mono O.size)
        clear KK HG hne eb ew
        generalize t.w = W8 at *
        have hX0 : 0 ≤ 2 * N + bt s (p / 8) / 64 % 2 := by have := HH.out; omega
        have hX1 : 2 * N + bt s (p / 8) / 64 % 2 < 2 * Lm := by have := HH.out; omega
        generalize 2 * N + bt s (p / 8) / 64 % 2 = X at *
        have RR := hide (R2.setAll (d16 X))
        have R1' := hide (R1.setOther (k := w.heap.size + 1) (by omega) 0 (arr 16 (d16 X)).toList)
        have O' := hide (below_setCells (g := w.heap.size + 1) (by omega) (arr 16 (d16 X)).toList 0 O)
        have HX := hide (And.intro hX0 hX1)
        clear R1 O hX0 hX1 HH
        go_wp2_with (refine wpList_store_mid rfl 38 _ _ rfl (w.heap.size + 1) 0 (arr 16 (d16 X)) rfl rfl ?th6 (info38 _) (arr_one _ _) ?_)
        case th6 => rw [arr_size]; exact R2.there
        try rw [show ∀ (a : Act) (v : Value), a.put none v = a from fun _ _ => rfl]
        have R1 := R1'.out
        replace R2 := RR.out
        have O := O'.out
        clear R1' RR O'
        generalize W8.setCells (w.heap.size + 1) 0 (arr 16 (d16 X)).toList = W9 at *
        have hL := L16
        have hSX : S (d16 X) 16 = X := dSL HX.out.1 (by have := HX.out; omega)
        have HSX := hide hSX
        clear hSX hL
        have hne := KW.some W9
        have hg : ∀ w', (∃ s : KW W9, w' = s.w) → w'.heap[w.heap.size + 1]? = some (.cells (arr 16 (d16 X)) 38 (0, 0)) := by
          rintro _ ⟨s, rfl⟩
          exact R2.keep s.keep
        have HG := hide hg
        have KK := hide (And.intro R1 (And.intro R2 O))
        clear hg R1 R2 O
        refine wp_region_keep (by kernel_rfl) (by kernel_rfl) ?_
        go_big_quiet_want
        refine quiet_load_row 38 _ rfl (w.heap.size + 1) rfl 38 (arr 16 (d16 X)) (0, 0) _ HG.out Try.underlying38 rfl (info38 _) ?_
        go_simp
        go_big_quiet_on
        go_big_quiet_step ((exact keep_of (order_any _)))
        go_big_quiet_step ((exact keep_of (less_any (d16 X) oF _ (d16_dig _ 16) oF_dig)))
        rw [HSX.out, oF_S]
        by_cases hlt2 : X < Lm
        · rw [decide_eq_true hlt2]
          go_big_quiet_step (fail)
          refine wpQuiet_nil ?_
          intro t
          obtain ⟨R1, R2, O⟩ := KK.out
          replace R1 := R1.keep t.keep
          replace R2 := R2.keep t.keep
          replace O := O.trans (t.keep.mono O.size)
          clear KK HG hne
          generalize t.w = W10 at *
          have HE := hide (HV.out.1 HX.out.1 hlt2)
          go_wp2
          go_roundw
          case rel => exact ⟨p, by omega, ⟨_, rfl, rfl⟩, R1, ⟨X, HE.out, HX.out.1, hlt2, R2⟩, O⟩
          case measure => simp [intOf]
        · rw [decide_eq_false hlt2]
          go_big_quiet_step (fail)
          refine wpQuiet_nil ?_
          intro t
          obtain ⟨R1, R2, O⟩ := KK.out
          replace R1 := R1.keep t.keep
          replace R2 := R2.keep t.keep
          replace O := O.trans (t.keep.mono O.size)
          clear KK HG hne
          generalize t.w = W10 at *
          have HE := hide (HV.out.2 HX.out.2 (by omega))
          have hm2 : arr 16 (minusF (d16 X) oF) = arr 16 (d16 (X - Lm)) := sub_val hlt2 HX.out.2
          have HM := hide hm2
          clear hm2
          go_wp2_with fail
          have hne := KW.some W10
          have hg : ∀ w', (∃ s : KW W10, w' = s.w) → w'.heap[w.heap.size + 1]? = some (.cells (arr 16 (d16 X)) 38 (0, 0)) := by
            rintro _ ⟨s, rfl⟩
            exact R2.keep s.keep
          have HG := hide hg
          have KK := hide (And.intro R1 (And.intro R2 O))
          clear hg R1 R2 O
          refine wp_region_keep_tail 3 (by kernel_rfl) (by kernel_rfl) ?_
          simp only [List.take_succ_cons, List.take_zero, List.drop_succ_cons, List.drop_zero]
          go_big_quiet_want
          refine quiet_load_row 38 _ rfl (w.heap.size + 1) rfl 38 (arr 16 (d16 X)) (0, 0) _ HG.out Try.underlying38 rfl (info38 _) ?_
          go_simp
          go_big_quiet_on
          go_big_quiet_step ((exact keep_of (order_any _)))
          go_big_quiet_step ((exact keep_of (rminus_any (d16 X) oF _ (d16_dig _ 16) oF_dig)))
          refine wpQuiet_nil ?_
          intro t2
          obtain ⟨R1, R2, O⟩ := KK.out
          replace R1 := R1.keep t2.keep
          replace R2 := R2.keep t2.keep
          replace O := O.trans (t2.keep.mono O.size)
          clear KK HG hne
          rw [HM.out]
          generalize t2.w = W11 at *
          have RR := hide (R2.setAll (d16 (X - Lm)))
          have R1' := hide (R1.setOther (k := w.heap.size + 1) (by omega) 0 (arr 16 (d16 (X - Lm))).toList)
          have O' := hide (below_setCells (g := w.heap.size + 1) (by omega) (arr 16 (d16 (X - Lm))).toList 0 O)
          clear R1 O
          go_wp2_with (refine wpList_store_mid rfl 38 _ _ rfl (w.heap.size + 1) 0 (arr 16 (d16 (X - Lm))) rfl rfl ?tm6 (info38 _) (arr_one _ _) ?_)
          case tm6 => rw [arr_size]; exact R2.there
          go_roundw
          case rel => exact ⟨p, by omega, ⟨_, rfl, rfl⟩, R1'.out, ⟨X - Lm, HE.out, by omega, by have := HX.out; omega, RR.out⟩, O'.out⟩
          case measure => simp [intOf]
      · have e : x = (p : Int) := by omega
        subst e
        subst hi
        have a1 : (0 : Int) ≤ (p : Int) / 8 := by omega
        have a2 : (p : Int) / 8 < (s.size : Int) := by omega
        have a3 : (p : Int) % 8 = 7 := by omega
        have a4 : p / 8 < s.size := by omega
        have a5 := bt_at s (p / 8) a4
        have a6 := bt_bd s (p / 8)
        have a7 : p % 8 = 7 := by omega
        have eb : bits BinOp.and IntKind.u8 (bt s (p / 8) / 128) 1 = bt s (p / 8) / 128 % 2 := and1u (by omega) (by omega)
        have ew : IntKind.u64.wrap (bt s (p / 8) / 128 % 2) = bt s (p / 8) / 128 % 2 := wrap64u ⟨by omega, by omega⟩
        have hbit : bit s p = bt s (p / 8) / 128 % 2 := by unfold bit; rw [a7]; rfl
        have HB := hide hbit
        have hb0 : 0 ≤ bt s (p / 8) / 128 % 2 := by omega
        have hb1 : bt s (p / 8) / 128 % 2 ≤ 1 := by omega
        have HV := hide (ov_next s n N hpn HB.out hN)
        have HH := hide (And.intro hN0 (And.intro hN1 (And.intro hb0 hb1)))
        clear n1 n2 hm hp hx hbit hN hN0 hN1 hb0 hb1
        have gl := R2.lt
        go_wp2_with fail
        have hne := KW.some wr
        have hg : ∀ w', (∃ s : KW wr, w' = s.w) → w'.heap[w.heap.size + 1]? = some (.cells (arr 16 (d16 N)) 38 (0, 0)) := by
          rintro _ ⟨s, rfl⟩
          exact R2.keep s.keep
        have HG := hide hg
        have KK := hide (And.intro R1 (And.intro R2 O))
        clear hg R1 R2 O
        refine wp_region_keep_tail 12 (by kernel_rfl) (by kernel_rfl) ?_
        simp only [List.take_succ_cons, List.take_zero, List.drop_succ_cons, List.drop_zero]
        go_big_quiet_want
        refine quiet_load_row 38 _ rfl (w.heap.size + 1) rfl 38 (arr 16 (d16 N)) (0, 0) _ HG.out Try.underlying38 rfl (info38 _) ?_
        go_simp
        go_big_quiet_on
        go_big_quiet_step (fail)
        go_big_quiet_step (fail)
        go_big_quiet_step (fail)
        go_big_quiet_step (fail)
        go_big_quiet_step (fail)
        go_big_quiet_step (fail)
        go_big_quiet_step (fail)
        go_big_quiet_step (fail)
        go_big_quiet_step (fail)
        go_big_quiet_step (fail)
        go_big_quiet_step ((exact keep_of (twice_any N _ _ ⟨HH.out.1, HH.out.2.1⟩ HH.out.2.2.1 HH.out.2.2.2)))
        refine wpQuiet_nil ?_
        intro t
        obtain ⟨R1, R2, O⟩ := KK.out
        replace R1 := R1.keep t.keep
        replace R2 := R2.keep t.keep
        replace O := O.trans (t.keep.mono O.size)
        clear KK HG hne eb ew
        generalize t.w = W8 at *
        have hX0 : 0 ≤ 2 * N + bt s (p / 8) / 128 % 2 := by have := HH.out; omega
        have hX1 : 2 * N + bt s (p / 8) / 128 % 2 < 2 * Lm := by have := HH.out; omega
        generalize 2 * N + bt s (p / 8) / 128 % 2 = X at *
        have RR := hide (R2.setAll (d16 X))
        have R1' := hide (R1.setOther (k := w.heap.size + 1) (by omega) 0 (arr 16 (d16 X)).toList)
        have O' := hide (below_setCells (g := w.heap.size + 1) (by omega) (arr 16 (d16 X)).toList 0 O)
        have HX := hide (And.intro hX0 hX1)
        clear R1 O hX0 hX1 HH
        go_wp2_with (refine wpList_store_mid rfl 38 _ _ rfl (w.heap.size + 1) 0 (arr 16 (d16 X)) rfl rfl ?th7 (info38 _) (arr_one _ _) ?_)
        case th7 => rw [arr_size]; exact R2.there
        try rw [show ∀ (a : Act) (v : Value), a.put none v = a from fun _ _ => rfl]
        have R1 := R1'.out
        replace R2 := RR.out
        have O := O'.out
        clear R1' RR O'
        generalize W8.setCells (w.heap.size + 1) 0 (arr 16 (d16 X)).toList = W9 at *
        have hL := L16
        have hSX : S (d16 X) 16 = X := dSL HX.out.1 (by have := HX.out; omega)
        have HSX := hide hSX
        clear hSX hL
        have hne := KW.some W9
        have hg : ∀ w', (∃ s : KW W9, w' = s.w) → w'.heap[w.heap.size + 1]? = some (.cells (arr 16 (d16 X)) 38 (0, 0)) := by
          rintro _ ⟨s, rfl⟩
          exact R2.keep s.keep
        have HG := hide hg
        have KK := hide (And.intro R1 (And.intro R2 O))
        clear hg R1 R2 O
        refine wp_region_keep (by kernel_rfl) (by kernel_rfl) ?_
        go_big_quiet_want
        refine quiet_load_row 38 _ rfl (w.heap.size + 1) rfl 38 (arr 16 (d16 X)) (0, 0) _ HG.out Try.underlying38 rfl (info38 _) ?_
        go_simp
        go_big_quiet_on
        go_big_quiet_step ((exact keep_of (order_any _)))
        go_big_quiet_step ((exact keep_of (less_any (d16 X) oF _ (d16_dig _ 16) oF_dig)))
        rw [HSX.out, oF_S]
        by_cases hlt2 : X < Lm
        · rw [decide_eq_true hlt2]
          go_big_quiet_step (fail)
          refine wpQuiet_nil ?_
          intro t
          obtain ⟨R1, R2, O⟩ := KK.out
          replace R1 := R1.keep t.keep
          replace R2 := R2.keep t.keep
          replace O := O.trans (t.keep.mono O.size)
          clear KK HG hne
          generalize t.w = W10 at *
          have HE := hide (HV.out.1 HX.out.1 hlt2)
          go_wp2
          go_roundw
          case rel => exact ⟨p, by omega, ⟨_, rfl, rfl⟩, R1, ⟨X, HE.out, HX.out.1, hlt2, R2⟩, O⟩
          case measure => simp [intOf]
        · rw [decide_eq_false hlt2]
          go_big_quiet_step (fail)
          refine wpQuiet_nil ?_
          intro t
          obtain ⟨R1, R2, O⟩ := KK.out
          replace R1 := R1.keep t.keep
          replace R2 := R2.keep t.keep
          replace O := O.trans (t.keep.mono O.size)
          clear KK HG hne
          generalize t.w = W10 at *
          have HE := hide (HV.out.2 HX.out.2 (by omega))
          have hm2 : arr 16 (minusF (d16 X) oF) = arr 16 (d16 (X - Lm)) := sub_val hlt2 HX.out.2
          have HM := hide hm2
          clear hm2
          go_wp2_with fail
          have hne := KW.some W10
          have hg : ∀ w', (∃ s : KW W10, w' = s.w) → w'.heap[w.heap.size + 1]? = some (.cells (arr 16 (d16 X)) 38 (0, 0)) := by
            rintro _ ⟨s, rfl⟩
            exact R2.keep s.keep
          have HG := hide hg
          have KK := hide (And.intro R1 (And.intro R2 O))
          clear hg R1 R2 O
          refine wp_region_keep_tail 3 (by kernel_rfl) (by kernel_rfl) ?_
          simp only [List.take_succ_cons, List.take_zero, List.drop_succ_cons, List.drop_zero]
          go_big_quiet_want
          refine quiet_load_row 38 _ rfl (w.heap.size + 1) rfl 38 (arr 16 (d16 X)) (0, 0) _ HG.out Try.underlying38 rfl (info38 _) ?_
          go_simp
          go_big_quiet_on
          go_big_quiet_step ((exact keep_of (order_any _)))
          go_big_quiet_step ((exact keep_of (rminus_any (d16 X) oF _ (d16_dig _ 16) oF_dig)))
          refine wpQuiet_nil ?_
          intro t2
          obtain ⟨R1, R2, O⟩ := KK.out
          replace R1 := R1.keep t2.keep
          replace R2 := R2.keep t2.keep
          replace O := O.trans (t2.keep.mono O.size)
          clear KK HG hne
          rw [HM.out]
          generalize t2.w = W11 at *
          have RR := hide (R2.setAll (d16 (X - Lm)))
          have R1' := hide (R1.setOther (k := w.heap.size + 1) (by omega) 0 (arr 16 (d16 (X - Lm))).toList)
          have O' := hide (below_setCells (g := w.heap.size + 1) (by omega) (arr 16 (d16 (X - Lm))).toList 0 O)
          clear R1 O
          go_wp2_with (refine wpList_store_mid rfl 38 _ _ rfl (w.heap.size + 1) 0 (arr 16 (d16 (X - Lm))) rfl rfl ?tm7 (info38 _) (arr_one _ _) ?_)
          case tm7 => rw [arr_size]; exact R2.there
          go_roundw
          case rel => exact ⟨p, by omega, ⟨_, rfl, rfl⟩, R1'.out, ⟨X - Lm, HE.out, by omega, by have := HX.out; omega, RR.out⟩, O'.out⟩
          case measure => simp [intOf]

end Go.Proofs.Ytaaijicpdampiaa
