/- Part 8 of the walks and facts behind edwReckons_holds. -/
import Derived.Test.YtkeocdebfgcnnaaGreatCk7
import Derived.Laws.IdiomStrings
/- The contract of the document's Of: bytes, bit by bit, modulo the order. -/
namespace Go.Proofs.YtkeocdebfgcnnaaGreat.Ord
open Go.RowKit

theorem and1u {x : Int} (h0 : 0 ≤ x) (h1 : x < 256) : bits .and .u8 x 1 = x % 2 := by
  obtain ⟨X, rfl⟩ := Int.eq_ofNat_of_zero_le h0
  have hX : X < 256 := by omega
  have h : ∀ n : Fin 256, bits .and .u8 ((n.val : Nat) : Int) 1 = ((n.val : Nat) : Int) % 2 := by decide +kernel
  exact h ⟨X, hX⟩

/-- Bit i of a string. -/
def bit (s : ByteArray) (i : Nat) : Int := bt s (i / 8) / 2 ^ (i % 8) % 2
/-- What k bits are, the highest first. -/
def ov (s : ByteArray) (n : Nat) : Nat → Int
  | 0 => 0
  | k + 1 => (2 * ov s n k + bit s (n - 1 - k)) % Lm

theorem ov_next (s : ByteArray) (n : Nat) (N : Int) {p : Nat} {b : Int} (hp : p + 1 ≤ n) (hb : bit s p = b) (hN : N = ov s n (n - (p + 1))) :
    (0 ≤ 2 * N + b → 2 * N + b < Lm → 2 * N + b = ov s n (n - p)) ∧ (2 * N + b < 2 * Lm → ¬ 2 * N + b < Lm → 2 * N + b - Lm = ov s n (n - p)) := by
  have e : n - p = n - (p + 1) + 1 := by omega
  have e2 : n - 1 - (n - (p + 1)) = p := by omega
  have e3 : ov s n (n - p) = (2 * N + b) % Lm := by
    rw [e]
    show (2 * ov s n (n - (p + 1)) + bit s (n - 1 - (n - (p + 1)))) % Lm = _
    rw [e2, hb, ← hN]
  rw [e3]
  refine ⟨fun h0 h1 => (Int.emod_eq_of_lt h0 h1).symm, fun h1 h2 => ?_⟩
  have e4 : (2 * N + b) % Lm = (2 * N + b - Lm) % Lm := by rw [Int.sub_emod_right]
  rw [e4, Int.emod_eq_of_lt (by omega) (by omega)]

theorem sub_val {X : Int} (h : ¬ X < Lm) (h1 : X < 2 * Lm) : arr 16 (minusF (d16 X) oF) = arr 16 (d16 (X - Lm)) := by
  have hL := L16
  have hX : S (d16 X) 16 = X := dSL (by have := Lm_pos; omega) (by omega)
  refine arr_congr (S_inj (minusF_dig _ _ 16) (d16_dig _ 16) ?_)
  rw [minus_le (d16_dig X 16) oF_dig (by rw [hX, oF_S]; omega), hX, oF_S, dSL (by omega) (by omega)]

set_option maxRecDepth 100000 in
set_option maxHeartbeats 8000000 in
theorem rof_any (s : ByteArray) (n : Nat) (w : World) (hs : s.size ≤ 64) (hn : n = 8 * s.size) :
    Calls Tryz.prog 9 #[.string s] w fun x w' => x = .returned (.agg (arr 16 (d16 (ov s n n)))) ∧ Below w.heap.size w w' := by
  have n1 : IntKind.i64.wrap (8 * (s.size : Int)) = 8 * (s.size : Int) := by rw [IntKind.wrap_i64]; omega
  have n2 : IntKind.i64.wrap (8 * (s.size : Int) - 1) = 8 * (s.size : Int) - 1 := by rw [IntKind.wrap_i64]; omega
  have Hn := hide hn
  clear hn
  go_enter Tryz.func9, Tryz.ntmps9
  go_wp2
  rw [show #[Value.int IntKind.u64 0, Value.int IntKind.u64 0, Value.int IntKind.u64 0, Value.int IntKind.u64 0, Value.int IntKind.u64 0, Value.int IntKind.u64 0, Value.int IntKind.u64 0, Value.int IntKind.u64 0, Value.int IntKind.u64 0, Value.int IntKind.u64 0, Value.int IntKind.u64 0, Value.int IntKind.u64 0, Value.int IntKind.u64 0, Value.int IntKind.u64 0, Value.int IntKind.u64 0, Value.int IntKind.u64 0] = arr 16 (fun _ => 0) from rfl]
  have R1 : Row ((w.alloc (.cells (arr 16 fun _ => 0) 39)).alloc (.cells (arr 16 fun _ => 0) 39)) w.heap.size 39 16 (fun _ => 0) := (Row.new w 39 16 _).alloc _
  have R2 : Row ((w.alloc (.cells (arr 16 fun _ => 0) 39)).alloc (.cells (arr 16 fun _ => 0) 39)) (w.heap.size + 1) 39 16 (fun _ => 0) := Row.new' _ 39 16 _ (by simp)
  have O : Below w.heap.size w ((w.alloc (.cells (arr 16 fun _ => 0) 39)).alloc (.cells (arr 16 fun _ => 0) 39)) := ((Below.refl _ _).alloc (Nat.le_refl _) _).alloc (by simp) _
  generalize ((w.alloc (.cells (arr 16 fun _ => 0) 39)).alloc (.cells (arr 16 fun _ => 0) 39)) = W at R1 R2 O ⊢
  go_loopw [4] (fun v wr => ∃ m : Nat, m ≤ n ∧ (∃ x : Int, x = (m : Int) - 1 ∧ v = .int .i64 x) ∧ Row wr w.heap.size 39 16 (fun _ => 0) ∧ (∃ N, N = ov s n (n - m) ∧ 0 ≤ N ∧ N < Lm ∧ Row wr (w.heap.size + 1) 39 16 (d16 N)) ∧ Below w.heap.size w wr) (fun v _ => (intOf v + 1).toNat)
  case atStart => exact ⟨n, Nat.le_refl _, ⟨_, by rw [Hn.out]; omega, rfl⟩, R1, ⟨0, by rw [Nat.sub_self]; rfl, by omega, Lm_pos, R2.congr (fun i _ => by simp [d16])⟩, O⟩
  case round =>
    clear R1 R2 O
    obtain ⟨m, hm, ⟨x, hx, hi⟩, R1, ⟨N, hN, hN0, hN1, R2⟩, O⟩ := hrel
    rcases m with _ | p
    · have e : x = -1 := by omega
      subst e
      subst hi
      rw [Nat.sub_zero] at hN
      have HN := hide hN
      clear hN hx n1 n2
      have RR := hide (R1.setAll (d16 N))
      have OO := hide (below_setCells (g := w.heap.size) (Nat.le_refl _) (arr 16 (d16 N)).toList 0 O)
      have HX := hide R2
      clear R2 O
      go_wp2_with (first | (refine wpList_load_row rfl 39 _ rfl (w.heap.size + 1) rfl 39 (arr 16 (d16 N)) (0, 0) _ HX.out Tryz.underlying39 rfl (info39 _) ?_) | (refine wpList_store_mid rfl 39 _ _ rfl w.heap.size 0 (arr 16 (d16 N)) rfl rfl ?tho (info39 _) (arr_one _ _) ?_))
      case tho => rw [arr_size]; exact R1.there
      exact bodyPost_ret (v := .agg (arr 16 (d16 N))) (results_cell_row Tryz.results9 _ _ w.heap.size 39 (arr 16 (d16 N)) (0, 0) _ rfl RR.out Tryz.underlying39 rfl (info39 _)) rfl ⟨by rw [HN.out], OO.out⟩
    · have hpn : p + 1 ≤ n := hm
      have hps : p < 8 * s.size := by rw [← Hn.out]; omega
      have hp : p % 8 < 8 := by omega
      rcases (show p % 8 = 0 ∨ p % 8 = 1 ∨ p % 8 = 2 ∨ p % 8 = 3 ∨ p % 8 = 4 ∨ p % 8 = 5 ∨ p % 8 = 6 ∨ p % 8 = 7 by omega) with h8 | h8 | h8 | h8 | h8 | h8 | h8 | h8
      · have e : x = (p : Int) := by omega
        subst e
        subst hi
        have a1 : (0 : Int) ≤ (p : Int) / 8 := by omega
        have a2 : (p : Int) / 8 < (s.size : Int) := by omega
        have a3 : (p : Int) % 8 = 0 := by omega
        have a4 : p / 8 < s.size := by omega
        have a5 := bt_at s (p / 8) a4
        have a6 := bt_bd s (p / 8)
        have a7 : p % 8 = 0 := by omega
        have eb : bits BinOp.and IntKind.u8 (bt s (p / 8)) 1 = bt s (p / 8) % 2 := and1u (by omega) (by omega)
        have ew : IntKind.u64.wrap (bt s (p / 8) % 2) = bt s (p / 8) % 2 := wrap64u ⟨by omega, by omega⟩
        have hbit : bit s p = bt s (p / 8) % 2 := by unfold bit; rw [a7]; simp
        have HB := hide hbit
        have hb0 : 0 ≤ bt s (p / 8) % 2 := by omega
        have hb1 : bt s (p / 8) % 2 ≤ 1 := by omega
        have HV := hide (ov_next s n N hpn HB.out hN)
        have HH := hide (And.intro hN0 (And.intro hN1 (And.intro hb0 hb1)))
        clear n1 n2 hm hp hx hbit hN hN0 hN1 hb0 hb1
        have gl := R2.lt
        go_wp2_with fail
        have hne := KW.some wr
        have hg : ∀ w', (∃ s : KW wr, w' = s.w) → w'.heap[w.heap.size + 1]? = some (.cells (arr 16 (d16 N)) 39 (0, 0)) := by
          rintro _ ⟨s, rfl⟩
          exact R2.keep s.keep
        have HG := hide hg
        have KK := hide (And.intro R1 (And.intro R2 O))
        clear hg R1 R2 O
        refine wp_region_keep_tail 12 (by kernel_rfl) (by kernel_rfl) ?_
        simp only [List.take_succ_cons, List.take_zero, List.drop_succ_cons, List.drop_zero]
        go_big_quiet_want
        refine quiet_load_row 39 _ rfl (w.heap.size + 1) rfl 39 (arr 16 (d16 N)) (0, 0) _ HG.out Tryz.underlying39 rfl (info39 _) ?_
        go_simp
        go_big_quiet_on
        go_big_quiet_step (fail)
        go_big_quiet_step (fail)
        go_big_quiet_step (fail)
        go_big_quiet_step (fail)
        go_big_quiet_step (fail)
        go_big_quiet_step (fail)
        go_big_quiet_step (fail)
        go_big_quiet_step (fail)
        go_big_quiet_step (fail)
        go_big_quiet_step (fail)
        go_big_quiet_step ((exact keep_of (twice_any N _ _ ⟨HH.out.1, HH.out.2.1⟩ HH.out.2.2.1 HH.out.2.2.2)))
        refine wpQuiet_nil ?_
        intro t
        obtain ⟨R1, R2, O⟩ := KK.out
        replace R1 := R1.keep t.keep
        replace R2 := R2.keep t.keep
        replace O := O.trans (t.keep.mono O.size)
        clear KK HG hne eb ew
        generalize t.w = W8 at *
        have hX0 : 0 ≤ 2 * N + bt s (p / 8) % 2 := by have := HH.out; omega
        have hX1 : 2 * N + bt s (p / 8) % 2 < 2 * Lm := by have := HH.out; omega
        generalize 2 * N + bt s (p / 8) % 2 = X at *
        have RR := hide (R2.setAll (d16 X))
        have R1' := hide (R1.setOther (k := w.heap.size + 1) (by omega) 0 (arr 16 (d16 X)).toList)
        have O' := hide (below_setCells (g := w.heap.size + 1) (by omega) (arr 16 (d16 X)).toList 0 O)
        have HX := hide (And.intro hX0 hX1)
        clear R1 O hX0 hX1 HH
        go_wp2_with (refine wpList_store_mid rfl 39 _ _ rfl (w.heap.size + 1) 0 (arr 16 (d16 X)) rfl rfl ?th0 (info39 _) (arr_one _ _) ?_)
        case th0 => rw [arr_size]; exact R2.there
        try rw [show ∀ (a : Act) (v : Value), a.put none v = a from fun _ _ => rfl]
        have R1 := R1'.out
        replace R2 := RR.out
        have O := O'.out
        clear R1' RR O'
        generalize W8.setCells (w.heap.size + 1) 0 (arr 16 (d16 X)).toList = W9 at *
        have hL := L16
        have hSX : S (d16 X) 16 = X := dSL HX.out.1 (by have := HX.out; omega)
        have HSX := hide hSX
        clear hSX hL
        have hne := KW.some W9
        have hg : ∀ w', (∃ s : KW W9, w' = s.w) → w'.heap[w.heap.size + 1]? = some (.cells (arr 16 (d16 X)) 39 (0, 0)) := by
          rintro _ ⟨s, rfl⟩
          exact R2.keep s.keep
        have HG := hide hg
        have KK := hide (And.intro R1 (And.intro R2 O))
        clear hg R1 R2 O
        refine wp_region_keep (by kernel_rfl) (by kernel_rfl) ?_
        go_big_quiet_want
        refine quiet_load_row 39 _ rfl (w.heap.size + 1) rfl 39 (arr 16 (d16 X)) (0, 0) _ HG.out Tryz.underlying39 rfl (info39 _) ?_
        go_simp
        go_big_quiet_on
        go_big_quiet_step ((exact keep_of (order_any _)))
        go_big_quiet_step ((exact keep_of (less_any (d16 X) oF _ (d16_dig _ 16) oF_dig)))
        rw [HSX.out, oF_S]
        by_cases hlt2 : X < Lm
        · rw [decide_eq_true hlt2]
          go_big_quiet_step (fail)
          refine wpQuiet_nil ?_
          intro t
          obtain ⟨R1, R2, O⟩ := KK.out
          replace R1 := R1.keep t.keep
          replace R2 := R2.keep t.keep
          replace O := O.trans (t.keep.mono O.size)
          clear KK HG hne
          generalize t.w = W10 at *
          have HE := hide (HV.out.1 HX.out.1 hlt2)
          go_wp2
          go_roundw
          case rel => exact ⟨p, by omega, ⟨_, rfl, rfl⟩, R1, ⟨X, HE.out, HX.out.1, hlt2, R2⟩, O⟩
          case measure => simp [intOf]
        · rw [decide_eq_false hlt2]
          go_big_quiet_step (fail)
          refine wpQuiet_nil ?_
          intro t
          obtain ⟨R1, R2, O⟩ := KK.out
          replace R1 := R1.keep t.keep
          replace R2 := R2.keep t.keep
          replace O := O.trans (t.keep.mono O.size)
          clear KK HG hne
          generalize t.w = W10 at *
          have HE := hide (HV.out.2 HX.out.2 (by omega))
          have hm2 : arr 16 (minusF (d16 X) oF) = arr 16 (d16 (X - Lm)) := sub_val hlt2 HX.out.2
          have HM := hide hm2
          clear hm2
          go_wp2_with fail
          have hne := KW.some W10
          have hg : ∀ w', (∃ s : KW W10, w' = s.w) → w'.heap[w.heap.size + 1]? = some (.cells (arr 16 (d16 X)) 39 (0, 0)) := by
            rintro _ ⟨s, rfl⟩
            exact R2.keep s.keep
          have HG := hide hg
          have KK := hide (And.intro R1 (And.intro R2 O))
          clear hg R1 R2 O
          refine wp_region_keep_tail 3 (by kernel_rfl) (by kernel_rfl) ?_
          simp only [List.take_succ_cons, List.take_zero, List.drop_succ_cons, List.drop_zero]
          go_big_quiet_want
          refine quiet_load_row 39 _ rfl (w.heap.size + 1) rfl 39 (arr 16 (d16 X)) (0, 0) _ HG.out Tryz.underlying39 rfl (info39 _) ?_
          go_simp
          go_big_quiet_on
          go_big_quiet_step ((exact keep_of (order_any _)))
          go_big_quiet_step ((exact keep_of (rminus_any (d16 X) oF _ (d16_dig _ 16) oF_dig)))
          refine wpQuiet_nil ?_
          intro t2
          obtain ⟨R1, R2, O⟩ := KK.out
          replace R1 := R1.keep t2.keep
          replace R2 := R2.keep t2.keep
          replace O := O.trans (t2.keep.mono O.size)
          clear KK HG hne
          rw [HM.out]
          generalize t2.w = W11 at *
          have RR := hide (R2.setAll (d16 (X - Lm)))
          have R1' := hide (R1.setOther (k := w.heap.size + 1) (by omega) 0 (arr 16 (d16 (X - Lm))).toList)
          have O' := hide (below_setCells (g := w.heap.size + 1) (by omega) (arr 16 (d16 (X - Lm))).toList 0 O)
          clear R1 O
          go_wp2_with (refine wpList_store_mid rfl 39 _ _ rfl (w.heap.size + 1) 0 (arr 16 (d16 (X - Lm))) rfl rfl ?tm0 (info39 _) (arr_one _ _) ?_)
          case tm0 => rw [arr_size]; exact R2.there
          go_roundw
          case rel => exact ⟨p, by omega, ⟨_, rfl, rfl⟩, R1'.out, ⟨X - Lm, HE.out, by omega, by have := HX.out; omega, RR.out⟩, O'.out⟩
          case measure => simp [intOf]
      · have e : x = (p : Int) := by omega
        subst e
        subst hi
        have a1 : (0 : Int) ≤ (p : Int) / 8 := by omega
        have a2 : (p : Int) / 8 < (s.size : Int) := by omega
        have a3 : (p : Int) % 8 = 1 := by omega
        have a4 : p / 8 < s.size := by omega
        have a5 := bt_at s (p / 8) a4
        have a6 := bt_bd s (p / 8)
        have a7 : p % 8 = 1 := by omega
        have eb : bits BinOp.and IntKind.u8 (bt s (p / 8) / 2) 1 = bt s (p / 8) / 2 % 2 := and1u (by omega) (by omega)
        have ew : IntKind.u64.wrap (bt s (p / 8) / 2 % 2) = bt s (p / 8) / 2 % 2 := wrap64u ⟨by omega, by omega⟩
        have hbit : bit s p = bt s (p / 8) / 2 % 2 := by unfold bit; rw [a7]; rfl
        have HB := hide hbit
        have hb0 : 0 ≤ bt s (p / 8) / 2 % 2 := by omega
        have hb1 : bt s (p / 8) / 2 % 2 ≤ 1 := by omega
        have HV := hide (ov_next s n N hpn HB.out hN)
        have HH := hide (And.intro hN0 (And.intro hN1 (And.intro hb0 hb1)))
        clear n1 n2 hm hp hx hbit hN hN0 hN1 hb0 hb1
        have gl := R2.lt
        go_wp2_with fail
        have hne := KW.some wr
        have hg : ∀ w', (∃ s : KW wr, w' = s.w) → w'.heap[w.heap.size + 1]? = some (.cells (arr 16 (d16 N)) 39 (0, 0)) := by
          rintro _ ⟨s, rfl⟩
          exact R2.keep s.keep
        have HG := hide hg
        have KK := hide (And.intro R1 (And.intro R2 O))
        clear hg R1 R2 O
        refine wp_region_keep_tail 12 (by kernel_rfl) (by kernel_rfl) ?_
        simp only [List.take_succ_cons, List.take_zero, List.drop_succ_cons, List.drop_zero]
        go_big_quiet_want
        refine quiet_load_row 39 _ rfl (w.heap.size + 1) rfl 39 (arr 16 (d16 N)) (0, 0) _ HG.out Tryz.underlying39 rfl (info39 _) ?_
        go_simp
        go_big_quiet_on
        go_big_quiet_step (fail)
        go_big_quiet_step (fail)
        go_big_quiet_step (fail)
        go_big_quiet_step (fail)
        go_big_quiet_step (fail)
        go_big_quiet_step (fail)
        go_big_quiet_step (fail)
        go_big_quiet_step (fail)
        go_big_quiet_step (fail)
        go_big_quiet_step (fail)
        go_big_quiet_step ((exact keep_of (twice_any N _ _ ⟨HH.out.1, HH.out.2.1⟩ HH.out.2.2.1 HH.out.2.2.2)))
        refine wpQuiet_nil ?_
        intro t
        obtain ⟨R1, R2, O⟩ := KK.out
        replace R1 := R1.keep t.keep
        replace R2 := R2.keep t.keep
        replace O := O.trans (t.keep.mono O.size)
        clear KK HG hne eb ew
        generalize t.w = W8 at *
        have hX0 : 0 ≤ 2 * N + bt s (p / 8) / 2 % 2 := by have := HH.out; omega
        have hX1 : 2 * N + bt s (p / 8) / 2 % 2 < 2 * Lm := by have := HH.out; omega
        generalize 2 * N + bt s (p / 8) / 2 % 2 = X at *
        have RR := hide (R2.setAll (d16 X))
        have R1' := hide (R1.setOther (k := w.heap.size + 1) (by omega) 0 (arr 16 (d16 X)).toList)
        have O' := hide (below_setCells (g := w.heap.size + 1) (by omega) (arr 16 (d16 X)).toList 0 O)
        have HX := hide (And.intro hX0 hX1)
        clear R1 O hX0 hX1 HH
        go_wp2_with (refine wpList_store_mid rfl 39 _ _ rfl (w.heap.size + 1) 0 (arr 16 (d16 X)) rfl rfl ?th1 (info39 _) (arr_one _ _) ?_)
        case th1 => rw [arr_size]; exact R2.there
        try rw [show ∀ (a : Act) (v : Value), a.put none v = a from fun _ _ => rfl]
        have R1 := R1'.out
        replace R2 := RR.out
        have O := O'.out
        clear R1' RR O'
        generalize W8.setCells (w.heap.size + 1) 0 (arr 16 (d16 X)).toList = W9 at *
        have hL := L16
        have hSX : S (d16 X) 16 = X := dSL HX.out.1 (by have := HX.out; omega)
        have HSX := hide hSX
        clear hSX hL
        have hne := KW.some W9
        have hg : ∀ w', (∃ s : KW W9, w' = s.w) → w'.heap[w.heap.size + 1]? = some (.cells (arr 16 (d16 X)) 39 (0, 0)) := by
          rintro _ ⟨s, rfl⟩
          exact R2.keep s.keep
        have HG := hide hg
        have KK := hide (And.intro R1 (And.intro R2 O))
        clear hg R1 R2 O
        refine wp_region_keep (by kernel_rfl) (by kernel_rfl) ?_
        go_big_quiet_want
        refine quiet_load_row 39 _ rfl (w.heap.size + 1) rfl 39 (arr 16 (d16 X)) (0, 0) _ HG.out Tryz.underlying39 rfl (info39 _) ?_
        go_simp
        go_big_quiet_on
        go_big_quiet_step ((exact keep_of (order_any _)))
        go_big_quiet_step ((exact keep_of (less_any (d16 X) oF _ (d16_dig _ 16) oF_dig)))
        rw [HSX.out, oF_S]
        by_cases hlt2 : X < Lm
        · rw [decide_eq_true hlt2]
          go_big_quiet_step (fail)
          refine wpQuiet_nil ?_
          intro t
          obtain ⟨R1, R2, O⟩ := KK.out
          replace R1 := R1.keep t.keep
          replace R2 := R2.keep t.keep
          replace O := O.trans (t.keep.mono O.size)
          clear KK HG hne
          generalize t.w = W10 at *
          have HE := hide (HV.out.1 HX.out.1 hlt2)
          go_wp2
          go_roundw
          case rel => exact ⟨p, by omega, ⟨_, rfl, rfl⟩, R1, ⟨X, HE.out, HX.out.1, hlt2, R2⟩, O⟩
          case measure => simp [intOf]
        · rw [decide_eq_false hlt2]
          go_big_quiet_step (fail)
          refine wpQuiet_nil ?_
          intro t
          obtain ⟨R1, R2, O⟩ := KK.out
          replace R1 := R1.keep t.keep
          replace R2 := R2.keep t.keep
          replace O := O.trans (t.keep.mono O.size)
          clear KK HG hne
          generalize t.w = W10 at *
          have HE := hide (HV.out.2 HX.out.2 (by omega))
          have hm2 : arr 16 (minusF (d16 X) oF) = arr 16 (d16 (X - Lm)) := sub_val hlt2 HX.out.2
          have HM := hide hm2
          clear hm2
          go_wp2_with fail
          have hne := KW.some W10
          have hg : ∀ w', (∃ s : KW W10, w' = s.w) → w'.heap[w.heap.size + 1]? = some (.cells (arr 16 (d16 X)) 39 (0, 0)) := by
            rintro _ ⟨s, rfl⟩
            exact R2.keep s.keep
          have HG := hide hg
          have KK := hide (And.intro R1 (And.intro R2 O))
          clear hg R1 R2 O
          refine wp_region_keep_tail 3 (by kernel_rfl) (by kernel_rfl) ?_
          simp only [List.take_succ_cons, List.take_zero, List.drop_succ_cons, List.drop_zero]
          go_big_quiet_want
          refine quiet_load_row 39 _ rfl (w.heap.size + 1) rfl 39 (arr 16 (d16 X)) (0, 0) _ HG.out Tryz.underlying39 rfl (info39 _) ?_
          go_simp
          go_big_quiet_on
          go_big_quiet_step ((exact keep_of (order_any _)))
          go_big_quiet_step ((exact keep_of (rminus_any (d16 X) oF _ (d16_dig _ 16) oF_dig)))
          refine wpQuiet_nil ?_
          intro t2
          obtain ⟨R1, R2, O⟩ := KK.out
          replace R1 := R1.keep t2.keep
          replace R2 := R2.keep t2.keep
          replace O := O.trans (t2.keep.mono O.size)
          clear KK HG hne
          rw [HM.out]
          generalize t2.w = W11 at *
          have RR := hide (R2.setAll (d16 (X - Lm)))
          have R1' := hide (R1.setOther (k := w.heap.size + 1) (by omega) 0 (arr 16 (d16 (X - Lm))).toList)
          have O' := hide (below_setCells (g := w.heap.size + 1) (by omega) (arr 16 (d16 (X - Lm))).toList 0 O)
          clear R1 O
          go_wp2_with (refine wpList_store_mid rfl 39 _ _ rfl (w.heap.size + 1) 0 (arr 16 (d16 (X - Lm))) rfl rfl ?tm1 (info39 _) (arr_one _ _) ?_)
          case tm1 => rw [arr_size]; exact R2.there
          go_roundw
          case rel => exact ⟨p, by omega, ⟨_, rfl, rfl⟩, R1'.out, ⟨X - Lm, HE.out, by omega, by have := HX.out; omega, RR.out⟩, O'.out⟩
          case measure => simp [intOf]
      · have e : x = (p : Int) := by omega
        subst e
        subst hi
        have a1 : (0 : Int) ≤ (p : Int) / 8 := by omega
        have a2 : (p : Int) / 8 < (s.size : Int) := by omega
        have a3 : (p : Int) % 8 = 2 := by omega
        have a4 : p / 8 < s.size := by omega
        have a5 := bt_at s (p / 8) a4
        have a6 := bt_bd s (p / 8)
        have a7 : p % 8 = 2 := by omega
        have eb : bits BinOp.and IntKind.u8 (bt s (p / 8) / 4) 1 = bt s (p / 8) / 4 % 2 := and1u (by omega) (by omega)
        have ew : IntKind.u64.wrap (bt s (p / 8) / 4 % 2) = bt s (p / 8) / 4 % 2 := wrap64u ⟨by omega, by omega⟩
        have hbit : bit s p = bt s (p / 8) / 4 % 2 := by unfold bit; rw [a7]; rfl
        have HB := hide hbit
        have hb0 : 0 ≤ bt s (p / 8) / 4 % 2 := by omega
        have hb1 : bt s (p / 8) / 4 % 2 ≤ 1 := by omega
        have HV := hide (ov_next s n N hpn HB.out hN)
        have HH := hide (And.intro hN0 (And.intro hN1 (And.intro hb0 hb1)))
        clear n1 n2 hm hp hx hbit hN hN0 hN1 hb0 hb1
        have gl := R2.lt
        go_wp2_with fail
        have hne := KW.some wr
        have hg : ∀ w', (∃ s : KW wr, w' = s.w) → w'.heap[w.heap.size + 1]? = some (.cells (arr 16 (d16 N)) 39 (0, 0)) := by
          rintro _ ⟨s, rfl⟩
          exact R2.keep s.keep
        have HG := hide hg
        have KK := hide (And.intro R1 (And.intro R2 O))
        clear hg R1 R2 O
        refine wp_region_keep_tail 12 (by kernel_rfl) (by kernel_rfl) ?_
        simp only [List.take_succ_cons, List.take_zero, List.drop_succ_cons, List.drop_zero]
        go_big_quiet_want
        refine quiet_load_row 39 _ rfl (w.heap.size + 1) rfl 39 (arr 16 (d16 N)) (0, 0) _ HG.out Tryz.underlying39 rfl (info39 _) ?_
        go_simp
        go_big_quiet_on
        go_big_quiet_step (fail)
        go_big_quiet_step (fail)
        go_big_quiet_step (fail)
        go_big_quiet_step (fail)
        go_big_quiet_step (fail)
        go_big_quiet_step (fail)
        go_big_quiet_step (fail)
        go_big_quiet_step (fail)
        go_big_quiet_step (fail)
        go_big_quiet_step (fail)
        go_big_quiet_step ((exact keep_of (twice_any N _ _ ⟨HH.out.1, HH.out.2.1⟩ HH.out.2.2.1 HH.out.2.2.2)))
        refine wpQuiet_nil ?_
        intro t
        obtain ⟨R1, R2, O⟩ := KK.out
        replace R1 := R1.keep t.keep
        replace R2 := R2.keep t.keep
        replace O := O.trans (t.keep.mono O.size)
        clear KK HG hne eb ew
        generalize t.w = W8 at *
        have hX0 : 0 ≤ 2 * N + bt s (p / 8) / 4 % 2 := by have := HH.out; omega
        have hX1 : 2 * N + bt s (p / 8) / 4 % 2 < 2 * Lm := by have := HH.out; omega
        generalize 2 * N + bt s (p / 8) / 4 % 2 = X at *
        have RR := hide (R2.setAll (d16 X))
        have R1' := hide (R1.setOther (k := w.heap.size + 1) (by omega) 0 (arr 16 (d16 X)).toList)
        have O' := hide (below_setCells (g := w.heap.size + 1) (by omega) (arr 16 (d16 X)).toList 0 O)
        have HX := hide (And.intro hX0 hX1)
        clear R1 O hX0 hX1 HH
        go_wp2_with (refine wpList_store_mid rfl 39 _ _ rfl (w.heap.size + 1) 0 (arr 16 (d16 X)) rfl rfl ?th2 (info39 _) (arr_one _ _) ?_)
        case th2 => rw [arr_size]; exact R2.there
        try rw [show ∀ (a : Act) (v : Value), a.put none v = a from fun _ _ => rfl]
        have R1 := R1'.out
        replace R2 := RR.out
        have O := O'.out
        clear R1' RR O'
        generalize W8.setCells (w.heap.size + 1) 0 (arr 16 (d16 X)).toList = W9 at *
        have hL := L16
        have hSX : S (d16 X) 16 = X := dSL HX.out.1 (by have := HX.out; omega)
        have HSX := hide hSX
        clear hSX hL
        have hne := KW.some W9
        have hg : ∀ w', (∃ s : KW W9, w' = s.w) → w'.heap[w.heap.size + 1]? = some (.cells (arr 16 (d16 X)) 39 (0, 0)) := by
          rintro _ ⟨s, rfl⟩
          exact R2.keep s.keep
        have HG := hide hg
        have KK := hide (And.intro R1 (And.intro R2 O))
        clear hg R1 R2 O
        refine wp_region_keep (by kernel_rfl) (by kernel_rfl) ?_
        go_big_quiet_want
        refine quiet_load_row 39 _ rfl (w.heap.size + 1) rfl 39 (arr 16 (d16 X)) (0, 0) _ HG.out Tryz.underlying39 rfl (info39 _) ?_
        go_simp
        go_big_quiet_on
        go_big_quiet_step ((exact keep_of (order_any _)))
        go_big_quiet_step ((exact keep_of (less_any (d16 X) oF _ (d16_dig _ 16) oF_dig)))
        rw [HSX.out, oF_S]
        by_cases hlt2 : X < Lm
        · rw [decide_eq_true hlt2]
          go_big_quiet_step (fail)
          refine wpQuiet_nil ?_
          intro t
          obtain ⟨R1, R2, O⟩ := KK.out
          replace R1 := R1.keep t.keep
          replace R2 := R2.keep t.keep
          replace O := O.trans (t.keep.mono O.size)
          clear KK HG hne
          generalize t.w = W10 at *
          have HE := hide (HV.out.1 HX.out.1 hlt2)
          go_wp2
          go_roundw
          case rel => exact ⟨p, by omega, ⟨_, rfl, rfl⟩, R1, ⟨X, HE.out, HX.out.1, hlt2, R2⟩, O⟩
          case measure => simp [intOf]
        · rw [decide_eq_false hlt2]
          go_big_quiet_step (fail)
          refine wpQuiet_nil ?_
          intro t
          obtain ⟨R1, R2, O⟩ := KK.out
          replace R1 := R1.keep t.keep
          replace R2 := R2.keep t.keep
          replace O := O.trans (t.keep.mono O.size)
          clear KK HG hne
          generalize t.w = W10 at *
          have HE := hide (HV.out.2 HX.out.2 (by omega))
          have hm2 : arr 16 (minusF (d16 X) oF) = arr 16 (d16 (X - Lm)) := sub_val hlt2 HX.out.2
          have HM := hide hm2
          clear hm2
          go_wp2_with fail
          have hne := KW.some W10
          have hg : ∀ w', (∃ s : KW W10, w' = s.w) → w'.heap[w.heap.size + 1]? = some (.cells (arr 16 (d16 X)) 39 (0, 0)) := by
            rintro _ ⟨s, rfl⟩
            exact R2.keep s.keep
          have HG := hide hg
          have KK := hide (And.intro R1 (And.intro R2 O))
          clear hg R1 R2 O
          refine wp_region_keep_tail 3 (by kernel_rfl) (by kernel_rfl) ?_
          simp only [List.take_succ_cons, List.take_zero, List.drop_succ_cons, List.drop_zero]
          go_big_quiet_want
          refine quiet_load_row 39 _ rfl (w.heap.size + 1) rfl 39 (arr 16 (d16 X)) (0, 0) _ HG.out Tryz.underlying39 rfl (info39 _) ?_
          go_simp
          go_big_quiet_on
          go_big_quiet_step ((exact keep_of (order_any _)))
          go_big_quiet_step ((exact keep_of (rminus_any (d16 X) oF _ (d16_dig _ 16) oF_dig)))
          refine wpQuiet_nil ?_
          intro t2
          obtain ⟨R1, R2, O⟩ := KK.out
          replace R1 := R1.keep t2.keep
          replace R2 := R2.keep t2.keep
          replace O := O.trans (t2.keep.mono O.size)
          clear KK HG hne
          rw [HM.out]
          generalize t2.w = W11 at *
          have RR := hide (R2.setAll (d16 (X - Lm)))
          have R1' := hide (R1.setOther (k := w.heap.size + 1) (by omega) 0 (arr 16 (d16 (X - Lm))).toList)
          have O' := hide (below_setCells (g := w.heap.size + 1) (by omega) (arr 16 (d16 (X - Lm))).toList 0 O)
          clear R1 O
          go_wp2_with (refine wpList_store_mid rfl 39 _ _ rfl (w.heap.size + 1) 0 (arr 16 (d16 (X - Lm))) rfl rfl ?tm2 (info39 _) (arr_one _ _) ?_)
          case tm2 => rw [arr_size]; exact R2.there
          go_roundw
          case rel => exact ⟨p, by omega, ⟨_, rfl, rfl⟩, R1'.out, ⟨X - Lm, HE.out, by omega, by have := HX.out; omega, RR.out⟩, O'.out⟩
          case measure => simp [intOf]
      · have e : x = (p : Int) := by omega
        subst e
        subst hi
        have a1 : (0 : Int) ≤ (p : Int) / 8 := by omega
        have a2 : (p : Int) / 8 < (s.size : Int) := by omega
        have a3 : (p : Int) % 8 = 3 := by omega
        have a4 : p / 8 < s.size := by omega
        have a5 := bt_at s (p / 8) a4
        have a6 := bt_bd s (p / 8)
        have a7 : p % 8 = 3 := by omega
        have eb : bits BinOp.and IntKind.u8 (bt s (p / 8) / 8) 1 = bt s (p / 8) / 8 % 2 := and1u (by omega) (by omega)
        have ew : IntKind.u64.wrap (bt s (p / 8) / 8 % 2) = bt s (p / 8) / 8 % 2 := wrap64u ⟨by omega, by omega⟩
        have hbit : bit s p = bt s (p / 8) / 8 % 2 := by unfold bit; rw [a7]; rfl
        have HB := hide hbit
        have hb0 : 0 ≤ bt s (p / 8) / 8 % 2 := by omega
        have hb1 : bt s (p / 8) / 8 % 2 ≤ 1 := by omega
        have HV := hide (ov_next s n N hpn HB.out hN)
        have HH := hide (And.intro hN0 (And.intro hN1 (And.intro hb0 hb1)))
        clear n1 n2 hm hp hx hbit hN hN0 hN1 hb0 hb1
        have gl := R2.lt
        go_wp2_with fail
        have hne := KW.some wr
        have hg : ∀ w', (∃ s : KW wr, w' = s.w) → w'.heap[w.heap.size + 1]? = some (.cells (arr 16 (d16 N)) 39 (0, 0)) := by
          rintro _ ⟨s, rfl⟩
          exact R2.keep s.keep
        have HG := hide hg
        have KK := hide (And.intro R1 (And.intro R2 O))
        clear hg R1 R2 O
        refine wp_region_keep_tail 12 (by kernel_rfl) (by kernel_rfl) ?_
        simp only [List.take_succ_cons, List.take_zero, List.drop_succ_cons, List.drop_zero]
        go_big_quiet_want
        refine quiet_load_row 39 _ rfl (w.heap.size + 1) rfl 39 (arr 16 (d16 N)) (0, 0) _ HG.out Tryz.underlying39 rfl (info39 _) ?_
        go_simp
        go_big_quiet_on
        go_big_quiet_step (fail)
        go_big_quiet_step (fail)
        go_big_quiet_step (fail)
        go_big_quiet_step (fail)
        go_big_quiet_step (fail)
        go_big_quiet_step (fail)
        go_big_quiet_step (fail)
        go_big_quiet_step (fail)
        go_big_quiet_step (fail)
        go_big_quiet_step (fail)
        go_big_quiet_step ((exact keep_of (twice_any N _ _ ⟨HH.out.1, HH.out.2.1⟩ HH.out.2.2.1 HH.out.2.2.2)))
        refine wpQuiet_nil ?_
        intro t
        obtain ⟨R1, R2, O⟩ := KK.out
        replace R1 := R1.keep t.keep
        replace R2 := R2.keep t.keep
        replace O := O.trans (t.keep.mono O.size)
        clear KK HG hne eb ew
        generalize t.w = W8 at *
        have hX0 : 0 ≤ 2 * N + bt s (p / 8) / 8 % 2 := by have := HH.out; omega
        have hX1 : 2 * N + bt s (p / 8) / 8 % 2 < 2 * Lm := by have := HH.out; omega
        generalize 2 * N + bt s (p / 8) / 8 % 2 = X at *
        have RR := hide (R2.setAll (d16 X))
        have R1' := hide (R1.setOther (k := w.heap.size + 1) (by omega) 0 (arr 16 (d16 X)).toList)
        have O' := hide (below_setCells (g := w.heap.size + 1) (by omega) (arr 16 (d16 X)).toList 0 O)
        have HX := hide (And.intro hX0 hX1)
        clear R1 O hX0 hX1 HH
        go_wp2_with (refine wpList_store_mid rfl 39 _ _ rfl (w.heap.size + 1) 0 (arr 16 (d16 X)) rfl rfl ?th3 (info39 _) (arr_one _ _) ?_)
        case th3 => rw [arr_size]; exact R2.there
        try rw [show ∀ (a : Act) (v : Value), a.put none v = a from fun _ _ => rfl]
        have R1 := R1'.out
        replace R2 := RR.out
        have O := O'.out
        clear R1' RR O'
        generalize W8.setCells (w.heap.size + 1) 0 (arr 16 (d16 X)).toList = W9 at *
        have hL := L16
        have hSX : S (d16 X) 16 = X := dSL HX.out.1 (by have := HX.out; omega)
        have HSX := hide hSX
        clear hSX hL
        have hne := KW.some W9
        have hg : ∀ w', (∃ s : KW W9, w' = s.w) → w'.heap[w.heap.size + 1]? = some (.cells (arr 16 (d16 X)) 39 (0, 0)) := by
          rintro _ ⟨s, rfl⟩
          exact R2.keep s.keep
        have HG := hide hg
        have KK := hide (And.intro R1 (And.intro R2 O))
        clear hg R1 R2 O
        refine wp_region_keep (by kernel_rfl) (by kernel_rfl) ?_
        go_big_quiet_want
        refine quiet_load_row 39 _ rfl (w.heap.size + 1) rfl 39 (arr 16 (d16 X)) (0, 0) _ HG.out Tryz.underlying39 rfl (info39 _) ?_
        go_simp
        go_big_quiet_on
        go_big_quiet_step ((exact keep_of (order_any _)))
        go_big_quiet_step ((exact keep_of (less_any (d16 X) oF _ (d16_dig _ 16) oF_dig)))
        rw [HSX.out, oF_S]
        by_cases hlt2 : X < Lm
        · rw [decide_eq_true hlt2]
          go_big_quiet_step (fail)
          refine wpQuiet_nil ?_
          intro t
          obtain ⟨R1, R2, O⟩ := KK.out
          replace R1 := R1.keep t.keep
          replace R2 := R2.keep t.keep
          replace O := O.trans (t.keep.mono O.size)
          clear KK HG hne
          generalize t.w = W10 at *
          have HE := hide (HV.out.1 HX.out.1 hlt2)
          go_wp2
          go_roundw
          case rel => exact ⟨p, by omega, ⟨_, rfl, rfl⟩, R1, ⟨X, HE.out, HX.out.1, hlt2, R2⟩, O⟩
          case measure => simp [intOf]
        · rw [decide_eq_false hlt2]
          go_big_quiet_step (fail)
          refine wpQuiet_nil ?_
          intro t
          obtain ⟨R1, R2, O⟩ := KK.out
          replace R1 := R1.keep t.keep
          replace R2 := R2.keep t.keep
          replace O := O.trans (t.keep.mono O.size)
          clear KK HG hne
          generalize t.w = W10 at *
          have HE := hide (HV.out.2 HX.out.2 (by omega))
          have hm2 : arr 16 (minusF (d16 X) oF) = arr 16 (d16 (X - Lm)) := sub_val hlt2 HX.out.2
          have HM := hide hm2
          clear hm2
          go_wp2_with fail
          have hne := KW.some W10
          have hg : ∀ w', (∃ s : KW W10, w' = s.w) → w'.heap[w.heap.size + 1]? = some (.cells (arr 16 (d16 X)) 39 (0, 0)) := by
            rintro _ ⟨s, rfl⟩
            exact R2.keep s.keep
          have HG := hide hg
          have KK := hide (And.intro R1 (And.intro R2 O))
          clear hg R1 R2 O
          refine wp_region_keep_tail 3 (by kernel_rfl) (by kernel_rfl) ?_
          simp only [List.take_succ_cons, List.take_zero, List.drop_succ_cons, List.drop_zero]
          go_big_quiet_want
          refine quiet_load_row 39 _ rfl (w.heap.size + 1) rfl 39 (arr 16 (d16 X)) (0, 0) _ HG.out Tryz.underlying39 rfl (info39 _) ?_
          go_simp
          go_big_quiet_on
          go_big_quiet_step ((exact keep_of (order_any _)))
          go_big_quiet_step ((exact keep_of (rminus_any (d16 X) oF _ (d16_dig _ 16) oF_dig)))
          refine wpQuiet_nil ?_
          intro t2
          obtain ⟨R1, R2, O⟩ := KK.out
          replace R1 := R1.keep t2.keep
          replace R2 := R2.keep t2.keep
          replace O := O.trans (t2.keep.mono O.size)
          clear KK HG hne
          rw [HM.out]
          generalize t2.w = W11 at *
          have RR := hide (R2.setAll (d16 (X - Lm)))
          have R1' := hide (R1.setOther (k := w.heap.size + 1) (by omega) 0 (arr 16 (d16 (X - Lm))).toList)
          have O' := hide (below_setCells (g := w.heap.size + 1) (by omega) (arr 16 (d16 (X - Lm))).toList 0 O)
          clear R1 O
          go_wp2_with (refine wpList_store_mid rfl 39 _ _ rfl (w.heap.size + 1) 0 (arr 16 (d16 (X - Lm))) rfl rfl ?tm3 (info39 _) (arr_one _ _) ?_)
          case tm3 => rw [arr_size]; exact R2.there
          go_roundw
          case rel => exact ⟨p, by omega, ⟨_, rfl, rfl⟩, R1'.out, ⟨X - Lm, HE.out, by omega, by have := HX.out; omega, RR.out⟩, O'.out⟩
          case measure => simp [intOf]
      · have e : x = (p : Int) := by omega
        subst e
        subst hi
        have a1 : (0 : Int) ≤ (p : Int) / 8 := by omega
        have a2 : (p : Int) / 8 < (s.size : Int) := by omega
        have a3 : (p : Int) % 8 = 4 := by omega
        have a4 : p / 8 < s.size := by omega
        have a5 := bt_at s (p / 8) a4
        have a6 := bt_bd s (p / 8)
        have a7 : p % 8 = 4 := by omega
        have eb : bits BinOp.and IntKind.u8 (bt s (p / 8) / 16) 1 = bt s (p / 8) / 16 % 2 := and1u (by omega) (by omega)
        have ew : IntKind.u64.wrap (bt s (p / 8) / 16 % 2) = bt s (p / 8) / 16 % 2 := wrap64u ⟨by omega, by omega⟩
        have hbit : bit s p = bt s (p / 8) / 16 % 2 := by unfold bit; rw [a7]; rfl
        have HB := hide hbit
        have hb0 : 0 ≤ bt s (p / 8) / 16 % 2 := by omega
        have hb1 : bt s (p / 8) / 16 % 2 ≤ 1 := by omega
        have HV := hide (ov_next s n N hpn HB.out hN)
        have HH := hide (And.intro hN0 (And.intro hN1 (And.intro hb0 hb1)))
        clear n1 n2 hm hp hx hbit hN hN0 hN1 hb0 hb1
        have gl := R2.lt
        go_wp2_with fail
        have hne := KW.some wr
        have hg : ∀ w', (∃ s : KW wr, w' = s.w) → w'.heap[w.heap.size + 1]? = some (.cells (arr 16 (d16 N)) 39 (0, 0)) := by
          rintro _ ⟨s, rfl⟩
          exact R2.keep s.keep
        have HG := hide hg
        have KK := hide (And.intro R1 (And.intro R2 O))
        clear hg R1 R2 O
        refine wp_region_keep_tail 12 (by kernel_rfl) (by kernel_rfl) ?_
        simp only [List.take_succ_cons, List.take_zero, List.drop_succ_cons, List.drop_zero]
        go_big_quiet_want
        refine quiet_load_row 39 _ rfl (w.heap.size + 1) rfl 39 (arr 16 (d16 N)) (0, 0) _ HG.out Tryz.underlying39 rfl (info39 _) ?_
        go_simp
        go_big_quiet_on
        go_big_quiet_step (fail)
        go_big_quiet_step (fail)
        go_big_quiet_step (fail)
        go_big_quiet_step (fail)
        go_big_quiet_step (fail)
        go_big_quiet_step (fail)
        go_big_quiet_step (fail)
        go_big_quiet_step (fail)
        go_big_quiet_step (fail)
        go_big_quiet_step (fail)
        go_big_quiet_step ((exact keep_of (twice_any N _ _ ⟨HH.out.1, HH.out.2.1⟩ HH.out.2.2.1 HH.out.2.2.2)))
        refine wpQuiet_nil ?_
        intro t
        obtain ⟨R1, R2, O⟩ := KK.out
        replace R1 := R1.keep t.keep
        replace R2 := R2.keep t.keep
        replace O := O.trans (t.keep.mono O.size)
        clear KK HG hne eb ew
        generalize t.w = W8 at *
        have hX0 : 0 ≤ 2 * N + bt s (p / 8) / 16 % 2 := by have := HH.out; omega
        have hX1 : 2 * N + bt s (p / 8) / 16 % 2 < 2 * Lm := by have := HH.out; omega
        generalize 2 * N + bt s (p / 8) / 16 % 2 = X at *
        have RR := hide (R2.setAll (d16 X))
        have R1' := hide (R1.setOther (k := w.heap.size + 1) (by omega) 0 (arr 16 (d16 X)).toList)
        have O' := hide (below_setCells (g := w.heap.size + 1) (by omega) (arr 16 (d16 X)).toList 0 O)
        have HX := hide (And.intro hX0 hX1)
        clear R1 O hX0 hX1 HH
        go_wp2_with (refine wpList_store_mid rfl 39 _ _ rfl (w.heap.size + 1) 0 (arr 16 (d16 X)) rfl rfl ?th4 (info39 _) (arr_one _ _) ?_)
        case th4 => rw [arr_size]; exact R2.there
        try rw [show ∀ (a : Act) (v : Value), a.put none v = a from fun _ _ => rfl]
        have R1 := R1'.out
        replace R2 := RR.out
        have O := O'.out
        clear R1' RR O'
        generalize W8.setCells (w.heap.size + 1) 0 (arr 16 (d16 X)).toList = W9 at *
        have hL := L16
        have hSX : S (d16 X) 16 = X := dSL HX.out.1 (by have := HX.out; omega)
        have HSX := hide hSX
        clear hSX hL
        have hne := KW.some W9
        have hg : ∀ w', (∃ s : KW W9, w' = s.w) → w'.heap[w.heap.size + 1]? = some (.cells (arr 16 (d16 X)) 39 (0, 0)) := by
          rintro _ ⟨s, rfl⟩
          exact R2.keep s.keep
        have HG := hide hg
        have KK := hide (And.intro R1 (And.intro R2 O))
        clear hg R1 R2 O
        refine wp_region_keep (by kernel_rfl) (by kernel_rfl) ?_
        go_big_quiet_want
        refine quiet_load_row 39 _ rfl (w.heap.size + 1) rfl 39 (arr 16 (d16 X)) (0, 0) _ HG.out Tryz.underlying39 rfl (info39 _) ?_
        go_simp
        go_big_quiet_on
        go_big_quiet_step ((exact keep_of (order_any _)))
        go_big_quiet_step ((exact keep_of (less_any (d16 X) oF _ (d16_dig _ 16) oF_dig)))
        rw [HSX.out, oF_S]
        by_cases hlt2 : X < Lm
        · rw [decide_eq_true hlt2]
          go_big_quiet_step (fail)
          refine wpQuiet_nil ?_
          intro t
          obtain ⟨R1, R2, O⟩ := KK.out
          replace R1 := R1.keep t.keep
          replace R2 := R2.keep t.keep
          replace O := O.trans (t.keep.mono O.size)
          clear KK HG hne
          generalize t.w = W10 at *
          have HE := hide (HV.out.1 HX.out.1 hlt2)
          go_wp2
          go_roundw
          case rel => exact ⟨p, by omega, ⟨_, rfl, rfl⟩, R1, ⟨X, HE.out, HX.out.1, hlt2, R2⟩, O⟩
          case measure => simp [intOf]
        · rw [decide_eq_false hlt2]
          go_big_quiet_step (fail)
          refine wpQuiet_nil ?_
          intro t
          obtain ⟨R1, R2, O⟩ := KK.out
          replace R1 := R1.keep t.keep
          replace R2 := R2.keep t.keep
          replace O := O.trans (t.keep.mono O.size)
          clear KK HG hne
          generalize t.w = W10 at *
          have HE := hide (HV.out.2 HX.out.2 (by omega))
          have hm2 : arr 16 (minusF (d16 X) oF) = arr 16 (d16 (X - Lm)) := sub_val hlt2 HX.out.2
          have HM := hide hm2
          clear hm2
          go_wp2_with fail
          have hne := KW.some W10
          have hg : ∀ w', (∃ s : KW W10, w' = s.w) → w'.heap[w.heap.size + 1]? = some (.cells (arr 16 (d16 X)) 39 (0, 0)) := by
            rintro _ ⟨s, rfl⟩
            exact R2.keep s.keep
          have HG := hide hg
          have KK := hide (And.intro R1 (And.intro R2 O))
          clear hg R1 R2 O
          refine wp_region_keep_tail 3 (by kernel_rfl) (by kernel_rfl) ?_
          simp only [List.take_succ_cons, List.take_zero, List.drop_succ_cons, List.drop_zero]
          go_big_quiet_want
          refine quiet_load_row 39 _ rfl (w.heap.size + 1) rfl 39 (arr 16 (d16 X)) (0, 0) _ HG.out Tryz.underlying39 rfl (info39 _) ?_
          go_simp
          go_big_quiet_on
          go_big_quiet_step ((exact keep_of (order_any _)))
          go_big_quiet_step ((exact keep_of (rminus_any (d16 X) oF _ (d16_dig _ 16) oF_dig)))
          refine wpQuiet_nil ?_
          intro t2
          obtain ⟨R1, R2, O⟩ := KK.out
          replace R1 := R1.keep t2.keep
          replace R2 := R2.keep t2.keep
          replace O := O.trans (t2.keep.mono O.size)
          clear KK HG hne
          rw [HM.out]
          generalize t2.w = W11 at *
          have RR := hide (R2.setAll (d16 (X - Lm)))
          have R1' := hide (R1.setOther (k := w.heap.size + 1) (by omega) 0 (arr 16 (d16 (X - Lm))).toList)
          have O' := hide (below_setCells (g := w.heap.size + 1) (by omega) (arr 16 (d16 (X - Lm))).toList 0 O)
          clear R1 O
          go_wp2_with (refine wpList_store_mid rfl 39 _ _ rfl (w.heap.size + 1) 0 (arr 16 (d16 (X - Lm))) rfl rfl ?tm4 (info39 _) (arr_one _ _) ?_)
          case tm4 => rw [arr_size]; exact R2.there
          go_roundw
          case rel => exact ⟨p, by omega, ⟨_, rfl, rfl⟩, R1'.out, ⟨X - Lm, HE.out, by omega, by have := HX.out; omega, RR.out⟩, O'.out⟩
          case measure => simp [intOf]
      · have e : x = (p : Int) := by omega
        subst e
        subst hi
        have a1 : (0 : Int) ≤ (p : Int) / 8 := by omega
        have a2 : (p : Int) / 8 < (s.size : Int) := by omega
        have a3 : (p : Int) % 8 = 5 := by omega
        have a4 : p / 8 < s.size := by omega
        have a5 := bt_at s (p / 8) a4
        have a6 := bt_bd s (p / 8)
        have a7 : p % 8 = 5 := by omega
        have eb : bits BinOp.and IntKind.u8 (bt s (p / 8) / 32) 1 = bt s (p / 8) / 32 % 2 := and1u (by omega) (by omega)
        have ew : IntKind.u64.wrap (bt s (p / 8) / 32 % 2) = bt s (p / 8) / 32 % 2 := wrap64u ⟨by omega, by omega⟩
        have hbit : bit s p = bt s (p / 8) / 32 % 2 := by unfold bit; rw [a7]; rfl
        have HB := hide hbit
        have hb0 : 0 ≤ bt s (p / 8) / 32 % 2 := by omega
        have hb1 : bt s (p / 8) / 32 % 2 ≤ 1 := by omega
        have HV := hide (ov_next s n N hpn HB.out hN)
        have HH := hide (And.intro hN0 (And.intro hN1 (And.intro hb0 hb1)))
        clear n1 n2 hm hp hx hbit hN hN0 hN1 hb0 hb1
        have gl := R2.lt
        go_wp2_with fail
        have hne := KW.some wr
        have hg : ∀ w', (∃ s : KW wr, w' = s.w) → w'.heap[w.heap.size + 1]? = some (.cells (arr 16 (d16 N)) 39 (0, 0)) := by
          rintro _ ⟨s, rfl⟩
          exact R2.keep s.keep
        have HG := hide hg
        have KK := hide (And.intro R1 (And.intro R2 O))
        clear hg R1 R2 O
        refine wp_region_keep_tail 12 (by kernel_rfl) (by kernel_rfl) ?_
        simp only [List.take_succ_cons, List.take_zero, List.drop_succ_cons, List.drop_zero]
        go_big_quiet_want
        refine quiet_load_row 39 _ rfl (w.heap.size + 1) rfl 39 (arr 16 (d16 N)) (0, 0) _ HG.out Tryz.underlying39 rfl (info39 _) ?_
        go_simp
        go_big_quiet_on
        go_big_quiet_step (fail)
        go_big_quiet_step (fail)
        go_big_quiet_step (fail)
        go_big_quiet_step (fail)
        go_big_quiet_step (fail)
        go_big_quiet_step (fail)
        go_big_quiet_step (fail)
        go_big_quiet_step (fail)
        go_big_quiet_step (fail)
        go_big_quiet_step (fail)
        go_big_quiet_step ((exact keep_of (twice_any N _ _ ⟨HH.out.1, HH.out.2.1⟩ HH.out.2.2.1 HH.out.2.2.2)))
        refine wpQuiet_nil ?_
        intro t
        obtain ⟨R1, R2, O⟩ := KK.out
        replace R1 := R1.keep t.keep
        replace R2 := R2.keep t.keep
        replace O := O.trans (t.keep.mono O.size)
        clear KK HG hne eb ew
        generalize t.w = W8 at *
        have hX0 : 0 ≤ 2 * N + bt s (p / 8) / 32 % 2 := by have := HH.out; omega
        have hX1 : 2 * N + bt s (p / 8) / 32 % 2 < 2 * Lm := by have := HH.out; omega
        generalize 2 * N + bt s (p / 8) / 32 % 2 = X at *
        have RR := hide (R2.setAll (d16 X))
        have R1' := hide (R1.setOther (k := w.heap.size + 1) (by omega) 0 (arr 16 (d16 X)).toList)
        have O' := hide (below_setCells (g := w.heap.size + 1) (by omega) (arr 16 (d16 X)).toList 0 O)
        have HX := hide (And.intro hX0 hX1)
        clear R1 O hX0 hX1 HH
        go_wp2_with (refine wpList_store_mid rfl 39 _ _ rfl (w.heap.size + 1) 0 (arr 16 (d16 X)) rfl rfl ?th5 (info39 _) (arr_one _ _) ?_)
        case th5 => rw [arr_size]; exact R2.there
        try rw [show ∀ (a : Act) (v : Value), a.put none v = a from fun _ _ => rfl]
        have R1 := R1'.out
        replace R2 := RR.out
        have O := O'.out
        clear R1' RR O'
        generalize W8.setCells (w.heap.size + 1) 0 (arr 16 (d16 X)).toList = W9 at *
        have hL := L16
        have hSX : S (d16 X) 16 = X := dSL HX.out.1 (by have := HX.out; omega)
        have HSX := hide hSX
        clear hSX hL
        have hne := KW.some W9
        have hg : ∀ w', (∃ s : KW W9, w' = s.w) → w'.heap[w.heap.size + 1]? = some (.cells (arr 16 (d16 X)) 39 (0, 0)) := by
          rintro _ ⟨s, rfl⟩
          exact R2.keep s.keep
        have HG := hide hg
        have KK := hide (And.intro R1 (And.intro R2 O))
        clear hg R1 R2 O
        refine wp_region_keep (by kernel_rfl) (by kernel_rfl) ?_
        go_big_quiet_want
        refine quiet_load_row 39 _ rfl (w.heap.size + 1) rfl 39 (arr 16 (d16 X)) (0, 0) _ HG.out Tryz.underlying39 rfl (info39 _) ?_
        go_simp
        go_big_quiet_on
        go_big_quiet_step ((exact keep_of (order_any _)))
        go_big_quiet_step ((exact keep_of (less_any (d16 X) oF _ (d16_dig _ 16) oF_dig)))
        rw [HSX.out, oF_S]
        by_cases hlt2 : X < Lm
        · rw [decide_eq_true hlt2]
          go_big_quiet_step (fail)
          refine wpQuiet_nil ?_
          intro t
          obtain ⟨R1, R2, O⟩ := KK.out
          replace R1 := R1.keep t.keep
          replace R2 := R2.keep t.keep
          replace O := O.trans (t.keep.mono O.size)
          clear KK HG hne
          generalize t.w = W10 at *
          have HE := hide (HV.out.1 HX.out.1 hlt2)
          go_wp2
          go_roundw
          case rel => exact ⟨p, by omega, ⟨_, rfl, rfl⟩, R1, ⟨X, HE.out, HX.out.1, hlt2, R2⟩, O⟩
          case measure => simp [intOf]
        · rw [decide_eq_false hlt2]
          go_big_quiet_step (fail)
          refine wpQuiet_nil ?_
          intro t
          obtain ⟨R1, R2, O⟩ := KK.out
          replace R1 := R1.keep t.keep
          replace R2 := R2.keep t.keep
          replace O := O.trans (t.keep.mono O.size)
          clear KK HG hne
          generalize t.w = W10 at *
          have HE := hide (HV.out.2 HX.out.2 (by omega))
          have hm2 : arr 16 (minusF (d16 X) oF) = arr 16 (d16 (X - Lm)) := sub_val hlt2 HX.out.2
          have HM := hide hm2
          clear hm2
          go_wp2_with fail
          have hne := KW.some W10
          have hg : ∀ w', (∃ s : KW W10, w' = s.w) → w'.heap[w.heap.size + 1]? = some (.cells (arr 16 (d16 X)) 39 (0, 0)) := by
            rintro _ ⟨s, rfl⟩
            exact R2.keep s.keep
          have HG := hide hg
          have KK := hide (And.intro R1 (And.intro R2 O))
          clear hg R1 R2 O
          refine wp_region_keep_tail 3 (by kernel_rfl) (by kernel_rfl) ?_
          simp only [List.take_succ_cons, List.take_zero, List.drop_succ_cons, List.drop_zero]
          go_big_quiet_want
          refine quiet_load_row 39 _ rfl (w.heap.size + 1) rfl 39 (arr 16 (d16 X)) (0, 0) _ HG.out Tryz.underlying39 rfl (info39 _) ?_
          go_simp
          go_big_quiet_on
          go_big_quiet_step ((exact keep_of (order_any _)))
          go_big_quiet_step ((exact keep_of (rminus_any (d16 X) oF _ (d16_dig _ 16) oF_dig)))
          refine wpQuiet_nil ?_
          intro t2
          obtain ⟨R1, R2, O⟩ := KK.out
          replace R1 := R1.keep t2.keep
          replace R2 := R2.keep t2.keep
          replace O := O.trans (t2.keep.mono O.size)
          clear KK HG hne
          rw [HM.out]
          generalize t2.w = W11 at *
          have RR := hide (R2.setAll (d16 (X - Lm)))
          have R1' := hide (R1.setOther (k := w.heap.size + 1) (by omega) 0 (arr 16 (d16 (X - Lm))).toList)
          have O' := hide (below_setCells (g := w.heap.size + 1) (by omega) (arr 16 (d16 (X - Lm))).toList 0 O)
          clear R1 O
          go_wp2_with (refine wpList_store_mid rfl 39 _ _ rfl (w.heap.size + 1) 0 (arr 16 (d16 (X - Lm))) rfl rfl ?tm5 (info39 _) (arr_one _ _) ?_)
          case tm5 => rw [arr_size]; exact R2.there
          go_roundw
          case rel => exact ⟨p, by omega, ⟨_, rfl, rfl⟩, R1'.out, ⟨X - Lm, HE.out, by omega, by have := HX.out; omega, RR.out⟩, O'.out⟩
          case measure => simp [intOf]
      · have e : x = (p : Int) := by omega
        subst e
        subst hi
        have a1 : (0 : Int) ≤ (p : Int) / 8 := by omega
        have a2 : (p : Int) / 8 < (s.size : Int) := by omega
        have a3 : (p : Int) % 8 = 6 := by omega
        have a4 : p / 8 < s.size := by omega
        have a5 := bt_at s (p / 8) a4
        have a6 := bt_bd s (p / 8)
        have a7 : p % 8 = 6 := by omega
        have eb : bits BinOp.and IntKind.u8 (bt s (p / 8) / 64) 1 = bt s (p / 8) / 64 % 2 := and1u (by omega) (by omega)
        have ew : IntKind.u64.wrap (bt s (p / 8) / 64 % 2) = bt s (p / 8) / 64 % 2 := wrap64u ⟨by omega, by omega⟩
        have hbit : bit s p = bt s (p / 8) / 64 % 2 := by unfold bit; rw [a7]; rfl
        have HB := hide hbit
        have hb0 : 0 ≤ bt s (p / 8) / 64 % 2 := by omega
        have hb1 : bt s (p / 8) / 64 % 2 ≤ 1 := by omega
        have HV := hide (ov_next s n N hpn HB.out hN)
        have HH := hide (And.intro hN0 (And.intro hN1 (And.intro hb0 hb1)))
        clear n1 n2 hm hp hx hbit hN hN0 hN1 hb0 hb1
        have gl := R2.lt
        go_wp2_with fail
        have hne := KW.some wr
        have hg : ∀ w', (∃ s : KW wr, w' = s.w) → w'.heap[w.heap.size + 1]? = some (.cells (arr 16 (d16 N)) 39 (0, 0)) := by
          rintro _ ⟨s, rfl⟩
          exact R2.keep s.keep
        have HG := hide hg
        have KK := hide (And.intro R1 (And.intro R2 O))
        clear hg R1 R2 O
        refine wp_region_keep_tail 12 (by kernel_rfl) (by kernel_rfl) ?_
        simp only [List.take_succ_cons, List.take_zero, List.drop_succ_cons, List.drop_zero]
        go_big_quiet_want
        refine quiet_load_row 39 _ rfl (w.heap.size + 1) rfl 39 (arr 16 (d16 N)) (0, 0) _ HG.out Tryz.underlying39 rfl (info39 _) ?_
        go_simp
        go_big_quiet_on
        go_big_quiet_step (fail)
        go_big_quiet_step (fail)
        go_big_quiet_step (fail)
        go_big_quiet_step (fail)
        go_big_quiet_step (fail)
        go_big_quiet_step (fail)
        go_big_quiet_step (fail)
        go_big_quiet_step (fail)
        go_big_quiet_step (fail)
        go_big_quiet_step (fail)
        go_big_quiet_step ((exact keep_of (twice_any N _ _ ⟨HH.out.1, HH.out.2.1⟩ HH.out.2.2.1 HH.out.2.2.2)))
        refine wpQuiet_nil ?_
        intro t
        obtain ⟨R1, R2, O⟩ := KK.out
        replace R1 := R1.keep t.keep
        replace R2 := R2.keep t.keep
        replace O := O.trans (t.keep.mono O.size)
        clear KK HG hne eb ew
        generalize t.w = W8 at *
        have hX0 : 0 ≤ 2 * N + bt s (p / 8) / 64 % 2 := by have := HH.out; omega
        have hX1 : 2 * N + bt s (p / 8) / 64 % 2 < 2 * Lm := by have := HH.out; omega
        generalize 2 * N + bt s (p / 8) / 64 % 2 = X at *
        have RR := hide (R2.setAll (d16 X))
        have R1' := hide (R1.setOther (k := w.heap.size + 1) (by omega) 0 (arr 16 (d16 X)).toList)
        have O' := hide (below_setCells (g := w.heap.size + 1) (by omega) (arr 16 (d16 X)).toList 0 O)
        have HX := hide (And.intro hX0 hX1)
        clear R1 O hX0 hX1 HH
        go_wp2_with (refine wpList_store_mid rfl 39 _ _ rfl (w.heap.size + 1) 0 (arr 16 (d16 X)) rfl rfl ?th6 (info39 _) (arr_one _ _) ?_)
        case th6 => rw [arr_size]; exact R2.there
        try rw [show ∀ (a : Act) (v : Value), a.put none v = a from fun _ _ => rfl]
        have R1 := R1'.out
        replace R2 := RR.out
        have O := O'.out
        clear R1' RR O'
        generalize W8.setCells (w.heap.size + 1) 0 (arr 16 (d16 X)).toList = W9 at *
        have hL := L16
        have hSX : S (d16 X) 16 = X := dSL HX.out.1 (by have := HX.out; omega)
        have HSX := hide hSX
        clear hSX hL
        have hne := KW.some W9
        have hg : ∀ w', (∃ s : KW W9, w' = s.w) → w'.heap[w.heap.size + 1]? = some (.cells (arr 16 (d16 X)) 39 (0, 0)) := by
          rintro _ ⟨s, rfl⟩
          exact R2.keep s.keep
        have HG := hide hg
        have KK := hide (And.intro R1 (And.intro R2 O))
        clear hg R1 R2 O
        refine wp_region_keep (by kernel_rfl) (by kernel_rfl) ?_
        go_big_quiet_want
        refine quiet_load_row 39 _ rfl (w.heap.size + 1) rfl 39 (arr 16 (d16 X)) (0, 0) _ HG.out Tryz.underlying39 rfl (info39 _) ?_
        go_simp
        go_big_quiet_on
        go_big_quiet_step ((exact keep_of (order_any _)))
        go_big_quiet_step ((exact keep_of (less_any (d16 X) oF _ (d16_dig _ 16) oF_dig)))
        rw [HSX.out, oF_S]
        by_cases hlt2 : X < Lm
        · rw [decide_eq_true hlt2]
          go_big_quiet_step (fail)
          refine wpQuiet_nil ?_
          intro t
          obtain ⟨R1, R2, O⟩ := KK.out
          replace R1 := R1.keep t.keep
          replace R2 := R2.keep t.keep
          replace O := O.trans (t.keep.mono O.size)
          clear KK HG hne
          generalize t.w = W10 at *
          have HE := hide (HV.out.1 HX.out.1 hlt2)
          go_wp2
          go_roundw
          case rel => exact ⟨p, by omega, ⟨_, rfl, rfl⟩, R1, ⟨X, HE.out, HX.out.1, hlt2, R2⟩, O⟩
          case measure => simp [intOf]
        · rw [decide_eq_false hlt2]
          go_big_quiet_step (fail)
          refine wpQuiet_nil ?_
          intro t
          obtain ⟨R1, R2, O⟩ := KK.out
          replace R1 := R1.keep t.keep
          replace R2 := R2.keep t.keep
          replace O := O.trans (t.keep.mono O.size)
          clear KK HG hne
          generalize t.w = W10 at *
          have HE := hide (HV.out.2 HX.out.2 (by omega))
          have hm2 : arr 16 (minusF (d16 X) oF) = arr 16 (d16 (X - Lm)) := sub_val hlt2 HX.out.2
          have HM := hide hm2
          clear hm2
          go_wp2_with fail
          have hne := KW.some W10
          have hg : ∀ w', (∃ s : KW W10, w' = s.w) → w'.heap[w.heap.size + 1]? = some (.cells (arr 16 (d16 X)) 39 (0, 0)) := by
            rintro _ ⟨s, rfl⟩
            exact R2.keep s.keep
          have HG := hide hg
          have KK := hide (And.intro R1 (And.intro R2 O))
          clear hg R1 R2 O
          refine wp_region_keep_tail 3 (by kernel_rfl) (by kernel_rfl) ?_
          simp only [List.take_succ_cons, List.take_zero, List.drop_succ_cons, List.drop_zero]
          go_big_quiet_want
          refine quiet_load_row 39 _ rfl (w.heap.size + 1) rfl 39 (arr 16 (d16 X)) (0, 0) _ HG.out Tryz.underlying39 rfl (info39 _) ?_
          go_simp
          go_big_quiet_on
          go_big_quiet_step ((exact keep_of (order_any _)))
          go_big_quiet_step ((exact keep_of (rminus_any (d16 X) oF _ (d16_dig _ 16) oF_dig)))
          refine wpQuiet_nil ?_
          intro t2
          obtain ⟨R1, R2, O⟩ := KK.out
          replace R1 := R1.keep t2.keep
          replace R2 := R2.keep t2.keep
          replace O := O.trans (t2.keep.mono O.size)
          clear KK HG hne
          rw [HM.out]
          generalize t2.w = W11 at *
          have RR := hide (R2.setAll (d16 (X - Lm)))
          have R1' := hide (R1.setOther (k := w.heap.size + 1) (by omega) 0 (arr 16 (d16 (X - Lm))).toList)
          have O' := hide (below_setCells (g := w.heap.size + 1) (by omega) (arr 16 (d16 (X - Lm))).toList 0 O)
          clear R1 O
          go_wp2_with (refine wpList_store_mid rfl 39 _ _ rfl (w.heap.size + 1) 0 (arr 16 (d16 (X - Lm))) rfl rfl ?tm6 (info39 _) (arr_one _ _) ?_)
          case tm6 => rw [arr_size]; exact R2.there
          go_roundw
          case rel => exact ⟨p, by omega, ⟨_, rfl, rfl⟩, R1'.out, ⟨X - Lm, HE.out, by omega, by have := HX.out; omega, RR.out⟩, O'.out⟩
          case measure => simp [intOf]
      · have e : x = (p : Int) := by omega
        subst e
        subst hi
        have a1 : (0 : Int) ≤ (p : Int) / 8 := by omega
        have a2 : (p : Int) / 8 < (s.size : Int) := by omega
        have a3 : (p : Int) % 8 = 7 := by omega
        have a4 : p / 8 < s.size := by omega
        have a5 := bt_at s (p / 8) a4
        have a6 := bt_bd s (p / 8)
        have a7 : p % 8 = 7 := by omega
        have eb : bits BinOp.and IntKind.u8 (bt s (p / 8) / 128) 1 = bt s (p / 8) / 128 % 2 := and1u (by omega) (by omega)
        have ew : IntKind.u64.wrap (bt s (p / 8) / 128 % 2) = bt s (p / 8) / 128 % 2 := wrap64u ⟨by omega, by omega⟩
        have hbit : bit s p = bt s (p / 8) / 128 % 2 := by unfold bit; rw [a7]; rfl
        have HB := hide hbit
        have hb0 : 0 ≤ bt s (p / 8) / 128 % 2 := by omega
        have hb1 : bt s (p / 8) / 128 % 2 ≤ 1 := by omega
        have HV := hide (ov_next s n N hpn HB.out hN)
        have HH := hide (And.intro hN0 (And.intro hN1 (And.intro hb0 hb1)))
        clear n1 n2 hm hp hx hbit hN hN0 hN1 hb0 hb1
        have gl := R2.lt
        go_wp2_with fail
        have hne := KW.some wr
        have hg : ∀ w', (∃ s : KW wr, w' = s.w) → w'.heap[w.heap.size + 1]? = some (.cells (arr 16 (d16 N)) 39 (0, 0)) := by
          rintro _ ⟨s, rfl⟩
          exact R2.keep s.keep
        have HG := hide hg
        have KK := hide (And.intro R1 (And.intro R2 O))
        clear hg R1 R2 O
        refine wp_region_keep_tail 12 (by kernel_rfl) (by kernel_rfl) ?_
        simp only [List.take_succ_cons, List.take_zero, List.drop_succ_cons, List.drop_zero]
        go_big_quiet_want
        refine quiet_load_row 39 _ rfl (w.heap.size + 1) rfl 39 (arr 16 (d16 N)) (0, 0) _ HG.out Tryz.underlying39 rfl (info39 _) ?_
        go_simp
        go_big_quiet_on
        go_big_quiet_step (fail)
        go_big_quiet_step (fail)
        go_big_quiet_step (fail)
        go_big_quiet_step (fail)
        go_big_quiet_step (fail)
        go_big_quiet_step (fail)
        go_big_quiet_step (fail)
        go_big_quiet_step (fail)
        go_big_quiet_step (fail)
        go_big_quiet_step (fail)
        go_big_quiet_step ((exact keep_of (twice_any N _ _ ⟨HH.out.1, HH.out.2.1⟩ HH.out.2.2.1 HH.out.2.2.2)))
        refine wpQuiet_nil ?_
        intro t
        obtain ⟨R1, R2, O⟩ := KK.out
        replace R1 := R1.keep t.keep
        replace R2 := R2.keep t.keep
        replace O := O.trans (t.keep.mono O.size)
        clear KK HG hne eb ew
        generalize t.w = W8 at *
        have hX0 : 0 ≤ 2 * N + bt s (p / 8) / 128 % 2 := by have := HH.out; omega
        have hX1 : 2 * N + bt s (p / 8) / 128 % 2 < 2 * Lm := by have := HH.out; omega
        generalize 2 * N + bt s (p / 8) / 128 % 2 = X at *
        have RR := hide (R2.setAll (d16 X))
        have R1' := hide (R1.setOther (k := w.heap.size + 1) (by omega) 0 (arr 16 (d16 X)).toList)
        have O' := hide (below_setCells (g := w.heap.size + 1) (by omega) (arr 16 (d16 X)).toList 0 O)
        have HX := hide (And.intro hX0 hX1)
        clear R1 O hX0 hX1 HH
        go_wp2_with (refine wpList_store_mid rfl 39 _ _ rfl (w.heap.size + 1) 0 (arr 16 (d16 X)) rfl rfl ?th7 (info39 _) (arr_one _ _) ?_)
        case th7 => rw [arr_size]; exact R2.there
        try rw [show ∀ (a : Act) (v : Value), a.put none v = a from fun _ _ => rfl]
        have R1 := R1'.out
        replace R2 := RR.out
        have O := O'.out
        clear R1' RR O'
        generalize W8.setCells (w.heap.size + 1) 0 (arr 16 (d16 X)).toList = W9 at *
        have hL := L16
        have hSX : S (d16 X) 16 = X := dSL HX.out.1 (by have := HX.out; omega)
        have HSX := hide hSX
        clear hSX hL
        have hne := KW.some W9
        have hg : ∀ w', (∃ s : KW W9, w' = s.w) → w'.heap[w.heap.size + 1]? = some (.cells (arr 16 (d16 X)) 39 (0, 0)) := by
          rintro _ ⟨s, rfl⟩
          exact R2.keep s.keep
        have HG := hide hg
        have KK := hide (And.intro R1 (And.intro R2 O))
        clear hg R1 R2 O
        refine wp_region_keep (by kernel_rfl) (by kernel_rfl) ?_
        go_big_quiet_want
        refine quiet_load_row 39 _ rfl (w.heap.size + 1) rfl 39 (arr 16 (d16 X)) (0, 0) _ HG.out Tryz.underlying39 rfl (info39 _) ?_
        go_simp
        go_big_quiet_on
        go_big_quiet_step ((exact keep_of (order_any _)))
        go_big_quiet_step ((exact keep_of (less_any (d16 X) oF _ (d16_dig _ 16) oF_dig)))
        rw [HSX.out, oF_S]
        by_cases hlt2 : X < Lm
        · rw [decide_eq_true hlt2]
          go_big_quiet_step (fail)
          refine wpQuiet_nil ?_
          intro t
          obtain ⟨R1, R2, O⟩ := KK.out
          replace R1 := R1.keep t.keep
          replace R2 := R2.keep t.keep
          replace O := O.trans (t.keep.mono O.size)
          clear KK HG hne
          generalize t.w = W10 at *
          have HE := hide (HV.out.1 HX.out.1 hlt2)
          go_wp2
          go_roundw
          case rel => exact ⟨p, by omega, ⟨_, rfl, rfl⟩, R1, ⟨X, HE.out, HX.out.1, hlt2, R2⟩, O⟩
          case measure => simp [intOf]
        · rw [decide_eq_false hlt2]
          go_big_quiet_step (fail)
          refine wpQuiet_nil ?_
          intro t
          obtain ⟨R1, R2, O⟩ := KK.out
          replace R1 := R1.keep t.keep
          replace R2 := R2.keep t.keep
          replace O := O.trans (t.keep.mono O.size)
          clear KK HG hne
          generalize t.w = W10 at *
          have HE := hide (HV.out.2 HX.out.2 (by omega))
          have hm2 : arr 16 (minusF (d16 X) oF) = arr 16 (d16 (X - Lm)) := sub_val hlt2 HX.out.2
          have HM := hide hm2
          clear hm2
          go_wp2_with fail
          have hne := KW.some W10
          have hg : ∀ w', (∃ s : KW W10, w' = s.w) → w'.heap[w.heap.size + 1]? = some (.cells (arr 16 (d16 X)) 39 (0, 0)) := by
            rintro _ ⟨s, rfl⟩
            exact R2.keep s.keep
          have HG := hide hg
          have KK := hide (And.intro R1 (And.intro R2 O))
          clear hg R1 R2 O
          refine wp_region_keep_tail 3 (by kernel_rfl) (by kernel_rfl) ?_
          simp only [List.take_succ_cons, List.take_zero, List.drop_succ_cons, List.drop_zero]
          go_big_quiet_want
          refine quiet_load_row 39 _ rfl (w.heap.size + 1) rfl 39 (arr 16 (d16 X)) (0, 0) _ HG.out Tryz.underlying39 rfl (info39 _) ?_
          go_simp
          go_big_quiet_on
          go_big_quiet_step ((exact keep_of (order_any _)))
          go_big_quiet_step ((exact keep_of (rminus_any (d16 X) oF _ (d16_dig _ 16) oF_dig)))
          refine wpQuiet_nil ?_
          intro t2
          obtain ⟨R1, R2, O⟩ := KK.out
          replace R1 := R1.keep t2.keep
          replace R2 := R2.keep t2.keep
          replace O := O.trans (t2.keep.mono O.size)
          clear KK HG hne
          rw [HM.out]
          generalize t2.w = W11 at *
          have RR := hide (R2.setAll (d16 (X - Lm)))
          have R1' := hide (R1.setOther (k := w.heap.size + 1) (by omega) 0 (arr 16 (d16 (X - Lm))).toList)
          have O' := hide (below_setCells (g := w.heap.size + 1) (by omega) (arr 16 (d16 (X - Lm))).toList 0 O)
          clear R1 O
          go_wp2_with (refine wpList_store_mid rfl 39 _ _ rfl (w.heap.size + 1) 0 (arr 16 (d16 (X - Lm))) rfl rfl ?tm7 (info39 _) (arr_one _ _) ?_)
          case tm7 => rw [arr_size]; exact R2.there
          go_roundw
          case rel => exact ⟨p, by omega, ⟨_, rfl, rfl⟩, R1'.out, ⟨X - Lm, HE.out, by omega, by have := HX.out; omega, RR.out⟩, O'.out⟩
          case measure => simp [intOf]

end Go.Proofs.YtkeocdebfgcnnaaGreat.Ord

/- Bytes and their number: what the document's Of makes of them is that number modulo the order. -/
namespace Go.Proofs.YtkeocdebfgcnnaaGreat.Ord
open Go.RowKit

/-- The number of the first k bytes. -/
def bv (s : ByteArray) : Nat → Int
  | 0 => 0
  | k + 1 => bv s k + bt s k * 256 ^ k

theorem p8 (n : Nat) : (0 : Int) < 256 ^ n := Int.pow_pos (by decide)
theorem p8s (n : Nat) : (256 : Int) ^ (n + 1) = 256 * 256 ^ n := by rw [Int.pow_succ, Int.mul_comm]

theorem bv_bd (s : ByteArray) : ∀ k, 0 ≤ bv s k ∧ bv s k < 256 ^ k
  | 0 => by simp [bv]
  | k + 1 => by
    have ih := bv_bd s k
    have hb := bt_bd s k
    have hp := p8 k
    have h1 : bt s k * 256 ^ k ≤ 255 * 256 ^ k := Int.mul_le_mul_of_nonneg_right (by omega) (by omega)
    have h2 : 0 ≤ bt s k * 256 ^ k := Int.mul_nonneg hb.1 (by omega)
    rw [p8s]
    simp only [bv]
    omega

theorem bv_split (s : ByteArray) (j : Nat) : ∀ k, ∃ q : Int, bv s (j + 1 + k) = bv s j + 256 ^ j * (bt s j + 256 * q)
  | 0 => ⟨0, by show bv s j + bt s j * 256 ^ j = _; rw [Int.mul_zero, Int.add_zero, Int.mul_comm]⟩
  | k + 1 => by
    obtain ⟨q, hq⟩ := bv_split s j k
    refine ⟨q + bt s (j + 1 + k) * 256 ^ k, ?_⟩
    show bv s (j + 1 + k) + bt s (j + 1 + k) * 256 ^ (j + 1 + k) = _
    rw [hq, Int.pow_add, Int.pow_succ, Int.mul_add 256 q, ← Int.add_assoc (bt s j), Int.mul_add (256 ^ j) (bt s j + 256 * q), ← Int.add_assoc]
    congr 1
    generalize (256 : Int) ^ j = X
    generalize (256 : Int) ^ k = Y
    rw [Int.mul_comm (bt s (j + 1 + k)), Int.mul_assoc X 256 Y, Int.mul_assoc X, Int.mul_assoc 256 Y, Int.mul_comm Y]

theorem bv_at (s : ByteArray) {j m : Nat} (h : j < m) : bv s m / 256 ^ j % 256 = bt s j := by
  obtain ⟨q, hq⟩ := bv_split s j (m - (j + 1))
  rw [show j + 1 + (m - (j + 1)) = m by omega] at hq
  have hp := p8 j
  have hb := bv_bd s j
  have ht := bt_bd s j
  rw [hq, Int.add_mul_ediv_left _ _ (by omega), Int.ediv_eq_zero_of_lt hb.1 hb.2]
  omega

theorem bit_at (s : ByteArray) {p m : Nat} (h : p < 8 * m) : bit s p = bv s m / 2 ^ p % 2 := by
  have e : (2 : Int) ^ p = 256 ^ (p / 8) * 2 ^ (p % 8) := by
    have e1 : (256 : Int) ^ (p / 8) = 2 ^ (8 * (p / 8)) := by rw [Int.pow_mul]; rfl
    rw [e1, ← Int.pow_add]
    congr 1
    omega
  have hj : bv s m / 256 ^ (p / 8) % 256 = bt s (p / 8) := bv_at s (by omega)
  have hp := p8 (p / 8)
  unfold bit
  rw [e, ← Int.ediv_ediv_of_nonneg (by omega), ← hj]
  generalize bv s m / 256 ^ (p / 8) = A
  have h8 : p % 8 < 8 := by omega
  generalize p % 8 = r at *
  rcases (show r = 0 ∨ r = 1 ∨ r = 2 ∨ r = 3 ∨ r = 4 ∨ r = 5 ∨ r = 6 ∨ r = 7 by omega) with rfl | rfl | rfl | rfl | rfl | rfl | rfl | rfl
  · simp only [Int.pow_zero]; omega
  · simp only [show (2 : Int) ^ 1 = 2 from by decide]; omega
  · simp only [show (2 : Int) ^ 2 = 4 from by decide]; omega
  · simp only [show (2 : Int) ^ 3 = 8 from by decide]; omega
  · simp only [show (2 : Int) ^ 4 = 16 from by decide]; omega
  · simp only [show (2 : Int) ^ 5 = 32 from by decide]; omega
  · simp only [show (2 : Int) ^ 6 = 64 from by decide]; omega
  · simp only [show (2 : Int) ^ 7 = 128 from by decide]; omega

theorem ov_val (s : ByteArray) (m : Nat) : ∀ k, k ≤ 8 * m → ov s (8 * m) k = bv s m / 2 ^ (8 * m - k) % Lm
  | 0, _ => by
    have hb := bv_bd s m
    have e : (256 : Int) ^ m = 2 ^ (8 * m) := by rw [Int.pow_mul]; rfl
    rw [Nat.sub_zero, ← e, Int.ediv_eq_zero_of_lt hb.1 hb.2]
    rfl
  | k + 1, h => by
    have ih := ov_val s m k (by omega)
    show (2 * ov s (8 * m) k + bit s (8 * m - 1 - k)) % Lm = _
    have hb := bit_at s (p := 8 * m - 1 - k) (m := m) (by omega)
    have e2 : 8 * m - k = (8 * m - 1 - k) + 1 := by omega
    have e3 : 8 * m - (k + 1) = 8 * m - 1 - k := by omega
    have hp : (0 : Int) < 2 ^ (8 * m - 1 - k) := Int.pow_pos (by decide)
    rw [ih, hb, e2, e3, Int.pow_succ, ← Int.ediv_ediv_of_nonneg (by omega)]
    generalize bv s m / 2 ^ (8 * m - 1 - k) = A
    rw [Int.add_emod, Int.mul_emod, Int.emod_emod_of_dvd _ (Int.dvd_refl _), ← Int.mul_emod, ← Int.add_emod]
    congr 1
    omega

theorem ov_all (s : ByteArray) (m n : Nat) (hn : n = 8 * m) : ov s n n = bv s m % Lm := by
  subst hn
  rw [ov_val s m _ (Nat.le_refl _), Nat.sub_self, Int.pow_zero, Int.ediv_one]

theorem bt_out (s : ByteArray) (i : Nat) (h : s.size ≤ i) : bt s i = 0 := by
  unfold bt
  have h' : s.data.size ≤ i := h
  rw [Array.getElem?_eq_none h']
  rfl

theorem bv_out (s : ByteArray) : ∀ k, bv s (s.size + k) = bv s s.size
  | 0 => rfl
  | k + 1 => by
    show bv s (s.size + k) + bt s (s.size + k) * 256 ^ (s.size + k) = _
    rw [bt_out s _ (by omega), bv_out s k]
    omega

theorem bv_64 (s : ByteArray) (h : s.size ≤ 64) : bv s 64 = bv s s.size := by
  have := bv_out s (64 - s.size)
  rwa [show s.size + (64 - s.size) = 64 by omega] at this

theorem sw_bv (s : ByteArray) (j : Nat) : ∀ r, bv s (8 * j + r) = bv s (8 * j) + 256 ^ (8 * j) * sw s j r
  | 0 => by simp [sw]
  | r + 1 => by
    have ih := sw_bv s j r
    show bv s (8 * j + r) + bt s (8 * j + r) * 256 ^ (8 * j + r) = bv s (8 * j) + 256 ^ (8 * j) * (sw s j r + bt s (8 * j + r) * 256 ^ r)
    rw [ih, Int.pow_add, Int.mul_add, ← Int.add_assoc]
    congr 1
    rw [Int.mul_left_comm]

theorem Q_bv (s : ByteArray) : ∀ n, Q (fun j => sw s j 8) n = bv s (8 * n)
  | 0 => rfl
  | n + 1 => by
    have ih := Q_bv s n
    have e := sw_bv s n 8
    have e2 : (256 : Int) ^ (8 * n) = 18446744073709551616 ^ n := by rw [Int.pow_mul]; rfl
    rw [show 8 * (n + 1) = 8 * n + 8 by omega, e, e2]
    simp only [Q]
    rw [ih, Int.mul_comm]

theorem sw_wds (s : ByteArray) (n : Nat) : Wds (fun j => sw s j 8) n := fun j _ => by
  have := sw_bd s j 8
  have e : (256 : Int) ^ 8 = 18446744073709551616 := by decide
  rw [e] at this
  exact this

/-- The n bytes of a number. -/
def le (N : Int) (n : Nat) : List Int := (List.range n).map fun i => N / 256 ^ i % 256

theorem le_get (N : Int) {n i : Nat} (h : i < n) : (le N n)[i]? = some (N / 256 ^ i % 256) := by simp [le, h]

theorem bs_size (l : List Int) : (bs l).size = l.length := by simp [bs, ByteArray.size]
theorem bt_bs (l : List Int) (i : Nat) (x : Int) (hl : l[i]? = some x) (h0 : 0 ≤ x) (h1 : x < 256) : bt (bs l) i = x := by
  unfold bt bs
  simp only [List.getElem?_toArray, List.getElem?_map, hl, Option.map_some, Option.getD_some]
  simp only [UInt8.toNat_ofNat']
  omega

theorem bt_le (N : Int) {n i : Nat} (h : i < n) : bt (bs (le N n)) i = N / 256 ^ i % 256 := bt_bs _ _ _ (le_get N h) (by omega) (by omega)

theorem bv_le (N : Int) (h0 : 0 ≤ N) (n : Nat) : ∀ k, k ≤ n → bv (bs (le N n)) k = N % 256 ^ k
  | 0, _ => by simp [bv, Int.emod_one]
  | k + 1, h => by
    have ih := bv_le N h0 n k (by omega)
    have hp := p8 k
    show bv (bs (le N n)) k + bt (bs (le N n)) k * 256 ^ k = _
    rw [ih, bt_le N (by omega), Int.pow_succ]
    have e1 := Int.emod_add_mul_ediv N (256 ^ k)
    rw [Int.emod_def N (256 ^ k * 256), ← Int.ediv_ediv_of_nonneg (by omega)]
    generalize N / 256 ^ k = A at *
    have e3 : A % 256 * 256 ^ k = A * 256 ^ k - 256 * (A / 256) * 256 ^ k := by
      rw [← Int.sub_mul]
      congr 1
      omega
    rw [e3]
    generalize A / 256 = B at *
    generalize (256 : Int) ^ k = X at *
    rw [Int.mul_comm A X, show 256 * B * X = X * 256 * B by rw [Int.mul_comm (256 * B) X, ← Int.mul_assoc]]
    omega

end Go.Proofs.YtkeocdebfgcnnaaGreat.Ord


/- The product of two numbers of 16 digits, row by row. -/
namespace Go.Proofs.YtkeocdebfgcnnaaGreat.Ord
open Go.RowKit

/-- Of row i the first k products. -/
def rw1 (a b : Nat → Int) (i k : Nat) : Nat → Int := fun j => if i ≤ j ∧ j < i + k then a i * b (j - i) else 0
/-- The first i rows. -/
def mp (a b : Nat → Int) : Nat → Nat → Int
  | 0, _ => 0
  | i + 1, j => mp a b i j + rw1 a b i 16 j
/-- i rows, and of the next one k products. -/
def mq (a b : Nat → Int) (i k : Nat) : Nat → Int := fun j => mp a b i j + rw1 a b i k j

theorem S_add' (f g : Nat → Int) : ∀ n, S (fun i => f i + g i) n = S f n + S g n
  | 0 => rfl
  | n + 1 => by
    have ih := S_add' f g n
    simp only [S]
    rw [ih, Int.add_mul]
    omega

theorem S_one (m : Nat) (v : Int) : ∀ n, S (fun j => if j = m then v else 0) n = if m < n then v * 65536 ^ m else 0
  | 0 => by simp [S]
  | n + 1 => by
    have ih := S_one m v n
    simp only [S]
    rw [ih]
    by_cases h1 : m < n
    · rw [if_pos h1, if_neg (show ¬ n = m by omega), if_pos (show m < n + 1 by omega)]
      simp
    · rw [if_neg h1]
      by_cases h2 : n = m
      · subst h2
        rw [if_pos rfl, if_pos (by omega)]
        simp
      · rw [if_neg h2, if_neg (show ¬ m < n + 1 by omega)]
        simp

theorem rw1_next (a b : Nat → Int) (i k j : Nat) : rw1 a b i (k + 1) j = rw1 a b i k j + if j = i + k then a i * b k else 0 := by
  unfold rw1
  by_cases h1 : j = i + k
  · subst h1
    rw [if_pos (by omega), if_neg (by omega), if_pos rfl, show i + k - i = k by omega]
    omega
  · rw [if_neg h1]
    by_cases h2 : i ≤ j ∧ j < i + k
    · rw [if_pos h2, if_pos (by omega)]
      omega
    · rw [if_neg h2, if_neg (by omega)]
      omega

theorem rw1_S (a b : Nat → Int) (i : Nat) : ∀ k, i + k ≤ 32 → S (rw1 a b i k) 32 = a i * 65536 ^ i * S b k
  | 0, _ => by
    rw [S_congr (g := fun _ => 0) fun j _ => by unfold rw1; rw [if_neg (by omega)], S_zero]
    simp [S]
  | k + 1, h => by
    have ih := rw1_S a b i k (by omega)
    rw [S_congr fun j _ => rw1_next a b i k j, S_add', ih, S_one, if_pos (by omega)]
    simp only [S]
    rw [Int.pow_add, Int.mul_add]
    congr 1
    rw [Int.mul_assoc, Int.mul_assoc, Int.mul_left_comm (65536 ^ i)]

theorem mp_S (a b : Nat → Int) : ∀ i, i ≤ 16 → S (mp a b i) 32 = S a i * S b 16
  | 0, _ => by
    show S (fun _ => 0) 32 = _
    rw [S_zero]
    simp [S]
  | i + 1, h => by
    have ih := mp_S a b i (by omega)
    have e : S (mp a b (i + 1)) 32 = S (fun j => mp a b i j + rw1 a b i 16 j) 32 := rfl
    rw [e, S_add', ih, rw1_S a b i 16 (by omega)]
    simp only [S]
    rw [Int.add_mul]

theorem dmul {x y : Int} (hx : 0 ≤ x ∧ x < 65536) (hy : 0 ≤ y ∧ y < 65536) : 0 ≤ x * y ∧ x * y ≤ 4294836225 := by
  refine ⟨Int.mul_nonneg hx.1 hy.1, ?_⟩
  have h1 : x * y ≤ 65535 * y := Int.mul_le_mul_of_nonneg_right (by omega) hy.1
  omega

theorem rw1_bd {a b : Nat → Int} (ha : Dig a 16) (hb : Dig b 16) {i k : Nat} (hi : i < 16) (hk : k ≤ 16) (j : Nat) : 0 ≤ rw1 a b i k j ∧ rw1 a b i k j ≤ 4294836225 := by
  unfold rw1
  by_cases h : i ≤ j ∧ j < i + k
  · rw [if_pos h]
    exact dmul (ha i hi) (hb (j - i) (by omega))
  · rw [if_neg h]
    omega

theorem mp_bd {a b : Nat → Int} (ha : Dig a 16) (hb : Dig b 16) (j : Nat) : ∀ i, i ≤ 16 → 0 ≤ mp a b i j ∧ mp a b i j ≤ 4294836225 * i
  | 0, _ => by simp [mp]
  | i + 1, h => by
    have ih := mp_bd ha hb j i (by omega)
    have h2 := rw1_bd ha hb (i := i) (k := 16) (by omega) (by omega) j
    simp only [mp]
    omega

theorem mp_48 {a b : Nat → Int} (ha : Dig a 16) (hb : Dig b 16) : B48 (mp a b 16) := ⟨fun j _ => by
  have := mp_bd ha hb j 16 (by omega)
  omega⟩

theorem mq_zero (a b : Nat → Int) (i j : Nat) : mq a b i 0 j = mp a b i j := by
  unfold mq rw1
  rw [if_neg (by omega)]
  omega
theorem mq_at (a b : Nat → Int) (i k : Nat) : mq a b i k (i + k) = mp a b i (i + k) := by
  unfold mq rw1
  rw [if_neg (by omega)]
  omega
theorem mq_next (a b : Nat → Int) (i k j : Nat) : upd (mq a b i k) (i + k) (mp a b i (i + k) + a i * b k) j = mq a b i (k + 1) j := by
  unfold upd
  by_cases h : j = i + k
  · subst h
    rw [if_pos rfl]
    unfold mq
    rw [rw1_next, if_pos rfl]
    unfold rw1
    rw [if_neg (by omega)]
    omega
  · rw [if_neg h]
    unfold mq
    rw [rw1_next, if_neg h]
    omega

end Go.Proofs.YtkeocdebfgcnnaaGreat.Ord


/- Bytes of a string in memory of their own; the contract of doubleOf. -/
namespace Go.Proofs.YtkeocdebfgcnnaaGreat.Ord
open Go.RowKit

/-- Block g holds the bytes f 0 .. f (n - 1), and may be written. -/
structure BC (W : World) (g : Nat) (f : Nat → Int) (n : Nat) : Prop where
  lt : g < W.heap.size
  c : ∀ i, i < n → W.cell? ⟨g, i, none⟩ = some (.int .u8 (f i))
  fz : ∀ i, i < n → W.frozen? ⟨g, i, none⟩ = false

theorem BC.keep {W W' : World} {g n : Nat} {f : Nat → Int} (h : BC W g f n) (hb : Below W.heap.size W W') : BC W' g f n where
  lt := Nat.lt_of_lt_of_le h.lt hb.size
  c := fun i hi => by
    rw [← h.c i hi]
    unfold World.cell?
    rw [hb.block g h.lt]
  fz := fun i hi => by
    rw [← h.fz i hi]
    unfold World.frozen?
    rw [hb.block g h.lt]

theorem BC.alloc {W : World} {g n : Nat} {f : Nat → Int} (h : BC W g f n) (o : Obj) : BC (W.alloc o) g f n := h.keep (new_below W o)

theorem heap_setCell_size (W : World) (a : Addr) (v : Value) : (W.setCell a v).heap.size = W.heap.size := by
  simp

theorem BC.set {W : World} {g n : Nat} {f : Nat → Int} (h : BC W g f n) {k : Nat} (hk : k < n) (v : Int) : BC (W.setCell ⟨g, k, none⟩ (.int .u8 v)) g (upd f k v) n where
  lt := by rw [heap_setCell_size]; exact h.lt
  c := fun i hi => by
    by_cases e : i = k
    · subst e
      rw [World.cell?_setCell_same _ _ _ (h.c i hk)]
      simp [upd]
    · rw [World.cell?_setCell_other _ _ _ _ (by simp <;> omega), h.c i hi]
      simp [upd, e]
  fz := fun i hi => by
    rw [World.frozen?_setCell]
    exact h.fz i hi

theorem BC.other {W : World} {g n : Nat} {f : Nat → Int} (h : BC W g f n) {a : Addr} (ha : g ≠ a.block) (v : Value) : BC (W.setCell a v) g f n where
  lt := by rw [heap_setCell_size]; exact h.lt
  c := fun i hi => by
    rw [World.cell?_setCell_other _ _ _ _ (by intro e; rw [e] at ha; exact ha rfl), h.c i hi]
  fz := fun i hi => by
    rw [World.frozen?_setCell]
    exact h.fz i hi

theorem BC.drew {W : World} {g n : Nat} {f : Nat → Int} (h : BC W g f n) : BC W.drew g f n := ⟨h.lt, h.c, h.fz⟩
theorem BC.congr {W : World} {g n : Nat} {f f' : Nat → Int} (h : BC W g f n) (e : ∀ i, i < n → f i = f' i) : BC W g f' n := ⟨h.lt, fun i hi => by rw [h.c i hi, e i hi], h.fz⟩

theorem row_frozen (w : World) (g j : Nat) (cs : Array Value) (t : TypeId) (hg : w.heap[g]? = some (.cells cs t (cs.size, cs.size + 1))) (hj : j < cs.size) : w.frozen? ⟨g, j, none⟩ = false := by
  unfold World.frozen?
  rw [hg]
  simp
  omega

/-- A string's bytes in memory of their own. -/
theorem conv_str (W : World) (s : ByteArray) : ∃ (cap : Nat) (W1 : World), (convert 9 70 (.string s)).run Tryz.prog W = .ok (.slice (some ⟨W.heap.size, 0, none⟩) s.size cap) W1 ∧ BC W1 W.heap.size (bt s) s.size ∧ Below W.heap.size W W1 := by
  have h := run_bytes_of_string (P := Tryz.prog) W 9 70 5 s Tryz.underlying9 Tryz.underlying70 Tryz.underlying5
  generalize grownCap W s.size 0 5 = cap at h
  refine ⟨cap, _, h, ?_, ((Below.refl _ _).drew).alloc (Nat.le_refl _) _⟩
  have hg : (W.drew.alloc (.cells (bytesRow s cap) 5 ((bytesRow s cap).size, (bytesRow s cap).size + 1))).heap[W.heap.size]? = some (.cells (bytesRow s cap) 5 ((bytesRow s cap).size, (bytesRow s cap).size + 1)) := heap_alloc_new W.drew _
  have hsz : s.size ≤ (bytesRow s cap).size := by
    simp [bytesRow]
  refine ⟨by simp, fun i hi => ?_, fun i hi => row_frozen _ _ _ _ _ hg (by omega)⟩
  rw [cell_of_row _ _ _ _ _ _ hg]
  have hi' : i < s.data.size := hi
  unfold bytesRow bt
  rw [Array.getElem?_append_left (by simpa using hi'), Array.getElem?_map, Array.getElem?_eq_getElem hi']
  rfl

set_option maxRecDepth 100000 in
/-- Bytes in memory as a string. -/
theorem conv_back {W : World} {g n : Nat} {f : Nat → Int} (h : BC W g f n) (cap : Nat) (hf : ∀ i, i < n → 0 ≤ f i ∧ f i < 256) :
    (convert 70 9 (.slice (some ⟨g, 0, none⟩) n cap)).run Tryz.prog W = .ok (.string (bs ((List.range n).map f))) W := by
  have hl : ((List.range n).map fun i => UInt8.ofNat (f i).toNat).length = n := by simp
  have h2 := run_convert_bytes_back (P := Tryz.prog) W 70 9 5 ⟨g, 0, none⟩ cap ((List.range n).map fun i => UInt8.ofNat (f i).toNat) Tryz.underlying70 Tryz.underlying5 Tryz.underlying9 (fun j hj => by
    rw [hl] at hj
    have hadd : (⟨g, 0, none⟩ : Addr).add j = ⟨g, j, none⟩ := by unfold Addr.add; split <;> simp_all
    rw [hadd, h.c j hj]
    have := hf j hj
    simp
    omega)
  rw [hl] at h2
  rw [h2]
  unfold bs
  congr 3
  simp [List.map_map]

/-- Of the words the first k bytes. -/
def swk (s : ByteArray) (k : Nat) : Nat → Int := fun j => sw s j (min (k - 8 * j) 8)

theorem swk_at (s : ByteArray) (k : Nat) : swk s k (k / 8) = sw s (k / 8) (k % 8) := by
  unfold swk
  congr 1
  omega

theorem swk_next (s : ByteArray) (k : Nat) (i : Nat) : upd (swk s k) (k / 8) (sw s (k / 8) (k % 8 + 1)) i = swk s (k + 1) i := by
  unfold upd swk
  by_cases h : i = k / 8
  · subst h
    rw [if_pos rfl]
    congr 1
    omega
  · rw [if_neg h]
    congr 1
    omega

theorem sw_stop (s : ByteArray) (j r : Nat) (h : s.size ≤ 8 * j + r) : ∀ d, sw s j (r + d) = sw s j r
  | 0 => rfl
  | d + 1 => by
    show sw s j (r + d) + bt s (8 * j + (r + d)) * 256 ^ (r + d) = _
    rw [bt_out s _ (by omega), sw_stop s j r h d]
    omega

theorem swk_end (s : ByteArray) (j : Nat) : swk s s.size j = sw s j 8 := by
  unfold swk
  by_cases h : s.size ≤ 8 * j + 8
  · have e := sw_stop s j (min (s.size - 8 * j) 8) (by omega) (8 - min (s.size - 8 * j) 8)
    rw [← e]
    congr 1
    omega
  · congr 1
    omega

set_option maxRecDepth 100000 in
set_option maxHeartbeats 4000000 in
theorem dbl_any (s : ByteArray) (g cap : Nat) (w : World) (hs : s.size ≤ 64) (hB : BC w g (bt s) s.size) :
    Calls Tryz.prog 31 #[.slice (some ⟨g, 0, none⟩) s.size cap] w fun r w' => r = .returned (.agg (arr 8 fun j => sw s j 8)) ∧ Below w.heap.size w w' := by
  have hgl := hB.lt
  go_enter Tryz.func31, Tryz.ntmps31
  go_wp2
  rw [show #[Value.int IntKind.u64 0, Value.int IntKind.u64 0, Value.int IntKind.u64 0, Value.int IntKind.u64 0, Value.int IntKind.u64 0, Value.int IntKind.u64 0, Value.int IntKind.u64 0, Value.int IntKind.u64 0] = arr 8 (fun _ => 0) from rfl]
  have R1 : Row ((w.alloc (.cells (arr 8 fun _ => 0) 68)).alloc (.cells (arr 8 fun _ => 0) 68)) w.heap.size 68 8 (fun _ => 0) := (Row.new w 68 8 _).alloc _
  have R2 : Row ((w.alloc (.cells (arr 8 fun _ => 0) 68)).alloc (.cells (arr 8 fun _ => 0) 68)) (w.heap.size + 1) 68 8 (fun _ => 0) := Row.new' _ 68 8 _ (by simp)
  have B : BC ((w.alloc (.cells (arr 8 fun _ => 0) 68)).alloc (.cells (arr 8 fun _ => 0) 68)) g (bt s) s.size := (hB.alloc _).alloc _
  have O : Below w.heap.size w ((w.alloc (.cells (arr 8 fun _ => 0) 68)).alloc (.cells (arr 8 fun _ => 0) 68)) := ((Below.refl _ _).alloc (Nat.le_refl _) _).alloc (by simp) _
  generalize (w.alloc (.cells (arr 8 fun _ => 0) 68)).alloc (.cells (arr 8 fun _ => 0) 68) = W at R1 R2 B O ⊢
  clear hB
  go_loopw [8] (fun x wr => ∃ k : Nat, k ≤ s.size ∧ x = .int .i64 k ∧ Row wr w.heap.size 68 8 (fun _ => 0) ∧ Row wr (w.heap.size + 1) 68 8 (swk s k) ∧ BC wr g (bt s) s.size ∧ Below w.heap.size w wr) (fun x _ => s.size - (intOf x).toNat)
  case atStart => exact ⟨0, by omega, rfl, R1, R2.congr (fun i _ => by unfold swk; rw [show min (0 - 8 * i) 8 = 0 by omega]; rfl), B, O⟩
  case round =>
    clear R1 R2 B O
    obtain ⟨k, hk, rfl, R1, R2, B, O⟩ := hrel
    by_cases hlt : k < s.size
    · have c := B.c k hlt
      have d := R2.cell (i := k / 8) (by omega)
      have e := R2.free (k / 8)
      have b0 := bt_bd s k
      obtain ⟨b0, b1⟩ := b0
      have i1 : (0 : Int) ≤ (k : Int) := by omega
      have i2 : (k : Int) < (s.size : Int) := by omega
      have i3 : (0 : Int) ≤ (k : Int) / 8 := by omega
      have i4 : (k : Int) / 8 < 8 := by omega
      have i5 : ((k : Int) / 8).toNat = k / 8 := by omega
      rcases (show k % 8 = 0 ∨ k % 8 = 1 ∨ k % 8 = 2 ∨ k % 8 = 3 ∨ k % 8 = 4 ∨ k % 8 = 5 ∨ k % 8 = 6 ∨ k % 8 = 7 by omega) with h8 | h8 | h8 | h8 | h8 | h8 | h8 | h8
      · have a3 : (k : Int) % 8 = 0 := by omega
        have hor : bits BinOp.or IntKind.u64 (swk s k (k / 8)) (bt s k * 1) = sw s (k / 8) 1 := by
          rw [swk_at, h8]
          simp only [Int.mul_one]
          exact swor0 s (k / 8) k (by omega)
        rw [Int.mul_one] at hor
        have RR := hide (R2.set (k / 8) (sw s (k / 8) 1))
        have R1' := hide (R1.other (a := ⟨w.heap.size + 1, k / 8, none⟩) (by simp) (.int .u64 (sw s (k / 8) 1)))
        have B' := hide (B.other (a := ⟨w.heap.size + 1, k / 8, none⟩) (by simp; omega) (.int .u64 (sw s (k / 8) 1)))
        have O' := hide (O.setCell (p := ⟨w.heap.size + 1, k / 8, none⟩) (by simp) (.int .u64 (sw s (k / 8) 1)))
        have HN := hide (fun i => swk_next s k i)
        rw [h8] at HN
        clear R1 R2 B O
        go_wp2_with fail
        go_region
        go_wp2
        exact ⟨⟨k + 1, by omega, by go_num, rowD R1'.out, rowD (RR.out.congr (fun i _ => HN.out i)), B'.out.drew, O'.out.drew⟩, by simp [intOf]; omega⟩
      · have a3 : (k : Int) % 8 = 1 := by omega
        have hor : bits BinOp.or IntKind.u64 (swk s k (k / 8)) (bt s k * 256) = sw s (k / 8) 2 := by
          rw [swk_at, h8]
          exact swor1 s (k / 8) k (by omega)
        have RR := hide (R2.set (k / 8) (sw s (k / 8) 2))
        have R1' := hide (R1.other (a := ⟨w.heap.size + 1, k / 8, none⟩) (by simp) (.int .u64 (sw s (k / 8) 2)))
        have B' := hide (B.other (a := ⟨w.heap.size + 1, k / 8, none⟩) (by simp; omega) (.int .u64 (sw s (k / 8) 2)))
        have O' := hide (O.setCell (p := ⟨w.heap.size + 1, k / 8, none⟩) (by simp) (.int .u64 (sw s (k / 8) 2)))
        have HN := hide (fun i => swk_next s k i)
        rw [h8] at HN
        clear R1 R2 B O
        go_wp2_with fail
        go_region
        go_wp2
        exact ⟨⟨k + 1, by omega, by go_num, rowD R1'.out, rowD (RR.out.congr (fun i _ => HN.out i)), B'.out.drew, O'.out.drew⟩, by simp [intOf]; omega⟩
      · have a3 : (k : Int) % 8 = 2 := by omega
        have hor : bits BinOp.or IntKind.u64 (swk s k (k / 8)) (bt s k * 65536) = sw s (k / 8) 3 := by
          rw [swk_at, h8]
          exact swor2 s (k / 8) k (by omega)
        have RR := hide (R2.set (k / 8) (sw s (k / 8) 3))
        have R1' := hide (R1.other (a := ⟨w.heap.size + 1, k / 8, none⟩) (by simp) (.int .u64 (sw s (k / 8) 3)))
        have B' := hide (B.other (a := ⟨w.heap.size + 1, k / 8, none⟩) (by simp; omega) (.int .u64 (sw s (k / 8) 3)))
        have O' := hide (O.setCell (p := ⟨w.heap.size + 1, k / 8, none⟩) (by simp) (.int .u64 (sw s (k / 8) 3)))
        have HN := hide (fun i => swk_next s k i)
        rw [h8] at HN
        clear R1 R2 B O
        go_wp2_with fail
        go_region
        go_wp2
        exact ⟨⟨k + 1, by omega, by go_num, rowD R1'.out, rowD (RR.out.congr (fun i _ => HN.out i)), B'.out.drew, O'.out.drew⟩, by simp [intOf]; omega⟩
      · have a3 : (k : Int) % 8 = 3 := by omega
        have hor : bits BinOp.or IntKind.u64 (swk s k (k / 8)) (bt s k * 16777216) = sw s (k / 8) 4 := by
          rw [swk_at, h8]
          exact swor3 s (k / 8) k (by omega)
        have RR := hide (R2.set (k / 8) (sw s (k / 8) 4))
        have R1' := hide (R1.other (a := ⟨w.heap.size + 1, k / 8, none⟩) (by simp) (.int .u64 (sw s (k / 8) 4)))
        have B' := hide (B.other (a := ⟨w.heap.size + 1, k / 8, none⟩) (by simp; omega) (.int .u64 (sw s (k / 8) 4)))
        have O' := hide (O.setCell (p := ⟨w.heap.size + 1, k / 8, none⟩) (by simp) (.int .u64 (sw s (k / 8) 4)))
        have HN := hide (fun i => swk_next s k i)
        rw [h8] at HN
        clear R1 R2 B O
        go_wp2_with fail
        go_region
        go_wp2
        exact ⟨⟨k + 1, by omega, by go_num, rowD R1'.out, rowD (RR.out.congr (fun i _ => HN.out i)), B'.out.drew, O'.out.drew⟩, by simp [intOf]; omega⟩
      · have a3 : (k : Int) % 8 = 4 := by omega
        have hor : bits BinOp.or IntKind.u64 (swk s k (k / 8)) (bt s k * 4294967296) = sw s (k / 8) 5 := by
          rw [swk_at, h8]
          exact swor4 s (k / 8) k (by omega)
        have RR := hide (R2.set (k / 8) (sw s (k / 8) 5))
        have R1' := hide (R1.other (a := ⟨w.heap.size + 1, k / 8, none⟩) (by simp) (.int .u64 (sw s (k / 8) 5)))
        have B' := hide (B.other (a := ⟨w.heap.size + 1, k / 8, none⟩) (by simp; omega) (.int .u64 (sw s (k / 8) 5)))
        have O' := hide (O.setCell (p := ⟨w.heap.size + 1, k / 8, none⟩) (by simp) (.int .u64 (sw s (k / 8) 5)))
        have HN := hide (fun i => swk_next s k i)
        rw [h8] at HN
        clear R1 R2 B O
        go_wp2_with fail
        go_region
        go_wp2
        exact ⟨⟨k + 1, by omega, by go_num, rowD R1'.out, rowD (RR.out.congr (fun i _ => HN.out i)), B'.out.drew, O'.out.drew⟩, by simp [intOf]; omega⟩
      · have a3 : (k : Int) % 8 = 5 := by omega
        have hor : bits BinOp.or IntKind.u64 (swk s k (k / 8)) (bt s k * 1099511627776) = sw s (k / 8) 6 := by
          rw [swk_at, h8]
          exact swor5 s (k / 8) k (by omega)
        have RR := hide (R2.set (k / 8) (sw s (k / 8) 6))
        have R1' := hide (R1.other (a := ⟨w.heap.size + 1, k / 8, none⟩) (by simp) (.int .u64 (sw s (k / 8) 6)))
        have B' := hide (B.other (a := ⟨w.heap.size + 1, k / 8, none⟩) (by simp; omega) (.int .u64 (sw s (k / 8) 6)))
        have O' := hide (O.setCell (p := ⟨w.heap.size + 1, k / 8, none⟩) (by simp) (.int .u64 (sw s (k / 8) 6)))
        have HN := hide (fun i => swk_next s k i)
        rw [h8] at HN
        clear R1 R2 B O
        go_wp2_with fail
        go_region
        go_wp2
        exact ⟨⟨k + 1, by omega, by go_num, rowD R1'.out, rowD (RR.out.congr (fun i _ => HN.out i)), B'.out.drew, O'.out.drew⟩, by simp [intOf]; omega⟩
      · have a3 : (k : Int) % 8 = 6 := by omega
        have hor : bits BinOp.or IntKind.u64 (swk s k (k / 8)) (bt s k * 281474976710656) = sw s (k / 8) 7 := by
          rw [swk_at, h8]
          exact swor6 s (k / 8) k (by omega)
        have RR := hide (R2.set (k / 8) (sw s (k / 8) 7))
        have R1' := hide (R1.other (a := ⟨w.heap.size + 1, k / 8, none⟩) (by simp) (.int .u64 (sw s (k / 8) 7)))
        have B' := hide (B.other (a := ⟨w.heap.size + 1, k / 8, none⟩) (by simp; omega) (.int .u64 (sw s (k / 8) 7)))
        have O' := hide (O.setCell (p := ⟨w.heap.size + 1, k / 8, none⟩) (by simp) (.int .u64 (sw s (k / 8) 7)))
        have HN := hide (fun i => swk_next s k i)
        rw [h8] at HN
        clear R1 R2 B O
        go_wp2_with fail
        go_region
        go_wp2
        exact ⟨⟨k + 1, by omega, by go_num, rowD R1'.out, rowD (RR.out.congr (fun i _ => HN.out i)), B'.out.drew, O'.out.drew⟩, by simp [intOf]; omega⟩
      · have a3 : (k : Int) % 8 = 7 := by omega
        have hor : bits BinOp.or IntKind.u64 (swk s k (k / 8)) (bt s k * 72057594037927936) = sw s (k / 8) 8 := by
          rw [swk_at, h8]
          exact swor7 s (k / 8) k (by omega)
        have RR := hide (R2.set (k / 8) (sw s (k / 8) 8))
        have R1' := hide (R1.other (a := ⟨w.heap.size + 1, k / 8, none⟩) (by simp) (.int .u64 (sw s (k / 8) 8)))
        have B' := hide (B.other (a := ⟨w.heap.size + 1, k / 8, none⟩) (by simp; omega) (.int .u64 (sw s (k / 8) 8)))
        have O' := hide (O.setCell (p := ⟨w.heap.size + 1, k / 8, none⟩) (by simp) (.int .u64 (sw s (k / 8) 8)))
        have HN := hide (fun i => swk_next s k i)
        rw [h8] at HN
        clear R1 R2 B O
        go_wp2_with fail
        go_region
        go_wp2
        exact ⟨⟨k + 1, by omega, by go_num, rowD R1'.out, rowD (RR.out.congr (fun i _ => HN.out i)), B'.out.drew, O'.out.drew⟩, by simp [intOf]; omega⟩

    · have hk' : k = s.size := by omega
      subst hk'
      have HR := hide (R2.congr (f' := fun j => sw s j 8) (fun i _ => swk_end s i))
      have RR := hide (R1.setAll (fun j => sw s j 8))
      have OO := hide (below_setCells (g := w.heap.size) (Nat.le_refl _) (arr 8 fun j => sw s j 8).toList 0 O)
      clear R2 O B
      generalize hff : (fun j => sw s j 8) = f at HR RR OO
      have HF := hide hff
      clear hff
      go_wp2_with (first | (refine wpList_load_row rfl 68 _ rfl (w.heap.size + 1) rfl 68 (arr 8 f) (0, 0) _ HR.out Tryz.underlying68 rfl (info68 _) ?_) | (refine wpList_store_mid rfl 68 _ _ rfl w.heap.size 0 (arr 8 f) rfl rfl ?tho (info68 _) (arr_one _ _) ?_))
      case tho => rw [arr_size]; exact R1.there
      exact bodyPost_ret (v := .agg (arr 8 f)) (results_cell_row Tryz.results31 _ _ w.heap.size 68 (arr 8 f) (0, 0) _ rfl RR.out Tryz.underlying68 rfl (info68 _)) rfl ⟨by rw [HF.out], OO.out⟩

end Go.Proofs.YtkeocdebfgcnnaaGreat.Ord

/- The contract of the document's Parts: 32 bytes as 16 digits. -/
namespace Go.Proofs.YtkeocdebfgcnnaaGreat.Ord
open Go.RowKit

/-- Digit i when k bytes have been read. -/
def pt (s : ByteArray) (k : Nat) : Nat → Int := fun i => (if 2 * i < k then bt s (2 * i) else 0) + (if 2 * i + 1 < k then bt s (2 * i + 1) * 256 else 0)

theorem ptor0 (s : ByteArray) (i : Nat) : bits BinOp.or IntKind.u64 0 (bt s i) = bt s i := by
  have hb := bt_bd s i
  rw [or_join 8 256 (by decide) ⟨by decide, by decide⟩ ⟨hb.1, by omega⟩ (by decide) (by omega)]
  omega
theorem ptor1 (s : ByteArray) (i j : Nat) : bits BinOp.or IntKind.u64 (bt s i) (bt s j * 256) = bt s i + bt s j * 256 := by
  have hb := bt_bd s i
  have hc := bt_bd s j
  exact or_join' 8 256 (by decide) ⟨hb.1, by omega⟩ ⟨by omega, by omega⟩ (by omega) (by omega)

theorem pt_dig (s : ByteArray) (k : Nat) : Dig (pt s k) 16 := fun i _ => by
  have hb := bt_bd s (2 * i)
  have hc := bt_bd s (2 * i + 1)
  unfold pt
  split <;> split <;> omega

theorem pt_even (s : ByteArray) (j i : Nat) : upd (pt s (2 * j)) j (bt s (2 * j)) i = pt s (2 * j + 1) i := by
  unfold upd pt
  by_cases h : i = j
  · subst h
    simp
  · rw [if_neg h]
    congr 1
    · by_cases h2 : 2 * i < 2 * j
      · rw [if_pos h2, if_pos (by omega)]
      · rw [if_neg h2, if_neg (by omega)]
    · by_cases h2 : 2 * i + 1 < 2 * j
      · rw [if_pos h2, if_pos (by omega)]
      · rw [if_neg h2, if_neg (by omega)]

theorem pt_odd (s : ByteArray) (j i : Nat) : upd (pt s (2 * j + 1)) j (bt s (2 * j) + bt s (2 * j + 1) * 256) i = pt s (2 * j + 1 + 1) i := by
  unfold upd pt
  by_cases h : i = j
  · subst h
    simp
    intro h
    omega
  · rw [if_neg h]
    congr 1
    · by_cases h2 : 2 * i < 2 * j + 1
      · rw [if_pos h2, if_pos (by omega)]
      · rw [if_neg h2, if_neg (by omega)]
    · by_cases h2 : 2 * i + 1 < 2 * j + 1
      · rw [if_pos h2, if_pos (by omega)]
      · rw [if_neg h2, if_neg (by omega)]

theorem pt_S (s : ByteArray) : S (pt s 32) 16 = val s := by
  simp [S, pt, val, sw]
  omega

set_option maxRecDepth 100000 in
set_option maxHeartbeats 8000000 in
theorem parts_any (s : ByteArray) (w : World) (hs : s.size = 32) :
    Calls Tryz.prog 78 #[.string s] w fun r w' => r = .returned (.agg (arr 16 (pt s 32))) ∧ Below w.heap.size w w' := by
  go_enter Tryz.func78, Tryz.ntmps78
  go_wp2
  rw [show #[Value.int IntKind.u64 0, Value.int IntKind.u64 0, Value.int IntKind.u64 0, Value.int IntKind.u64 0, Value.int IntKind.u64 0, Value.int IntKind.u64 0, Value.int IntKind.u64 0, Value.int IntKind.u64 0, Value.int IntKind.u64 0, Value.int IntKind.u64 0, Value.int IntKind.u64 0, Value.int IntKind.u64 0, Value.int IntKind.u64 0, Value.int IntKind.u64 0, Value.int IntKind.u64 0, Value.int IntKind.u64 0] = arr 16 (fun _ => 0) from rfl]
  have R1 : Row ((w.alloc (.cells (arr 16 fun _ => 0) 39)).alloc (.cells (arr 16 fun _ => 0) 39)) w.heap.size 39 16 (fun _ => 0) := (Row.new w 39 16 _).alloc _
  have R2 : Row ((w.alloc (.cells (arr 16 fun _ => 0) 39)).alloc (.cells (arr 16 fun _ => 0) 39)) (w.heap.size + 1) 39 16 (pt s 0) := (Row.new' _ 39 16 _ (by simp)).congr (fun i _ => by simp [pt])
  have O : Below w.heap.size w ((w.alloc (.cells (arr 16 fun _ => 0) 39)).alloc (.cells (arr 16 fun _ => 0) 39)) := ((Below.refl _ _).alloc (Nat.le_refl _) _).alloc (by simp) _
  generalize (w.alloc (.cells (arr 16 fun _ => 0) 39)).alloc (.cells (arr 16 fun _ => 0) 39) = W at R1 R2 O ⊢
  go_loopw [4] (fun i wr => ∃ k : Nat, k ≤ 32 ∧ i = .int .i64 k ∧ Row wr w.heap.size 39 16 (fun _ => 0) ∧ Row wr (w.heap.size + 1) 39 16 (pt s k) ∧ Below w.heap.size w wr) (fun i _ => 32 - (intOf i).toNat)
  case atStart => exact ⟨0, by omega, rfl, R1, R2, O⟩
  case round =>
    clear R1 R2 O
    obtain ⟨k, hk, rfl, R1, R2, O⟩ := hrel
    by_cases hlt : k < 32
    · have hc : k = 0 ∨ k = 1 ∨ k = 2 ∨ k = 3 ∨ k = 4 ∨ k = 5 ∨ k = 6 ∨ k = 7 ∨ k = 8 ∨ k = 9 ∨ k = 10 ∨ k = 11 ∨ k = 12 ∨ k = 13 ∨ k = 14 ∨ k = 15 ∨ k = 16 ∨ k = 17 ∨ k = 18 ∨ k = 19 ∨ k = 20 ∨ k = 21 ∨ k = 22 ∨ k = 23 ∨ k = 24 ∨ k = 25 ∨ k = 26 ∨ k = 27 ∨ k = 28 ∨ k = 29 ∨ k = 30 ∨ k = 31 := by omega
      clear hlt hk
      rcases hc with rfl | rfl | rfl | rfl | rfl | rfl | rfl | rfl | rfl | rfl | rfl | rfl | rfl | rfl | rfl | rfl | rfl | rfl | rfl | rfl | rfl | rfl | rfl | rfl | rfl | rfl | rfl | rfl | rfl | rfl | rfl | rfl
      · have hb := bt_at s 0 (by omega)
        obtain ⟨p, q⟩ := bt_bd s 0
        have e := ptor0 s 0
        have c := R2.cell (i := 0) (by omega)
        rw [show pt s 0 0 = 0 by simp [pt]] at c
        have f := R2.free 0
        have RR := hide ((R2.set 0 (bt s 0)).congr (fun i _ => pt_even s 0 i))
        have R1' := hide (R1.other (a := ⟨w.heap.size + 1, 0, none⟩) (by simp) (.int .u64 (bt s 0)))
        have O' := hide (O.setCell (p := ⟨w.heap.size + 1, 0, none⟩) (by simp) (.int .u64 (bt s 0)))
        clear R1 R2 O
        go_wp2_with fail
        go_region
        go_wp2
        first | exact ⟨⟨1, by omega, rfl, R1'.out, RR.out, O'.out.drew⟩, by simp [intOf]⟩ | (go_roundw; (case rel => exact ⟨1, by omega, rfl, R1'.out, RR.out, O'.out.drew⟩); (case measure => simp [intOf]))
      · have hb := bt_at s 1 (by omega)
        obtain ⟨p, q⟩ := bt_bd s 1
        have e := ptor1 s 0 1
        have c := R2.cell (i := 0) (by omega)
        rw [show pt s 1 0 = bt s 0 by simp [pt]] at c
        have f := R2.free 0
        have RR := hide ((R2.set 0 (bt s 0 + bt s 1 * 256)).congr (fun i _ => pt_odd s 0 i))
        have R1' := hide (R1.other (a := ⟨w.heap.size + 1, 0, none⟩) (by simp) (.int .u64 (bt s 0 + bt s 1 * 256)))
        have O' := hide (O.setCell (p := ⟨w.heap.size + 1, 0, none⟩) (by simp) (.int .u64 (bt s 0 + bt s 1 * 256)))
        clear R1 R2 O
        go_wp2_with fail
        go_region
        go_wp2
        first | exact ⟨⟨2, by omega, rfl, R1'.out, RR.out, O'.out.drew⟩, by simp [intOf]⟩ | (go_roundw; (case rel => exact ⟨2, by omega, rfl, R1'.out, RR.out, O'.out.drew⟩); (case measure => simp [intOf]))
      · have hb := bt_at s 2 (by omega)
        obtain ⟨p, q⟩ := bt_bd s 2
        have e := ptor0 s 2
        have c := R2.cell (i := 1) (by omega)
        rw [show pt s 2 1 = 0 by simp [pt]] at c
        have f := R2.free 1
        have RR := hide ((R2.set 1 (bt s 2)).congr (fun i _ => pt_even s 1 i))
        have R1' := hide (R1.other (a := ⟨w.heap.size + 1, 1, none⟩) (by simp) (.int .u64 (bt s 2)))
        have O' := hide (O.setCell (p := ⟨w.heap.size + 1, 1, none⟩) (by simp) (.int .u64 (bt s 2)))
        clear R1 R2 O
        go_wp2_with fail
        go_region
        go_wp2
        first | exact ⟨⟨3, by omega, rfl, R1'.out, RR.out, O'.out.drew⟩, by simp [intOf]⟩ | (go_roundw; (case rel => exact ⟨3, by omega, rfl, R1'.out, RR.out, O'.out.drew⟩); (case measure => simp [intOf]))
      · have hb := bt_at s 3 (by omega)
        obtain ⟨p, q⟩ := bt_bd s 3
        have e := ptor1 s 2 3
        have c := R2.cell (i := 1) (by omega)
        rw [show pt s 3 1 = bt s 2 by simp [pt]] at c
        have f := R2.free 1
        have RR := hide ((R2.set 1 (bt s 2 + bt s 3 * 256)).congr (fun i _ => pt_odd s 1 i))
        have R1' := hide (R1.other (a := ⟨w.heap.size + 1, 1, none⟩) (by simp) (.int .u64 (bt s 2 + bt s 3 * 256)))
        have O' := hide (O.setCell (p := ⟨w.heap.size + 1, 1, none⟩) (by simp) (.int .u64 (bt s 2 + bt s 3 * 256)))
        clear R1 R2 O
        go_wp2_with fail
        go_region
        go_wp2
        first | exact ⟨⟨4, by omega, rfl, R1'.out, RR.out, O'.out.drew⟩, by simp [intOf]⟩ | (go_roundw; (case rel => exact ⟨4, by omega, rfl, R1'.out, RR.out, O'.out.drew⟩); (case measure => simp [intOf]))
      · have hb := bt_at s 4 (by omega)
        obtain ⟨p, q⟩ := bt_bd s 4
        have e := ptor0 s 4
        have c := R2.cell (i := 2) (by omega)
        rw [show pt s 4 2 = 0 by simp [pt]] at c
        have f := R2.free 2
        have RR := hide ((R2.set 2 (bt s 4)).congr (fun i _ => pt_even s 2 i))
        have R1' := hide (R1.other (a := ⟨w.heap.size + 1, 2, none⟩) (by simp) (.int .u64 (bt s 4)))
        have O' := hide (O.setCell (p := ⟨w.heap.size + 1, 2, none⟩) (by simp) (.int .u64 (bt s 4)))
        clear R1 R2 O
        go_wp2_with fail
        go_region
        go_wp2
        first | exact ⟨⟨5, by omega, rfl, R1'.out, RR.out, O'.out.drew⟩, by simp [intOf]⟩ | (go_roundw; (case rel => exact ⟨5, by omega, rfl, R1'.out, RR.out, O'.out.drew⟩); (case measure => simp [intOf]))
      · have hb := bt_at s 5 (by omega)
        obtain ⟨p, q⟩ := bt_bd s 5
        have e := ptor1 s 4 5
        have c := R2.cell (i := 2) (by omega)
        rw [show pt s 5 2 = bt s 4 by simp [pt]] at c
        have f := R2.free 2
        have RR := hide ((R2.set 2 (bt s 4 + bt s 5 * 256)).congr (fun i _ => pt_odd s 2 i))
        have R1' := hide (R1.other (a := ⟨w.heap.size + 1, 2, none⟩) (by simp) (.int .u64 (bt s 4 + bt s 5 * 256)))
        have O' := hide (O.setCell (p := ⟨w.heap.size + 1, 2, none⟩) (by simp) (.int .u64 (bt s 4 + bt s 5 * 256)))
        clear R1 R2 O
        go_wp2_with fail
        go_region
        go_wp2
        first | exact ⟨⟨6, by omega, rfl, R1'.out, RR.out, O'.out.drew⟩, by simp [intOf]⟩ | (go_roundw; (case rel => exact ⟨6, by omega, rfl, R1'.out, RR.out, O'.out.drew⟩); (case measure => simp [intOf]))
      · have hb := bt_at s 6 (by omega)
        obtain ⟨p, q⟩ := bt_bd s 6
        have e := ptor0 s 6
        have c := R2.cell (i := 3) (by omega)
        rw [show pt s 6 3 = 0 by simp [pt]] at c
        have f := R2.free 3
        have RR := hide ((R2.set 3 (bt s 6)).congr (fun i _ => pt_even s 3 i))
        have R1' := hide (R1.other (a := ⟨w.heap.size + 1, 3, none⟩) (by simp) (.int .u64 (bt s 6)))
        have O' := hide (O.setCell (p := ⟨w.heap.size + 1, 3, none⟩) (by simp) (.int .u64 (bt s 6)))
        clear R1 R2 O
        go_wp2_with fail
        go_region
        go_wp2
        first | exact ⟨⟨7, by omega, rfl, R1'.out, RR.out, O'.out.drew⟩, by simp [intOf]⟩ | (go_roundw; (case rel => exact ⟨7, by omega, rfl, R1'.out, RR.out, O'.out.drew⟩); (case measure => simp [intOf]))
      · have hb := bt_at s 7 (by omega)
        obtain ⟨p, q⟩ := bt_bd s 7
        have e := ptor1 s 6 7
        have c := R2.cell (i := 3) (by omega)
        rw [show pt s 7 3 = bt s 6 by simp [pt]] at c
        have f := R2.free 3
        have RR := hide ((R2.set 3 (bt s 6 + bt s 7 * 256)).congr (fun i _ => pt_odd s 3 i))
        have R1' := hide (R1.other (a := ⟨w.heap.size + 1, 3, none⟩) (by simp) (.int .u64 (bt s 6 + bt s 7 * 256)))
        have O' := hide (O.setCell (p := ⟨w.heap.size + 1, 3, none⟩) (by simp) (.int .u64 (bt s 6 + bt s 7 * 256)))
        clear R1 R2 O
        go_wp2_with fail
        go_region
        go_wp2
        first | exact ⟨⟨8, by omega, rfl, R1'.out, RR.out, O'.out.drew⟩, by simp [intOf]⟩ | (go_roundw; (case rel => exact ⟨8, by omega, rfl, R1'.out, RR.out, O'.out.drew⟩); (case measure => simp [intOf]))
      · have hb := bt_at s 8 (by omega)
        obtain ⟨p, q⟩ := bt_bd s 8
        have e := ptor0 s 8
        have c := R2.cell (i := 4) (by omega)
        rw [show pt s 8 4 = 0 by simp [pt]] at c
        have f := R2.free 4
        have RR := hide ((R2.set 4 (bt s 8)).congr (fun i _ => pt_even s 4 i))
        have R1' := hide (R1.other (a := ⟨w.heap.size + 1, 4, none⟩) (by simp) (.int .u64 (bt s 8)))
        have O' := hide (O.setCell (p := ⟨w.heap.size + 1, 4, none⟩) (by simp) (.int .u64 (bt s 8)))
        clear R1 R2 O
        go_wp2_with fail
        go_region
        go_wp2
        first | exact ⟨⟨9, by omega, rfl, R1'.out, RR.out, O'.out.drew⟩, by simp [intOf]⟩ | (go_roundw; (case rel => exact ⟨9, by omega, rfl, R1'.out, RR.out, O'.out.drew⟩); (case measure => simp [intOf]))
      · have hb := bt_at s 9 (by omega)
        obtain ⟨p, q⟩ := bt_bd s 9
        have e := ptor1 s 8 9
        have c := R2.cell (i := 4) (by omega)
        rw [show pt s 9 4 = bt s 8 by simp [pt]] at c
        have f := R2.free 4
        have RR := hide ((R2.set 4 (bt s 8 + bt s 9 * 256)).congr (fun i _ => pt_odd s 4 i))
        have R1' := hide (R1.other (a := ⟨w.heap.size + 1, 4, none⟩) (by simp) (.int .u64 (bt s 8 + bt s 9 * 256)))
        have O' := hide (O.setCell (p := ⟨w.heap.size + 1, 4, none⟩) (by simp) (.int .u64 (bt s 8 + bt s 9 * 256)))
        clear R1 R2 O
        go_wp2_with fail
        go_region
        go_wp2
        first | exact ⟨⟨10, by omega, rfl, R1'.out, RR.out, O'.out.drew⟩, by simp [intOf]⟩ | (go_roundw; (case rel => exact ⟨10, by omega, rfl, R1'.out, RR.out, O'.out.drew⟩); (case measure => simp [intOf]))
      · have hb := bt_at s 10 (by omega)
        obtain ⟨p, q⟩ := bt_bd s 10
        have e := ptor0 s 10
        have c := R2.cell (i := 5) (by omega)
        rw [show pt s 10 5 = 0 by simp [pt]] at c
        have f := R2.free 5
        have RR := hide ((R2.set 5 (bt s 10)).congr (fun i _ => pt_even s 5 i))
        have R1' := hide (R1.other (a := ⟨w.heap.size + 1, 5, none⟩) (by simp) (.int .u64 (bt s 10)))
        have O' := hide (O.setCell (p := ⟨w.heap.size + 1, 5, none⟩) (by simp) (.int .u64 (bt s 10)))
        clear R1 R2 O
        go_wp2_with fail
        go_region
        go_wp2
        first | exact ⟨⟨11, by omega, rfl, R1'.out, RR.out, O'.out.drew⟩, by simp [intOf]⟩ | (go_roundw; (case rel => exact ⟨11, by omega, rfl, R1'.out, RR.out, O'.out.drew⟩); (case measure => simp [intOf]))
      · have hb := bt_at s 11 (by omega)
        obtain ⟨p, q⟩ := bt_bd s 11
        have e := ptor1 s 10 11
        have c := R2.cell (i := 5) (by omega)
        rw [show pt s 11 5 = bt s 10 by simp [pt]] at c
        have f := R2.free 5
        have RR := hide ((R2.set 5 (bt s 10 + bt s 11 * 256)).congr (fun i _ => pt_odd s 5 i))
        have R1' := hide (R1.other (a := ⟨w.heap.size + 1, 5, none⟩) (by simp) (.int .u64 (bt s 10 + bt s 11 * 256)))
        have O' := hide (O.setCell (p := ⟨w.heap.size + 1, 5, none⟩) (by simp) (.int .u64 (bt s 10 + bt s 11 * 256)))
        clear R1 R2 O
        go_wp2_with fail
        go_region
        go_wp2
        first | exact ⟨⟨12, by omega, rfl, R1'.out, RR.out, O'.out.drew⟩, by simp [intOf]⟩ | (go_roundw; (case rel => exact ⟨12, by omega, rfl, R1'.out, RR.out, O'.out.drew⟩); (case measure => simp [intOf]))
      · have hb := bt_at s 12 (by omega)
        obtain ⟨p, q⟩ := bt_bd s 12
        have e := ptor0 s 12
        have c := R2.cell (i := 6) (by omega)
        rw [show pt s 12 6 = 0 by simp [pt]] at c
        have f := R2.free 6
        have RR := hide ((R2.set 6 (bt s 12)).congr (fun i _ => pt_even s 6 i))
        have R1' := hide (R1.other (a := ⟨w.heap.size + 1, 6, none⟩) (by simp) (.int .u64 (bt s 12)))
        have O' := hide (O.setCell (p := ⟨w.heap.size + 1, 6, none⟩) (by simp) (.int .u64 (bt s 12)))
        clear R1 R2 O
        go_wp2_with fail
        go_region
        go_wp2
        first | exact ⟨⟨13, by omega, rfl, R1'.out, RR.out, O'.out.drew⟩, by simp [intOf]⟩ | (go_roundw; (case rel => exact ⟨13, by omega, rfl, R1'.out, RR.out, O'.out.drew⟩); (case measure => simp [intOf]))
      · have hb := bt_at s 13 (by omega)
        obtain ⟨p, q⟩ := bt_bd s 13
        have e := ptor1 s 12 13
        have c := R2.cell (i := 6) (by omega)
        rw [show pt s 13 6 = bt s 12 by simp [pt]] at c
        have f := R2.free 6
        have RR := hide ((R2.set 6 (bt s 12 + bt s 13 * 256)).congr (fun i _ => pt_odd s 6 i))
        have R1' := hide (R1.other (a := ⟨w.heap.size + 1, 6, none⟩) (by simp) (.int .u64 (bt s 12 + bt s 13 * 256)))
        have O' := hide (O.setCell (p := ⟨w.heap.size + 1, 6, none⟩) (by simp) (.int .u64 (bt s 12 + bt s 13 * 256)))
        clear R1 R2 O
        go_wp2_with fail
        go_region
        go_wp2
        first | exact ⟨⟨14, by omega, rfl, R1'.out, RR.out, O'.out.drew⟩, by simp [intOf]⟩ | (go_roundw; (case rel => exact ⟨14, by omega, rfl, R1'.out, RR.out, O'.out.drew⟩); (case measure => simp [intOf]))
      · have hb := bt_at s 14 (by omega)
        obtain ⟨p, q⟩ := bt_bd s 14
        have e := ptor0 s 14
        have c := R2.cell (i := 7) (by omega)
        rw [show pt s 14 7 = 0 by simp [pt]] at c
        have f := R2.free 7
        have RR := hide ((R2.set 7 (bt s 14)).congr (fun i _ => pt_even s 7 i))
        have R1' := hide (R1.other (a := ⟨w.heap.size + 1, 7, none⟩) (by simp) (.int .u64 (bt s 14)))
        have O' := hide (O.setCell (p := ⟨w.heap.size + 1, 7, none⟩) (by simp) (.int .u64 (bt s 14)))
        clear R1 R2 O
        go_wp2_with fail
        go_region
        go_wp2
        first | exact ⟨⟨15, by omega, rfl, R1'.out, RR.out, O'.out.drew⟩, by simp [intOf]⟩ | (go_roundw; (case rel => exact ⟨15, by omega, rfl, R1'.out, RR.out, O'.out.drew⟩); (case measure => simp [intOf]))
      · have hb := bt_at s 15 (by omega)
        obtain ⟨p, q⟩ := bt_bd s 15
        have e := ptor1 s 14 15
        have c := R2.cell (i := 7) (by omega)
        rw [show pt s 15 7 = bt s 14 by simp [pt]] at c
        have f := R2.free 7
        have RR := hide ((R2.set 7 (bt s 14 + bt s 15 * 256)).congr (fun i _ => pt_odd s 7 i))
        have R1' := hide (R1.other (a := ⟨w.heap.size + 1, 7, none⟩) (by simp) (.int .u64 (bt s 14 + bt s 15 * 256)))
        have O' := hide (O.setCell (p := ⟨w.heap.size + 1, 7, none⟩) (by simp) (.int .u64 (bt s 14 + bt s 15 * 256)))
        clear R1 R2 O
        go_wp2_with fail
        go_region
        go_wp2
        first | exact ⟨⟨16, by omega, rfl, R1'.out, RR.out, O'.out.drew⟩, by simp [intOf]⟩ | (go_roundw; (case rel => exact ⟨16, by omega, rfl, R1'.out, RR.out, O'.out.drew⟩); (case measure => simp [intOf]))
      · have hb := bt_at s 16 (by omega)
        obtain ⟨p, q⟩ := bt_bd s 16
        have e := ptor0 s 16
        have c := R2.cell (i := 8) (by omega)
        rw [show pt s 16 8 = 0 by simp [pt]] at c
        have f := R2.free 8
        have RR := hide ((R2.set 8 (bt s 16)).congr (fun i _ => pt_even s 8 i))
        have R1' := hide (R1.other (a := ⟨w.heap.size + 1, 8, none⟩) (by simp) (.int .u64 (bt s 16)))
        have O' := hide (O.setCell (p := ⟨w.heap.size + 1, 8, none⟩) (by simp) (.int .u64 (bt s 16)))
        clear R1 R2 O
        go_wp2_with fail
        go_region
        go_wp2
        first | exact ⟨⟨17, by omega, rfl, R1'.out, RR.out, O'.out.drew⟩, by simp [intOf]⟩ | (go_roundw; (case rel => exact ⟨17, by omega, rfl, R1'.out, RR.out, O'.out.drew⟩); (case measure => simp [intOf]))
      · have hb := bt_at s 17 (by omega)
        obtain ⟨p, q⟩ := bt_bd s 17
        have e := ptor1 s 16 17
        have c := R2.cell (i := 8) (by omega)
        rw [show pt s 17 8 = bt s 16 by simp [pt]] at c
        have f := R2.free 8
        have RR := hide ((R2.set 8 (bt s 16 + bt s 17 * 256)).congr (fun i _ => pt_odd s 8 i))
        have R1' := hide (R1.other (a := ⟨w.heap.size + 1, 8, none⟩) (by simp) (.int .u64 (bt s 16 + bt s 17 * 256)))
        have O' := hide (O.setCell (p := ⟨w.heap.size + 1, 8, none⟩) (by simp) (.int .u64 (bt s 16 + bt s 17 * 256)))
        clear R1 R2 O
        go_wp2_with fail
        go_region
        go_wp2
        first | exact ⟨⟨18, by omega, rfl, R1'.out, RR.out, O'.out.drew⟩, by simp [intOf]⟩ | (go_roundw; (case rel => exact ⟨18, by omega, rfl, R1'.out, RR.out, O'.out.drew⟩); (case measure => simp [intOf]))
      · have hb := bt_at s 18 (by omega)
        obtain ⟨p, q⟩ := bt_bd s 18
        have e := ptor0 s 18
        have c := R2.cell (i := 9) (by omega)
        rw [show pt s 18 9 = 0 by simp [pt]] at c
        have f := R2.free 9
        have RR := hide ((R2.set 9 (bt s 18)).congr (fun i _ => pt_even s 9 i))
        have R1' := hide (R1.other (a := ⟨w.heap.size + 1, 9, none⟩) (by simp) (.int .u64 (bt s 18)))
        have O' := hide (O.setCell (p := ⟨w.heap.size + 1, 9, none⟩) (by simp) (.int .u64 (bt s 18)))
        clear R1 R2 O
        go_wp2_with fail
        go_region
        go_wp2
        first | exact ⟨⟨19, by omega, rfl, R1'.out, RR.out, O'.out.drew⟩, by simp [intOf]⟩ | (go_roundw; (case rel => exact ⟨19, by omega, rfl, R1'.out, RR.out, O'.out.drew⟩); (case measure => simp [intOf]))
      · have hb := bt_at s 19 (by omega)
        obtain ⟨p, q⟩ := bt_bd s 19
        have e := ptor1 s 18 19
        have c := R2.cell (i := 9) (by omega)
        rw [show pt s 19 9 = bt s 18 by simp [pt]] at c
        have f := R2.free 9
        have RR := hide ((R2.set 9 (bt s 18 + bt s 19 * 256)).congr (fun i _ => pt_odd s 9 i))
        have R1' := hide (R1.other (a := ⟨w.heap.size + 1, 9, none⟩) (by simp) (.int .u64 (bt s 18 + bt s 19 * 256)))
        have O' := hide (O.setCell (p := ⟨w.heap.size + 1, 9, none⟩) (by simp) (.int .u64 (bt s 18 + bt s 19 * 256)))
        clear R1 R2 O
        go_wp2_with fail
        go_region
        go_wp2
        first | exact ⟨⟨20, by omega, rfl, R1'.out, RR.out, O'.out.drew⟩, by simp [intOf]⟩ | (go_roundw; (case rel => exact ⟨20, by omega, rfl, R1'.out, RR.out, O'.out.drew⟩); (case measure => simp [intOf]))
      · have hb := bt_at s 20 (by omega)
        obtain ⟨p, q⟩ := bt_bd s 20
        have e := ptor0 s 20
        have c := R2.cell (i := 10) (by omega)
        rw [show pt s 20 10 = 0 by simp [pt]] at c
        have f := R2.free 10
        have RR := hide ((R2.set 10 (bt s 20)).congr (fun i _ => pt_even s 10 i))
        have R1' := hide (R1.other (a := ⟨w.heap.size + 1, 10, none⟩) (by simp) (.int .u64 (bt s 20)))
        have O' := hide (O.setCell (p := ⟨w.heap.size + 1, 10, none⟩) (by simp) (.int .u64 (bt s 20)))
        clear R1 R2 O
        go_wp2_with fail
        go_region
        go_wp2
        first | exact ⟨⟨21, by omega, rfl, R1'.out, RR.out, O'.out.drew⟩, by simp [intOf]⟩ | (go_roundw; (case rel => exact ⟨21, by omega, rfl, R1'.out, RR.out, O'.out.drew⟩); (case measure => simp [intOf]))
      · have hb := bt_at s 21 (by omega)
        obtain ⟨p, q⟩ := bt_bd s 21
        have e := ptor1 s 20 21
        have c := R2.cell (i := 10) (by omega)
        rw [show pt s 21 10 = bt s 20 by simp [pt]] at c
        have f := R2.free 10
        have RR := hide ((R2.set 10 (bt s 20 + bt s 21 * 256)).congr (fun i _ => pt_odd s 10 i))
        have R1' := hide (R1.other (a := ⟨w.heap.size + 1, 10, none⟩) (by simp) (.int .u64 (bt s 20 + bt s 21 * 256)))
        have O' := hide (O.setCell (p := ⟨w.heap.size + 1, 10, none⟩) (by simp) (.int .u64 (bt s 20 + bt s 21 * 256)))
        clear R1 R2 O
        go_wp2_with fail
        go_region
        go_wp2
        first | exact ⟨⟨22, by omega, rfl, R1'.out, RR.out, O'.out.drew⟩, by simp [intOf]⟩ | (go_roundw; (case rel => exact ⟨22, by omega, rfl, R1'.out, RR.out, O'.out.drew⟩); (case measure => simp [intOf]))
      · have hb := bt_at s 22 (by omega)
        obtain ⟨p, q⟩ := bt_bd s 22
        have e := ptor0 s 22
        have c := R2.cell (i := 11) (by omega)
        rw [show pt s 22 11 = 0 by simp [pt]] at c
        have f := R2.free 11
        have RR := hide ((R2.set 11 (bt s 22)).congr (fun i _ => pt_even s 11 i))
        have R1' := hide (R1.other (a := ⟨w.heap.size + 1, 11, none⟩) (by simp) (.int .u64 (bt s 22)))
        have O' := hide (O.setCell (p := ⟨w.heap.size + 1, 11, none⟩) (by simp) (.int .u64 (bt s 22)))
        clear R1 R2 O
        go_wp2_with fail
        go_region
        go_wp2
        first | exact ⟨⟨23, by omega, rfl, R1'.out, RR.out, O'.out.drew⟩, by simp [intOf]⟩ | (go_roundw; (case rel => exact ⟨23, by omega, rfl, R1'.out, RR.out, O'.out.drew⟩); (case measure => simp [intOf]))
      · have hb := bt_at s 23 (by omega)
        obtain ⟨p, q⟩ := bt_bd s 23
        have e := ptor1 s 22 23
        have c := R2.cell (i := 11) (by omega)
        rw [show pt s 23 11 = bt s 22 by simp [pt]] at c
        have f := R2.free 11
        have RR := hide ((R2.set 11 (bt s 22 + bt s 23 * 256)).congr (fun i _ => pt_odd s 11 i))
        have R1' := hide (R1.other (a := ⟨w.heap.size + 1, 11, none⟩) (by simp) (.int .u64 (bt s 22 + bt s 23 * 256)))
        have O' := hide (O.setCell (p := ⟨w.heap.size + 1, 11, none⟩) (by simp) (.int .u64 (bt s 22 + bt s 23 * 256)))
        clear R1 R2 O
        go_wp2_with fail
        go_region
        go_wp2
        first | exact ⟨⟨24, by omega, rfl, R1'.out, RR.out, O'.out.drew⟩, by simp [intOf]⟩ | (go_roundw; (case rel => exact ⟨24, by omega, rfl, R1'.out, RR.out, O'.out.drew⟩); (case measure => simp [intOf]))
      · have hb := bt_at s 24 (by omega)
        obtain ⟨p, q⟩ := bt_bd s 24
        have e := ptor0 s 24
        have c := R2.cell (i := 12) (by omega)
        rw [show pt s 24 12 = 0 by simp [pt]] at c
        have f := R2.free 12
        have RR := hide ((R2.set 12 (bt s 24)).congr (fun i _ => pt_even s 12 i))
        have R1' := hide (R1.other (a := ⟨w.heap.size + 1, 12, none⟩) (by simp) (.int .u64 (bt s 24)))
        have O' := hide (O.setCell (p := ⟨w.heap.size + 1, 12, none⟩) (by simp) (.int .u64 (bt s 24)))
        clear R1 R2 O
        go_wp2_with fail
        go_region
        go_wp2
        first | exact ⟨⟨25, by omega, rfl, R1'.out, RR.out, O'.out.drew⟩, by simp [intOf]⟩ | (go_roundw; (case rel => exact ⟨25, by omega, rfl, R1'.out, RR.out, O'.out.drew⟩); (case measure => simp [intOf]))
      · have hb := bt_at s 25 (by omega)
        obtain ⟨p, q⟩ := bt_bd s 25
        have e := ptor1 s 24 25
        have c := R2.cell (i := 12) (by omega)
        rw [show pt s 25 12 = bt s 24 by simp [pt]] at c
        have f := R2.free 12
        have RR := hide ((R2.set 12 (bt s 24 + bt s 25 * 256)).congr (fun i _ => pt_odd s 12 i))
        have R1' := hide (R1.other (a := ⟨w.heap.size + 1, 12, none⟩) (by simp) (.int .u64 (bt s 24 + bt s 25 * 256)))
        have O' := hide (O.setCell (p := ⟨w.heap.size + 1, 12, none⟩) (by simp) (.int .u64 (bt s 24 + bt s 25 * 256)))
        clear R1 R2 O
        go_wp2_with fail
        go_region
        go_wp2
        first | exact ⟨⟨26, by omega, rfl, R1'.out, RR.out, O'.out.drew⟩, by simp [intOf]⟩ | (go_roundw; (case rel => exact ⟨26, by omega, rfl, R1'.out, RR.out, O'.out.drew⟩); (case measure => simp [intOf]))
      · have hb := bt_at s 26 (by omega)
        obtain ⟨p, q⟩ := bt_bd s 26
        have e := ptor0 s 26
        have c := R2.cell (i := 13) (by omega)
        rw [show pt s 26 13 = 0 by simp [pt]] at c
        have f := R2.free 13
        have RR := hide ((R2.set 13 (bt s 26)).congr (fun i _ => pt_even s 13 i))
        have R1' := hide (R1.other (a := ⟨w.heap.size + 1, 13, none⟩) (by simp) (.int .u64 (bt s 26)))
        have O' := hide (O.setCell (p := ⟨w.heap.size + 1, 13, none⟩) (by simp) (.int .u64 (bt s 26)))
        clear R1 R2 O
        go_wp2_with fail
        go_region
        go_wp2
        first | exact ⟨⟨27, by omega, rfl, R1'.out, RR.out, O'.out.drew⟩, by simp [intOf]⟩ | (go_roundw; (case rel => exact ⟨27, by omega, rfl, R1'.out, RR.out, O'.out.drew⟩); (case measure => simp [intOf]))
      · have hb := bt_at s 27 (by omega)
        obtain ⟨p, q⟩ := bt_bd s 27
        have e := ptor1 s 26 27
        have c := R2.cell (i := 13) (by omega)
        rw [show pt s 27 13 = bt s 26 by simp [pt]] at c
        have f := R2.free 13
        have RR := hide ((R2.set 13 (bt s 26 + bt s 27 * 256)).congr (fun i _ => pt_odd s 13 i))
        have R1' := hide (R1.other (a := ⟨w.heap.size + 1, 13, none⟩) (by simp) (.int .u64 (bt s 26 + bt s 27 * 256)))
        have O' := hide (O.setCell (p := ⟨w.heap.size + 1, 13, none⟩) (by simp) (.int .u64 (bt s 26 + bt s 27 * 256)))
        clear R1 R2 O
        go_wp2_with fail
        go_region
        go_wp2
        first | exact ⟨⟨28, by omega, rfl, R1'.out, RR.out, O'.out.drew⟩, by simp [intOf]⟩ | (go_roundw; (case rel => exact ⟨28, by omega, rfl, R1'.out, RR.out, O'.out.drew⟩); (case measure => simp [intOf]))
      · have hb := bt_at s 28 (by omega)
        obtain ⟨p, q⟩ := bt_bd s 28
        have e := ptor0 s 28
        have c := R2.cell (i := 14) (by omega)
        rw [show pt s 28 14 = 0 by simp [pt]] at c
        have f := R2.free 14
        have RR := hide ((R2.set 14 (bt s 28)).congr (fun i _ => pt_even s 14 i))
        have R1' := hide (R1.other (a := ⟨w.heap.size + 1, 14, none⟩) (by simp) (.int .u64 (bt s 28)))
        have O' := hide (O.setCell (p := ⟨w.heap.size + 1, 14, none⟩) (by simp) (.int .u64 (bt s 28)))
        clear R1 R2 O
        go_wp2_with fail
        go_region
        go_wp2
        first | exact ⟨⟨29, by omega, rfl, R1'.out, RR.out, O'.out.drew⟩, by simp [intOf]⟩ | (go_roundw; (case rel => exact ⟨29, by omega, rfl, R1'.out, RR.out, O'.out.drew⟩); (case measure => simp [intOf]))
      · have hb := bt_at s 29 (by omega)
        obtain ⟨p, q⟩ := bt_bd s 29
        have e := ptor1 s 28 29
        have c := R2.cell (i := 14) (by omega)
        rw [show pt s 29 14 = bt s 28 by simp [pt]] at c
        have f := R2.free 14
        have RR := hide ((R2.set 14 (bt s 28 + bt s 29 * 256)).congr (fun i _ => pt_odd s 14 i))
        have R1' := hide (R1.other (a := ⟨w.heap.size + 1, 14, none⟩) (by simp) (.int .u64 (bt s 28 + bt s 29 * 256)))
        have O' := hide (O.setCell (p := ⟨w.heap.size + 1, 14, none⟩) (by simp) (.int .u64 (bt s 28 + bt s 29 * 256)))
        clear R1 R2 O
        go_wp2_with fail
        go_region
        go_wp2
        first | exact ⟨⟨30, by omega, rfl, R1'.out, RR.out, O'.out.drew⟩, by simp [intOf]⟩ | (go_roundw; (case rel => exact ⟨30, by omega, rfl, R1'.out, RR.out, O'.out.drew⟩); (case measure => simp [intOf]))
      · have hb := bt_at s 30 (by omega)
        obtain ⟨p, q⟩ := bt_bd s 30
        have e := ptor0 s 30
        have c := R2.cell (i := 15) (by omega)
        rw [show pt s 30 15 = 0 by simp [pt]] at c
        have f := R2.free 15
        have RR := hide ((R2.set 15 (bt s 30)).congr (fun i _ => pt_even s 15 i))
        have R1' := hide (R1.other (a := ⟨w.heap.size + 1, 15, none⟩) (by simp) (.int .u64 (bt s 30)))
        have O' := hide (O.setCell (p := ⟨w.heap.size + 1, 15, none⟩) (by simp) (.int .u64 (bt s 30)))
        clear R1 R2 O
        go_wp2_with fail
        go_region
        go_wp2
        first | exact ⟨⟨31, by omega, rfl, R1'.out, RR.out, O'.out.drew⟩, by simp [intOf]⟩ | (go_roundw; (case rel => exact ⟨31, by omega, rfl, R1'.out, RR.out, O'.out.drew⟩); (case measure => simp [intOf]))
      · have hb := bt_at s 31 (by omega)
        obtain ⟨p, q⟩ := bt_bd s 31
        have e := ptor1 s 30 31
        have c := R2.cell (i := 15) (by omega)
        rw [show pt s 31 15 = bt s 30 by simp [pt]] at c
        have f := R2.free 15
        have RR := hide ((R2.set 15 (bt s 30 + bt s 31 * 256)).congr (fun i _ => pt_odd s 15 i))
        have R1' := hide (R1.other (a := ⟨w.heap.size + 1, 15, none⟩) (by simp) (.int .u64 (bt s 30 + bt s 31 * 256)))
        have O' := hide (O.setCell (p := ⟨w.heap.size + 1, 15, none⟩) (by simp) (.int .u64 (bt s 30 + bt s 31 * 256)))
        clear R1 R2 O
        go_wp2_with fail
        go_region
        go_wp2
        first | exact ⟨⟨32, by omega, rfl, R1'.out, RR.out, O'.out.drew⟩, by simp [intOf]⟩ | (go_roundw; (case rel => exact ⟨32, by omega, rfl, R1'.out, RR.out, O'.out.drew⟩); (case measure => simp [intOf]))
    · have e : k = 32 := by omega
      subst e
      have RR := hide (R1.setAll (pt s 32))
      have OO := hide (below_setCells (g := w.heap.size) (Nat.le_refl _) (arr 16 (pt s 32)).toList 0 O)
      go_wp2_with (first | (refine wpList_load_row rfl 39 _ rfl (w.heap.size + 1) rfl 39 (arr 16 (pt s 32)) (0, 0) _ R2 Tryz.underlying39 rfl (info39 _) ?_) | (refine wpList_store_mid rfl 39 _ _ rfl w.heap.size 0 (arr 16 (pt s 32)) rfl rfl (by rw [arr_size]; exact R1.there) (info39 _) (arr_one _ _) ?_))
      exact bodyPost_ret (v := .agg (arr 16 (pt s 32))) (results_cell_row Tryz.results78 _ _ w.heap.size 39 (arr 16 (pt s 32)) (0, 0) _ rfl RR.out Tryz.underlying39 rfl (info39 _)) rfl ⟨rfl, OO.out⟩

end Go.Proofs.YtkeocdebfgcnnaaGreat.Ord

/- The contracts of Of, Canonical and Clamp, of the law's of, and of the document's. -/
namespace Go.Proofs.YtkeocdebfgcnnaaGreat.Ord
open Go.RowKit

/-- The number of a string's bytes modulo the order. -/
def ofN (s : ByteArray) : Int := bv s s.size % Lm
theorem ofN_bd (s : ByteArray) : 0 ≤ ofN s ∧ ofN s < Lm := lmod _

theorem mod_bytes (s : ByteArray) (w : World) (hs : s.size ≤ 64) :
    Calls Tryz.prog 32 #[.agg (arr 8 fun j => sw s j 8)] w fun x w' => x = .returned (.agg (arr 4 (d64 (ofN s)))) ∧ Below w.heap.size w w' := by
  have h := modulo_any (fun j => sw s j 8) w (sw_wds s 8)
  rw [Q_bv s 8, bv_64 s hs] at h
  exact h

set_option maxRecDepth 100000 in
set_option maxHeartbeats 1000000 in
theorem of_any (s : ByteArray) (w : World) (hs : s.size ≤ 64) (hp : s.size = 32 ∨ s.size = 64) :
    Calls Tryz.prog 6 #[.string s] w fun r w' => r = .returned (.tuple #[.agg (arr 4 (d64 (ofN s))), .int .i64 0]) ∧ Below w.heap.size w w' := by
  have HM := hide fun w => mod_bytes s w hs
  have R : Row (w.alloc (.cells #[Value.int IntKind.u64 0, Value.int IntKind.u64 0, Value.int IntKind.u64 0, Value.int IntKind.u64 0] 34)) w.heap.size 34 4 (fun _ => 0) := Row.new w 34 4 (fun _ => 0)
  have O : Below w.heap.size w (w.alloc (.cells #[Value.int IntKind.u64 0, Value.int IntKind.u64 0, Value.int IntKind.u64 0, Value.int IntKind.u64 0] 34)) := new_below w _
  obtain ⟨cap, W1, hcv, B, hb⟩ := conv_str (w.alloc (.cells #[Value.int IntKind.u64 0, Value.int IntKind.u64 0, Value.int IntKind.u64 0, Value.int IntKind.u64 0] 34)) s
  rw [show (w.alloc (.cells #[Value.int IntKind.u64 0, Value.int IntKind.u64 0, Value.int IntKind.u64 0, Value.int IntKind.u64 0] 34)).heap.size = w.heap.size + 1 by simp] at hcv B
  have HB := hide B
  replace R := R.keep hb
  replace O := O.trans (hb.mono O.size)
  clear B hb
  generalize ofN s = V at *
  have fin : ∀ w', Row w' w.heap.size 34 4 (fun _ => 0) → Below w.heap.size w w' → True := fun _ _ _ => trivial
  clear fin
  rcases hp with hp | hp
  · have n0 : ((s.size : Int) != 32) = false := by simp [hp]
    go_enter Tryz.func6, Tryz.ntmps6
    go_wp2_with fail
    have HC := dbl_any s _ cap W1 hs HB.out
    rw [hp] at HC
    refine HC.mono ?_
    clear HC
    rintro _ w1 ⟨rfl, hb1⟩
    replace R := R.keep hb1
    replace O := O.trans (hb1.mono O.size)
    clear hb1 HB hcv n0
    go_wp2_with fail
    refine (HM.out _).mono ?_
    rintro _ w2 ⟨rfl, hb1⟩
    replace R := R.keep hb1
    replace O := O.trans (hb1.mono O.size)
    clear hb1 HM
    have RR := hide (R.setAll (d64 V))
    have OO := hide (below_setCells (g := w.heap.size) (Nat.le_refl _) (arr 4 (d64 V)).toList 0 O)
    clear O
    go_wp2_with (refine wpList_store_mid rfl 34 _ _ rfl w.heap.size 0 (arr 4 (d64 V)) rfl rfl ?thn (info34 _) (arr_one _ _) ?_)
    case thn => rw [arr_size]; exact R.there
    exact bodyPost_ret (v := .tuple #[.agg (arr 4 (d64 V)), .int .i64 0]) (results_cell_tmp Tryz.results6 _ _ w.heap.size 34 (arr 4 (d64 V)) (0, 0) _ _ rfl rfl RR.out Tryz.underlying34 rfl (info34 _)) rfl ⟨rfl, OO.out⟩
  · have n0 : ((s.size : Int) != 32) = true := by simp [hp]
    have n1 : ((s.size : Int) != 64) = false := by simp [hp]
    go_enter Tryz.func6, Tryz.ntmps6
    go_wp2_with fail
    have HC := dbl_any s _ cap W1 hs HB.out
    rw [hp] at HC
    refine HC.mono ?_
    clear HC
    rintro _ w1 ⟨rfl, hb1⟩
    replace R := R.keep hb1
    replace O := O.trans (hb1.mono O.size)
    clear hb1 HB hcv n0 n1
    go_wp2_with fail
    refine (HM.out _).mono ?_
    rintro _ w2 ⟨rfl, hb1⟩
    replace R := R.keep hb1
    replace O := O.trans (hb1.mono O.size)
    clear hb1 HM
    have RR := hide (R.setAll (d64 V))
    have OO := hide (below_setCells (g := w.heap.size) (Nat.le_refl _) (arr 4 (d64 V)).toList 0 O)
    clear O
    go_wp2_with (refine wpList_store_mid rfl 34 _ _ rfl w.heap.size 0 (arr 4 (d64 V)) rfl rfl ?thm (info34 _) (arr_one _ _) ?_)
    case thm => rw [arr_size]; exact R.there
    exact bodyPost_ret (v := .tuple #[.agg (arr 4 (d64 V)), .int .i64 0]) (results_cell_tmp Tryz.results6 _ _ w.heap.size 34 (arr 4 (d64 V)) (0, 0) _ _ rfl rfl RR.out Tryz.underlying34 rfl (info34 _)) rfl ⟨rfl, OO.out⟩

set_option maxHeartbeats 400000 in
theorem of_no (s : ByteArray) (w : World) (h1 : s.size ≠ 32) (h2 : s.size ≠ 64) :
    Calls Tryz.prog 6 #[.string s] w fun r w' => r = .returned (.tuple #[.agg (arr 4 (d64 0)), .int .i64 2]) ∧ Below w.heap.size w w' := by
  have n0 : ((s.size : Int) != 32) = true := by simp; omega
  have n1 : ((s.size : Int) != 64) = true := by simp; omega
  go_enter Tryz.func6, Tryz.ntmps6
  go_wp2
  exact bodyPost_ret (v := .tuple #[.agg (arr 4 (d64 0)), .int .i64 2]) (by simp [results, Tryz.results6, go_sem]; rfl) rfl ⟨rfl, (Below.refl _ _).alloc (Nat.le_refl _) _⟩

end Go.Proofs.YtkeocdebfgcnnaaGreat.Ord

/- What the multiples are: the program's and the document's are those of one point; the base point's order. -/
namespace Go.Proofs.YtkeocdebfgcnnaaGreat
open Go.RowKit

namespace Ord
theorem leb_le (N : Int) : lebytes N = bs (le N 32) := by
  unfold lebytes le digs
  have e : ∀ (i j : Nat), (N / 18446744073709551616 ^ i % 18446744073709551616) / 256 ^ j % 256 = N / 256 ^ (8 * i + j) % 256 ∨ 8 ≤ j := by
    intro i j
    by_cases hj : 8 ≤ j
    · exact .inr hj
    · left
      have e1 : (256 : Int) ^ (8 * i + j) = 18446744073709551616 ^ i * 256 ^ j := by
        rw [Int.pow_add, Int.pow_mul]
        rfl
      have hp := p64 i
      rw [e1, ← Int.ediv_ediv_of_nonneg (by omega)]
      generalize N / 18446744073709551616 ^ i = A
      rcases (show j = 0 ∨ j = 1 ∨ j = 2 ∨ j = 3 ∨ j = 4 ∨ j = 5 ∨ j = 6 ∨ j = 7 by omega) with rfl | rfl | rfl | rfl | rfl | rfl | rfl | rfl
      · simp only [Int.pow_zero]; omega
      · simp only [show (256 : Int) ^ 1 = 256 from by decide]; omega
      · simp only [show (256 : Int) ^ 2 = 65536 from by decide]; omega
      · simp only [show (256 : Int) ^ 3 = 16777216 from by decide]; omega
      · simp only [show (256 : Int) ^ 4 = 4294967296 from by decide]; omega
      · simp only [show (256 : Int) ^ 5 = 1099511627776 from by decide]; omega
      · simp only [show (256 : Int) ^ 6 = 281474976710656 from by decide]; omega
      · simp only [show (256 : Int) ^ 7 = 72057594037927936 from by decide]; omega
  congr 1
  have e' : ∀ (i j : Nat), j < 8 → N / 256 ^ (8 * i + j) % 256 = (N / 18446744073709551616 ^ i % 18446744073709551616) / 256 ^ j % 256 := fun i j hj => by
    rcases e i j with h | h
    · exact h.symm
    · omega
  have hl : List.range 32 = [8 * 0 + 0, 8 * 0 + 1, 8 * 0 + 2, 8 * 0 + 3, 8 * 0 + 4, 8 * 0 + 5, 8 * 0 + 6, 8 * 0 + 7, 8 * 1 + 0, 8 * 1 + 1, 8 * 1 + 2, 8 * 1 + 3, 8 * 1 + 4, 8 * 1 + 5, 8 * 1 + 6, 8 * 1 + 7, 8 * 2 + 0, 8 * 2 + 1, 8 * 2 + 2, 8 * 2 + 3, 8 * 2 + 4, 8 * 2 + 5, 8 * 2 + 6, 8 * 2 + 7, 8 * 3 + 0, 8 * 3 + 1, 8 * 3 + 2, 8 * 3 + 3, 8 * 3 + 4, 8 * 3 + 5, 8 * 3 + 6, 8 * 3 + 7] := by decide
  rw [hl]
  simp only [List.map_cons, List.map_nil]
  rw [e' 0 0 (by omega), e' 0 1 (by omega), e' 0 2 (by omega), e' 0 3 (by omega), e' 0 4 (by omega), e' 0 5 (by omega), e' 0 6 (by omega), e' 0 7 (by omega), e' 1 0 (by omega), e' 1 1 (by omega), e' 1 2 (by omega), e' 1 3 (by omega), e' 1 4 (by omega), e' 1 5 (by omega), e' 1 6 (by omega), e' 1 7 (by omega), e' 2 0 (by omega), e' 2 1 (by omega), e' 2 2 (by omega), e' 2 3 (by omega), e' 2 4 (by omega), e' 2 5 (by omega), e' 2 6 (by omega), e' 2 7 (by omega), e' 3 0 (by omega), e' 3 1 (by omega), e' 3 2 (by omega), e' 3 3 (by omega), e' 3 4 (by omega), e' 3 5 (by omega), e' 3 6 (by omega), e' 3 7 (by omega)]
  simp

theorem leb_size (N : Int) : (lebytes N).size = 32 := by
  unfold lebytes
  rw [bs_size]
  rfl

theorem leb_bv {N : Int} (hN : 0 ≤ N ∧ N < Lm) : bv (lebytes N) 32 = N := by
  have hP := Lm_P
  rw [leb_le N, bv_le N hN.1 32 32 (by omega)]
  have e : (256 : Int) ^ 32 = 18446744073709551616 ^ 4 := by decide
  rw [e, Int.emod_eq_of_lt hN.1 (by omega)]

end Ord

theorem add_self (P : Pt) : P.add P = P.mul 2 := by
  show _ = (zeroP.add P).add P
  rw [add_comm' zeroP, add_zero']
theorem Rep.dbl2 {p : P5} {P : Pt} (h : Rep p P) : Rep (dblF p) (P.mul 2) := by
  rw [← add_self]
  exact h.dbl
theorem Rep.d4 {p : P5} {P : Pt} {n : Nat} (h : Rep p (P.mul n)) : Rep (d4 p) (P.mul (n * 16)) := by
  have e : P.mul (n * 16) = ((((P.mul n).mul 2).mul 2).mul 2).mul 2 := by
    rw [← mul_mul', ← mul_mul', ← mul_mul', ← mul_mul']
  rw [e]
  exact h.dbl2.dbl2.dbl2.dbl2
theorem Rep.mulT {p : P5} {P : Pt} (h : Rep p P) : ∀ k, Rep (mulT p k) (P.mul k)
  | 0 => zero5_rep
  | k + 1 => (Rep.mulT h k).sum h
theorem Rep.sumN {p q : P5} {P : Pt} {m n : Nat} (hp : Rep p (P.mul m)) (hq : Rep q (P.mul n)) : Rep (sumF p q) (P.mul (m + n)) := by
  rw [mul_add']
  exact hp.sum hq
theorem div_step {A : Int} {B b : Nat} (h0 : 0 ≤ A) (h1 : (A / B).toNat = b) (hB : 0 < B) : A.toNat = b * B + (A % B).toNat := by
  have h2 := Int.emod_nonneg A (show (B : Int) ≠ 0 by omega)
  have h3 : 0 ≤ A / B := Int.ediv_nonneg h0 (by omega)
  have h4 := Int.mul_ediv_add_emod A B
  apply Int.ofNat.inj
  show (A.toNat : Int) = ((b * B + (A % B).toNat : Nat) : Int)
  rw [Int.natCast_add, Int.natCast_mul, ← h1, Int.toNat_of_nonneg h0, Int.toNat_of_nonneg h3, Int.toNat_of_nonneg h2, Int.mul_comm]
  exact h4.symm
theorem Rep.acc {p : P5} {P : Pt} (h : Rep p P) (s : ByteArray) : ∀ j, j ≤ 32 → Rep (acc p s j) (P.mul (Ord.bv s 32 / 256 ^ (32 - j)).toNat)
  | 0, _ => by
    have hb := Ord.bv_bd s 32
    rw [Int.ediv_eq_zero_of_lt hb.1 hb.2]
    exact zero5_rep
  | j + 1, hj => by
    have ih := Rep.acc h s j (by omega)
    have hb := Ord.bv_bd s 32
    have ha := Ord.bv_at s (j := 31 - j) (m := 32) (by omega)
    have hp := Ord.p8 (31 - j)
    rw [show 32 - j = 31 - j + 1 by omega, Int.pow_succ, ← Int.ediv_ediv_of_nonneg (by omega)] at ih
    rw [show 32 - (j + 1) = 31 - j by omega]
    have hA : 0 ≤ Ord.bv s 32 / 256 ^ (31 - j) := Int.ediv_nonneg hb.1 (by omega)
    generalize Ord.bv s 32 / 256 ^ (31 - j) = A at *
    have hd := div_step (B := 256) hA rfl (by omega)
    rw [hd, show (A % ((256 : Nat) : Int)) = A % 256 from rfl, ha]
    have ht := bt_bd s (31 - j)
    show Rep (sumF (_root_.Go.Proofs.YtkeocdebfgcnnaaGreat.d4 (sumF (_root_.Go.Proofs.YtkeocdebfgcnnaaGreat.d4 (_root_.Go.Proofs.YtkeocdebfgcnnaaGreat.acc p s j)) (_root_.Go.Proofs.YtkeocdebfgcnnaaGreat.mulT p (bt s (31 - j) / 16).toNat))) (_root_.Go.Proofs.YtkeocdebfgcnnaaGreat.mulT p (bt s (31 - j) % 16).toNat)) _
    have h2 := ((ih.d4.sumN (h.mulT (bt s (31 - j) / 16).toNat)).d4).sumN (h.mulT (bt s (31 - j) % 16).toNat)
    have e : ((A / 256).toNat * 16 + (bt s (31 - j) / 16).toNat) * 16 + (bt s (31 - j) % 16).toNat = (A / ((256 : Nat) : Int)).toNat * 256 + (bt s (31 - j)).toNat := by
      rw [show (A / ((256 : Nat) : Int)) = A / 256 from rfl]
      omega
    rw [e] at h2
    exact h2

/-- Mul by a scalar. -/
noncomputable def mulV (p : P5) (N : Int) : P5 := acc p (Ord.lebytes N) 32
theorem Rep.mul {p : P5} {P : Pt} (h : Rep p P) {N : Int} (hN : 0 ≤ N ∧ N < Ord.Lm) : Rep (mulV p N) (P.mul N.toNat) := by
  have h2 := h.acc (Ord.lebytes N) 32 (Nat.le_refl _)
  rw [Ord.leb_bv hN, Nat.sub_self, Int.pow_zero, Int.ediv_one] at h2
  exact h2
theorem c_mul {p : P5} {P : Pt} (h : Rep p P) (N : Int) (w : World) : Calls Tryz.prog 15 #[.agg (arr 20 p.f), .agg (arr 4 (Ord.d64 N))] w fun r w' => r = .returned (.agg (arr 20 (mulV p N).f)) ∧ Below w.heap.size w w' :=
  mulY_gen p (Ord.d64 N) (Ord.lebytes N) w ⟨trivial⟩ h.ok h.none (Ord.leb_size N) (fun w => Ord.bytes_any N w)

theorem pb_d16 (N : Int) (i : Nat) : pb (Ord.d16 N) i = N / 2 ^ i % 2 := by
  have e : (2 : Int) ^ i = 65536 ^ (i / 16) * 2 ^ (i % 16) := by
    have e1 : (65536 : Int) ^ (i / 16) = 2 ^ (16 * (i / 16)) := by rw [Int.pow_mul]; rfl
    rw [e1, ← Int.pow_add]
    congr 1
    omega
  have hp : (0 : Int) < 65536 ^ (i / 16) := Int.pow_pos (by decide)
  unfold pb Ord.d16
  rw [e, ← Int.ediv_ediv_of_nonneg (by omega)]
  generalize N / 65536 ^ (i / 16) = A
  have h8 : i % 16 < 16 := by omega
  generalize i % 16 = r at *
  rcases (show r = 0 ∨ r = 1 ∨ r = 2 ∨ r = 3 ∨ r = 4 ∨ r = 5 ∨ r = 6 ∨ r = 7 ∨ r = 8 ∨ r = 9 ∨ r = 10 ∨ r = 11 ∨ r = 12 ∨ r = 13 ∨ r = 14 ∨ r = 15 by omega) with rfl | rfl | rfl | rfl | rfl | rfl | rfl | rfl | rfl | rfl | rfl | rfl | rfl | rfl | rfl | rfl
  · rw [show (2 : Int) ^ 0 = 1 by decide]; omega
  · rw [show (2 : Int) ^ 1 = 2 by decide]; omega
  · rw [show (2 : Int) ^ 2 = 4 by decide]; omega
  · rw [show (2 : Int) ^ 3 = 8 by decide]; omega
  · rw [show (2 : Int) ^ 4 = 16 by decide]; omega
  · rw [show (2 : Int) ^ 5 = 32 by decide]; omega
  · rw [show (2 : Int) ^ 6 = 64 by decide]; omega
  · rw [show (2 : Int) ^ 7 = 128 by decide]; omega
  · rw [show (2 : Int) ^ 8 = 256 by decide]; omega
  · rw [show (2 : Int) ^ 9 = 512 by decide]; omega
  · rw [show (2 : Int) ^ 10 = 1024 by decide]; omega
  · rw [show (2 : Int) ^ 11 = 2048 by decide]; omega
  · rw [show (2 : Int) ^ 12 = 4096 by decide]; omega
  · rw [show (2 : Int) ^ 13 = 8192 by decide]; omega
  · rw [show (2 : Int) ^ 14 = 16384 by decide]; omega
  · rw [show (2 : Int) ^ 15 = 32768 by decide]; omega
theorem RRep.dblN {q : RQ} {P : Pt} {n : Nat} (h : RRep q (P.mul n)) : RRep (raddV q q) (P.mul (n * 2)) := by
  rw [mul_mul', ← add_self]
  exact h.add h
theorem RRep.rmul {q : RQ} {P : Pt} (h : RRep q P) {N : Int} (h0 : 0 ≤ N) (h1 : N < 2 ^ 256) : ∀ j, j ≤ 256 → RRep (racc q (Ord.d16 N) j) (P.mul (N / 2 ^ (256 - j)).toNat)
  | 0, _ => by
    rw [Int.ediv_eq_zero_of_lt h0 h1]
    exact rzero_rep
  | j + 1, hj => by
    have ih := RRep.rmul h h0 h1 j (by omega)
    have hb := pb_d16 N (255 - j)
    have hp : (0 : Int) < 2 ^ (255 - j) := Int.pow_pos (by decide)
    rw [show 256 - j = 255 - j + 1 by omega, Int.pow_succ, ← Int.ediv_ediv_of_nonneg (by omega)] at ih
    rw [show 256 - (j + 1) = 255 - j by omega]
    have hA : 0 ≤ N / 2 ^ (255 - j) := Int.ediv_nonneg h0 (by omega)
    generalize N / 2 ^ (255 - j) = A at *
    have hd := div_step (B := 2) hA rfl (by omega)
    rw [hd]
    show RRep (if pb (Ord.d16 N) (255 - j) = 1 then raddV (raddV (racc q (Ord.d16 N) j) (racc q (Ord.d16 N) j)) q else raddV (racc q (Ord.d16 N) j) (racc q (Ord.d16 N) j)) _
    have h2 := ih.dblN
    by_cases hbit : pb (Ord.d16 N) (255 - j) = 1
    · rw [if_pos hbit]
      rw [hb] at hbit
      rw [show (A % ((2 : Nat) : Int)) = A % 2 from rfl, hbit]
      exact h2.add h
    · rw [if_neg hbit]
      rw [hb] at hbit
      rw [show (A % ((2 : Nat) : Int)) = A % 2 from rfl, show A % 2 = 0 by omega]
      exact h2

end Go.Proofs.YtkeocdebfgcnnaaGreat

/- The base point, as often as its order tells, is the zero point. -/
namespace Go.Proofs.YtkeocdebfgcnnaaGreat
open Go.RowKit

def rst (q : RQ) : List Bool → RQ → RQ
  | [], r => r
  | true :: l, r => rst q l (raddV (raddV r r) q)
  | false :: l, r => rst q l (raddV r r)
def nst : List Bool → Nat → Nat
  | [], n => n
  | true :: l, n => nst l (n * 2 + 1)
  | false :: l, n => nst l (n * 2)
theorem RRep.rst {q : RQ} {P : Pt} (hq : RRep q P) : ∀ (l : List Bool) (r : RQ) (n : Nat), RRep r (P.mul n) → RRep (rst q l r) (P.mul (nst l n))
  | [], _, _, h => h
  | true :: l, _, _, h => RRep.rst hq l _ _ ((h.dblN).add hq)
  | false :: l, _, _, h => RRep.rst hq l _ _ h.dblN
theorem RQ.ext {p q : RQ} (h : p.x = q.x ∧ p.y = q.y ∧ p.z = q.z ∧ p.t = q.t) : p = q := by
  cases p
  cases q
  obtain ⟨rfl, rfl, rfl, rfl⟩ := h
  rfl
theorem RRep.step {P : Pt} {r r' : RQ} {n n' : Nat} {q : RQ} (h : RRep r (P.mul n)) (hq : RRep q P) (l : List Bool) (h1 : (Go.Proofs.YtkeocdebfgcnnaaGreat.rst q l r).x = r'.x ∧ (Go.Proofs.YtkeocdebfgcnnaaGreat.rst q l r).y = r'.y ∧ (Go.Proofs.YtkeocdebfgcnnaaGreat.rst q l r).z = r'.z ∧ (Go.Proofs.YtkeocdebfgcnnaaGreat.rst q l r).t = r'.t) (h2 : nst l n = n') : RRep r' (P.mul n') := by
  have h3 := hq.rst l r n h
  rw [RQ.ext h1, h2] at h3
  exact h3
def o1 : RQ := ⟨28395401623189904592402220376056608767286906469681911141736293996965798587502, 39551095695588853852379006563980990449178671813393243361538106395492117339030, 13195407553963494886988266688278850522809838004392335738274838344469044685139, 5998313819499033592004301560146126542607977991985566157281743382373950066103⟩
def o2 : RQ := ⟨3736255692963323852157080816719051928015231286185418755506407306915993899308, 17983798907073456331824429511468081546160187313990958684116939890165973385368, 33785251562200620272591655105578257675791047440203960497896472325457266014387, 45039970419153914913233916472718629475295562274195907195989696614576481271418⟩
def o3 : RQ := ⟨32052919422593390400337661247495038476529181208675066921379485888298719544837, 28429070914396697255495341828562990241969202408203355349348710724900185533588, 10588827755536999659864071860885663282680288609784572110374386994466660820476, 43013930901032196104395741888172690439877794597309416145526463712315394175116⟩
def o4 : RQ := ⟨4776277093813094955447743187417552572016585737685742536869622802835626899788, 30356025824548741949173045342494487507276562520522040179358715903492292688926, 29323326198710578740964923425401914765723760484569174664957710697561699375900, 13956212776148083255775091524001131953413201558734147707505118271509020383196⟩
def o5 : RQ := ⟨806028773641219405862066059792010227355644258226013237337961789056367360821, 13645183299928035859404353138110674523321692145028244430183708252202950528286, 25740815768117163713671634973563184703771474299857880066918189357958302116656, 52976027652120056614879305678715301146658099535885801916867846385800325449149⟩
def o10 : RQ := ⟨27747334574616394001671544972397522701443406515410373621549800952286789188031, 8199122845177527114994708208354772536036717138860348540088995815280918949742, 5134118114367787481165291208904372290085401719766489595368751140561486979321, 54909114419988028932990657036010681893848110131280402308041711995246989110530⟩
def o11 : RQ := ⟨47916525168426179058218639806050604838489673677967769462188175335800095451463, 30617327695503016912621504384003028789359232859295326909963525387337587687837, 15147999521824012262492808253667687103168467042379860254812284001570090082820, 29164916684187026905245983522567931035026027657278887173783286103699229397309⟩
end Go.Proofs.YtkeocdebfgcnnaaGreat

/- The walk of EdwReckons. -/
namespace Go.Proofs.YtkeocdebfgcnnaaGreat
open Go.RowKit

noncomputable def decQ (s : ByteArray) : Pt := if h : rdecB s = true then decPt s h else zeroP
theorem dec_both {s : ByteArray} (hc : decC s = 0) : Rep (decP s) (decQ s) ∧ RRep (rdecP s) (decQ s) := by
  have h32 : s.size = 32 := by
    refine Classical.byContradiction fun h => ?_
    unfold decC at hc
    rw [if_neg h] at hc
    cases hc
  have hB : rdecB s = true := by
    cases h : rdecB s
    · unfold decC at hc
      rw [if_pos h32, dec_eq, h] at hc
      cases hc
    · rfl
  have e : decQ s = decPt s hB := by
    unfold decQ
    rw [dif_pos hB]
  rw [e]
  exact ⟨dec_rep h32 hB, rdec_rep h32 hB⟩
theorem is_yes {p : P5} {q : RQ} {X : Pt} (hp : Rep p X) (hq : RRep q X) (w : World) : Calls Tryz.prog 10 #[.agg (arr 20 p.f), .agg (arr 64 q.f)] w fun r w' => r = .returned (.bool true) ∧ Below w.heap.size w w' := by
  have h := isF_gen p.f q.f (ptS X) (ptS X) w ⟨bytes_yes hp.ok hp.bytes, fun w => by
    have h := c_rbytes q w hq.ok
    rwa [hq.bytes] at h⟩
  simpa using h
noncomputable def ofC (s : ByteArray) : Int := if s.size = 32 ∨ s.size = 64 then 0 else 2
noncomputable def ofV (s : ByteArray) : Int := if s.size = 32 ∨ s.size = 64 then Ord.ofN s else 0
theorem c_of (s : ByteArray) (w : World) : Calls Tryz.prog 6 #[.string s] w fun r w' => r = .returned (.tuple #[.agg (arr 4 (Ord.d64 (ofV s))), .int .i64 (ofC s)]) ∧ Below w.heap.size w w' := by
  unfold ofV ofC
  by_cases h : s.size = 32 ∨ s.size = 64
  · rw [if_pos h, if_pos h]
    exact Ord.of_any s w (by omega) h
  · rw [if_neg h, if_neg h]
    exact Ord.of_no s w (by omega) (by omega)
theorem ofV_bd (s : ByteArray) : 0 ≤ ofV s ∧ ofV s < Ord.Lm := by
  unfold ofV
  split
  · exact Ord.ofN_bd s
  · decide
theorem c_rofO {s : ByteArray} (h : ofC s = 0) (w : World) : Calls Tryz.prog 9 #[.string s] w fun x w' => x = .returned (.agg (arr 16 (Ord.d16 (ofV s)))) ∧ Below w.heap.size w w' := by
  have hs : s.size = 32 ∨ s.size = 64 := by
    refine Classical.byContradiction fun hn => ?_
    unfold ofC at h
    rw [if_neg hn] at h
    cases h
  have h2 := Ord.rof_any s (8 * s.size) w (by omega) rfl
  rw [Ord.ov_all s s.size (8 * s.size) rfl] at h2
  unfold ofV Ord.ofN
  rw [if_pos hs]
  exact h2

structure reck1F (s t n : ByteArray)  : Prop where
  h0 : True

set_option maxRecDepth 100000 in
set_option maxHeartbeats 4000000 in
theorem reck1_gen (s t n : ByteArray)  (w : World) (_F : reck1F s t n ) (he : ¬ decC s = 0) :
    Calls Tryz.prog 3 #[.string s, .string t, .string n] w fun r w' => r = .returned (.bool true) ∧ Below w.heap.size w w' := by
  go_enter Tryz.func3, Tryz.ntmps3
  have M := Mem.start w
  refine wp_seq ?_
  refine rg_lit ?_
  refine pl_val (want_no rfl) (some 6) rfl (.bool false) (fun _ => by kernel_rfl) ?_
  refine pl_nil ?_
  refine au_then ?_
  refine wp_seq ?_
  refine rg_lit ?_
  refine pl_val (want_no rfl) (some 19) rfl (.string s) (fun _ => by kernel_rfl) ?_
  refine pl_call M (want_no rfl) (some 20) rfl 5 #[.string s] (.tuple #[.agg (arr 20 (decP s).f), .int .i64 (decC s)]) (fun _ => by kernel_rfl) (dec_yes rfl rfl) ?_
  intro w1 M
  refine pl_val (want_no rfl) (some 18) rfl (.tuple #[.agg (arr 20 (decP s).f), .int .i64 (decC s)]) (fun _ => by kernel_rfl) ?_
  refine pl_val (want_no rfl) (some 21) rfl (.agg (arr 20 (decP s).f)) (fun _ => by kernel_rfl) ?_
  refine pl_val (want_no rfl) (some 22) rfl (.int .i64 (decC s)) (fun _ => by kernel_rfl) ?_
  refine pl_new M (want_no rfl) (some 7) rfl (.cells (arr 20 (fun _ => 0)) 27) (fun _ => by kernel_rfl) ?_
  intro g1 w2 M
  replace M : Mem w [⟨g1, .cells (arr 20 (fun _ => 0)) 27⟩] w2 := M
  refine pl_put M (want_no rfl) rfl 27 _ _ rfl 0 g1 (by kernel_rfl) 20 27 (fun _ => 0) (decP s).f rfl (by kernel_rfl) inz27 ?_
  intro w3 M
  replace M : Mem w [⟨g1, .cells (arr 20 (decP s).f) 27⟩] w3 := M
  refine pl_val (want_no rfl) (some 8) rfl (.int .i64 (decC s)) (fun _ => by kernel_rfl) ?_
  refine pl_nil ?_
  refine au_then ?_
  refine wp_seq ?_
  refine rg_lit ?_
  refine pl_val (want_no rfl) (some 24) rfl (.string t) (fun _ => by kernel_rfl) ?_
  refine pl_call M (want_no rfl) (some 25) rfl 5 #[.string t] (.tuple #[.agg (arr 20 (decP t).f), .int .i64 (decC t)]) (fun _ => by kernel_rfl) (dec_yes rfl rfl) ?_
  intro w4 M
  refine pl_val (want_no rfl) (some 23) rfl (.tuple #[.agg (arr 20 (decP t).f), .int .i64 (decC t)]) (fun _ => by kernel_rfl) ?_
  refine pl_val (want_no rfl) (some 26) rfl (.agg (arr 20 (decP t).f)) (fun _ => by kernel_rfl) ?_
  refine pl_val (want_no rfl) (some 27) rfl (.int .i64 (decC t)) (fun _ => by kernel_rfl) ?_
  refine pl_new M (want_no rfl) (some 9) rfl (.cells (arr 20 (fun _ => 0)) 27) (fun _ => by kernel_rfl) ?_
  intro g2 w5 M
  replace M : Mem w [⟨g1, .cells (arr 20 (decP s).f) 27⟩, ⟨g2, .cells (arr 20 (fun _ => 0)) 27⟩] w5 := M
  refine pl_put M (want_no rfl) rfl 27 _ _ rfl 1 g2 (by kernel_rfl) 20 27 (fun _ => 0) (decP t).f rfl (by kernel_rfl) inz27 ?_
  intro w6 M
  replace M : Mem w [⟨g1, .cells (arr 20 (decP s).f) 27⟩, ⟨g2, .cells (arr 20 (decP t).f) 27⟩] w6 := M
  refine pl_val (want_no rfl) (some 10) rfl (.int .i64 (decC t)) (fun _ => by kernel_rfl) ?_
  refine pl_nil ?_
  refine au_then ?_
  refine wp_seq ?_
  refine rg_lit ?_
  refine pl_val (want_no rfl) (some 29) rfl (.string n) (fun _ => by kernel_rfl) ?_
  refine pl_call M (want_no rfl) (some 30) rfl 6 #[.string n] (.tuple #[.agg (arr 4 (Ord.d64 (ofV n))), .int .i64 (ofC n)]) (fun _ => by kernel_rfl) (c_of n) ?_
  intro w7 M
  refine pl_val (want_no rfl) (some 28) rfl (.tuple #[.agg (arr 4 (Ord.d64 (ofV n))), .int .i64 (ofC n)]) (fun _ => by kernel_rfl) ?_
  refine pl_val (want_no rfl) (some 31) rfl (.agg (arr 4 (Ord.d64 (ofV n)))) (fun _ => by kernel_rfl) ?_
  refine pl_val (want_no rfl) (some 32) rfl (.int .i64 (ofC n)) (fun _ => by kernel_rfl) ?_
  refine pl_new M (want_no rfl) (some 11) rfl (.cells (arr 4 (fun _ => 0)) 34) (fun _ => by kernel_rfl) ?_
  intro g3 w8 M
  replace M : Mem w [⟨g1, .cells (arr 20 (decP s).f) 27⟩, ⟨g2, .cells (arr 20 (decP t).f) 27⟩, ⟨g3, .cells (arr 4 (fun _ => 0)) 34⟩] w8 := M
  refine pl_put M (want_no rfl) rfl 34 _ _ rfl 2 g3 (by kernel_rfl) 4 34 (fun _ => 0) (Ord.d64 (ofV n)) rfl (by kernel_rfl) inz34 ?_
  intro w9 M
  replace M : Mem w [⟨g1, .cells (arr 20 (decP s).f) 27⟩, ⟨g2, .cells (arr 20 (decP t).f) 27⟩, ⟨g3, .cells (arr 4 (Ord.d64 (ofV n))) 34⟩] w9 := M
  refine pl_val (want_no rfl) (some 12) rfl (.int .i64 (ofC n)) (fun _ => by kernel_rfl) ?_
  refine pl_nil ?_
  refine au_then ?_
  refine wp_seq ?_
  refine wp_seq ?_
  refine rg_lit ?_
  refine pl_val (want_no rfl) (some 33) rfl (.int .i64 (decC s)) (fun _ => by kernel_rfl) ?_
  refine pl_val (want_no rfl) (some 34) rfl (.bool true) (fun w => Eq.trans (b := .ok (.value (.bool (!(decide (decC s = 0))))) w) (by kernel_rfl) (by simp [he])) ?_
  refine pl_val (want_no rfl) (some 35) rfl (.bool true) (fun _ => by kernel_rfl) ?_
  refine pl_skip (want_off 2 false rfl 35 rfl (by kernel_rfl)) (some 36) rfl ?_
  refine pl_skip (want_off 2 false rfl 35 rfl (by kernel_rfl)) (some 37) rfl ?_
  refine pl_val (want_no rfl) (some 38) rfl (.bool true) (fun _ => by kernel_rfl) ?_
  refine pl_val (want_no rfl) (some 39) rfl (.bool true) (fun _ => by kernel_rfl) ?_
  refine pl_skip (want_off 6 false rfl 39 rfl (by kernel_rfl)) (some 40) rfl ?_
  refine pl_skip (want_off 6 false rfl 39 rfl (by kernel_rfl)) (some 41) rfl ?_
  refine pl_val (want_no rfl) (some 42) rfl (.bool true) (fun _ => by kernel_rfl) ?_
  refine pl_nil ?_
  refine au_then ?_
  refine wp_cond_true (by kernel_rfl) ?_
  refine wp_seq ?_
  refine rg_lit ?_
  refine pl_call M (want_no rfl) (some 43) rfl 7 #[] (.bool true) (fun _ => by kernel_rfl) alive_any ?_
  intro w10 M
  refine pl_val (want_no rfl) (some 6) rfl (.bool true) (fun _ => by kernel_rfl) ?_
  refine pl_nil ?_
  refine au_then ?_
  refine wp_ret ?_
  refine au_then_ret ?_
  exact bodyPost_ret (v := .bool true) (results_tmp1 Tryz.results3 _ _ _ (by kernel_rfl)) (by kernel_rfl) ⟨rfl, M.old⟩

structure reck2F (s t n : ByteArray)  : Prop where
  h0 : True

set_option maxRecDepth 100000 in
set_option maxHeartbeats 4000000 in
theorem reck2_gen (s t n : ByteArray)  (w : World) (_F : reck2F s t n ) (he : decC s = 0) (hf : ¬ decC t = 0) :
    Calls Tryz.prog 3 #[.string s, .string t, .string n] w fun r w' => r = .returned (.bool true) ∧ Below w.heap.size w w' := by
  go_enter Tryz.func3, Tryz.ntmps3
  have M := Mem.start w
  refine wp_seq ?_
  refine rg_lit ?_
  refine pl_val (want_no rfl) (some 6) rfl (.bool false) (fun _ => by kernel_rfl) ?_
  refine pl_nil ?_
  refine au_then ?_
  refine wp_seq ?_
  refine rg_lit ?_
  refine pl_val (want_no rfl) (some 19) rfl (.string s) (fun _ => by kernel_rfl) ?_
  refine pl_call M (want_no rfl) (some 20) rfl 5 #[.string s] (.tuple #[.agg (arr 20 (decP s).f), .int .i64 (decC s)]) (fun _ => by kernel_rfl) (dec_yes rfl rfl) ?_
  intro w1 M
  refine pl_val (want_no rfl) (some 18) rfl (.tuple #[.agg (arr 20 (decP s).f), .int .i64 (decC s)]) (fun _ => by kernel_rfl) ?_
  refine pl_val (want_no rfl) (some 21) rfl (.agg (arr 20 (decP s).f)) (fun _ => by kernel_rfl) ?_
  refine pl_val (want_no rfl) (some 22) rfl (.int .i64 (decC s)) (fun _ => by kernel_rfl) ?_
  refine pl_new M (want_no rfl) (some 7) rfl (.cells (arr 20 (fun _ => 0)) 27) (fun _ => by kernel_rfl) ?_
  intro g1 w2 M
  replace M : Mem w [⟨g1, .cells (arr 20 (fun _ => 0)) 27⟩] w2 := M
  refine pl_put M (want_no rfl) rfl 27 _ _ rfl 0 g1 (by kernel_rfl) 20 27 (fun _ => 0) (decP s).f rfl (by kernel_rfl) inz27 ?_
  intro w3 M
  replace M : Mem w [⟨g1, .cells (arr 20 (decP s).f) 27⟩] w3 := M
  refine pl_val (want_no rfl) (some 8) rfl (.int .i64 (decC s)) (fun _ => by kernel_rfl) ?_
  refine pl_nil ?_
  refine au_then ?_
  refine wp_seq ?_
  refine rg_lit ?_
  refine pl_val (want_no rfl) (some 24) rfl (.string t) (fun _ => by kernel_rfl) ?_
  refine pl_call M (want_no rfl) (some 25) rfl 5 #[.string t] (.tuple #[.agg (arr 20 (decP t).f), .int .i64 (decC t)]) (fun _ => by kernel_rfl) (dec_yes rfl rfl) ?_
  intro w4 M
  refine pl_val (want_no rfl) (some 23) rfl (.tuple #[.agg (arr 20 (decP t).f), .int .i64 (decC t)]) (fun _ => by kernel_rfl) ?_
  refine pl_val (want_no rfl) (some 26) rfl (.agg (arr 20 (decP t).f)) (fun _ => by kernel_rfl) ?_
  refine pl_val (want_no rfl) (some 27) rfl (.int .i64 (decC t)) (fun _ => by kernel_rfl) ?_
  refine pl_new M (want_no rfl) (some 9) rfl (.cells (arr 20 (fun _ => 0)) 27) (fun _ => by kernel_rfl) ?_
  intro g2 w5 M
  replace M : Mem w [⟨g1, .cells (arr 20 (decP s).f) 27⟩, ⟨g2, .cells (arr 20 (fun _ => 0)) 27⟩] w5 := M
  refine pl_put M (want_no rfl) rfl 27 _ _ rfl 1 g2 (by kernel_rfl) 20 27 (fun _ => 0) (decP t).f rfl (by kernel_rfl) inz27 ?_
  intro w6 M
  replace M : Mem w [⟨g1, .cells (arr 20 (decP s).f) 27⟩, ⟨g2, .cells (arr 20 (decP t).f) 27⟩] w6 := M
  refine pl_val (want_no rfl) (some 10) rfl (.int .i64 (decC t)) (fun _ => by kernel_rfl) ?_
  refine pl_nil ?_
  refine au_then ?_
  refine wp_seq ?_
  refine rg_lit ?_
  refine pl_val (want_no rfl) (some 29) rfl (.string n) (fun _ => by kernel_rfl) ?_
  refine pl_call M (want_no rfl) (some 30) rfl 6 #[.string n] (.tuple #[.agg (arr 4 (Ord.d64 (ofV n))), .int .i64 (ofC n)]) (fun _ => by kernel_rfl) (c_of n) ?_
  intro w7 M
  refine pl_val (want_no rfl) (some 28) rfl (.tuple #[.agg (arr 4 (Ord.d64 (ofV n))), .int .i64 (ofC n)]) (fun _ => by kernel_rfl) ?_
  refine pl_val (want_no rfl) (some 31) rfl (.agg (arr 4 (Ord.d64 (ofV n)))) (fun _ => by kernel_rfl) ?_
  refine pl_val (want_no rfl) (some 32) rfl (.int .i64 (ofC n)) (fun _ => by kernel_rfl) ?_
  refine pl_new M (want_no rfl) (some 11) rfl (.cells (arr 4 (fun _ => 0)) 34) (fun _ => by kernel_rfl) ?_
  intro g3 w8 M
  replace M : Mem w [⟨g1, .cells (arr 20 (decP s).f) 27⟩, ⟨g2, .cells (arr 20 (decP t).f) 27⟩, ⟨g3, .cells (arr 4 (fun _ => 0)) 34⟩] w8 := M
  refine pl_put M (want_no rfl) rfl 34 _ _ rfl 2 g3 (by kernel_rfl) 4 34 (fun _ => 0) (Ord.d64 (ofV n)) rfl (by kernel_rfl) inz34 ?_
  intro w9 M
  replace M : Mem w [⟨g1, .cells (arr 20 (decP s).f) 27⟩, ⟨g2, .cells (arr 20 (decP t).f) 27⟩, ⟨g3, .cells (arr 4 (Ord.d64 (ofV n))) 34⟩] w9 := M
  refine pl_val (want_no rfl) (some 12) rfl (.int .i64 (ofC n)) (fun _ => by kernel_rfl) ?_
  refine pl_nil ?_
  refine au_then ?_
  refine wp_seq ?_
  refine wp_seq ?_
  refine rg_lit ?_
  refine pl_val (want_no rfl) (some 33) rfl (.int .i64 (decC s)) (fun _ => by kernel_rfl) ?_
  refine pl_val (want_no rfl) (some 34) rfl (.bool false) (fun w => Eq.trans (b := .ok (.value (.bool (!(decide (decC s = 0))))) w) (by kernel_rfl) (by simp [he])) ?_
  refine pl_val (want_no rfl) (some 35) rfl (.bool false) (fun _ => by kernel_rfl) ?_
  refine pl_val (want_on 2 false rfl 35 rfl (by kernel_rfl)) (some 36) rfl (.int .i64 (decC t)) (fun _ => by kernel_rfl) ?_
  refine pl_val (want_on 2 false rfl 35 rfl (by kernel_rfl)) (some 37) rfl (.bool true) (fun w => Eq.trans (b := .ok (.value (.bool (!(decide (decC t = 0))))) w) (by kernel_rfl) (by simp [hf])) ?_
  refine pl_val (want_no rfl) (some 38) rfl (.bool true) (fun _ => by kernel_rfl) ?_
  refine pl_val (want_no rfl) (some 39) rfl (.bool true) (fun _ => by kernel_rfl) ?_
  refine pl_skip (want_off 6 false rfl 39 rfl (by kernel_rfl)) (some 40) rfl ?_
  refine pl_skip (want_off 6 false rfl 39 rfl (by kernel_rfl)) (some 41) rfl ?_
  refine pl_val (want_no rfl) (some 42) rfl (.bool true) (fun _ => by kernel_rfl) ?_
  refine pl_nil ?_
  refine au_then ?_
  refine wp_cond_true (by kernel_rfl) ?_
  refine wp_seq ?_
  refine rg_lit ?_
  refine pl_call M (want_no rfl) (some 43) rfl 7 #[] (.bool true) (fun _ => by kernel_rfl) alive_any ?_
  intro w10 M
  refine pl_val (want_no rfl) (some 6) rfl (.bool true) (fun _ => by kernel_rfl) ?_
  refine pl_nil ?_
  refine au_then ?_
  refine wp_ret ?_
  refine au_then_ret ?_
  exact bodyPost_ret (v := .bool true) (results_tmp1 Tryz.results3 _ _ _ (by kernel_rfl)) (by kernel_rfl) ⟨rfl, M.old⟩

structure reck3F (s t n : ByteArray)  : Prop where
  h0 : True

set_option maxRecDepth 100000 in
set_option maxHeartbeats 4000000 in
theorem reck3_gen (s t n : ByteArray)  (w : World) (_F : reck3F s t n ) (he : decC s = 0) (hf : decC t = 0) (hg : ¬ ofC n = 0) :
    Calls Tryz.prog 3 #[.string s, .string t, .string n] w fun r w' => r = .returned (.bool true) ∧ Below w.heap.size w w' := by
  go_enter Tryz.func3, Tryz.ntmps3
  have M := Mem.start w
  refine wp_seq ?_
  refine rg_lit ?_
  refine pl_val (want_no rfl) (some 6) rfl (.bool false) (fun _ => by kernel_rfl) ?_
  refine pl_nil ?_
  refine au_then ?_
  refine wp_seq ?_
  refine rg_lit ?_
  refine pl_val (want_no rfl) (some 19) rfl (.string s) (fun _ => by kernel_rfl) ?_
  refine pl_call M (want_no rfl) (some 20) rfl 5 #[.string s] (.tuple #[.agg (arr 20 (decP s).f), .int .i64 (decC s)]) (fun _ => by kernel_rfl) (dec_yes rfl rfl) ?_
  intro w1 M
  refine pl_val (want_no rfl) (some 18) rfl (.tuple #[.agg (arr 20 (decP s).f), .int .i64 (decC s)]) (fun _ => by kernel_rfl) ?_
  refine pl_val (want_no rfl) (some 21) rfl (.agg (arr 20 (decP s).f)) (fun _ => by kernel_rfl) ?_
  refine pl_val (want_no rfl) (some 22) rfl (.int .i64 (decC s)) (fun _ => by kernel_rfl) ?_
  refine pl_new M (want_no rfl) (some 7) rfl (.cells (arr 20 (fun _ => 0)) 27) (fun _ => by kernel_rfl) ?_
  intro g1 w2 M
  replace M : Mem w [⟨g1, .cells (arr 20 (fun _ => 0)) 27⟩] w2 := M
  refine pl_put M (want_no rfl) rfl 27 _ _ rfl 0 g1 (by kernel_rfl) 20 27 (fun _ => 0) (decP s).f rfl (by kernel_rfl) inz27 ?_
  intro w3 M
  replace M : Mem w [⟨g1, .cells (arr 20 (decP s).f) 27⟩] w3 := M
  refine pl_val (want_no rfl) (some 8) rfl (.int .i64 (decC s)) (fun _ => by kernel_rfl) ?_
  refine pl_nil ?_
  refine au_then ?_
  refine wp_seq ?_
  refine rg_lit ?_
  refine pl_val (want_no rfl) (some 24) rfl (.string t) (fun _ => by kernel_rfl) ?_
  refine pl_call M (want_no rfl) (some 25) rfl 5 #[.string t] (.tuple #[.agg (arr 20 (decP t).f), .int .i64 (decC t)]) (fun _ => by kernel_rfl) (dec_yes rfl rfl) ?_
  intro w4 M
  refine pl_val (want_no rfl) (some 23) rfl (.tuple #[.agg (arr 20 (decP t).f), .int .i64 (decC t)]) (fun _ => by kernel_rfl) ?_
  refine pl_val (want_no rfl) (some 26) rfl (.agg (arr 20 (decP t).f)) (fun _ => by kernel_rfl) ?_
  refine pl_val (want_no rfl) (some 27) rfl (.int .i64 (decC t)) (fun _ => by kernel_rfl) ?_
  refine pl_new M (want_no rfl) (some 9) rfl (.cells (arr 20 (fun _ => 0)) 27) (fun _ => by kernel_rfl) ?_
  intro g2 w5 M
  replace M : Mem w [⟨g1, .cells (arr 20 (decP s).f) 27⟩, ⟨g2, .cells (arr 20 (fun _ => 0)) 27⟩] w5 := M
  refine pl_put M (want_no rfl) rfl 27 _ _ rfl 1 g2 (by kernel_rfl) 20 27 (fun _ => 0) (decP t).f rfl (by kernel_rfl) inz27 ?_
  intro w6 M
  replace M : Mem w [⟨g1, .cells (arr 20 (decP s).f) 27⟩, ⟨g2, .cells (arr 20 (decP t).f) 27⟩] w6 := M
  refine pl_val (want_no rfl) (some 10) rfl (.int .i64 (decC t)) (fun _ => by kernel_rfl) ?_
  refine pl_nil ?_
  refine au_then ?_
  refine wp_seq ?_
  refine rg_lit ?_
  refine pl_val (want_no rfl) (some 29) rfl (.string n) (fun _ => by kernel_rfl) ?_
  refine pl_call M (want_no rfl) (some 30) rfl 6 #[.string n] (.tuple #[.agg (arr 4 (Ord.d64 (ofV n))), .int .i64 (ofC n)]) (fun _ => by kernel_rfl) (c_of n) ?_
  intro w7 M
  refine pl_val (want_no rfl) (some 28) rfl (.tuple #[.agg (arr 4 (Ord.d64 (ofV n))), .int .i64 (ofC n)]) (fun _ => by kernel_rfl) ?_
  refine pl_val (want_no rfl) (some 31) rfl (.agg (arr 4 (Ord.d64 (ofV n)))) (fun _ => by kernel_rfl) ?_
  refine pl_val (want_no rfl) (some 32) rfl (.int .i64 (ofC n)) (fun _ => by kernel_rfl) ?_
  refine pl_new M (want_no rfl) (some 11) rfl (.cells (arr 4 (fun _ => 0)) 34) (fun _ => by kernel_rfl) ?_
  intro g3 w8 M
  replace M : Mem w [⟨g1, .cells (arr 20 (decP s).f) 27⟩, ⟨g2, .cells (arr 20 (decP t).f) 27⟩, ⟨g3, .cells (arr 4 (fun _ => 0)) 34⟩] w8 := M
  refine pl_put M (want_no rfl) rfl 34 _ _ rfl 2 g3 (by kernel_rfl) 4 34 (fun _ => 0) (Ord.d64 (ofV n)) rfl (by kernel_rfl) inz34 ?_
  intro w9 M
  replace M : Mem w [⟨g1, .cells (arr 20 (decP s).f) 27⟩, ⟨g2, .cells (arr 20 (decP t).f) 27⟩, ⟨g3, .cells (arr 4 (Ord.d64 (ofV n))) 34⟩] w9 := M
  refine pl_val (want_no rfl) (some 12) rfl (.int .i64 (ofC n)) (fun _ => by kernel_rfl) ?_
  refine pl_nil ?_
  refine au_then ?_
  refine wp_seq ?_
  refine wp_seq ?_
  refine rg_lit ?_
  refine pl_val (want_no rfl) (some 33) rfl (.int .i64 (decC s)) (fun _ => by kernel_rfl) ?_
  refine pl_val (want_no rfl) (some 34) rfl (.bool false) (fun w => Eq.trans (b := .ok (.value (.bool (!(decide (decC s = 0))))) w) (by kernel_rfl) (by simp [he])) ?_
  refine pl_val (want_no rfl) (some 35) rfl (.bool false) (fun _ => by kernel_rfl) ?_
  refine pl_val (want_on 2 false rfl 35 rfl (by kernel_rfl)) (some 36) rfl (.int .i64 (decC t)) (fun _ => by kernel_rfl) ?_
  refine pl_val (want_on 2 false rfl 35 rfl (by kernel_rfl)) (some 37) rfl (.bool false) (fun w => Eq.trans (b := .ok (.value (.bool (!(decide (decC t = 0))))) w) (by kernel_rfl) (by simp [hf])) ?_
  refine pl_val (want_no rfl) (some 38) rfl (.bool false) (fun _ => by kernel_rfl) ?_
  refine pl_val (want_no rfl) (some 39) rfl (.bool false) (fun _ => by kernel_rfl) ?_
  refine pl_val (want_on 6 false rfl 39 rfl (by kernel_rfl)) (some 40) rfl (.int .i64 (ofC n)) (fun _ => by kernel_rfl) ?_
  refine pl_val (want_on 6 false rfl 39 rfl (by kernel_rfl)) (some 41) rfl (.bool true) (fun w => Eq.trans (b := .ok (.value (.bool (!(decide (ofC n = 0))))) w) (by kernel_rfl) (by simp [hg])) ?_
  refine pl_val (want_no rfl) (some 42) rfl (.bool true) (fun _ => by kernel_rfl) ?_
  refine pl_nil ?_
  refine au_then ?_
  refine wp_cond_true (by kernel_rfl) ?_
  refine wp_seq ?_
  refine rg_lit ?_
  refine pl_call M (want_no rfl) (some 43) rfl 7 #[] (.bool true) (fun _ => by kernel_rfl) alive_any ?_
  intro w10 M
  refine pl_val (want_no rfl) (some 6) rfl (.bool true) (fun _ => by kernel_rfl) ?_
  refine pl_nil ?_
  refine au_then ?_
  refine wp_ret ?_
  refine au_then_ret ?_
  exact bodyPost_ret (v := .bool true) (results_tmp1 Tryz.results3 _ _ _ (by kernel_rfl)) (by kernel_rfl) ⟨rfl, M.old⟩

structure reck4F (s t n : ByteArray)  : Prop where
  h0 : True

set_option maxRecDepth 100000 in
set_option maxHeartbeats 4000000 in
theorem reck4_gen (s t n : ByteArray)  (w : World) (_F : reck4F s t n ) (he : decC s = 0) (hf : decC t = 0) (hg : ofC n = 0) :
    Calls Tryz.prog 3 #[.string s, .string t, .string n] w fun r w' => r = .returned (.bool true) ∧ Below w.heap.size w w' := by
  go_enter Tryz.func3, Tryz.ntmps3
  obtain ⟨hp, ha⟩ := dec_both he
  obtain ⟨hq, hb⟩ := dec_both hf
  have hsm : (sameV (decP s) (decP t) == rsameV (rdecP s) (rdecP t)) = true := by
    rw [beq_iff_eq, Bool.eq_iff_iff, hp.same hq, ha.same hb]
  have hrm : RRep (racc (rdecP s) (Ord.d16 (ofV n)) 256) ((decQ s).mul (ofV n).toNat) := by
    have hN := ofV_bd n
    have hL : Ord.Lm < 2 ^ 256 := by decide
    have h := ha.rmul (N := ofV n) hN.1 (by omega) 256 (Nat.le_refl _)
    rw [Nat.sub_self, Int.pow_zero, Int.ediv_one] at h
    exact h
  have M := Mem.start w
  refine wp_seq ?_
  refine rg_lit ?_
  refine pl_val (want_no rfl) (some 6) rfl (.bool false) (fun _ => by kernel_rfl) ?_
  refine pl_nil ?_
  refine au_then ?_
  refine wp_seq ?_
  refine rg_lit ?_
  refine pl_val (want_no rfl) (some 19) rfl (.string s) (fun _ => by kernel_rfl) ?_
  refine pl_call M (want_no rfl) (some 20) rfl 5 #[.string s] (.tuple #[.agg (arr 20 (decP s).f), .int .i64 (decC s)]) (fun _ => by kernel_rfl) (dec_yes rfl rfl) ?_
  intro w1 M
  refine pl_val (want_no rfl) (some 18) rfl (.tuple #[.agg (arr 20 (decP s).f), .int .i64 (decC s)]) (fun _ => by kernel_rfl) ?_
  refine pl_val (want_no rfl) (some 21) rfl (.agg (arr 20 (decP s).f)) (fun _ => by kernel_rfl) ?_
  refine pl_val (want_no rfl) (some 22) rfl (.int .i64 (decC s)) (fun _ => by kernel_rfl) ?_
  refine pl_new M (want_no rfl) (some 7) rfl (.cells (arr 20 (fun _ => 0)) 27) (fun _ => by kernel_rfl) ?_
  intro g1 w2 M
  replace M : Mem w [⟨g1, .cells (arr 20 (fun _ => 0)) 27⟩] w2 := M
  refine pl_put M (want_no rfl) rfl 27 _ _ rfl 0 g1 (by kernel_rfl) 20 27 (fun _ => 0) (decP s).f rfl (by kernel_rfl) inz27 ?_
  intro w3 M
  replace M : Mem w [⟨g1, .cells (arr 20 (decP s).f) 27⟩] w3 := M
  refine pl_val (want_no rfl) (some 8) rfl (.int .i64 (decC s)) (fun _ => by kernel_rfl) ?_
  refine pl_nil ?_
  refine au_then ?_
  refine wp_seq ?_
  refine rg_lit ?_
  refine pl_val (want_no rfl) (some 24) rfl (.string t) (fun _ => by kernel_rfl) ?_
  refine pl_call M (want_no rfl) (some 25) rfl 5 #[.string t] (.tuple #[.agg (arr 20 (decP t).f), .int .i64 (decC t)]) (fun _ => by kernel_rfl) (dec_yes rfl rfl) ?_
  intro w4 M
  refine pl_val (want_no rfl) (some 23) rfl (.tuple #[.agg (arr 20 (decP t).f), .int .i64 (decC t)]) (fun _ => by kernel_rfl) ?_
  refine pl_val (want_no rfl) (some 26) rfl (.agg (arr 20 (decP t).f)) (fun _ => by kernel_rfl) ?_
  refine pl_val (want_no rfl) (some 27) rfl (.int .i64 (decC t)) (fun _ => by kernel_rfl) ?_
  refine pl_new M (want_no rfl) (some 9) rfl (.cells (arr 20 (fun _ => 0)) 27) (fun _ => by kernel_rfl) ?_
  intro g2 w5 M
  replace M : Mem w [⟨g1, .cells (arr 20 (decP s).f) 27⟩, ⟨g2, .cells (arr 20 (fun _ => 0)) 27⟩] w5 := M
  refine pl_put M (want_no rfl) rfl 27 _ _ rfl 1 g2 (by kernel_rfl) 20 27 (fun _ => 0) (decP t).f rfl (by kernel_rfl) inz27 ?_
  intro w6 M
  replace M : Mem w [⟨g1, .cells (arr 20 (decP s).f) 27⟩, ⟨g2, .cells (arr 20 (decP t).f) 27⟩] w6 := M
  refine pl_val (want_no rfl) (some 10) rfl (.int .i64 (decC t)) (fun _ => by kernel_rfl) ?_
  refine pl_nil ?_
  refine au_then ?_
  refine wp_seq ?_
  refine rg_lit ?_
  refine pl_val (want_no rfl) (some 29) rfl (.string n) (fun _ => by kernel_rfl) ?_
  refine pl_call M (want_no rfl) (some 30) rfl 6 #[.string n] (.tuple #[.agg (arr 4 (Ord.d64 (ofV n))), .int .i64 (ofC n)]) (fun _ => by kernel_rfl) (c_of n) ?_
  intro w7 M
  refine pl_val (want_no rfl) (some 28) rfl (.tuple #[.agg (arr 4 (Ord.d64 (ofV n))), .int .i64 (ofC n)]) (fun _ => by kernel_rfl) ?_
  refine pl_val (want_no rfl) (some 31) rfl (.agg (arr 4 (Ord.d64 (ofV n)))) (fun _ => by kernel_rfl) ?_
  refine pl_val (want_no rfl) (some 32) rfl (.int .i64 (ofC n)) (fun _ => by kernel_rfl) ?_
  refine pl_new M (want_no rfl) (some 11) rfl (.cells (arr 4 (fun _ => 0)) 34) (fun _ => by kernel_rfl) ?_
  intro g3 w8 M
  replace M : Mem w [⟨g1, .cells (arr 20 (decP s).f) 27⟩, ⟨g2, .cells (arr 20 (decP t).f) 27⟩, ⟨g3, .cells (arr 4 (fun _ => 0)) 34⟩] w8 := M
  refine pl_put M (want_no rfl) rfl 34 _ _ rfl 2 g3 (by kernel_rfl) 4 34 (fun _ => 0) (Ord.d64 (ofV n)) rfl (by kernel_rfl) inz34 ?_
  intro w9 M
  replace M : Mem w [⟨g1, .cells (arr 20 (decP s).f) 27⟩, ⟨g2, .cells (arr 20 (decP t).f) 27⟩, ⟨g3, .cells (arr 4 (Ord.d64 (ofV n))) 34⟩] w9 := M
  refine pl_val (want_no rfl) (some 12) rfl (.int .i64 (ofC n)) (fun _ => by kernel_rfl) ?_
  refine pl_nil ?_
  refine au_then ?_
  refine wp_seq ?_
  refine wp_seq ?_
  refine rg_lit ?_
  refine pl_val (want_no rfl) (some 33) rfl (.int .i64 (decC s)) (fun _ => by kernel_rfl) ?_
  refine pl_val (want_no rfl) (some 34) rfl (.bool false) (fun w => Eq.trans (b := .ok (.value (.bool (!(decide (decC s = 0))))) w) (by kernel_rfl) (by simp [he])) ?_
  refine pl_val (want_no rfl) (some 35) rfl (.bool false) (fun _ => by kernel_rfl) ?_
  refine pl_val (want_on 2 false rfl 35 rfl (by kernel_rfl)) (some 36) rfl (.int .i64 (decC t)) (fun _ => by kernel_rfl) ?_
  refine pl_val (want_on 2 false rfl 35 rfl (by kernel_rfl)) (some 37) rfl (.bool false) (fun w => Eq.trans (b := .ok (.value (.bool (!(decide (decC t = 0))))) w) (by kernel_rfl) (by simp [hf])) ?_
  refine pl_val (want_no rfl) (some 38) rfl (.bool false) (fun _ => by kernel_rfl) ?_
  refine pl_val (want_no rfl) (some 39) rfl (.bool false) (fun _ => by kernel_rfl) ?_
  refine pl_val (want_on 6 false rfl 39 rfl (by kernel_rfl)) (some 40) rfl (.int .i64 (ofC n)) (fun _ => by kernel_rfl) ?_
  refine pl_val (want_on 6 false rfl 39 rfl (by kernel_rfl)) (some 41) rfl (.bool false) (fun w => Eq.trans (b := .ok (.value (.bool (!(decide (ofC n = 0))))) w) (by kernel_rfl) (by simp [hg])) ?_
  refine pl_val (want_no rfl) (some 42) rfl (.bool false) (fun _ => by kernel_rfl) ?_
  refine pl_nil ?_
  refine au_then ?_
  refine wp_cond_false (by kernel_rfl) ?_
  refine wp_skip ?_
  refine au_then ?_
  refine wp_seq ?_
  refine rg_lit ?_
  refine pl_val (want_no rfl) (some 45) rfl (.string s) (fun _ => by kernel_rfl) ?_
  refine pl_call M (want_no rfl) (some 46) rfl 8 #[.string s] (.tuple #[.agg (arr 64 (rdecP s).f), .int .i64 (rdecC s)]) (fun _ => by kernel_rfl) (c_rdec s) ?_
  intro w10 M
  refine pl_val (want_no rfl) (some 44) rfl (.tuple #[.agg (arr 64 (rdecP s).f), .int .i64 (rdecC s)]) (fun _ => by kernel_rfl) ?_
  refine pl_val (want_no rfl) (some 47) rfl (.agg (arr 64 (rdecP s).f)) (fun _ => by kernel_rfl) ?_
  refine pl_val (want_no rfl) (some 48) rfl (.int .i64 (rdecC s)) (fun _ => by kernel_rfl) ?_
  refine pl_new M (want_no rfl) (some 13) rfl (.cells (arr 64 (fun _ => 0)) 41) (fun _ => by kernel_rfl) ?_
  intro g4 w11 M
  replace M : Mem w [⟨g1, .cells (arr 20 (decP s).f) 27⟩, ⟨g2, .cells (arr 20 (decP t).f) 27⟩, ⟨g3, .cells (arr 4 (Ord.d64 (ofV n))) 34⟩, ⟨g4, .cells (arr 64 (fun _ => 0)) 41⟩] w11 := M
  refine pl_put M (want_no rfl) rfl 41 _ _ rfl 3 g4 (by kernel_rfl) 64 41 (fun _ => 0) (rdecP s).f rfl (by kernel_rfl) inz41 ?_
  intro w12 M
  replace M : Mem w [⟨g1, .cells (arr 20 (decP s).f) 27⟩, ⟨g2, .cells (arr 20 (decP t).f) 27⟩, ⟨g3, .cells (arr 4 (Ord.d64 (ofV n))) 34⟩, ⟨g4, .cells (arr 64 (rdecP s).f) 41⟩] w12 := M
  refine pl_val (want_no rfl) (some 14) rfl (.int .i64 (rdecC s)) (fun _ => by kernel_rfl) ?_
  refine pl_nil ?_
  refine au_then ?_
  refine wp_seq ?_
  refine rg_lit ?_
  refine pl_val (want_no rfl) (some 50) rfl (.string t) (fun _ => by kernel_rfl) ?_
  refine pl_call M (want_no rfl) (some 51) rfl 8 #[.string t] (.tuple #[.agg (arr 64 (rdecP t).f), .int .i64 (rdecC t)]) (fun _ => by kernel_rfl) (c_rdec t) ?_
  intro w13 M
  refine pl_val (want_no rfl) (some 49) rfl (.tuple #[.agg (arr 64 (rdecP t).f), .int .i64 (rdecC t)]) (fun _ => by kernel_rfl) ?_
  refine pl_val (want_no rfl) (some 52) rfl (.agg (arr 64 (rdecP t).f)) (fun _ => by kernel_rfl) ?_
  refine pl_val (want_no rfl) (some 53) rfl (.int .i64 (rdecC t)) (fun _ => by kernel_rfl) ?_
  refine pl_new M (want_no rfl) (some 15) rfl (.cells (arr 64 (fun _ => 0)) 41) (fun _ => by kernel_rfl) ?_
  intro g5 w14 M
  replace M : Mem w [⟨g1, .cells (arr 20 (decP s).f) 27⟩, ⟨g2, .cells (arr 20 (decP t).f) 27⟩, ⟨g3, .cells (arr 4 (Ord.d64 (ofV n))) 34⟩, ⟨g4, .cells (arr 64 (rdecP s).f) 41⟩, ⟨g5, .cells (arr 64 (fun _ => 0)) 41⟩] w14 := M
  refine pl_put M (want_no rfl) rfl 41 _ _ rfl 4 g5 (by kernel_rfl) 64 41 (fun _ => 0) (rdecP t).f rfl (by kernel_rfl) inz41 ?_
  intro w15 M
  replace M : Mem w [⟨g1, .cells (arr 20 (decP s).f) 27⟩, ⟨g2, .cells (arr 20 (decP t).f) 27⟩, ⟨g3, .cells (arr 4 (Ord.d64 (ofV n))) 34⟩, ⟨g4, .cells (arr 64 (rdecP s).f) 41⟩, ⟨g5, .cells (arr 64 (rdecP t).f) 41⟩] w15 := M
  refine pl_val (want_no rfl) (some 16) rfl (.int .i64 (rdecC t)) (fun _ => by kernel_rfl) ?_
  refine pl_nil ?_
  refine au_then ?_
  refine wp_seq ?_
  refine rg_lit ?_
  refine pl_val (want_no rfl) (some 54) rfl (.string n) (fun _ => by kernel_rfl) ?_
  refine pl_call M (want_no rfl) (some 55) rfl 9 #[.string n] (.agg (arr 16 (Ord.d16 (ofV n)))) (fun _ => by kernel_rfl) (c_rofO hg) ?_
  intro w16 M
  refine pl_new M (want_no rfl) (some 17) rfl (.cells (arr 16 (fun _ => 0)) 39) (fun _ => by kernel_rfl) ?_
  intro g6 w17 M
  replace M : Mem w [⟨g1, .cells (arr 20 (decP s).f) 27⟩, ⟨g2, .cells (arr 20 (decP t).f) 27⟩, ⟨g3, .cells (arr 4 (Ord.d64 (ofV n))) 34⟩, ⟨g4, .cells (arr 64 (rdecP s).f) 41⟩, ⟨g5, .cells (arr 64 (rdecP t).f) 41⟩, ⟨g6, .cells (arr 16 (fun _ => 0)) 39⟩] w17 := M
  refine pl_put M (want_no rfl) rfl 39 _ _ rfl 5 g6 (by kernel_rfl) 16 39 (fun _ => 0) (Ord.d16 (ofV n)) rfl (by kernel_rfl) inz39 ?_
  intro w18 M
  replace M : Mem w [⟨g1, .cells (arr 20 (decP s).f) 27⟩, ⟨g2, .cells (arr 20 (decP t).f) 27⟩, ⟨g3, .cells (arr 4 (Ord.d64 (ofV n))) 34⟩, ⟨g4, .cells (arr 64 (rdecP s).f) 41⟩, ⟨g5, .cells (arr 64 (rdecP t).f) 41⟩, ⟨g6, .cells (arr 16 (Ord.d16 (ofV n))) 39⟩] w18 := M
  refine pl_nil ?_
  refine au_then ?_
  refine wp_seq ?_
  refine rg_tail M 35 (by kernel_rfl) (by kernel_rfl) ?_
  simp only [List.take_succ_cons, List.take_zero]
  refine k_load M (want_no rfl) (some 56) rfl 27 _ rfl 0 g1 0 (by kernel_rfl) 20 27 (decP s).f rfl 20 (decP s).f (Part.all _ _) (by decide) _ Tryz.underlying27 rfl inz27 ?_
  refine k_load M (want_no rfl) (some 57) rfl 27 _ rfl 1 g2 0 (by kernel_rfl) 20 27 (decP t).f rfl 20 (decP t).f (Part.all _ _) (by decide) _ Tryz.underlying27 rfl inz27 ?_
  refine k_call (want_no rfl) (some 58) rfl 11 #[.agg (arr 20 (decP s).f), .agg (arr 20 (decP t).f)] (.agg (arr 20 (addV (decP s) (decP t)).f)) (fun _ => by kernel_rfl) (fun w => c_add (decP s) (decP t) w hp.ok hq.ok) ?_
  refine k_load M (want_no rfl) (some 59) rfl 41 _ rfl 3 g4 0 (by kernel_rfl) 64 41 (rdecP s).f rfl 64 (rdecP s).f (Part.all _ _) (by decide) _ Tryz.underlying41 rfl inz41 ?_
  refine k_load M (want_no rfl) (some 60) rfl 41 _ rfl 4 g5 0 (by kernel_rfl) 64 41 (rdecP t).f rfl 64 (rdecP t).f (Part.all _ _) (by decide) _ Tryz.underlying41 rfl inz41 ?_
  refine k_call (want_no rfl) (some 61) rfl 12 #[.agg (arr 64 (rdecP s).f), .agg (arr 64 (rdecP t).f)] (.agg (arr 64 (raddV (rdecP s) (rdecP t)).f)) (fun _ => by kernel_rfl) (fun w => c_radd (rdecP s) (rdecP t) w ha.ok hb.ok) ?_
  refine k_call (want_no rfl) (some 62) rfl 10 #[.agg (arr 20 (addV (decP s) (decP t)).f), .agg (arr 64 (raddV (rdecP s) (rdecP t)).f)] (.bool true) (fun _ => by kernel_rfl) (is_yes (hp.add hq) (ha.add hb)) ?_
  refine k_val (want_no rfl) (some 63) rfl (.bool true) (fun _ => by kernel_rfl) ?_
  refine k_load M (want_on 7 true rfl 63 rfl (by kernel_rfl)) (some 64) rfl 27 _ rfl 0 g1 0 (by kernel_rfl) 20 27 (decP s).f rfl 20 (decP s).f (Part.all _ _) (by decide) _ Tryz.underlying27 rfl inz27 ?_
  refine k_call (want_on 7 true rfl 63 rfl (by kernel_rfl)) (some 65) rfl 13 #[.agg (arr 20 (decP s).f)] (.agg (arr 20 (negV (decP s)).f)) (fun _ => by kernel_rfl) (fun w => c_neg (decP s) w hp.ok) ?_
  refine k_load M (want_on 7 true rfl 63 rfl (by kernel_rfl)) (some 66) rfl 41 _ rfl 3 g4 0 (by kernel_rfl) 64 41 (rdecP s).f rfl 64 (rdecP s).f (Part.all _ _) (by decide) _ Tryz.underlying41 rfl inz41 ?_
  refine k_call (want_on 7 true rfl 63 rfl (by kernel_rfl)) (some 67) rfl 14 #[.agg (arr 64 (rdecP s).f)] (.agg (arr 64 (rnegV (rdecP s)).f)) (fun _ => by kernel_rfl) (fun w => c_rneg (rdecP s) w ha.ok) ?_
  refine k_call (want_on 7 true rfl 63 rfl (by kernel_rfl)) (some 68) rfl 10 #[.agg (arr 20 (negV (decP s)).f), .agg (arr 64 (rnegV (rdecP s)).f)] (.bool true) (fun _ => by kernel_rfl) (is_yes hp.neg ha.neg) ?_
  refine k_val (want_no rfl) (some 69) rfl (.bool true) (fun _ => by kernel_rfl) ?_
  refine k_val (want_no rfl) (some 70) rfl (.bool true) (fun _ => by kernel_rfl) ?_
  refine k_load M (want_on 14 true rfl 70 rfl (by kernel_rfl)) (some 71) rfl 27 _ rfl 0 g1 0 (by kernel_rfl) 20 27 (decP s).f rfl 20 (decP s).f (Part.all _ _) (by decide) _ Tryz.underlying27 rfl inz27 ?_
  refine k_load M (want_on 14 true rfl 70 rfl (by kernel_rfl)) (some 72) rfl 34 _ rfl 2 g3 0 (by kernel_rfl) 4 34 (Ord.d64 (ofV n)) rfl 4 (Ord.d64 (ofV n)) (Part.all _ _) (by decide) _ Tryz.underlying34 rfl inz34 ?_
  refine k_call (want_on 14 true rfl 70 rfl (by kernel_rfl)) (some 73) rfl 15 #[.agg (arr 20 (decP s).f), .agg (arr 4 (Ord.d64 (ofV n)))] (.agg (arr 20 (mulV (decP s) (ofV n)).f)) (fun _ => by kernel_rfl) (fun w => c_mul hp (ofV n) w) ?_
  refine k_load M (want_on 14 true rfl 70 rfl (by kernel_rfl)) (some 74) rfl 41 _ rfl 3 g4 0 (by kernel_rfl) 64 41 (rdecP s).f rfl 64 (rdecP s).f (Part.all _ _) (by decide) _ Tryz.underlying41 rfl inz41 ?_
  refine k_load M (want_on 14 true rfl 70 rfl (by kernel_rfl)) (some 75) rfl 39 _ rfl 5 g6 0 (by kernel_rfl) 16 39 (Ord.d16 (ofV n)) rfl 16 (Ord.d16 (ofV n)) (Part.all _ _) (by decide) _ Tryz.underlying39 rfl inz39 ?_
  refine k_call (want_on 14 true rfl 70 rfl (by kernel_rfl)) (some 76) rfl 16 #[.agg (arr 64 (rdecP s).f), .agg (arr 16 (Ord.d16 (ofV n)))] (.agg (arr 64 (racc (rdecP s) (Ord.d16 (ofV n)) 256).f)) (fun _ => by kernel_rfl) (fun w => c_rmul (rdecP s) (Ord.d16 (ofV n)) w ha.ok (Ord.d16_dig _ 16)) ?_
  refine k_call (want_on 14 true rfl 70 rfl (by kernel_rfl)) (some 77) rfl 10 #[.agg (arr 20 (mulV (decP s) (ofV n)).f), .agg (arr 64 (racc (rdecP s) (Ord.d16 (ofV n)) 256).f)] (.bool true) (fun _ => by kernel_rfl) (is_yes (hp.mul (ofV_bd n)) hrm) ?_
  refine k_val (want_no rfl) (some 78) rfl (.bool true) (fun _ => by kernel_rfl) ?_
  refine k_val (want_no rfl) (some 79) rfl (.bool true) (fun _ => by kernel_rfl) ?_
  refine k_load M (want_on 23 true rfl 79 rfl (by kernel_rfl)) (some 80) rfl 27 _ rfl 0 g1 0 (by kernel_rfl) 20 27 (decP s).f rfl 20 (decP s).f (Part.all _ _) (by decide) _ Tryz.underlying27 rfl inz27 ?_
  refine k_load M (want_on 23 true rfl 79 rfl (by kernel_rfl)) (some 81) rfl 27 _ rfl 1 g2 0 (by kernel_rfl) 20 27 (decP t).f rfl 20 (decP t).f (Part.all _ _) (by decide) _ Tryz.underlying27 rfl inz27 ?_
  refine k_call (want_on 23 true rfl 79 rfl (by kernel_rfl)) (some 82) rfl 17 #[.agg (arr 20 (decP s).f), .agg (arr 20 (decP t).f)] (.bool (sameV (decP s) (decP t))) (fun _ => by kernel_rfl) (fun w => c_same (decP s) (decP t) w hp.ok hq.ok) ?_
  refine k_load M (want_on 23 true rfl 79 rfl (by kernel_rfl)) (some 83) rfl 41 _ rfl 3 g4 0 (by kernel_rfl) 64 41 (rdecP s).f rfl 64 (rdecP s).f (Part.all _ _) (by decide) _ Tryz.underlying41 rfl inz41 ?_
  refine k_load M (want_on 23 true rfl 79 rfl (by kernel_rfl)) (some 84) rfl 41 _ rfl 4 g5 0 (by kernel_rfl) 64 41 (rdecP t).f rfl 64 (rdecP t).f (Part.all _ _) (by decide) _ Tryz.underlying41 rfl inz41 ?_
  refine k_call (want_on 23 true rfl 79 rfl (by kernel_rfl)) (some 85) rfl 18 #[.agg (arr 64 (rdecP s).f), .agg (arr 64 (rdecP t).f)] (.bool (rsameV (rdecP s) (rdecP t))) (fun _ => by kernel_rfl) (fun w => c_rsame (rdecP s) (rdecP t) w ha.ok hb.ok) ?_
  refine k_val (want_on 23 true rfl 79 rfl (by kernel_rfl)) (some 86) rfl (.bool true) (fun w => Eq.trans (b := .ok (.value (.bool (sameV (decP s) (decP t) == rsameV (rdecP s) (rdecP t)))) w) (by cases sameV (decP s) (decP t) <;> cases rsameV (rdecP s) (rdecP t) <;> kernel_rfl) (by rw [hsm])) ?_
  refine k_val (want_no rfl) (some 87) rfl (.bool true) (fun _ => by kernel_rfl) ?_
  refine k_val (want_no rfl) (some 88) rfl (.bool true) (fun _ => by kernel_rfl) ?_
  refine k_call (want_on 32 true rfl 88 rfl (by kernel_rfl)) (some 89) rfl 7 #[] (.bool true) (fun _ => by kernel_rfl) alive_any ?_
  refine k_val (want_no rfl) (some 90) rfl (.bool true) (fun _ => by kernel_rfl) ?_
  refine kl_nil ?_
  intro w19 M
  replace M : Mem w [⟨g1, .cells (arr 20 (decP s).f) 27⟩, ⟨g2, .cells (arr 20 (decP t).f) 27⟩, ⟨g3, .cells (arr 4 (Ord.d64 (ofV n))) 34⟩, ⟨g4, .cells (arr 64 (rdecP s).f) 41⟩, ⟨g5, .cells (arr 64 (rdecP t).f) 41⟩, ⟨g6, .cells (arr 16 (Ord.d16 (ofV n))) 39⟩] w19 := M
  refine pl_val (want_no rfl) (some 6) rfl (.bool true) (fun _ => by kernel_rfl) ?_
  refine pl_nil ?_
  refine au_then ?_
  refine wp_ret ?_
  exact bodyPost_ret (v := .bool true) (results_tmp1 Tryz.results3 _ _ _ (by kernel_rfl)) (by kernel_rfl) ⟨rfl, M.old⟩

/-- EdwReckons. -/
theorem reck_any (s t n : ByteArray) (w : World) : Calls Tryz.prog 3 #[.string s, .string t, .string n] w fun r w' => r = .returned (.bool true) ∧ Below w.heap.size w w' := by
  by_cases he : decC s = 0
  · by_cases hf : decC t = 0
    · by_cases hg : ofC n = 0
      · exact reck4_gen s t n w ⟨trivial⟩ he hf hg
      · exact reck3_gen s t n w ⟨trivial⟩ he hf hg
    · exact reck2_gen s t n w ⟨trivial⟩ he hf
  · exact reck1_gen s t n w ⟨trivial⟩ he

end Go.Proofs.YtkeocdebfgcnnaaGreat
