/- The contracts of the document's Of, Small and Canonical. -/
import Derived.Test.YtiiniodidkfbiaaRed
import Derived.Test.YtiiniodidkfbiaaParts
namespace Go.Proofs.Ytiiniodidkfbiaa
open Go.RowKit

theorem wid_S (f : Nat → Int) : S (wid f 16) 32 = S f 16 := by
  rw [S_upper_zero (wid f 16) fun i h _ => by unfold wid; rw [if_neg (by omega)]]
  exact S_congr fun i hi => by unfold wid; rw [if_pos hi]

theorem wid_48 {f : Nat → Int} (h : Dig f 16) : B48 (wid f 16) := ⟨fun i _ => by
  unfold wid
  by_cases hi : i < 16
  · rw [if_pos hi]
    have := h i hi
    omega
  · rw [if_neg hi]
    omega⟩

set_option maxRecDepth 100000 in
set_option maxHeartbeats 1000000 in
theorem rof_any (s : ByteArray) (w : World) (hs : s.size = 32) :
    Calls Try.prog 12 #[.string s] w fun r w' => r = .returned (.agg (arr 16 (d16 (val s % Pm)))) ∧ Below w.heap.size w w' := by
  go_enter Try.func12, Try.ntmps12
  go_wp2_with fail
  rw [show #[Value.int IntKind.u64 0, Value.int IntKind.u64 0, Value.int IntKind.u64 0, Value.int IntKind.u64 0, Value.int IntKind.u64 0, Value.int IntKind.u64 0, Value.int IntKind.u64 0, Value.int IntKind.u64 0, Value.int IntKind.u64 0, Value.int IntKind.u64 0, Value.int IntKind.u64 0, Value.int IntKind.u64 0, Value.int IntKind.u64 0, Value.int IntKind.u64 0, Value.int IntKind.u64 0, Value.int IntKind.u64 0] = arr 16 (fun _ => 0) from rfl]
  have R := Row.new w 35 16 (fun _ => 0)
  have O := new_below w (.cells (arr 16 (fun _ => 0)) 35)
  refine (parts_any s _ hs).mono ?_
  rintro _ w1 ⟨rfl, hb⟩
  replace R := R.keep hb
  replace O := O.trans (hb.mono O.size)
  clear hb
  go_wp2_with fail
  refine (wide_any (pt s 32) _).mono ?_
  rintro _ w2 ⟨rfl, hb⟩
  replace R := R.keep hb
  replace O := O.trans (hb.mono O.size)
  clear hb
  go_wp2_with fail
  refine (reduce_any (wid (pt s 32) 16) _ (wid_48 (pt_dig s 32))).mono ?_
  rintro _ w3 ⟨rfl, hb⟩
  replace R := R.keep hb
  replace O := O.trans (hb.mono O.size)
  clear hb
  rw [wid_S, pt_S]
  have RR := hide (R.setAll (d16 (val s % Pm)))
  have OO := hide (below_setCells (g := w.heap.size) (Nat.le_refl _) (arr 16 (d16 (val s % Pm))).toList 0 O)
  go_wp2_with (refine wpList_store_mid rfl 35 _ _ rfl w.heap.size 0 (arr 16 (d16 (val s % Pm))) rfl rfl (by rw [arr_size]; exact R.there) (info35 _) (arr_one _ _) ?_)
  exact bodyPost_ret (v := .agg (arr 16 (d16 (val s % Pm)))) (results_cell_row Try.results12 _ _ w.heap.size 35 (arr 16 (d16 (val s % Pm))) (0, 0) _ rfl RR.out Try.underlying35 rfl (info35 _)) rfl ⟨rfl, OO.out⟩

theorem and16u {x : Int} (h0 : 0 ≤ x) (h1 : x < 4294967296) : bits .and .u32 x 65535 = x % 65536 := by
  rw [u32_and x _ h0 h1 (by decide) (by decide)]
  have e : (65535 : Int).toNat = 65535 := by decide
  rw [e, nat_mask16]
  omega

theorem small_arr {n : Int} (h0 : 0 ≤ n) (h1 : n < 4294967296) : arr 16 (d16 n) = #[.int .u64 (n % 65536), .int .u64 (n / 65536), .int .u64 0, .int .u64 0, .int .u64 0, .int .u64 0, .int .u64 0, .int .u64 0, .int .u64 0, .int .u64 0, .int .u64 0, .int .u64 0, .int .u64 0, .int .u64 0, .int .u64 0, .int .u64 0] := by
  have e : arr 16 (d16 n) = arr 16 (fun i => if i = 0 then n % 65536 else if i = 1 then n / 65536 else 0) := by
    refine arr_congr fun i hi => ?_
    unfold d16
    by_cases i0 : i = 0
    · subst i0; simp
    · by_cases i1 : i = 1
      · subst i1; simp; omega
      · rw [if_neg i0, if_neg i1]
        have hp : (4294967296 : Int) ≤ 65536 ^ i := by
          obtain ⟨j, rfl⟩ : ∃ j, i = j + 2 := ⟨i - 2, by omega⟩
          rw [Int.pow_add]
          have := p16 j
          have e2 : (65536 : Int) ^ 2 = 4294967296 := by decide
          rw [e2]
          omega
        rw [Int.ediv_eq_zero_of_lt h0 (by omega)]
        decide
  rw [e]
  rfl

set_option maxRecDepth 100000 in
set_option maxHeartbeats 1000000 in
theorem rsmall_any (n : Int) (w : World) (h0 : 0 ≤ n) (h1 : n < 4294967296) :
    Calls Try.prog 33 #[.int .u32 n] w fun r w' => r = .returned (.agg (arr 16 (d16 n))) ∧ Below w.heap.size w w' := by
  have e := and16u h0 h1
  have HA := hide (small_arr h0 h1)
  go_enter Try.func33, Try.ntmps33
  go_wp2
  refine bodyPost_ret (v := .agg (arr 16 (d16 n))) ?_ rfl ⟨rfl, (Below.refl _ _).alloc (Nat.le_refl _) _⟩
  rw [HA.out]
  simp [results, Try.results33, go_sem]

end Go.Proofs.Ytiiniodidkfbiaa
