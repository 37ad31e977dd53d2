/- OrderLaws answers true, whatever the bytes. -/
import Derived.Test.YtaaijicpdampiaaLaws
namespace Go.Proofs.Ytaaijicpdampiaa
open Go.RowKit

set_option maxRecDepth 100000 in
set_option maxHeartbeats 2000000 in
theorem laws_no1 (r s t : ByteArray) (M N K : Int) (y z : Bool) (w : World)
    (H1 : ∀ w, Calls Try.prog 15 #[.string r] w fun r w' => r = .returned (.tuple #[.agg (arr 4 (d64 M)), .bool false]) ∧ Below w.heap.size w w')
    (H2 : ∀ w, Calls Try.prog 15 #[.string s] w fun r w' => r = .returned (.tuple #[.agg (arr 4 (d64 N)), .bool y]) ∧ Below w.heap.size w w')
    (H3 : ∀ w, Calls Try.prog 15 #[.string t] w fun r w' => r = .returned (.tuple #[.agg (arr 4 (d64 K)), .bool z]) ∧ Below w.heap.size w w') :
    Calls Try.prog 5 #[.string r, .string s, .string t] w fun r w' => r = .returned (.bool true) ∧ Below w.heap.size w w' := by
  have C1 := hide H1
  have C2 := hide H2
  have C3 := hide H3
  clear H1 H2 H3
  generalize d64 M = f at *
  generalize d64 N = g at *
  generalize d64 K = h at *
  go_enter Try.func5, Try.ntmps5
  go_wp2_with fail
  refine (C1.out _).mono ?_
  rintro _ w1 ⟨rfl, O⟩
  have RC : Row (w1.alloc (.cells #[Value.int IntKind.u64 0, Value.int IntKind.u64 0, Value.int IntKind.u64 0, Value.int IntKind.u64 0] 27)) w1.heap.size 27 4 (fun _ => 0) := Row.new w1 27 4 (fun _ => 0)
  have BB := below_setCells (g := w1.heap.size) (Nat.le_refl _) (arr 4 (f)).toList 0 (new_below w1 (.cells #[Value.int IntKind.u64 0, Value.int IntKind.u64 0, Value.int IntKind.u64 0, Value.int IntKind.u64 0] 27))
  have RA := hide (RC.setAll (f))
  have OO := hide (O.trans (BB.mono O.size))
  clear O BB 
  go_wp2_with (refine wpList_store_mid rfl 27 _ _ rfl w1.heap.size 0 (arr 4 (f)) rfl rfl ?th1 (info27 _) (arr_one _ _) ?_)
  case th1 => rw [arr_size]; exact RC.there
  replace RC := RA.out
  have O := OO.out
  clear RA OO 
  generalize w1.heap.size = ga at *
  generalize (w1.alloc (.cells #[Value.int IntKind.u64 0, Value.int IntKind.u64 0, Value.int IntKind.u64 0, Value.int IntKind.u64 0] 27)).setCells ga 0 (arr 4 (f)).toList = W1 at *
  refine (C2.out _).mono ?_
  rintro _ w2 ⟨rfl, hb⟩
  replace RC := RC.keep hb
  replace O := O.trans (hb.mono O.size)
  clear hb
  have RD : Row (w2.alloc (.cells #[Value.int IntKind.u64 0, Value.int IntKind.u64 0, Value.int IntKind.u64 0, Value.int IntKind.u64 0] 27)) w2.heap.size 27 4 (fun _ => 0) := Row.new w2 27 4 (fun _ => 0)
  have BB := below_setCells (g := w2.heap.size) (Nat.le_refl _) (arr 4 (g)).toList 0 (new_below w2 (.cells #[Value.int IntKind.u64 0, Value.int IntKind.u64 0, Value.int IntKind.u64 0, Value.int IntKind.u64 0] 27))
  have RA := hide (RD.setAll (g))
  have RC' := hide (RC.keep BB)
  have OO := hide (O.trans (BB.mono O.size))
  clear O BB RC
  go_wp2_with (refine wpList_store_mid rfl 27 _ _ rfl w2.heap.size 0 (arr 4 (g)) rfl rfl ?th2 (info27 _) (arr_one _ _) ?_)
  case th2 => rw [arr_size]; exact RD.there
  replace RD := RA.out
  have O := OO.out
  have RC := RC'.out
  clear RA OO RC'
  generalize w2.heap.size = gb at *
  generalize (w2.alloc (.cells #[Value.int IntKind.u64 0, Value.int IntKind.u64 0, Value.int IntKind.u64 0, Value.int IntKind.u64 0] 27)).setCells gb 0 (arr 4 (g)).toList = W2 at *
  refine (C3.out _).mono ?_
  rintro _ w3 ⟨rfl, hb⟩
  replace RC := RC.keep hb
  replace RD := RD.keep hb
  replace O := O.trans (hb.mono O.size)
  clear hb
  have RE : Row (w3.alloc (.cells #[Value.int IntKind.u64 0, Value.int IntKind.u64 0, Value.int IntKind.u64 0, Value.int IntKind.u64 0] 27)) w3.heap.size 27 4 (fun _ => 0) := Row.new w3 27 4 (fun _ => 0)
  have BB := below_setCells (g := w3.heap.size) (Nat.le_refl _) (arr 4 (h)).toList 0 (new_below w3 (.cells #[Value.int IntKind.u64 0, Value.int IntKind.u64 0, Value.int IntKind.u64 0, Value.int IntKind.u64 0] 27))
  have RA := hide (RE.setAll (h))
  have RC' := hide (RC.keep BB)
  have RD' := hide (RD.keep BB)
  have OO := hide (O.trans (BB.mono O.size))
  clear O BB RC RD
  go_wp2_with (refine wpList_store_mid rfl 27 _ _ rfl w3.heap.size 0 (arr 4 (h)) rfl rfl ?th3 (info27 _) (arr_one _ _) ?_)
  case th3 => rw [arr_size]; exact RE.there
  replace RE := RA.out
  have O := OO.out
  have RC := RC'.out
  have RD := RD'.out
  clear RA OO RC' RD'
  generalize w3.heap.size = gc at *
  generalize (w3.alloc (.cells #[Value.int IntKind.u64 0, Value.int IntKind.u64 0, Value.int IntKind.u64 0, Value.int IntKind.u64 0] 27)).setCells gc 0 (arr 4 (h)).toList = W3 at *
  refine (alive_any _).mono ?_
  rintro _ w4 ⟨rfl, hb⟩
  replace O := O.trans (hb.mono O.size)
  clear hb
  go_wp2
  go_ret
  exact ⟨rfl, O⟩

set_option maxRecDepth 100000 in
set_option maxHeartbeats 2000000 in
theorem laws_no2 (r s t : ByteArray) (M N K : Int) (z : Bool) (w : World)
    (H1 : ∀ w, Calls Try.prog 15 #[.string r] w fun r w' => r = .returned (.tuple #[.agg (arr 4 (d64 M)), .bool true]) ∧ Below w.heap.size w w')
    (H2 : ∀ w, Calls Try.prog 15 #[.string s] w fun r w' => r = .returned (.tuple #[.agg (arr 4 (d64 N)), .bool false]) ∧ Below w.heap.size w w')
    (H3 : ∀ w, Calls Try.prog 15 #[.string t] w fun r w' => r = .returned (.tuple #[.agg (arr 4 (d64 K)), .bool z]) ∧ Below w.heap.size w w') :
    Calls Try.prog 5 #[.string r, .string s, .string t] w fun r w' => r = .returned (.bool true) ∧ Below w.heap.size w w' := by
  have C1 := hide H1
  have C2 := hide H2
  have C3 := hide H3
  clear H1 H2 H3
  generalize d64 M = f at *
  generalize d64 N = g at *
  generalize d64 K = h at *
  go_enter Try.func5, Try.ntmps5
  go_wp2_with fail
  refine (C1.out _).mono ?_
  rintro _ w1 ⟨rfl, O⟩
  have RC : Row (w1.alloc (.cells #[Value.int IntKind.u64 0, Value.int IntKind.u64 0, Value.int IntKind.u64 0, Value.int IntKind.u64 0] 27)) w1.heap.size 27 4 (fun _ => 0) := Row.new w1 27 4 (fun _ => 0)
  have BB := below_setCells (g := w1.heap.size) (Nat.le_refl _) (arr 4 (f)).toList 0 (new_below w1 (.cells #[Value.int IntKind.u64 0, Value.int IntKind.u64 0, Value.int IntKind.u64 0, Value.int IntKind.u64 0] 27))
  have RA := hide (RC.setAll (f))
  have OO := hide (O.trans (BB.mono O.size))
  clear O BB 
  go_wp2_with (refine wpList_store_mid rfl 27 _ _ rfl w1.heap.size 0 (arr 4 (f)) rfl rfl ?th1 (info27 _) (arr_one _ _) ?_)
  case th1 => rw [arr_size]; exact RC.there
  replace RC := RA.out
  have O := OO.out
  clear RA OO 
  generalize w1.heap.size = ga at *
  generalize (w1.alloc (.cells #[Value.int IntKind.u64 0, Value.int IntKind.u64 0, Value.int IntKind.u64 0, Value.int IntKind.u64 0] 27)).setCells ga 0 (arr 4 (f)).toList = W1 at *
  refine (C2.out _).mono ?_
  rintro _ w2 ⟨rfl, hb⟩
  replace RC := RC.keep hb
  replace O := O.trans (hb.mono O.size)
  clear hb
  have RD : Row (w2.alloc (.cells #[Value.int IntKind.u64 0, Value.int IntKind.u64 0, Value.int IntKind.u64 0, Value.int IntKind.u64 0] 27)) w2.heap.size 27 4 (fun _ => 0) := Row.new w2 27 4 (fun _ => 0)
  have BB := below_setCells (g := w2.heap.size) (Nat.le_refl _) (arr 4 (g)).toList 0 (new_below w2 (.cells #[Value.int IntKind.u64 0, Value.int IntKind.u64 0, Value.int IntKind.u64 0, Value.int IntKind.u64 0] 27))
  have RA := hide (RD.setAll (g))
  have RC' := hide (RC.keep BB)
  have OO := hide (O.trans (BB.mono O.size))
  clear O BB RC
  go_wp2_with (refine wpList_store_mid rfl 27 _ _ rfl w2.heap.size 0 (arr 4 (g)) rfl rfl ?th2 (info27 _) (arr_one _ _) ?_)
  case th2 => rw [arr_size]; exact RD.there
  replace RD := RA.out
  have O := OO.out
  have RC := RC'.out
  clear RA OO RC'
  generalize w2.heap.size = gb at *
  generalize (w2.alloc (.cells #[Value.int IntKind.u64 0, Value.int IntKind.u64 0, Value.int IntKind.u64 0, Value.int IntKind.u64 0] 27)).setCells gb 0 (arr 4 (g)).toList = W2 at *
  refine (C3.out _).mono ?_
  rintro _ w3 ⟨rfl, hb⟩
  replace RC := RC.keep hb
  replace RD := RD.keep hb
  replace O := O.trans (hb.mono O.size)
  clear hb
  have RE : Row (w3.alloc (.cells #[Value.int IntKind.u64 0, Value.int IntKind.u64 0, Value.int IntKind.u64 0, Value.int IntKind.u64 0] 27)) w3.heap.size 27 4 (fun _ => 0) := Row.new w3 27 4 (fun _ => 0)
  have BB := below_setCells (g := w3.heap.size) (Nat.le_refl _) (arr 4 (h)).toList 0 (new_below w3 (.cells #[Value.int IntKind.u64 0, Value.int IntKind.u64 0, Value.int IntKind.u64 0, Value.int IntKind.u64 0] 27))
  have RA := hide (RE.setAll (h))
  have RC' := hide (RC.keep BB)
  have RD' := hide (RD.keep BB)
  have OO := hide (O.trans (BB.mono O.size))
  clear O BB RC RD
  go_wp2_with (refine wpList_store_mid rfl 27 _ _ rfl w3.heap.size 0 (arr 4 (h)) rfl rfl ?th3 (info27 _) (arr_one _ _) ?_)
  case th3 => rw [arr_size]; exact RE.there
  replace RE := RA.out
  have O := OO.out
  have RC := RC'.out
  have RD := RD'.out
  clear RA OO RC' RD'
  generalize w3.heap.size = gc at *
  generalize (w3.alloc (.cells #[Value.int IntKind.u64 0, Value.int IntKind.u64 0, Value.int IntKind.u64 0, Value.int IntKind.u64 0] 27)).setCells gc 0 (arr 4 (h)).toList = W3 at *
  refine (alive_any _).mono ?_
  rintro _ w4 ⟨rfl, hb⟩
  replace O := O.trans (hb.mono O.size)
  clear hb
  go_wp2
  go_ret
  exact ⟨rfl, O⟩

set_option maxRecDepth 100000 in
set_option maxHeartbeats 2000000 in
theorem laws_no3 (r s t : ByteArray) (M N K : Int) (w : World)
    (H1 : ∀ w, Calls Try.prog 15 #[.string r] w fun r w' => r = .returned (.tuple #[.agg (arr 4 (d64 M)), .bool true]) ∧ Below w.heap.size w w')
    (H2 : ∀ w, Calls Try.prog 15 #[.string s] w fun r w' => r = .returned (.tuple #[.agg (arr 4 (d64 N)), .bool true]) ∧ Below w.heap.size w w')
    (H3 : ∀ w, Calls Try.prog 15 #[.string t] w fun r w' => r = .returned (.tuple #[.agg (arr 4 (d64 K)), .bool false]) ∧ Below w.heap.size w w') :
    Calls Try.prog 5 #[.string r, .string s, .string t] w fun r w' => r = .returned (.bool true) ∧ Below w.heap.size w w' := by
  have C1 := hide H1
  have C2 := hide H2
  have C3 := hide H3
  clear H1 H2 H3
  generalize d64 M = f at *
  generalize d64 N = g at *
  generalize d64 K = h at *
  go_enter Try.func5, Try.ntmps5
  go_wp2_with fail
  refine (C1.out _).mono ?_
  rintro _ w1 ⟨rfl, O⟩
  have RC : Row (w1.alloc (.cells #[Value.int IntKind.u64 0, Value.int IntKind.u64 0, Value.int IntKind.u64 0, Value.int IntKind.u64 0] 27)) w1.heap.size 27 4 (fun _ => 0) := Row.new w1 27 4 (fun _ => 0)
  have BB := below_setCells (g := w1.heap.size) (Nat.le_refl _) (arr 4 (f)).toList 0 (new_below w1 (.cells #[Value.int IntKind.u64 0, Value.int IntKind.u64 0, Value.int IntKind.u64 0, Value.int IntKind.u64 0] 27))
  have RA := hide (RC.setAll (f))
  have OO := hide (O.trans (BB.mono O.size))
  clear O BB 
  go_wp2_with (refine wpList_store_mid rfl 27 _ _ rfl w1.heap.size 0 (arr 4 (f)) rfl rfl ?th1 (info27 _) (arr_one _ _) ?_)
  case th1 => rw [arr_size]; exact RC.there
  replace RC := RA.out
  have O := OO.out
  clear RA OO 
  generalize w1.heap.size = ga at *
  generalize (w1.alloc (.cells #[Value.int IntKind.u64 0, Value.int IntKind.u64 0, Value.int IntKind.u64 0, Value.int IntKind.u64 0] 27)).setCells ga 0 (arr 4 (f)).toList = W1 at *
  refine (C2.out _).mono ?_
  rintro _ w2 ⟨rfl, hb⟩
  replace RC := RC.keep hb
  replace O := O.trans (hb.mono O.size)
  clear hb
  have RD : Row (w2.alloc (.cells #[Value.int IntKind.u64 0, Value.int IntKind.u64 0, Value.int IntKind.u64 0, Value.int IntKind.u64 0] 27)) w2.heap.size 27 4 (fun _ => 0) := Row.new w2 27 4 (fun _ => 0)
  have BB := below_setCells (g := w2.heap.size) (Nat.le_refl _) (arr 4 (g)).toList 0 (new_below w2 (.cells #[Value.int IntKind.u64 0, Value.int IntKind.u64 0, Value.int IntKind.u64 0, Value.int IntKind.u64 0] 27))
  have RA := hide (RD.setAll (g))
  have RC' := hide (RC.keep BB)
  have OO := hide (O.trans (BB.mono O.size))
  clear O BB RC
  go_wp2_with (refine wpList_store_mid rfl 27 _ _ rfl w2.heap.size 0 (arr 4 (g)) rfl rfl ?th2 (info27 _) (arr_one _ _) ?_)
  case th2 => rw [arr_size]; exact RD.there
  replace RD := RA.out
  have O := OO.out
  have RC := RC'.out
  clear RA OO RC'
  generalize w2.heap.size = gb at *
  generalize (w2.alloc (.cells #[Value.int IntKind.u64 0, Value.int IntKind.u64 0, Value.int IntKind.u64 0, Value.int IntKind.u64 0] 27)).setCells gb 0 (arr 4 (g)).toList = W2 at *
  refine (C3.out _).mono ?_
  rintro _ w3 ⟨rfl, hb⟩
  replace RC := RC.keep hb
  replace RD := RD.keep hb
  replace O := O.trans (hb.mono O.size)
  clear hb
  have RE : Row (w3.alloc (.cells #[Value.int IntKind.u64 0, Value.int IntKind.u64 0, Value.int IntKind.u64 0, Value.int IntKind.u64 0] 27)) w3.heap.size 27 4 (fun _ => 0) := Row.new w3 27 4 (fun _ => 0)
  have BB := below_setCells (g := w3.heap.size) (Nat.le_refl _) (arr 4 (h)).toList 0 (new_below w3 (.cells #[Value.int IntKind.u64 0, Value.int IntKind.u64 0, Value.int IntKind.u64 0, Value.int IntKind.u64 0] 27))
  have RA := hide (RE.setAll (h))
  have RC' := hide (RC.keep BB)
  have RD' := hide (RD.keep BB)
  have OO := hide (O.trans (BB.mono O.size))
  clear O BB RC RD
  go_wp2_with (refine wpList_store_mid rfl 27 _ _ rfl w3.heap.size 0 (arr 4 (h)) rfl rfl ?th3 (info27 _) (arr_one _ _) ?_)
  case th3 => rw [arr_size]; exact RE.there
  replace RE := RA.out
  have O := OO.out
  have RC := RC'.out
  have RD := RD'.out
  clear RA OO RC' RD'
  generalize w3.heap.size = gc at *
  generalize (w3.alloc (.cells #[Value.int IntKind.u64 0, Value.int IntKind.u64 0, Value.int IntKind.u64 0, Value.int IntKind.u64 0] 27)).setCells gc 0 (arr 4 (h)).toList = W3 at *
  refine (alive_any _).mono ?_
  rintro _ w4 ⟨rfl, hb⟩
  replace O := O.trans (hb.mono O.size)
  clear hb
  go_wp2
  go_ret
  exact ⟨rfl, O⟩


theorem samev (M N : Int) (w : World) (hM : 0 ≤ M ∧ M < Lm) (h : M = N) :
    Calls Try.prog 12 #[.agg (arr 4 (d64 M)), .agg (arr 4 (d64 N))] w fun r w' => r = .returned (.bool true) ∧ Below w.heap.size w w' := by
  subst h
  have := same_any M M w hM hM
  rwa [show (M == M) = true by simp] at this

theorem leb_le (N : Int) : lebytes N = bs (le N 32) := by
  unfold lebytes le digs
  have e : ∀ (i j : Nat), (N / 18446744073709551616 ^ i % 18446744073709551616) / 256 ^ j % 256 = N / 256 ^ (8 * i + j) % 256 ∨ 8 ≤ j := by
    intro i j
    by_cases hj : 8 ≤ j
    · exact .inr hj
    · left
      have e1 : (256 : Int) ^ (8 * i + j) = 18446744073709551616 ^ i * 256 ^ j := by
        rw [Int.pow_add, Int.pow_mul]
        rfl
      have hp := p64 i
      rw [e1, ← Int.ediv_ediv_of_nonneg (by omega)]
      generalize N / 18446744073709551616 ^ i = A
      rcases (show j = 0 ∨ j = 1 ∨ j = 2 ∨ j = 3 ∨ j = 4 ∨ j = 5 ∨ j = 6 ∨ j = 7 by omega) with rfl | rfl | rfl | rfl | rfl | rfl | rfl | rfl
      · simp only [Int.pow_zero]; omega
      · simp only [show (256 : Int) ^ 1 = 256 from by decide]; omega
      · simp only [show (256 : Int) ^ 2 = 65536 from by decide]; omega
      · simp only [show (256 : Int) ^ 3 = 16777216 from by decide]; omega
      · simp only [show (256 : Int) ^ 4 = 4294967296 from by decide]; omega
      · simp only [show (256 : Int) ^ 5 = 1099511627776 from by decide]; omega
      · simp only [show (256 : Int) ^ 6 = 281474976710656 from by decide]; omega
      · simp only [show (256 : Int) ^ 7 = 72057594037927936 from by decide]; omega
  congr 1
  have e' : ∀ (i j : Nat), j < 8 → N / 256 ^ (8 * i + j) % 256 = (N / 18446744073709551616 ^ i % 18446744073709551616) / 256 ^ j % 256 := fun i j hj => by
    rcases e i j with h | h
    · exact h.symm
    · omega
  have hl : List.range 32 = [8 * 0 + 0, 8 * 0 + 1, 8 * 0 + 2, 8 * 0 + 3, 8 * 0 + 4, 8 * 0 + 5, 8 * 0 + 6, 8 * 0 + 7, 8 * 1 + 0, 8 * 1 + 1, 8 * 1 + 2, 8 * 1 + 3, 8 * 1 + 4, 8 * 1 + 5, 8 * 1 + 6, 8 * 1 + 7, 8 * 2 + 0, 8 * 2 + 1, 8 * 2 + 2, 8 * 2 + 3, 8 * 2 + 4, 8 * 2 + 5, 8 * 2 + 6, 8 * 2 + 7, 8 * 3 + 0, 8 * 3 + 1, 8 * 3 + 2, 8 * 3 + 3, 8 * 3 + 4, 8 * 3 + 5, 8 * 3 + 6, 8 * 3 + 7] := by decide
  rw [hl]
  simp only [List.map_cons, List.map_nil]
  rw [e' 0 0 (by omega), e' 0 1 (by omega), e' 0 2 (by omega), e' 0 3 (by omega), e' 0 4 (by omega), e' 0 5 (by omega), e' 0 6 (by omega), e' 0 7 (by omega), e' 1 0 (by omega), e' 1 1 (by omega), e' 1 2 (by omega), e' 1 3 (by omega), e' 1 4 (by omega), e' 1 5 (by omega), e' 1 6 (by omega), e' 1 7 (by omega), e' 2 0 (by omega), e' 2 1 (by omega), e' 2 2 (by omega), e' 2 3 (by omega), e' 2 4 (by omega), e' 2 5 (by omega), e' 2 6 (by omega), e' 2 7 (by omega), e' 3 0 (by omega), e' 3 1 (by omega), e' 3 2 (by omega), e' 3 3 (by omega), e' 3 4 (by omega), e' 3 5 (by omega), e' 3 6 (by omega), e' 3 7 (by omega)]
  simp

theorem leb_size (N : Int) : (lebytes N).size = 32 := by
  unfold lebytes
  rw [bs_size]
  rfl

theorem leb_bv {N : Int} (hN : 0 ≤ N ∧ N < Lm) : bv (lebytes N) 32 = N := by
  have hP := Lm_P
  rw [leb_le N, bv_le N hN.1 32 32 (by omega)]
  have e : (256 : Int) ^ 32 = 18446744073709551616 ^ 4 := by decide
  rw [e, Int.emod_eq_of_lt hN.1 (by omega)]

theorem ba_ext {s t : ByteArray} (h1 : s.size = t.size) (h2 : ∀ i, i < s.size → bt s i = bt t i) : s = t := by
  cases s with | mk a =>
  cases t with | mk b =>
  congr 1
  have h1' : a.size = b.size := h1
  apply Array.ext h1'
  intro i ha hb
  have h := h2 i ha
  simp only [bt, ha, hb, Array.getElem?_eq_getElem, Option.getD_some] at h
  exact UInt8.toNat_inj.1 (by omega)

/-- Bytes are told by their number. -/
theorem bv_inj {s t : ByteArray} {m : Nat} (hs : s.size = m) (ht : t.size = m) (h : bv s m = bv t m) : s = t := by
  refine ba_ext (by omega) fun i hi => ?_
  rw [← bv_at s (m := m) (by omega), ← bv_at t (m := m) (by omega), h]

theorem leb_of {N : Int} (hN : 0 ≤ N ∧ N < Lm) : ofN (lebytes N) = N := by
  unfold ofN
  rw [leb_size, leb_bv hN, Int.emod_eq_of_lt hN.1 hN.2]

theorem bt_app (A B : ByteArray) (i : Nat) : bt (A ++ B) i = if i < A.size then bt A i else bt B (i - A.size) := by
  have e : (A ++ B).data = A.data ++ B.data := by
    rw [ByteArray.data_append]
  unfold bt
  rw [e]
  by_cases h : i < A.size
  · have h' : i < A.data.size := h
    rw [if_pos h, Array.getElem?_append_left h']
  · have h' : A.data.size ≤ i := by
      have : A.data.size = A.size := rfl
      omega
    rw [if_neg h, Array.getElem?_append_right h']
    rfl

theorem bv_app (A B : ByteArray) (hB : ∀ i, bt B i = 0) : ∀ k, bv (A ++ B) (A.size + k) = bv A A.size := by
  have h1 : ∀ k, k ≤ A.size → bv (A ++ B) k = bv A k := by
    intro k
    induction k with
    | zero => intro _; rfl
    | succ k ih =>
      intro hk
      show bv (A ++ B) k + bt (A ++ B) k * 256 ^ k = bv A k + bt A k * 256 ^ k
      rw [ih (by omega), bt_app, if_pos (by omega)]
  intro k
  induction k with
  | zero => exact h1 _ (Nat.le_refl _)
  | succ k ih =>
    show bv (A ++ B) (A.size + k) + bt (A ++ B) (A.size + k) * 256 ^ (A.size + k) = _
    rw [ih, bt_app, if_neg (by omega), hB]
    omega

theorem zS_bt (i : Nat) : bt zS i = 0 := by
  by_cases h : i < 32
  · refine bt_bs _ _ _ ?_ (by decide) (by decide)
    rw [List.getElem?_replicate, if_pos h]
  · exact bt_out zS i (by rw [zS_size]; omega)

theorem leb_long {N : Int} (hN : 0 ≤ N ∧ N < Lm) : (lebytes N ++ zS).size = 64 ∧ ofN (lebytes N ++ zS) = N := by
  have hsz : (lebytes N ++ zS).size = 64 := by
    rw [ByteArray.size_append, leb_size, zS_size]
  refine ⟨hsz, ?_⟩
  unfold ofN
  have e := bv_app (lebytes N) zS zS_bt 32
  rw [leb_size] at e
  rw [hsz, e, leb_bv hN, Int.emod_eq_of_lt hN.1 hN.2]

theorem canon_told (r : ByteArray) (hr : r.size = 32 ∨ r.size = 64) : ∃ c : Bool, (∀ w, Calls Try.prog 9 #[.string r] w fun x w' => x = .returned (.bool c) ∧ Below w.heap.size w w') ∧ ((lebytes (ofN r)).toList == r.toList) = c := by
  rcases hr with hr | hr
  · refine ⟨decide (bv r 32 < Lm), fun w => canon_yes r w hr, ?_⟩
    rw [Bool.eq_iff_iff, beq_iff_eq, decide_eq_true_eq]
    have hb := ofN_bd r
    constructor
    · intro h
      have e : lebytes (ofN r) = r := by
        rw [ByteArray.toList_eq, ByteArray.toList_eq] at h
        have h3 : (lebytes (ofN r)).data = r.data := Array.toList_inj.1 h
        generalize lebytes (ofN r) = L at *
        cases L
        cases r
        simp only at h3
        rw [h3]
      have := leb_bv hb
      rw [e] at this
      omega
    · intro h
      have e : ofN r = bv r 32 := by
        unfold ofN
        rw [hr, Int.emod_eq_of_lt (bv_bd r 32).1 h]
      rw [bv_inj (leb_size _) hr (by rw [leb_bv hb, e])]
  · refine ⟨false, fun w => canon_no r w (by omega), ?_⟩
    rw [Bool.eq_iff_iff, beq_iff_eq]
    constructor
    · intro h
      exfalso
      rw [ByteArray.toList_eq, ByteArray.toList_eq] at h
      have h3 : (lebytes (ofN r)).data = r.data := Array.toList_inj.1 h
      have h4 : (lebytes (ofN r)).size = r.size := congrArg Array.size h3
      rw [leb_size] at h4
      omega
    · intro h
      cases h

theorem ml (M N : Int) : M % Lm * N % Lm = M * N % Lm := by rw [Int.mul_emod, Int.emod_emod_of_dvd _ (Int.dvd_refl _), ← Int.mul_emod]
theorem mr (M N : Int) : M * (N % Lm) % Lm = M * N % Lm := by rw [Int.mul_comm, ml, Int.mul_comm]
theorem al (M N : Int) : (M % Lm + N) % Lm = (M + N) % Lm := by rw [Int.add_emod, Int.emod_emod_of_dvd _ (Int.dvd_refl _), ← Int.add_emod]
theorem ar (M N : Int) : (M + N % Lm) % Lm = (M + N) % Lm := by rw [Int.add_comm, al, Int.add_comm]

theorem laws_yes (r s t : ByteArray) (w : World) (hr : r.size = 32 ∨ r.size = 64) (hs : s.size = 32 ∨ s.size = 64) (ht : t.size = 32 ∨ t.size = 64) :
    Calls Try.prog 5 #[.string r, .string s, .string t] w fun r w' => r = .returned (.bool true) ∧ Below w.heap.size w w' := by
  have hM := ofN_bd r
  have hN := ofN_bd s
  have hK := ofN_bd t
  obtain ⟨c, hc1, hc2⟩ := canon_told r hr
  have L := lmod
  have ho1 : ∀ w, Calls Try.prog 15 #[.string r] w fun x w' => x = .returned (.tuple #[.agg (arr 4 (d64 (ofN r))), .bool true]) ∧ Below w.heap.size w w' := fun w => oft_yes r w (by omega) hr
  have ho2 : ∀ w, Calls Try.prog 15 #[.string s] w fun x w' => x = .returned (.tuple #[.agg (arr 4 (d64 (ofN s))), .bool true]) ∧ Below w.heap.size w w' := fun w => oft_yes s w (by omega) hs
  have ho3 : ∀ w, Calls Try.prog 15 #[.string t] w fun x w' => x = .returned (.tuple #[.agg (arr 4 (d64 (ofN t))), .bool true]) ∧ Below w.heap.size w w' := fun w => oft_yes t w (by omega) ht
  generalize ofN r = M at *
  generalize ofN s = N at *
  generalize ofN t = K at *
  refine laws_gen r s t (lebytes M) c (d64 M) (d64 N) (d64 K) (d64 ((M + N) % Lm)) (d64 ((N + M) % Lm)) (d64 (M * N % Lm)) (d64 (N * M % Lm)) (d64 (((M + N) % Lm + K) % Lm)) (d64 ((N + K) % Lm)) (d64 ((M + (N + K) % Lm) % Lm))
    (d64 (M * N % Lm * K % Lm)) (d64 (N * K % Lm)) (d64 (M * (N * K % Lm) % Lm)) (d64 (M * ((N + K) % Lm) % Lm)) (d64 (M * K % Lm)) (d64 ((M * N % Lm + M * K % Lm) % Lm)) (d64 ((- M) % Lm)) (d64 ((M + (- M) % Lm) % Lm)) w ?_
  constructor
  · exact ho1
  · exact ho2
  · exact ho3
  · exact fun w => add_any _ _ w hM hN
  · exact fun w => add_any _ _ w hN hM
  · exact fun w => mul_any _ _ w hM hN
  · exact fun w => mul_any _ _ w hN hM
  · exact fun w => add_any _ _ w (L _) hK
  · exact fun w => add_any _ _ w hN hK
  · exact fun w => add_any _ _ w hM (L _)
  · exact fun w => mul_any _ _ w (L _) hK
  · exact fun w => mul_any _ _ w hN hK
  · exact fun w => mul_any _ _ w hM (L _)
  · exact fun w => mul_any _ _ w hM (L _)
  · exact fun w => mul_any _ _ w hM hK
  · exact fun w => add_any _ _ w (L _) (L _)
  · exact fun w => neg_any _ w hM
  · exact fun w => add_any _ _ w hM (L _)
  · exact fun w => samev _ _ w (L _) (by rw [Int.add_comm])
  · exact fun w => samev _ _ w (L _) (by rw [Int.mul_comm])
  · exact fun w => samev _ _ w (L _) (by rw [al, ar, Int.add_assoc])
  · exact fun w => samev _ _ w (L _) (by rw [ml, mr, Int.mul_assoc])
  · exact fun w => samev _ _ w (L _) (by rw [mr, al, ar, Int.mul_add])
  · exact fun w => samev _ _ w hM rfl
  · intro w
    have h := samev ((M + (- M) % Lm) % Lm) 0 w (L _) (by rw [ar, Int.add_right_neg]; rfl)
    exact h
  · exact fun w => bytes_any M w
  · exact leb_size M
  · intro w
    have h := canon_yes (lebytes M) w (leb_size M)
    rw [leb_bv hM, decide_eq_true hM.2] at h
    exact h
  · exact hc1
  · exact hc2
  · intro w
    have h := of_any (lebytes M) w (by rw [leb_size]; omega) (Or.inl (leb_size M))
    rw [leb_of hM] at h
    exact h
  · intro w
    have h := of_any (lebytes M ++ zS) w (by rw [(leb_long hM).1]; omega) (Or.inr (leb_long hM).1)
    rw [(leb_long hM).2] at h
    exact h

theorem laws_any (r s t : ByteArray) (w : World) :
    Calls Try.prog 5 #[.string r, .string s, .string t] w fun r w' => r = .returned (.bool true) ∧ Below w.heap.size w w' := by
  by_cases h1 : r.size = 32 ∨ r.size = 64
  · by_cases h2 : s.size = 32 ∨ s.size = 64
    · by_cases h3 : t.size = 32 ∨ t.size = 64
      · exact laws_yes r s t w h1 h2 h3
      · exact laws_no3 r s t _ _ _ w (fun w => oft_yes r w (by omega) h1) (fun w => oft_yes s w (by omega) h2) (fun w => oft_no t w (by omega) (by omega))
    · obtain ⟨K, z, _, H3⟩ := oft_all t
      exact laws_no2 r s t _ _ K z w (fun w => oft_yes r w (by omega) h1) (fun w => oft_no s w (by omega) (by omega)) H3
  · obtain ⟨N, y, _, H2⟩ := oft_all s
    obtain ⟨K, z, _, H3⟩ := oft_all t
    exact laws_no1 r s t _ N K y z w (fun w => oft_no r w (by omega) (by omega)) H2 H3

end Go.Proofs.Ytaaijicpdampiaa
