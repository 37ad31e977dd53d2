/- OrderReckons answers true, whatever the bytes. -/
import Derived.Test.YtaaijicpdampiaaReads
namespace Go.Proofs.Ytaaijicpdampiaa
open Go.RowKit

theorem quiet_eql {C : World → Prop} {o : Oper} {a : Act} {K : Act → Prop} (f g : Nat → Int) (x y : Operand) (rt : TypeId) (ho : o.op = .binOp .eql 38 x y rt) (hx : a.eval x = .agg (arr 16 f)) (hy : a.eval y = .agg (arr 16 g))
    (hk : K (a.put o.dst (.bool (eqw f g 0 16)))) : o.quiet Try.prog a C K := by
  have hgu : Try.prog.eqGuardType Try.prog.depth 38 = false := by kernel_rfl
  refine ⟨.bool (eqw f g 0 16), fun w hw => ?_, hk⟩
  unfold Oper.quietAt execOp
  simp only [ho, hx, hy, Sem.run_bind, Result.andThen_ok, run_eqGuard_agg (hm := hgu), run_eql_words 38 16 f g w Try.underlying38, Sem.run_pure]
  exact ⟨rfl, rfl⟩

theorem dN {N : Int} (h : 0 ≤ N ∧ N < Lm) : S (d16 N) 16 = N := by
  have hL := L16
  exact dSL h.1 (by omega)

theorem eqN {M N : Int} (hM : 0 ≤ M ∧ M < Lm) (hN : 0 ≤ N ∧ N < Lm) : eqw (d16 M) (d16 N) 0 16 = (M == N) := by
  rw [Bool.eq_iff_iff, eqw_iff, beq_iff_eq]
  constructor
  · intro h
    rw [← dN hM, ← dN hN]
    exact S_congr fun i hi => h i (by omega) (by omega)
  · intro h i _ _
    rw [h]

set_option maxRecDepth 100000 in
set_option maxHeartbeats 2000000 in
theorem reckons_no1 (s t : ByteArray) (M N : Int) (y : Bool) (w : World)
    (H1 : ∀ w, Calls Try.prog 15 #[.string s] w fun r w' => r = .returned (.tuple #[.agg (arr 4 (d64 M)), .bool false]) ∧ Below w.heap.size w w')
    (H2 : ∀ w, Calls Try.prog 15 #[.string t] w fun r w' => r = .returned (.tuple #[.agg (arr 4 (d64 N)), .bool y]) ∧ Below w.heap.size w w') :
    Calls Try.prog 4 #[.string s, .string t] w fun r w' => r = .returned (.bool true) ∧ Below w.heap.size w w' := by
  have C1 := hide H1
  have C2 := hide H2
  clear H1 H2
  generalize d64 M = f at *
  generalize d64 N = g at *
  go_enter Try.func4, Try.ntmps4
  go_wp2_with fail
  refine (C1.out _).mono ?_
  rintro _ w1 ⟨rfl, O⟩
  have RC : Row (w1.alloc (.cells #[Value.int IntKind.u64 0, Value.int IntKind.u64 0, Value.int IntKind.u64 0, Value.int IntKind.u64 0] 27)) w1.heap.size 27 4 (fun _ => 0) := Row.new w1 27 4 (fun _ => 0)
  have BB := below_setCells (g := w1.heap.size) (Nat.le_refl _) (arr 4 (f)).toList 0 (new_below w1 (.cells #[Value.int IntKind.u64 0, Value.int IntKind.u64 0, Value.int IntKind.u64 0, Value.int IntKind.u64 0] 27))
  have RA := hide (RC.setAll (f))
  have OO := hide (O.trans (BB.mono O.size))
  clear O BB 
  go_wp2_with (refine wpList_store_mid rfl 27 _ _ rfl w1.heap.size 0 (arr 4 (f)) rfl rfl ?th1 (info27 _) (arr_one _ _) ?_)
  case th1 => rw [arr_size]; exact RC.there
  replace RC := RA.out
  have O := OO.out
  clear RA OO 
  generalize w1.heap.size = ga at *
  generalize (w1.alloc (.cells #[Value.int IntKind.u64 0, Value.int IntKind.u64 0, Value.int IntKind.u64 0, Value.int IntKind.u64 0] 27)).setCells ga 0 (arr 4 (f)).toList = W1 at *
  refine (C2.out _).mono ?_
  rintro _ w2 ⟨rfl, hb⟩
  replace RC := RC.keep hb
  replace O := O.trans (hb.mono O.size)
  clear hb
  have RD : Row (w2.alloc (.cells #[Value.int IntKind.u64 0, Value.int IntKind.u64 0, Value.int IntKind.u64 0, Value.int IntKind.u64 0] 27)) w2.heap.size 27 4 (fun _ => 0) := Row.new w2 27 4 (fun _ => 0)
  have BB := below_setCells (g := w2.heap.size) (Nat.le_refl _) (arr 4 (g)).toList 0 (new_below w2 (.cells #[Value.int IntKind.u64 0, Value.int IntKind.u64 0, Value.int IntKind.u64 0, Value.int IntKind.u64 0] 27))
  have RA := hide (RD.setAll (g))
  have RC' := hide (RC.keep BB)
  have OO := hide (O.trans (BB.mono O.size))
  clear O BB RC
  go_wp2_with (refine wpList_store_mid rfl 27 _ _ rfl w2.heap.size 0 (arr 4 (g)) rfl rfl ?th2 (info27 _) (arr_one _ _) ?_)
  case th2 => rw [arr_size]; exact RD.there
  replace RD := RA.out
  have O := OO.out
  have RC := RC'.out
  clear RA OO RC'
  generalize w2.heap.size = gb at *
  generalize (w2.alloc (.cells #[Value.int IntKind.u64 0, Value.int IntKind.u64 0, Value.int IntKind.u64 0, Value.int IntKind.u64 0] 27)).setCells gb 0 (arr 4 (g)).toList = W2 at *
  refine (alive_any _).mono ?_
  rintro _ w3 ⟨rfl, hb⟩
  replace O := O.trans (hb.mono O.size)
  clear hb
  go_wp2
  go_ret
  exact ⟨rfl, O⟩

set_option maxRecDepth 100000 in
set_option maxHeartbeats 2000000 in
theorem reckons_no2 (s t : ByteArray) (M N : Int) (w : World)
    (H1 : ∀ w, Calls Try.prog 15 #[.string s] w fun r w' => r = .returned (.tuple #[.agg (arr 4 (d64 M)), .bool true]) ∧ Below w.heap.size w w')
    (H2 : ∀ w, Calls Try.prog 15 #[.string t] w fun r w' => r = .returned (.tuple #[.agg (arr 4 (d64 N)), .bool false]) ∧ Below w.heap.size w w') :
    Calls Try.prog 4 #[.string s, .string t] w fun r w' => r = .returned (.bool true) ∧ Below w.heap.size w w' := by
  have C1 := hide H1
  have C2 := hide H2
  clear H1 H2
  generalize d64 M = f at *
  generalize d64 N = g at *
  go_enter Try.func4, Try.ntmps4
  go_wp2_with fail
  refine (C1.out _).mono ?_
  rintro _ w1 ⟨rfl, O⟩
  have RC : Row (w1.alloc (.cells #[Value.int IntKind.u64 0, Value.int IntKind.u64 0, Value.int IntKind.u64 0, Value.int IntKind.u64 0] 27)) w1.heap.size 27 4 (fun _ => 0) := Row.new w1 27 4 (fun _ => 0)
  have BB := below_setCells (g := w1.heap.size) (Nat.le_refl _) (arr 4 (f)).toList 0 (new_below w1 (.cells #[Value.int IntKind.u64 0, Value.int IntKind.u64 0, Value.int IntKind.u64 0, Value.int IntKind.u64 0] 27))
  have RA := hide (RC.setAll (f))
  have OO := hide (O.trans (BB.mono O.size))
  clear O BB 
  go_wp2_with (refine wpList_store_mid rfl 27 _ _ rfl w1.heap.size 0 (arr 4 (f)) rfl rfl ?th1 (info27 _) (arr_one _ _) ?_)
  case th1 => rw [arr_size]; exact RC.there
  replace RC := RA.out
  have O := OO.out
  clear RA OO 
  generalize w1.heap.size = ga at *
  generalize (w1.alloc (.cells #[Value.int IntKind.u64 0, Value.int IntKind.u64 0, Value.int IntKind.u64 0, Value.int IntKind.u64 0] 27)).setCells ga 0 (arr 4 (f)).toList = W1 at *
  refine (C2.out _).mono ?_
  rintro _ w2 ⟨rfl, hb⟩
  replace RC := RC.keep hb
  replace O := O.trans (hb.mono O.size)
  clear hb
  have RD : Row (w2.alloc (.cells #[Value.int IntKind.u64 0, Value.int IntKind.u64 0, Value.int IntKind.u64 0, Value.int IntKind.u64 0] 27)) w2.heap.size 27 4 (fun _ => 0) := Row.new w2 27 4 (fun _ => 0)
  have BB := below_setCells (g := w2.heap.size) (Nat.le_refl _) (arr 4 (g)).toList 0 (new_below w2 (.cells #[Value.int IntKind.u64 0, Value.int IntKind.u64 0, Value.int IntKind.u64 0, Value.int IntKind.u64 0] 27))
  have RA := hide (RD.setAll (g))
  have RC' := hide (RC.keep BB)
  have OO := hide (O.trans (BB.mono O.size))
  clear O BB RC
  go_wp2_with (refine wpList_store_mid rfl 27 _ _ rfl w2.heap.size 0 (arr 4 (g)) rfl rfl ?th2 (info27 _) (arr_one _ _) ?_)
  case th2 => rw [arr_size]; exact RD.there
  replace RD := RA.out
  have O := OO.out
  have RC := RC'.out
  clear RA OO RC'
  generalize w2.heap.size = gb at *
  generalize (w2.alloc (.cells #[Value.int IntKind.u64 0, Value.int IntKind.u64 0, Value.int IntKind.u64 0, Value.int IntKind.u64 0] 27)).setCells gb 0 (arr 4 (g)).toList = W2 at *
  refine (alive_any _).mono ?_
  rintro _ w3 ⟨rfl, hb⟩
  replace O := O.trans (hb.mono O.size)
  clear hb
  go_wp2
  go_ret
  exact ⟨rfl, O⟩

set_option maxRecDepth 100000 in
set_option maxHeartbeats 2000000 in
theorem reckons_gen (s t : ByteArray) (f g f1 f2 f3 c d c1 c2 c3 : Nat → Int) (b : Bool) (w : World)
    (H1 : ∀ w, Calls Try.prog 15 #[.string s] w fun r w' => r = .returned (.tuple #[.agg (arr 4 f), .bool true]) ∧ Below w.heap.size w w')
    (H2 : ∀ w, Calls Try.prog 15 #[.string t] w fun r w' => r = .returned (.tuple #[.agg (arr 4 g), .bool true]) ∧ Below w.heap.size w w')
    (H3 : ∀ w, Calls Try.prog 14 #[.string s] w fun r w' => r = .returned (.agg (arr 16 c)) ∧ Below w.heap.size w w')
    (H4 : ∀ w, Calls Try.prog 14 #[.string t] w fun r w' => r = .returned (.agg (arr 16 d)) ∧ Below w.heap.size w w')
    (H5 : ∀ w, Calls Try.prog 16 #[.agg (arr 4 f), .agg (arr 4 g)] w fun r w' => r = .returned (.agg (arr 4 f1)) ∧ Below w.heap.size w w')
    (H6 : ∀ w, Calls Try.prog 17 #[.agg (arr 16 c), .agg (arr 16 d)] w fun r w' => r = .returned (.agg (arr 16 c1)) ∧ Below w.heap.size w w')
    (H7 : ∀ w, Calls Try.prog 13 #[.agg (arr 4 f1), .agg (arr 16 c1)] w fun r w' => r = .returned (.bool true) ∧ Below w.heap.size w w')
    (H8 : ∀ w, Calls Try.prog 18 #[.agg (arr 4 f), .agg (arr 4 g)] w fun r w' => r = .returned (.agg (arr 4 f2)) ∧ Below w.heap.size w w')
    (H9 : ∀ w, Calls Try.prog 19 #[.agg (arr 16 c), .agg (arr 16 d)] w fun r w' => r = .returned (.agg (arr 16 c2)) ∧ Below w.heap.size w w')
    (H10 : ∀ w, Calls Try.prog 13 #[.agg (arr 4 f2), .agg (arr 16 c2)] w fun r w' => r = .returned (.bool true) ∧ Below w.heap.size w w')
    (H11 : ∀ w, Calls Try.prog 20 #[.agg (arr 4 f)] w fun r w' => r = .returned (.agg (arr 4 f3)) ∧ Below w.heap.size w w')
    (H12 : ∀ w, Calls Try.prog 21 #[.agg (arr 16 c)] w fun r w' => r = .returned (.agg (arr 16 c3)) ∧ Below w.heap.size w w')
    (H13 : ∀ w, Calls Try.prog 13 #[.agg (arr 4 f3), .agg (arr 16 c3)] w fun r w' => r = .returned (.bool true) ∧ Below w.heap.size w w')
    (H14 : ∀ w, Calls Try.prog 12 #[.agg (arr 4 f), .agg (arr 4 g)] w fun r w' => r = .returned (.bool b) ∧ Below w.heap.size w w')
    (he : eqw c d 0 16 = b) :
    Calls Try.prog 4 #[.string s, .string t] w fun r w' => r = .returned (.bool true) ∧ Below w.heap.size w w' := by
  have C1 := hide H1
  have C2 := hide H2
  have C3 := hide H3
  have C4 := hide H4
  have C5 := hide H5
  have C6 := hide H6
  have C7 := hide H7
  have C8 := hide H8
  have C9 := hide H9
  have C10 := hide H10
  have C11 := hide H11
  have C12 := hide H12
  have C13 := hide H13
  have C14 := hide H14
  have HE := hide he
  clear he H1 H2 H3 H4 H5 H6 H7 H8 H9 H10 H11 H12 H13 H14
  go_enter Try.func4, Try.ntmps4
  go_wp2_with fail
  refine (C1.out _).mono ?_
  rintro _ w1 ⟨rfl, O⟩
  have RC : Row (w1.alloc (.cells #[Value.int IntKind.u64 0, Value.int IntKind.u64 0, Value.int IntKind.u64 0, Value.int IntKind.u64 0] 27)) w1.heap.size 27 4 (fun _ => 0) := Row.new w1 27 4 (fun _ => 0)
  have BB := below_setCells (g := w1.heap.size) (Nat.le_refl _) (arr 4 (f)).toList 0 (new_below w1 (.cells #[Value.int IntKind.u64 0, Value.int IntKind.u64 0, Value.int IntKind.u64 0, Value.int IntKind.u64 0] 27))
  have RA := hide (RC.setAll (f))
  have OO := hide (O.trans (BB.mono O.size))
  clear O BB 
  go_wp2_with (refine wpList_store_mid rfl 27 _ _ rfl w1.heap.size 0 (arr 4 (f)) rfl rfl ?th1 (info27 _) (arr_one _ _) ?_)
  case th1 => rw [arr_size]; exact RC.there
  replace RC := RA.out
  have O := OO.out
  clear RA OO 
  generalize w1.heap.size = ga at *
  generalize (w1.alloc (.cells #[Value.int IntKind.u64 0, Value.int IntKind.u64 0, Value.int IntKind.u64 0, Value.int IntKind.u64 0] 27)).setCells ga 0 (arr 4 (f)).toList = W1 at *
  refine (C2.out _).mono ?_
  rintro _ w2 ⟨rfl, hb⟩
  replace RC := RC.keep hb
  replace O := O.trans (hb.mono O.size)
  clear hb
  have RD : Row (w2.alloc (.cells #[Value.int IntKind.u64 0, Value.int IntKind.u64 0, Value.int IntKind.u64 0, Value.int IntKind.u64 0] 27)) w2.heap.size 27 4 (fun _ => 0) := Row.new w2 27 4 (fun _ => 0)
  have BB := below_setCells (g := w2.heap.size) (Nat.le_refl _) (arr 4 (g)).toList 0 (new_below w2 (.cells #[Value.int IntKind.u64 0, Value.int IntKind.u64 0, Value.int IntKind.u64 0, Value.int IntKind.u64 0] 27))
  have RA := hide (RD.setAll (g))
  have RC' := hide (RC.keep BB)
  have OO := hide (O.trans (BB.mono O.size))
  clear O BB RC
  go_wp2_with (refine wpList_store_mid rfl 27 _ _ rfl w2.heap.size 0 (arr 4 (g)) rfl rfl ?th2 (info27 _) (arr_one _ _) ?_)
  case th2 => rw [arr_size]; exact RD.there
  replace RD := RA.out
  have O := OO.out
  have RC := RC'.out
  clear RA OO RC'
  generalize w2.heap.size = gb at *
  generalize (w2.alloc (.cells #[Value.int IntKind.u64 0, Value.int IntKind.u64 0, Value.int IntKind.u64 0, Value.int IntKind.u64 0] 27)).setCells gb 0 (arr 4 (g)).toList = W2 at *
  refine (C3.out _).mono ?_
  rintro _ w3 ⟨rfl, hb⟩
  replace RC := RC.keep hb
  replace RD := RD.keep hb
  replace O := O.trans (hb.mono O.size)
  clear hb
  have RE : Row (w3.alloc (.cells #[Value.int IntKind.u64 0, Value.int IntKind.u64 0, Value.int IntKind.u64 0, Value.int IntKind.u64 0, Value.int IntKind.u64 0, Value.int IntKind.u64 0, Value.int IntKind.u64 0, Value.int IntKind.u64 0, Value.int IntKind.u64 0, Value.int IntKind.u64 0, Value.int IntKind.u64 0, Value.int IntKind.u64 0, Value.int IntKind.u64 0, Value.int IntKind.u64 0, Value.int IntKind.u64 0, Value.int IntKind.u64 0] 38)) w3.heap.size 38 16 (fun _ => 0) := Row.new w3 38 16 (fun _ => 0)
  have BB := below_setCells (g := w3.heap.size) (Nat.le_refl _) (arr 16 (c)).toList 0 (new_below w3 (.cells #[Value.int IntKind.u64 0, Value.int IntKind.u64 0, Value.int IntKind.u64 0, Value.int IntKind.u64 0, Value.int IntKind.u64 0, Value.int IntKind.u64 0, Value.int IntKind.u64 0, Value.int IntKind.u64 0, Value.int IntKind.u64 0, Value.int IntKind.u64 0, Value.int IntKind.u64 0, Value.int IntKind.u64 0, Value.int IntKind.u64 0, Value.int IntKind.u64 0, Value.int IntKind.u64 0, Value.int IntKind.u64 0] 38))
  have RA := hide (RE.setAll (c))
  have RC' := hide (RC.keep BB)
  have RD' := hide (RD.keep BB)
  have OO := hide (O.trans (BB.mono O.size))
  clear O BB RC RD
  go_wp2_with (refine wpList_store_mid rfl 38 _ _ rfl w3.heap.size 0 (arr 16 (c)) rfl rfl ?th3 (info38 _) (arr_one _ _) ?_)
  case th3 => rw [arr_size]; exact RE.there
  replace RE := RA.out
  have O := OO.out
  have RC := RC'.out
  have RD := RD'.out
  clear RA OO RC' RD'
  generalize w3.heap.size = gc at *
  generalize (w3.alloc (.cells #[Value.int IntKind.u64 0, Value.int IntKind.u64 0, Value.int IntKind.u64 0, Value.int IntKind.u64 0, Value.int IntKind.u64 0, Value.int IntKind.u64 0, Value.int IntKind.u64 0, Value.int IntKind.u64 0, Value.int IntKind.u64 0, Value.int IntKind.u64 0, Value.int IntKind.u64 0, Value.int IntKind.u64 0, Value.int IntKind.u64 0, Value.int IntKind.u64 0, Value.int IntKind.u64 0, Value.int IntKind.u64 0] 38)).setCells gc 0 (arr 16 (c)).toList = W3 at *
  refine (C4.out _).mono ?_
  rintro _ w4 ⟨rfl, hb⟩
  replace RC := RC.keep hb
  replace RD := RD.keep hb
  replace RE := RE.keep hb
  replace O := O.trans (hb.mono O.size)
  clear hb
  have RF : Row (w4.alloc (.cells #[Value.int IntKind.u64 0, Value.int IntKind.u64 0, Value.int IntKind.u64 0, Value.int IntKind.u64 0, Value.int IntKind.u64 0, Value.int IntKind.u64 0, Value.int IntKind.u64 0, Value.int IntKind.u64 0, Value.int IntKind.u64 0, Value.int IntKind.u64 0, Value.int IntKind.u64 0, Value.int IntKind.u64 0, Value.int IntKind.u64 0, Value.int IntKind.u64 0, Value.int IntKind.u64 0, Value.int IntKind.u64 0] 38)) w4.heap.size 38 16 (fun _ => 0) := Row.new w4 38 16 (fun _ => 0)
  have BB := below_setCells (g := w4.heap.size) (Nat.le_refl _) (arr 16 (d)).toList 0 (new_below w4 (.cells #[Value.int IntKind.u64 0, Value.int IntKind.u64 0, Value.int IntKind.u64 0, Value.int IntKind.u64 0, Value.int IntKind.u64 0, Value.int IntKind.u64 0, Value.int IntKind.u64 0, Value.int IntKind.u64 0, Value.int IntKind.u64 0, Value.int IntKind.u64 0, Value.int IntKind.u64 0, Value.int IntKind.u64 0, Value.int IntKind.u64 0, Value.int IntKind.u64 0, Value.int IntKind.u64 0, Value.int IntKind.u64 0] 38))
  have RA := hide (RF.setAll (d))
  have RC' := hide (RC.keep BB)
  have RD' := hide (RD.keep BB)
  have RE' := hide (RE.keep BB)
  have OO := hide (O.trans (BB.mono O.size))
  clear O BB RC RD RE
  go_wp2_with (refine wpList_store_mid rfl 38 _ _ rfl w4.heap.size 0 (arr 16 (d)) rfl rfl ?th4 (info38 _) (arr_one _ _) ?_)
  case th4 => rw [arr_size]; exact RF.there
  replace RF := RA.out
  have O := OO.out
  have RC := RC'.out
  have RD := RD'.out
  have RE := RE'.out
  clear RA OO RC' RD' RE'
  generalize w4.heap.size = gd at *
  generalize (w4.alloc (.cells #[Value.int IntKind.u64 0, Value.int IntKind.u64 0, Value.int IntKind.u64 0, Value.int IntKind.u64 0, Value.int IntKind.u64 0, Value.int IntKind.u64 0, Value.int IntKind.u64 0, Value.int IntKind.u64 0, Value.int IntKind.u64 0, Value.int IntKind.u64 0, Value.int IntKind.u64 0, Value.int IntKind.u64 0, Value.int IntKind.u64 0, Value.int IntKind.u64 0, Value.int IntKind.u64 0, Value.int IntKind.u64 0] 38)).setCells gd 0 (arr 16 (d)).toList = W4 at *
  clear C1 C2 C3 C4
  try rw [show ∀ (a : Act) (v : Value), a.put none v = a from fun _ _ => rfl]
  have hne := KW.some W4
  have HA : Hid (∀ w', (∃ s : KW W4, w' = s.w) → w'.heap[ga]? = some (.cells (arr 4 f) 27 (0, 0))) := hide (by rintro _ ⟨s, rfl⟩; exact RC.keep s.keep)
  have HB : Hid (∀ w', (∃ s : KW W4, w' = s.w) → w'.heap[gb]? = some (.cells (arr 4 g) 27 (0, 0))) := hide (by rintro _ ⟨s, rfl⟩; exact RD.keep s.keep)
  have HC : Hid (∀ w', (∃ s : KW W4, w' = s.w) → w'.heap[gc]? = some (.cells (arr 16 c) 38 (0, 0))) := hide (by rintro _ ⟨s, rfl⟩; exact RE.keep s.keep)
  have HD : Hid (∀ w', (∃ s : KW W4, w' = s.w) → w'.heap[gd]? = some (.cells (arr 16 d) 38 (0, 0))) := hide (by rintro _ ⟨s, rfl⟩; exact RF.keep s.keep)
  have KK := hide O
  clear RC RD RE RF O
  refine wp_region_keep (by kernel_rfl) (by kernel_rfl) ?_
  go_big_quiet_want
  refine quiet_load_row 27 _ rfl ga rfl 27 (arr 4 f) (0, 0) _ HA.out Try.underlying27 rfl (info27 _) ?_
  go_simp
  go_big_quiet_on
  go_big_quiet_want
  refine quiet_load_row 27 _ rfl gb rfl 27 (arr 4 g) (0, 0) _ HB.out Try.underlying27 rfl (info27 _) ?_
  go_simp
  go_big_quiet_on
  go_big_quiet_step ((exact keep_of (C5.out _)))
  go_big_quiet_want
  refine quiet_load_row 38 _ rfl gc rfl 38 (arr 16 c) (0, 0) _ HC.out Try.underlying38 rfl (info38 _) ?_
  go_simp
  go_big_quiet_on
  go_big_quiet_want
  refine quiet_load_row 38 _ rfl gd rfl 38 (arr 16 d) (0, 0) _ HD.out Try.underlying38 rfl (info38 _) ?_
  go_simp
  go_big_quiet_on
  go_big_quiet_step ((exact keep_of (C6.out _)))
  go_big_quiet_step ((exact keep_of (C7.out _)))
  go_big_quiet_step (fail)
  go_big_quiet_want
  refine quiet_load_row 27 _ rfl ga rfl 27 (arr 4 f) (0, 0) _ HA.out Try.underlying27 rfl (info27 _) ?_
  go_simp
  go_big_quiet_on
  go_big_quiet_want
  refine quiet_load_row 27 _ rfl gb rfl 27 (arr 4 g) (0, 0) _ HB.out Try.underlying27 rfl (info27 _) ?_
  go_simp
  go_big_quiet_on
  go_big_quiet_step ((exact keep_of (C8.out _)))
  go_big_quiet_want
  refine quiet_load_row 38 _ rfl gc rfl 38 (arr 16 c) (0, 0) _ HC.out Try.underlying38 rfl (info38 _) ?_
  go_simp
  go_big_quiet_on
  go_big_quiet_want
  refine quiet_load_row 38 _ rfl gd rfl 38 (arr 16 d) (0, 0) _ HD.out Try.underlying38 rfl (info38 _) ?_
  go_simp
  go_big_quiet_on
  go_big_quiet_step ((exact keep_of (C9.out _)))
  go_big_quiet_step ((exact keep_of (C10.out _)))
  go_big_quiet_step (fail)
  go_big_quiet_step (fail)
  go_big_quiet_want
  refine quiet_load_row 27 _ rfl ga rfl 27 (arr 4 f) (0, 0) _ HA.out Try.underlying27 rfl (info27 _) ?_
  go_simp
  go_big_quiet_on
  go_big_quiet_step ((exact keep_of (C11.out _)))
  go_big_quiet_want
  refine quiet_load_row 38 _ rfl gc rfl 38 (arr 16 c) (0, 0) _ HC.out Try.underlying38 rfl (info38 _) ?_
  go_simp
  go_big_quiet_on
  go_big_quiet_step ((exact keep_of (C12.out _)))
  go_big_quiet_step ((exact keep_of (C13.out _)))
  go_big_quiet_step (fail)
  go_big_quiet_step (fail)
  go_big_quiet_want
  refine quiet_load_row 27 _ rfl ga rfl 27 (arr 4 f) (0, 0) _ HA.out Try.underlying27 rfl (info27 _) ?_
  go_simp
  go_big_quiet_on
  go_big_quiet_want
  refine quiet_load_row 27 _ rfl gb rfl 27 (arr 4 g) (0, 0) _ HB.out Try.underlying27 rfl (info27 _) ?_
  go_simp
  go_big_quiet_on
  go_big_quiet_step ((exact keep_of (C14.out _)))
  go_big_quiet_want
  refine quiet_load_row 38 _ rfl gc rfl 38 (arr 16 c) (0, 0) _ HC.out Try.underlying38 rfl (info38 _) ?_
  go_simp
  go_big_quiet_on
  go_big_quiet_want
  refine quiet_load_row 38 _ rfl gd rfl 38 (arr 16 d) (0, 0) _ HD.out Try.underlying38 rfl (info38 _) ?_
  go_simp
  go_big_quiet_on
  go_big_quiet_want
  refine quiet_eql c d _ _ _ rfl rfl rfl ?_
  rw [HE.out]
  go_simp
  go_big_quiet_on
  have hbb : (b == b) = true := by simp
  go_big_quiet_step (fail)
  go_big_quiet_step (fail)
  go_big_quiet_step (fail)
  go_big_quiet_step ((exact keep_of (alive_any _)))
  go_big_quiet_step (fail)
  go_big_quiet_step (fail)
  refine wpQuiet_nil ?_
  intro s
  have hw := KK.out.trans (s.keep.mono KK.out.size)
  clear HA HB HC HD hne KK C5 C6 C7 C8 C9 C10 C11 C12 C13 C14 HE
  go_wp2
  go_ret
  exact ⟨rfl, hw⟩

theorem reckons_yes (s t : ByteArray) (w : World) (hs : s.size = 32 ∨ s.size = 64) (ht : t.size = 32 ∨ t.size = 64) :
    Calls Try.prog 4 #[.string s, .string t] w fun r w' => r = .returned (.bool true) ∧ Below w.heap.size w w' := by
  have hM := ofN_bd s
  have hN := ofN_bd t
  refine reckons_gen s t (d64 (ofN s)) (d64 (ofN t)) (d64 ((ofN s + ofN t) % Lm)) (d64 (ofN s * ofN t % Lm)) (d64 ((- ofN s) % Lm)) (d16 (ofN s)) (d16 (ofN t)) (d16 ((ofN s + ofN t) % Lm)) (d16 (ofN s * ofN t % Lm)) (d16 ((- ofN s) % Lm)) (ofN s == ofN t) w
    (fun w => oft_yes s w (by omega) hs) (fun w => oft_yes t w (by omega) ht) (fun w => rofN s w (by omega)) (fun w => rofN t w (by omega))
    (fun w => add_any _ _ w hM hN) (fun w => ?_) (fun w => isN _ w (lmod _)) (fun w => mul_any _ _ w hM hN) (fun w => ?_) (fun w => isN _ w (lmod _))
    (fun w => neg_any _ w hM) (fun w => ?_) (fun w => isN _ w (lmod _)) (fun w => same_any _ _ w hM hN) (eqN hM hN)
  · have h := radd_any (d16 (ofN s)) (d16 (ofN t)) w (d16_dig _ 16) (d16_dig _ 16)
    rwa [dN hM, dN hN] at h
  · have h := rmul_any (d16 (ofN s)) (d16 (ofN t)) w (d16_dig _ 16) (d16_dig _ 16)
    rwa [dN hM, dN hN] at h
  · have h := rneg_any (d16 (ofN s)) w (d16_dig _ 16) (by rw [dN hM]; exact hM.2)
    rwa [dN hM] at h

theorem oft_all (s : ByteArray) : ∃ (N : Int) (b : Bool), (b = true ↔ (s.size = 32 ∨ s.size = 64)) ∧ ∀ w, Calls Try.prog 15 #[.string s] w fun r w' => r = .returned (.tuple #[.agg (arr 4 (d64 N)), .bool b]) ∧ Below w.heap.size w w' := by
  by_cases h : s.size = 32 ∨ s.size = 64
  · exact ⟨ofN s, true, by simp [h], fun w => oft_yes s w (by omega) h⟩
  · exact ⟨0, false, by simp [h], fun w => oft_no s w (by omega) (by omega)⟩

theorem reckons_any (s t : ByteArray) (w : World) :
    Calls Try.prog 4 #[.string s, .string t] w fun r w' => r = .returned (.bool true) ∧ Below w.heap.size w w' := by
  by_cases h1 : s.size = 32 ∨ s.size = 64
  · by_cases h2 : t.size = 32 ∨ t.size = 64
    · exact reckons_yes s t w h1 h2
    · obtain ⟨M, x, _, H1⟩ := oft_all s
      cases x
      · exact reckons_no1 s t M 0 false w H1 (fun w => oft_no t w (by omega) (by omega))
      · exact reckons_no2 s t M 0 w H1 (fun w => oft_no t w (by omega) (by omega))
  · obtain ⟨N, y, _, H2⟩ := oft_all t
    exact reckons_no1 s t 0 N y w (fun w => oft_no s w (by omega) (by omega)) H2

end Go.Proofs.Ytaaijicpdampiaa
