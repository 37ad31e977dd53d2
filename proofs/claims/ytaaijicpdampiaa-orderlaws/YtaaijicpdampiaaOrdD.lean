/- The contract of without. -/
import Derived.Test.YtaaijicpdampiaaOrdC
import Derived.Deep.Cut
namespace Go.Proofs.Ytaaijicpdampiaa
open Go.RowKit

theorem wpList_build {P : Program} {ops : Array Oper} {rest : List Oper} {o : Oper} {a : Act} {w : World} {Q : Exit → Act → World → Prop} (hg : o.guard = none) (ty : TypeId) (parts : Array (Nat × Operand)) (_ho : o.op = .build ty parts) (cs : Array Value)
    (hrun : (execOp a.eval o).run P w = .ok (.value (.agg cs)) w) (h : wpList P ops Q rest (a.put o.dst (.agg cs)) w) : wpList P ops Q (o :: rest) a w :=
  wpList_plain hg fun K hK => by
    unfold Oper.wp
    rw [hrun]
    exact hK _ _ h

set_option maxRecDepth 100000 in
set_option maxHeartbeats 2000000 in
theorem without_gen (f g r l t : Nat → Int) (b c : Int) (w : World)
    (H0 : ∀ w, Calls Try.prog 28 #[.agg (arr 4 f), .agg (arr 4 g)] w fun x w' => x = .returned (.tuple #[.agg (arr 4 r), .int .u64 b]) ∧ Below w.heap.size w w')
    (H2 : ∀ w, Calls Try.prog 42 #[.agg (arr 4 Lf), .int .u64 b] w fun x w' => x = .returned (.agg (arr 4 l)) ∧ Below w.heap.size w w')
    (H3 : ∀ w, Calls Try.prog 34 #[.agg (arr 4 r), .agg (arr 4 l)] w fun x w' => x = .returned (.tuple #[.agg (arr 4 t), .int .u64 c]) ∧ Below w.heap.size w w') :
    Calls Try.prog 35 #[.agg (arr 4 f), .agg (arr 4 g)] w fun x w' => x = .returned (.agg (arr 4 t)) ∧ Below w.heap.size w w' := by
  have C0 := hide H0
  have C1 := hide modulus_any
  have C2 := hide H2
  have C3 := hide H3
  clear H0 H2 H3
  have R1 : Row (((w.alloc (.cells (arr 4 f) 25)).alloc (.cells (arr 4 g) 25)).alloc (.cells (arr 4 fun _ => 0) 27)) w.heap.size 25 4 f := ((Row.new w 25 4 f).alloc _).alloc _
  have R2 : Row (((w.alloc (.cells (arr 4 f) 25)).alloc (.cells (arr 4 g) 25)).alloc (.cells (arr 4 fun _ => 0) 27)) (w.heap.size + 1) 25 4 g := (Row.new' _ 25 4 _ (by simp)).alloc _
  have R3 : Row (((w.alloc (.cells (arr 4 f) 25)).alloc (.cells (arr 4 g) 25)).alloc (.cells (arr 4 fun _ => 0) 27)) (w.heap.size + 1 + 1) 27 4 (fun _ => 0) := Row.new' _ 27 4 _ (by simp)
  have O : Below w.heap.size w (((w.alloc (.cells (arr 4 f) 25)).alloc (.cells (arr 4 g) 25)).alloc (.cells (arr 4 fun _ => 0) 27)) := (((Below.refl _ _).alloc (Nat.le_refl _) _).alloc (by simp) _).alloc (by simp; omega) _
  have HR := hide (And.intro R1 (And.intro R2 (And.intro R3 O)))
  clear R1 R2 R3 O
  go_enter Try.func35, Try.ntmps35
  go_wp2_with (first | (refine wpList_load_row rfl 25 _ rfl w.heap.size rfl 25 (arr 4 f) (0, 0) _ HR.out.1 Try.underlying25 rfl (info25 _) ?_) | (refine wpList_load_row rfl 25 _ rfl (w.heap.size + 1) rfl 25 (arr 4 g) (0, 0) _ HR.out.2.1 Try.underlying25 rfl (info25 _) ?_))
  rw [show #[Value.int IntKind.u64 0, Value.int IntKind.u64 0, Value.int IntKind.u64 0, Value.int IntKind.u64 0] = arr 4 (fun _ => 0) from rfl]
  obtain ⟨R1, R2, R3, O⟩ := HR.out
  clear HR R1 R2
  generalize (((w.alloc (.cells (arr 4 f) 25)).alloc (.cells (arr 4 g) 25)).alloc (.cells (arr 4 fun _ => 0) 27)) = W at R3 O ⊢
  refine (C0.out _).mono ?_
  rintro _ w1 ⟨rfl, hb1⟩
  replace R3 := R3.keep hb1
  replace O := O.trans (hb1.mono O.size)
  clear hb1
  have RC : Row (w1.alloc (.cells #[Value.int IntKind.u64 0, Value.int IntKind.u64 0, Value.int IntKind.u64 0, Value.int IntKind.u64 0] 25)) w1.heap.size 25 4 (fun _ => 0) := Row.new w1 25 4 (fun _ => 0)
  have gl := R3.lt
  have RR := hide (RC.setAll r)
  have BB := below_setCells (g := w1.heap.size) (Nat.le_refl _) (arr 4 r).toList 0 (new_below w1 (.cells #[Value.int IntKind.u64 0, Value.int IntKind.u64 0, Value.int IntKind.u64 0, Value.int IntKind.u64 0] 25))
  have R3' := hide (R3.keep BB)
  have O' := hide (O.trans (BB.mono O.size))
  clear R3 O BB
  go_wp2_with (refine wpList_store_mid rfl 25 _ _ rfl w1.heap.size 0 (arr 4 r) rfl rfl ?thr (info25 _) (arr_one _ _) ?_)
  case thr => rw [arr_size]; exact RC.there
  have R3 := R3'.out
  have O := O'.out
  replace RC := RR.out
  clear R3' O' RR
  generalize w1.heap.size = gc at *
  generalize (w1.alloc (.cells #[Value.int IntKind.u64 0, Value.int IntKind.u64 0, Value.int IntKind.u64 0, Value.int IntKind.u64 0] 25)).setCells gc 0 (arr 4 r).toList = W2 at *
  refine region_cut (fun a0 a' w' => a' = (((((((a0.put (some 14) (.agg (arr 4 r))).put (some 15) (.agg (arr 4 Lf))).put (some 16) (.int .u64 b)).put (some 17) (.agg (arr 4 l))).put (some 18) (.tuple #[.agg (arr 4 t), .int .u64 c])).put (some 13) (.tuple #[.agg (arr 4 t), .int .u64 c])).put (some 19) (.agg (arr 4 t))).put (some 20) (.int .u64 c) ∧ Row w' gc 25 4 t ∧ Row w' (w.heap.size + 1 + 1) 27 4 (fun _ => 0) ∧ Below w.heap.size w w') (by kernel_rfl) ?_ ?_
  · clear RC R3 O
    rintro _ w8 ⟨rfl, RC, R3, O⟩
    have RR := hide (R3.setAll t)
    have OO := hide (below_setCells (g := w.heap.size + 1 + 1) (by omega) (arr 4 t).toList 0 O)
    have HX := hide RC
    clear RC O
    go_simp
    go_wp2_with (first | (refine wpList_load_row rfl 25 _ rfl gc rfl 25 (arr 4 t) (0, 0) _ ?hgt Try.underlying25 rfl (info25 _) ?_) | (refine wpList_build rfl 27 _ rfl (arr 4 t) (by kernel_rfl) ?_) | (refine wpList_store_mid rfl 27 _ _ rfl (w.heap.size + 1 + 1) 0 (arr 4 t) rfl rfl ?tht (info27 _) (arr_one _ _) ?_))
    case hgt => exact HX.out
    case tht => rw [arr_size]; exact R3.there
    exact bodyPost_ret (v := .agg (arr 4 t)) (results_cell_row Try.results35 _ _ (w.heap.size + 1 + 1) 27 (arr 4 t) (0, 0) _ rfl RR.out Try.underlying27 rfl (info27 _)) rfl ⟨rfl, OO.out⟩
  · intro hrest
    replace RC := rowD RC
    replace R3 := rowD R3
    replace O := O.drew
    generalize W2.drew = W0 at *
    refine wpAny_take (i := 2) (v := .int .u64 b) rfl (by kernel_rfl) (by kernel_rfl) (by kernel_rfl) (fun _ _ _ h => h) (Or.inl ⟨by rfl, fun _ => by kernel_rfl⟩) ?_
    refine wpAny_ready (rs := [0, 1]) (by kernel_rfl) (by simp) ?_
    refine ready_load rfl rfl 25 _ rfl gc (by kernel_rfl) 25 (arr 4 r) (0, 0) _ RC Try.underlying25 rfl (info25 _) ?_ ?_
    · skip
      refine wpAny_ready (rs := [1]) (by kernel_rfl) (by simp) ?_
      refine ready_call 29 #[] rfl rfl (by kernel_rfl) ?_ ?_
      · refine (C1.out _).mono ?_
        rintro _ w102 ⟨rfl, hb102⟩
        refine ⟨_, rfl, ?_⟩
        replace R3 := R3.keep hb102
        replace RC := RC.keep hb102
        replace O := O.trans (hb102.mono O.size)
        clear hb102
        refine wpAny_ready (rs := [3]) (by kernel_rfl) (by simp) ?_
        refine ready_call 42 #[.agg (arr 4 Lf), .int .u64 b] rfl rfl (by kernel_rfl) ?_ ?_
        · refine (C2.out _).mono ?_
          rintro _ w103 ⟨rfl, hb103⟩
          refine ⟨_, rfl, ?_⟩
          replace R3 := R3.keep hb103
          replace RC := RC.keep hb103
          replace O := O.trans (hb103.mono O.size)
          clear hb103
          refine wpAny_ready (rs := [4]) (by kernel_rfl) (by simp) ?_
          refine ready_call 34 #[.agg (arr 4 r), .agg (arr 4 l)] rfl rfl (by kernel_rfl) ?_ ?_
          · refine (C3.out _).mono ?_
            rintro _ w104 ⟨rfl, hb104⟩
            refine ⟨_, rfl, ?_⟩
            replace R3 := R3.keep hb104
            replace RC := RC.keep hb104
            replace O := O.trans (hb104.mono O.size)
            clear hb104
            refine wpAny_take (i := 5) (v := .tuple #[.agg (arr 4 t), .int .u64 c]) rfl (by kernel_rfl) (by kernel_rfl) (by kernel_rfl) (fun _ _ _ h => h) (Or.inl ⟨by rfl, fun _ => by kernel_rfl⟩) ?_
            refine wpAny_take (i := 6) (v := .agg (arr 4 t)) rfl (by kernel_rfl) (by kernel_rfl) (by kernel_rfl) (fun _ _ _ h => h) (Or.inl ⟨by rfl, fun _ => by kernel_rfl⟩) ?_
            refine wpAny_take (i := 7) (v := .int .u64 c) rfl (by kernel_rfl) (by kernel_rfl) (by kernel_rfl) (fun _ _ _ h => h) (Or.inl ⟨by rfl, fun _ => by kernel_rfl⟩) ?_
            refine wpAny_ready (rs := [8]) (by kernel_rfl) (by simp) ?_
            refine ready_store rfl rfl 25 _ _ rfl gc 0 (arr 4 t) (by kernel_rfl) (by kernel_rfl) (by rw [arr_size]; exact RC.there) (info25 _) (arr_one _ _) ?_ ?_
            · skip
              exact wpAny_done (by kernel_rfl) (hrest _ _ ⟨by kernel_rfl, RC.setAll _, R3.setOther (by omega) _ _, below_setCells (by omega) _ _ O⟩) _
            exact AllReady.nil
          exact AllReady.nil
        exact AllReady.nil
      exact AllReady.nil
    refine ready_call 29 #[] rfl rfl (by kernel_rfl) ?_ ?_
    · refine (C1.out _).mono ?_
      rintro _ w106 ⟨rfl, hb106⟩
      refine ⟨_, rfl, ?_⟩
      replace R3 := R3.keep hb106
      replace RC := RC.keep hb106
      replace O := O.trans (hb106.mono O.size)
      clear hb106
      refine wpAny_ready (rs := [0, 3]) (by kernel_rfl) (by simp) ?_
      refine ready_load rfl rfl 25 _ rfl gc (by kernel_rfl) 25 (arr 4 r) (0, 0) _ RC Try.underlying25 rfl (info25 _) ?_ ?_
      · skip
        refine wpAny_ready (rs := [3]) (by kernel_rfl) (by simp) ?_
        refine ready_call 42 #[.agg (arr 4 Lf), .int .u64 b] rfl rfl (by kernel_rfl) ?_ ?_
        · refine (C2.out _).mono ?_
          rintro _ w108 ⟨rfl, hb108⟩
          refine ⟨_, rfl, ?_⟩
          replace R3 := R3.keep hb108
          replace RC := RC.keep hb108
          replace O := O.trans (hb108.mono O.size)
          clear hb108
          refine wpAny_ready (rs := [4]) (by kernel_rfl) (by simp) ?_
          refine ready_call 34 #[.agg (arr 4 r), .agg (arr 4 l)] rfl rfl (by kernel_rfl) ?_ ?_
          · refine (C3.out _).mono ?_
            rintro _ w109 ⟨rfl, hb109⟩
            refine ⟨_, rfl, ?_⟩
            replace R3 := R3.keep hb109
            replace RC := RC.keep hb109
            replace O := O.trans (hb109.mono O.size)
            clear hb109
            refine wpAny_take (i := 5) (v := .tuple #[.agg (arr 4 t), .int .u64 c]) rfl (by kernel_rfl) (by kernel_rfl) (by kernel_rfl) (fun _ _ _ h => h) (Or.inl ⟨by rfl, fun _ => by kernel_rfl⟩) ?_
            refine wpAny_take (i := 6) (v := .agg (arr 4 t)) rfl (by kernel_rfl) (by kernel_rfl) (by kernel_rfl) (fun _ _ _ h => h) (Or.inl ⟨by rfl, fun _ => by kernel_rfl⟩) ?_
            refine wpAny_take (i := 7) (v := .int .u64 c) rfl (by kernel_rfl) (by kernel_rfl) (by kernel_rfl) (fun _ _ _ h => h) (Or.inl ⟨by rfl, fun _ => by kernel_rfl⟩) ?_
            refine wpAny_ready (rs := [8]) (by kernel_rfl) (by simp) ?_
            refine ready_store rfl rfl 25 _ _ rfl gc 0 (arr 4 t) (by kernel_rfl) (by kernel_rfl) (by rw [arr_size]; exact RC.there) (info25 _) (arr_one _ _) ?_ ?_
            · skip
              exact wpAny_done (by kernel_rfl) (hrest _ _ ⟨by kernel_rfl, RC.setAll _, R3.setOther (by omega) _ _, below_setCells (by omega) _ _ O⟩) _
            exact AllReady.nil
          exact AllReady.nil
        exact AllReady.nil
      refine ready_call 42 #[.agg (arr 4 Lf), .int .u64 b] rfl rfl (by kernel_rfl) ?_ ?_
      · refine (C2.out _).mono ?_
        rintro _ w111 ⟨rfl, hb111⟩
        refine ⟨_, rfl, ?_⟩
        replace R3 := R3.keep hb111
        replace RC := RC.keep hb111
        replace O := O.trans (hb111.mono O.size)
        clear hb111
        refine wpAny_ready (rs := [0]) (by kernel_rfl) (by simp) ?_
        refine ready_load rfl rfl 25 _ rfl gc (by kernel_rfl) 25 (arr 4 r) (0, 0) _ RC Try.underlying25 rfl (info25 _) ?_ ?_
        · skip
          refine wpAny_ready (rs := [4]) (by kernel_rfl) (by simp) ?_
          refine ready_call 34 #[.agg (arr 4 r), .agg (arr 4 l)] rfl rfl (by kernel_rfl) ?_ ?_
          · refine (C3.out _).mono ?_
            rintro _ w113 ⟨rfl, hb113⟩
            refine ⟨_, rfl, ?_⟩
            replace R3 := R3.keep hb113
            replace RC := RC.keep hb113
            replace O := O.trans (hb113.mono O.size)
            clear hb113
            refine wpAny_take (i := 5) (v := .tuple #[.agg (arr 4 t), .int .u64 c]) rfl (by kernel_rfl) (by kernel_rfl) (by kernel_rfl) (fun _ _ _ h => h) (Or.inl ⟨by rfl, fun _ => by kernel_rfl⟩) ?_
            refine wpAny_take (i := 6) (v := .agg (arr 4 t)) rfl (by kernel_rfl) (by kernel_rfl) (by kernel_rfl) (fun _ _ _ h => h) (Or.inl ⟨by rfl, fun _ => by kernel_rfl⟩) ?_
            refine wpAny_take (i := 7) (v := .int .u64 c) rfl (by kernel_rfl) (by kernel_rfl) (by kernel_rfl) (fun _ _ _ h => h) (Or.inl ⟨by rfl, fun _ => by kernel_rfl⟩) ?_
            refine wpAny_ready (rs := [8]) (by kernel_rfl) (by simp) ?_
            refine ready_store rfl rfl 25 _ _ rfl gc 0 (arr 4 t) (by kernel_rfl) (by kernel_rfl) (by rw [arr_size]; exact RC.there) (info25 _) (arr_one _ _) ?_ ?_
            · skip
              exact wpAny_done (by kernel_rfl) (hrest _ _ ⟨by kernel_rfl, RC.setAll _, R3.setOther (by omega) _ _, below_setCells (by omega) _ _ O⟩) _
            exact AllReady.nil
          exact AllReady.nil
        exact AllReady.nil
      exact AllReady.nil
    exact AllReady.nil

end Go.Proofs.Ytaaijicpdampiaa
