/- The contracts of the scalars' Add and Neg. -/
import Derived.Test.YtaaijicpdampiaaOrdD
namespace Go.Proofs.Ytaaijicpdampiaa
open Go.RowKit

theorem without_any (f g : Nat → Int) (w : World) (hf : Wds f 4) (hg : Wds g 4) (h0 : - Lm ≤ Q f 4 - Q g 4) (h1 : Q f 4 - Q g 4 < Lm) :
    Calls Try.prog 35 #[.agg (arr 4 f), .agg (arr 4 g)] w fun x w' => x = .returned (.agg (arr 4 (d64 ((Q f 4 - Q g 4) % Lm)))) ∧ Below w.heap.size w w' := by
  have hb := br_bd f g 4
  have hb2 : br f g 4 = 0 ∨ br f g 4 = 1 := by omega
  have wl : Wds (fun i => Lf i * br f g 4) 4 := fun i hi => by
    have h := Lf_wds i hi
    show W64 (Lf i * br f g 4)
    rcases hb2 with e | e
    · rw [e, Int.mul_zero]; exact ⟨by decide, by decide⟩
    · rw [e, Int.mul_one]; exact h
  have := without_gen f g (ms f g) (fun i => Lf i * br f g 4) (ps (ms f g) (fun i => Lf i * br f g 4)) (br f g 4) (pc (ms f g) (fun i => Lf i * br f g 4) 4) w
    (fun w => minus_any f g w hf hg) (fun w => once_any Lf _ w Lf_wds hb2) (fun w => plus_any _ _ w (ms_wds f g 4) wl)
  rwa [without_val hf hg h0 h1] at this

set_option maxRecDepth 100000 in
set_option maxHeartbeats 2000000 in
theorem add_gen (M N V c : Int) (r : Nat → Int) (w : World)
    (H0 : ∀ w, Calls Try.prog 34 #[.agg (arr 4 (d64 M)), .agg (arr 4 (d64 N))] w fun x w' => x = .returned (.tuple #[.agg (arr 4 r), .int .u64 c]) ∧ Below w.heap.size w w')
    (H2 : ∀ w, Calls Try.prog 35 #[.agg (arr 4 r), .agg (arr 4 Lf)] w fun x w' => x = .returned (.agg (arr 4 (d64 V))) ∧ Below w.heap.size w w') :
    Calls Try.prog 16 #[.agg (arr 4 (d64 M)), .agg (arr 4 (d64 N))] w fun x w' => x = .returned (.agg (arr 4 (d64 V))) ∧ Below w.heap.size w w' := by
  have C0 := hide H0
  have C1 := hide modulus_any
  have C2 := hide H2
  clear H0 H2
  have R1 : Row (((w.alloc (.cells (arr 4 (d64 M)) 27)).alloc (.cells (arr 4 (d64 N)) 27)).alloc (.cells (arr 4 fun _ => 0) 27)) w.heap.size 27 4 (d64 M) := ((Row.new w 27 4 _).alloc _).alloc _
  have R2 : Row (((w.alloc (.cells (arr 4 (d64 M)) 27)).alloc (.cells (arr 4 (d64 N)) 27)).alloc (.cells (arr 4 fun _ => 0) 27)) (w.heap.size + 1) 27 4 (d64 N) := (Row.new' _ 27 4 _ (by simp)).alloc _
  have R3 : Row (((w.alloc (.cells (arr 4 (d64 M)) 27)).alloc (.cells (arr 4 (d64 N)) 27)).alloc (.cells (arr 4 fun _ => 0) 27)) (w.heap.size + 1 + 1) 27 4 (fun _ => 0) := Row.new' _ 27 4 _ (by simp)
  have O : Below w.heap.size w (((w.alloc (.cells (arr 4 (d64 M)) 27)).alloc (.cells (arr 4 (d64 N)) 27)).alloc (.cells (arr 4 fun _ => 0) 27)) := (((Below.refl _ _).alloc (Nat.le_refl _) _).alloc (by simp) _).alloc (by simp; omega) _
  have HR := hide (And.intro R1 (And.intro R2 (And.intro R3 O)))
  clear R1 R2 R3 O
  go_enter Try.func16, Try.ntmps16
  go_wp2_with (first | (refine wpList_load_row rfl 25 _ rfl w.heap.size rfl 27 (arr 4 (d64 M)) (0, 0) _ HR.out.1 Try.underlying25 rfl (info25 _) ?_) | (refine wpList_load_row rfl 25 _ rfl (w.heap.size + 1) rfl 27 (arr 4 (d64 N)) (0, 0) _ HR.out.2.1 Try.underlying25 rfl (info25 _) ?_))
  rw [show #[Value.int IntKind.u64 0, Value.int IntKind.u64 0, Value.int IntKind.u64 0, Value.int IntKind.u64 0] = arr 4 (fun _ => 0) from rfl]
  obtain ⟨R1, R2, R3, O⟩ := HR.out
  clear HR R1 R2
  generalize (((w.alloc (.cells (arr 4 (d64 M)) 27)).alloc (.cells (arr 4 (d64 N)) 27)).alloc (.cells (arr 4 fun _ => 0) 27)) = W at R3 O ⊢
  refine (C0.out _).mono ?_
  rintro _ w1 ⟨rfl, hb1⟩
  replace R3 := R3.keep hb1
  replace O := O.trans (hb1.mono O.size)
  clear hb1
  have RC : Row (w1.alloc (.cells #[Value.int IntKind.u64 0, Value.int IntKind.u64 0, Value.int IntKind.u64 0, Value.int IntKind.u64 0] 25)) w1.heap.size 25 4 (fun _ => 0) := Row.new w1 25 4 (fun _ => 0)
  have gl := R3.lt
  have RR := hide (RC.setAll r)
  have BB := below_setCells (g := w1.heap.size) (Nat.le_refl _) (arr 4 r).toList 0 (new_below w1 (.cells #[Value.int IntKind.u64 0, Value.int IntKind.u64 0, Value.int IntKind.u64 0, Value.int IntKind.u64 0] 25))
  have R3' := hide (R3.keep BB)
  have O' := hide (O.trans (BB.mono O.size))
  clear R3 O BB
  go_wp2_with (refine wpList_store_mid rfl 25 _ _ rfl w1.heap.size 0 (arr 4 r) rfl rfl ?thr (info25 _) (arr_one _ _) ?_)
  case thr => rw [arr_size]; exact RC.there
  have R3 := R3'.out
  have O := O'.out
  replace RC := RR.out
  clear R3' O' RR
  generalize w1.heap.size = gc at *
  generalize (w1.alloc (.cells #[Value.int IntKind.u64 0, Value.int IntKind.u64 0, Value.int IntKind.u64 0, Value.int IntKind.u64 0] 25)).setCells gc 0 (arr 4 r).toList = W2 at *
  refine region_cut (fun a0 a' w' => a' = ((a0.put (some 15) (.agg (arr 4 r))).put (some 16) (.agg (arr 4 Lf))).put (some 17) (.agg (arr 4 (d64 V))) ∧ Row w' (w.heap.size + 1 + 1) 27 4 (d64 V) ∧ Below w.heap.size w w') (by kernel_rfl) ?_ ?_
  · clear RC R3 O
    rintro _ w8 ⟨rfl, R3, O⟩
    go_simp
    go_wp2
    exact bodyPost_ret (v := .agg (arr 4 (d64 V))) (results_cell_row Try.results16 _ _ (w.heap.size + 1 + 1) 27 (arr 4 (d64 V)) (0, 0) _ rfl R3 Try.underlying27 rfl (info27 _)) rfl ⟨rfl, O⟩
  · intro hrest
    replace RC := rowD RC
    replace R3 := rowD R3
    replace O := O.drew
    generalize W2.drew = W0 at *
    refine wpAny_ready (rs := [0, 1]) (by kernel_rfl) (by simp) ?_
    refine ready_load rfl rfl 25 _ rfl gc (by kernel_rfl) 25 (arr 4 r) (0, 0) _ RC Try.underlying25 rfl (info25 _) ?_ ?_
    · skip
      refine wpAny_ready (rs := [1]) (by kernel_rfl) (by simp) ?_
      refine ready_call 29 #[] rfl rfl (by kernel_rfl) ?_ ?_
      · refine (C1.out _).mono ?_
        rintro _ w102 ⟨rfl, hb102⟩
        refine ⟨_, rfl, ?_⟩
        replace R3 := R3.keep hb102
        replace RC := RC.keep hb102
        replace O := O.trans (hb102.mono O.size)
        clear hb102
        refine wpAny_ready (rs := [2]) (by kernel_rfl) (by simp) ?_
        refine ready_call 35 #[.agg (arr 4 r), .agg (arr 4 Lf)] rfl rfl (by kernel_rfl) ?_ ?_
        · refine (C2.out _).mono ?_
          rintro _ w103 ⟨rfl, hb103⟩
          refine ⟨_, rfl, ?_⟩
          replace R3 := R3.keep hb103
          replace RC := RC.keep hb103
          replace O := O.trans (hb103.mono O.size)
          clear hb103
          refine wpAny_ready (rs := [3]) (by kernel_rfl) (by simp) ?_
          refine ready_store rfl rfl 27 _ _ rfl (w.heap.size + 1 + 1) 0 (arr 4 (d64 V)) (by kernel_rfl) (by kernel_rfl) (by rw [arr_size]; exact R3.there) (info27 _) (arr_one _ _) ?_ ?_
          · skip
            exact wpAny_done (by kernel_rfl) (hrest _ _ ⟨by kernel_rfl, R3.setAll _, below_setCells (by omega) _ _ O⟩) _
          exact AllReady.nil
        exact AllReady.nil
      exact AllReady.nil
    refine ready_call 29 #[] rfl rfl (by kernel_rfl) ?_ ?_
    · refine (C1.out _).mono ?_
      rintro _ w105 ⟨rfl, hb105⟩
      refine ⟨_, rfl, ?_⟩
      replace R3 := R3.keep hb105
      replace RC := RC.keep hb105
      replace O := O.trans (hb105.mono O.size)
      clear hb105
      refine wpAny_ready (rs := [0]) (by kernel_rfl) (by simp) ?_
      refine ready_load rfl rfl 25 _ rfl gc (by kernel_rfl) 25 (arr 4 r) (0, 0) _ RC Try.underlying25 rfl (info25 _) ?_ ?_
      · skip
        refine wpAny_ready (rs := [2]) (by kernel_rfl) (by simp) ?_
        refine ready_call 35 #[.agg (arr 4 r), .agg (arr 4 Lf)] rfl rfl (by kernel_rfl) ?_ ?_
        · refine (C2.out _).mono ?_
          rintro _ w107 ⟨rfl, hb107⟩
          refine ⟨_, rfl, ?_⟩
          replace R3 := R3.keep hb107
          replace RC := RC.keep hb107
          replace O := O.trans (hb107.mono O.size)
          clear hb107
          refine wpAny_ready (rs := [3]) (by kernel_rfl) (by simp) ?_
          refine ready_store rfl rfl 27 _ _ rfl (w.heap.size + 1 + 1) 0 (arr 4 (d64 V)) (by kernel_rfl) (by kernel_rfl) (by rw [arr_size]; exact R3.there) (info27 _) (arr_one _ _) ?_ ?_
          · skip
            exact wpAny_done (by kernel_rfl) (hrest _ _ ⟨by kernel_rfl, R3.setAll _, below_setCells (by omega) _ _ O⟩) _
          exact AllReady.nil
        exact AllReady.nil
      exact AllReady.nil
    exact AllReady.nil

theorem add_any (M N : Int) (w : World) (hM : 0 ≤ M ∧ M < Lm) (hN : 0 ≤ N ∧ N < Lm) :
    Calls Try.prog 16 #[.agg (arr 4 (d64 M)), .agg (arr 4 (d64 N))] w fun x w' => x = .returned (.agg (arr 4 (d64 ((M + N) % Lm)))) ∧ Below w.heap.size w w' := by
  have e := ps_Q (d64 M) (d64 N) 4
  have hc := pc_bd (d64_wds M 4) (d64_wds N 4) 4 (by omega)
  have hb := Q_bd (ps_wds (d64 M) (d64 N) 4)
  rw [dQ hM, dQ hN] at e
  rw [P256] at e hb
  have hs : Q (ps (d64 M) (d64 N)) 4 = M + N := by
    unfold Lm at *
    omega
  have hv : (Q (ps (d64 M) (d64 N)) 4 - Q Lf 4) % Lm = (M + N) % Lm := by rw [hs, Lf_Q, Int.sub_emod_right]
  refine add_gen M N _ _ _ w (fun w => plus_any _ _ w (d64_wds M 4) (d64_wds N 4)) (fun w => ?_)
  have := without_any (ps (d64 M) (d64 N)) Lf w (ps_wds _ _ 4) Lf_wds (by rw [hs, Lf_Q]; omega) (by rw [hs, Lf_Q]; omega)
  rwa [hv] at this

set_option maxRecDepth 100000 in
set_option maxHeartbeats 1000000 in
theorem neg_any (N : Int) (w : World) (hN : 0 ≤ N ∧ N < Lm) :
    Calls Try.prog 20 #[.agg (arr 4 (d64 N))] w fun x w' => x = .returned (.agg (arr 4 (d64 ((- N) % Lm)))) ∧ Below w.heap.size w w' := by
  have hz : Q (fun _ => 0) 4 = 0 := by decide
  have H2 : ∀ w, Calls Try.prog 35 #[.agg #[Value.int IntKind.u64 0, Value.int IntKind.u64 0, Value.int IntKind.u64 0, Value.int IntKind.u64 0], .agg (arr 4 (d64 N))] w fun x w' => x = .returned (.agg (arr 4 (d64 ((- N) % Lm)))) ∧ Below w.heap.size w w' := fun w => by
    have := without_any (fun _ => 0) (d64 N) w (fun _ _ => ⟨Int.le_refl 0, (by decide : (0 : Int) < 18446744073709551616)⟩) (d64_wds N 4) (by rw [hz, dQ hN]; omega) (by rw [hz, dQ hN]; omega)
    rw [hz, dQ hN, Int.zero_sub] at this
    exact this
  have C2 := hide H2
  clear H2 hz
  have R1 : Row ((w.alloc (.cells (arr 4 (d64 N)) 27)).alloc (.cells (arr 4 fun _ => 0) 27)) w.heap.size 27 4 (d64 N) := (Row.new w 27 4 _).alloc _
  have R3 : Row ((w.alloc (.cells (arr 4 (d64 N)) 27)).alloc (.cells (arr 4 fun _ => 0) 27)) (w.heap.size + 1) 27 4 (fun _ => 0) := Row.new' _ 27 4 _ (by simp)
  have O : Below w.heap.size w ((w.alloc (.cells (arr 4 (d64 N)) 27)).alloc (.cells (arr 4 fun _ => 0) 27)) := ((Below.refl _ _).alloc (Nat.le_refl _) _).alloc (by simp) _
  have HR := hide (And.intro R1 (And.intro R3 O))
  clear R1 R3 O
  generalize (- N) % Lm = V at *
  go_enter Try.func20, Try.ntmps20
  go_wp2_with (refine wpList_load_row rfl 25 _ rfl w.heap.size rfl 27 (arr 4 (d64 N)) (0, 0) _ HR.out.1 Try.underlying25 rfl (info25 _) ?_)
  refine (C2.out _).mono ?_
  rintro _ w1 ⟨rfl, hb1⟩
  have R3 := HR.out.2.1.keep hb1
  have O := HR.out.2.2.trans (hb1.mono HR.out.2.2.size)
  clear hb1 HR
  have RR := hide (R3.setAll (d64 V))
  have OO := hide (below_setCells (g := w.heap.size + 1) (by omega) (arr 4 (d64 V)).toList 0 O)
  clear O
  go_wp2_with (refine wpList_store_mid rfl 27 _ _ rfl (w.heap.size + 1) 0 (arr 4 (d64 V)) rfl rfl ?thn (info27 _) (arr_one _ _) ?_)
  case thn => rw [arr_size]; exact R3.there
  exact bodyPost_ret (v := .agg (arr 4 (d64 V))) (results_cell_row Try.results20 _ _ (w.heap.size + 1) 27 (arr 4 (d64 V)) (0, 0) _ rfl RR.out Try.underlying27 rfl (info27 _)) rfl ⟨rfl, OO.out⟩

end Go.Proofs.Ytaaijicpdampiaa
