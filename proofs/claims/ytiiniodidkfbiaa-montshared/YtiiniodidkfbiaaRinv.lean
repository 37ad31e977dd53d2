/- The contract of the document's Inv. -/
import Derived.Test.YtiiniodidkfbiaaPower
import Derived.Test.YtiiniodidkfbiaaSteps
namespace Go.Proofs.Ytiiniodidkfbiaa
open Go.RowKit

set_option maxRecDepth 100000 in
set_option maxHeartbeats 1000000 in
theorem rinv_any (a : Nat → Int) (w : World) (ha : Dig a 16) :
    Calls Try.prog 37 #[.agg (arr 16 a)] w fun r w' => r = .returned (.agg (arr 16 (d16 (pwm (S a 16) (xbit 255 21) 255)))) ∧ Below w.heap.size w w' := by
  go_enter Try.func37, Try.ntmps37
  go_wp2_with fail
  rw [show #[Value.int IntKind.u64 0, Value.int IntKind.u64 0, Value.int IntKind.u64 0, Value.int IntKind.u64 0, Value.int IntKind.u64 0, Value.int IntKind.u64 0, Value.int IntKind.u64 0, Value.int IntKind.u64 0, Value.int IntKind.u64 0, Value.int IntKind.u64 0, Value.int IntKind.u64 0, Value.int IntKind.u64 0, Value.int IntKind.u64 0, Value.int IntKind.u64 0, Value.int IntKind.u64 0, Value.int IntKind.u64 0] = arr 16 (fun _ => 0) from rfl]
  have R1 : Row ((w.alloc (.cells (arr 16 a) 35)).alloc (.cells (arr 16 fun _ => 0) 35)) w.heap.size 35 16 a := (Row.new w 35 16 a).alloc _
  have R2 : Row ((w.alloc (.cells (arr 16 a) 35)).alloc (.cells (arr 16 fun _ => 0) 35)) (w.heap.size + 1) 35 16 (fun _ => 0) := Row.new' _ 35 16 _ (by simp)
  have O : Below w.heap.size w ((w.alloc (.cells (arr 16 a) 35)).alloc (.cells (arr 16 fun _ => 0) 35)) := ((Below.refl _ _).alloc (Nat.le_refl _) _).alloc (by simp) _
  generalize ((w.alloc (.cells (arr 16 a) 35)).alloc (.cells (arr 16 fun _ => 0) 35)) = W at R1 R2 O ⊢
  refine region_cut (fun a0 a' w' => ∃ b : Nat, a' = ((a0.put (some 3) (.agg (arr 16 a))).put (some 4) (.slice (some ⟨b, 0, none⟩) 255 255)).put (some 5) (.agg (arr 16 (d16 (pwm (S a 16) (xbit 255 21) 255)))) ∧ Row w' (w.heap.size + 1) 35 16 (d16 (pwm (S a 16) (xbit 255 21) 255)) ∧ Below w.heap.size w w') (by kernel_rfl) ?_ ?_
  · clear R1 R2 O
    rintro _ w' ⟨b, rfl, R, O⟩
    go_wp2
    exact bodyPost_ret (v := .agg (arr 16 (d16 (pwm (S a 16) (xbit 255 21) 255)))) (results_cell_row Try.results37 _ _ (w.heap.size + 1) 35 (arr 16 (d16 (pwm (S a 16) (xbit 255 21) 255))) (0, 0) _ rfl R Try.underlying35 rfl (info35 _)) rfl ⟨rfl, O⟩
  · intro hrest
    replace R1 := rowD R1
    replace R2 := rowD R2
    replace O := O.drew
    refine wpAny_ready (rs := [0, 1]) (by kernel_rfl) (by simp) ?_
    refine ready_load rfl rfl 35 _ rfl w.heap.size (by kernel_rfl) 35 (arr 16 a) (0, 0) _ R1 Try.underlying35 rfl (info35 _) ?_ ?_
    · skip
      refine wpAny_ready (rs := [1]) (by kernel_rfl) (by simp) ?_
      refine ready_call 54 #[.int .i64 255, .int .i64 21] rfl rfl (by kernel_rfl) ?_ ?_
      · refine (bits_255 _).mono ?_
        rintro _ w2 ⟨b, rfl, _, HB, hb2⟩
        refine ⟨_, rfl, ?_⟩
        replace R1 := R1.keep hb2
        replace R2 := R2.keep hb2
        replace O := O.trans (hb2.mono O.size)
        clear hb2
        refine wpAny_ready (rs := [2]) (by kernel_rfl) (by simp) ?_
        refine ready_call 53 #[.agg (arr 16 a), .slice (some ⟨b, 0, none⟩) 255 255] rfl rfl (by kernel_rfl) ?_ ?_
        · refine (power_any a 255 _ b _ ha HB (by decide)).mono ?_
          rintro _ w3 ⟨rfl, hb3⟩
          refine ⟨_, rfl, ?_⟩
          replace R1 := R1.keep hb3
          replace R2 := R2.keep hb3
          replace HB := HB.keep hb3
          replace O := O.trans (hb3.mono O.size)
          clear hb3
          refine wpAny_ready (rs := [3]) (by kernel_rfl) (by simp) ?_
          refine ready_store rfl rfl 35 _ _ rfl (w.heap.size + 1) 0 (arr 16 (d16 (pwm (S a 16) (xbit 255 21) 255))) (by kernel_rfl) (by kernel_rfl) (by rw [arr_size]; exact R2.there) (info35 _) (arr_one _ _) ?_ ?_
          · skip
            exact wpAny_done (by kernel_rfl) (hrest _ _ ⟨b, by kernel_rfl, R2.setAll _, below_setCells (by omega) _ _ O⟩) _
          exact AllReady.nil
        exact AllReady.nil
      exact AllReady.nil
    refine ready_call 54 #[.int .i64 255, .int .i64 21] rfl rfl (by kernel_rfl) ?_ ?_
    · refine (bits_255 _).mono ?_
      rintro _ w5 ⟨b, rfl, _, HB, hb5⟩
      refine ⟨_, rfl, ?_⟩
      replace R1 := R1.keep hb5
      replace R2 := R2.keep hb5
      replace O := O.trans (hb5.mono O.size)
      clear hb5
      refine wpAny_ready (rs := [0]) (by kernel_rfl) (by simp) ?_
      refine ready_load rfl rfl 35 _ rfl w.heap.size (by kernel_rfl) 35 (arr 16 a) (0, 0) _ R1 Try.underlying35 rfl (info35 _) ?_ ?_
      · skip
        refine wpAny_ready (rs := [2]) (by kernel_rfl) (by simp) ?_
        refine ready_call 53 #[.agg (arr 16 a), .slice (some ⟨b, 0, none⟩) 255 255] rfl rfl (by kernel_rfl) ?_ ?_
        · refine (power_any a 255 _ b _ ha HB (by decide)).mono ?_
          rintro _ w7 ⟨rfl, hb7⟩
          refine ⟨_, rfl, ?_⟩
          replace R1 := R1.keep hb7
          replace R2 := R2.keep hb7
          replace HB := HB.keep hb7
          replace O := O.trans (hb7.mono O.size)
          clear hb7
          refine wpAny_ready (rs := [3]) (by kernel_rfl) (by simp) ?_
          refine ready_store rfl rfl 35 _ _ rfl (w.heap.size + 1) 0 (arr 16 (d16 (pwm (S a 16) (xbit 255 21) 255))) (by kernel_rfl) (by kernel_rfl) (by rw [arr_size]; exact R2.there) (info35 _) (arr_one _ _) ?_ ?_
          · skip
            exact wpAny_done (by kernel_rfl) (hrest _ _ ⟨b, by kernel_rfl, R2.setAll _, below_setCells (by omega) _ _ O⟩) _
          exact AllReady.nil
        exact AllReady.nil
      exact AllReady.nil
    exact AllReady.nil

end Go.Proofs.Ytiiniodidkfbiaa
