/- The contract of the document's power. -/
import Derived.Test.YtiiniodidkfbiaaBits
import Derived.Test.YtiiniodidkfbiaaRmul
namespace Go.Proofs.Ytiiniodidkfbiaa
open Go.RowKit

/-- What power has after i bits. -/
def pwm (x : Int) (f : Nat → Bool) : Nat → Int
  | 0 => 1
  | i + 1 => if f i = true then (pwm x f i * pwm x f i % Pm) * x % Pm else pwm x f i * pwm x f i % Pm
theorem pwm_bd (x : Int) (f : Nat → Bool) : ∀ i, 0 ≤ pwm x f i ∧ pwm x f i < Pm
  | 0 => by unfold pwm; exact ⟨by decide, by decide⟩
  | i + 1 => by
    unfold pwm
    have h : ∀ y : Int, 0 ≤ y % Pm ∧ y % Pm < Pm := fun y => ⟨Int.emod_nonneg y (by decide), Int.emod_lt_of_pos y Pm_pos⟩
    split
    · exact h _
    · exact h _
theorem bS {y : Int} (h : 0 ≤ y ∧ y < Pm) : S (d16 y) 16 = y := by
  have h2 := Pm_16
  rw [d16_S _ h.1, Int.emod_eq_of_lt h.1 (by omega)]

set_option maxRecDepth 100000 in
set_option maxHeartbeats 2000000 in
theorem power_any (a : Nat → Int) (n : Nat) (f : Nat → Bool) (b : Nat) (w : World) (ha : Dig a 16) (hB : Brow w b n f) (hn : n ≤ 300) :
    Calls Try.prog 53 #[.agg (arr 16 a), .slice (some ⟨b, 0, none⟩) n n] w fun r w' => r = .returned (.agg (arr 16 (d16 (pwm (S a 16) f n)))) ∧ Below w.heap.size w w' := by
  have hb1 := hB.lt
  go_enter Try.func53, Try.ntmps53
  go_wp2_with fail
  rw [show #[Value.int IntKind.u64 0, Value.int IntKind.u64 0, Value.int IntKind.u64 0, Value.int IntKind.u64 0, Value.int IntKind.u64 0, Value.int IntKind.u64 0, Value.int IntKind.u64 0, Value.int IntKind.u64 0, Value.int IntKind.u64 0, Value.int IntKind.u64 0, Value.int IntKind.u64 0, Value.int IntKind.u64 0, Value.int IntKind.u64 0, Value.int IntKind.u64 0, Value.int IntKind.u64 0, Value.int IntKind.u64 0] = arr 16 (fun _ => 0) from rfl]
  have R1 : Row ((w.alloc (.cells (arr 16 a) 35)).alloc (.cells (arr 16 fun _ => 0) 35)) w.heap.size 35 16 a := (Row.new w 35 16 a).alloc _
  have R2 : Row ((w.alloc (.cells (arr 16 a) 35)).alloc (.cells (arr 16 fun _ => 0) 35)) (w.heap.size + 1) 35 16 (fun _ => 0) := Row.new' _ 35 16 _ (by simp)
  have O : Below w.heap.size w ((w.alloc (.cells (arr 16 a) 35)).alloc (.cells (arr 16 fun _ => 0) 35)) := ((Below.refl _ _).alloc (Nat.le_refl _) _).alloc (by simp) _
  have B := hB.keep O
  generalize (w.alloc (.cells (arr 16 a) 35)).alloc (.cells (arr 16 fun _ => 0) 35) = W at R1 R2 O B ⊢
  clear hB
  refine (rsmall_any 1 _ (by decide) (by decide)).mono ?_
  rintro _ w1 ⟨rfl, hb⟩
  replace R1 := R1.keep hb
  replace R2 := R2.keep hb
  replace B := B.keep hb
  replace O := O.trans (hb.mono O.size)
  clear hb
  have RX : Row (w1.alloc (.cells #[Value.int IntKind.u64 0, Value.int IntKind.u64 0, Value.int IntKind.u64 0, Value.int IntKind.u64 0, Value.int IntKind.u64 0, Value.int IntKind.u64 0, Value.int IntKind.u64 0, Value.int IntKind.u64 0, Value.int IntKind.u64 0, Value.int IntKind.u64 0, Value.int IntKind.u64 0, Value.int IntKind.u64 0, Value.int IntKind.u64 0, Value.int IntKind.u64 0, Value.int IntKind.u64 0, Value.int IntKind.u64 0] 35)) w1.heap.size 35 16 (fun _ => 0) := Row.new w1 35 16 (fun _ => 0)
  have RR := hide (RX.setAll (d16 1))
  have BB := below_setCells (g := w1.heap.size) (Nat.le_refl _) (arr 16 (d16 1)).toList 0 (new_below w1 (.cells #[Value.int IntKind.u64 0, Value.int IntKind.u64 0, Value.int IntKind.u64 0, Value.int IntKind.u64 0, Value.int IntKind.u64 0, Value.int IntKind.u64 0, Value.int IntKind.u64 0, Value.int IntKind.u64 0, Value.int IntKind.u64 0, Value.int IntKind.u64 0, Value.int IntKind.u64 0, Value.int IntKind.u64 0, Value.int IntKind.u64 0, Value.int IntKind.u64 0, Value.int IntKind.u64 0, Value.int IntKind.u64 0] 35))
  have gx := R2.lt
  have R1' := hide (R1.keep BB)
  have R2' := hide (R2.keep BB)
  have B' := hide (B.keep BB)
  have O' := hide (O.trans (BB.mono O.size))
  clear R1 R2 B O BB
  go_wp2_with (refine wpList_store_mid rfl 35 _ _ rfl w1.heap.size 0 (arr 16 (d16 1)) rfl rfl ?there (info35 _) (arr_one _ _) ?_)
  case there => rw [arr_size]; exact RX.there
  try rw [show ∀ (a : Act) (v : Value), a.put none v = a from fun _ _ => rfl]
  have R1 := R1'.out
  have R2 := R2'.out
  have B := B'.out
  have O := O'.out
  replace RX := RR.out
  clear R1' R2' B' O' RR
  generalize w1.heap.size = gX at *
  generalize (w1.alloc (.cells #[Value.int IntKind.u64 0, Value.int IntKind.u64 0, Value.int IntKind.u64 0, Value.int IntKind.u64 0, Value.int IntKind.u64 0, Value.int IntKind.u64 0, Value.int IntKind.u64 0, Value.int IntKind.u64 0, Value.int IntKind.u64 0, Value.int IntKind.u64 0, Value.int IntKind.u64 0, Value.int IntKind.u64 0, Value.int IntKind.u64 0, Value.int IntKind.u64 0, Value.int IntKind.u64 0, Value.int IntKind.u64 0] 35)).setCells gX 0 (arr 16 (d16 1)).toList = W2 at *
  go_loopw [6] (fun x wr => ∃ i : Nat, i ≤ n ∧ x = .int .i64 i ∧ Row wr w.heap.size 35 16 a ∧ Row wr (w.heap.size + 1) 35 16 (fun _ => 0) ∧ Row wr gX 35 16 (d16 (pwm (S a 16) f i)) ∧ Brow wr b n f ∧ Below w.heap.size w wr) (fun x _ => n - (intOf x).toNat)
  case atStart => exact ⟨0, by omega, rfl, R1, R2, RX, B, O⟩
  case round =>
    clear R1 R2 RX B O
    obtain ⟨i, hi, rfl, R1, R2, RX, B, O⟩ := hrel
    have hp := pwm_bd (S a 16) f i
    by_cases hlt : i < n
    · have h1 : (i : Int) < (n : Int) := by omega
      have HP := hide hp
      have HX := hide RX
      clear hp RX
      go_wp2_with (refine wpList_load_row rfl 35 _ rfl gX rfl 35 (arr 16 (d16 (pwm (S a 16) f i))) (0, 0) _ HX.out Try.underlying35 rfl (info35 _) ?_)
      refine (rmul_any _ _ _ (d16_dig _ 16) (d16_dig _ 16)).mono ?_
      rintro _ w3 ⟨rfl, hb3⟩
      rw [bS HP.out]
      replace R1 := R1.keep hb3
      replace R2 := R2.keep hb3
      replace B := B.keep hb3
      have RX := HX.out.keep hb3
      replace O := O.trans (hb3.mono O.size)
      clear hb3 HX
      have hE : pwm (S a 16) f (i + 1) = if f i = true then (pwm (S a 16) f i * pwm (S a 16) f i % Pm) * S a 16 % Pm else pwm (S a 16) f i * pwm (S a 16) f i % Pm := rfl
      have HE := hide hE
      clear hE HP
      generalize pwm (S a 16) f i * pwm (S a 16) f i = Y at *
      have RR := hide (RX.setAll (d16 (Y % Pm)))
      have R1' := hide (R1.setOther (k := gX) (by omega) 0 (arr 16 (d16 (Y % Pm))).toList)
      have R2' := hide (R2.setOther (k := gX) (by omega) 0 (arr 16 (d16 (Y % Pm))).toList)
      have B' : Hid (Brow (w3.setCells gX 0 (arr 16 (d16 (Y % Pm))).toList) b n f) := hide (by
        unfold Brow
        rw [heap_setCells_other gX b (by omega)]
        exact B)
      have O' := hide (below_setCells (g := gX) (by omega) (arr 16 (d16 (Y % Pm))).toList 0 O)
      clear R1 R2 B O
      have BC := B'.out.cell hlt
      cases hf : f i
      · rw [hf] at BC HE
        go_wp2_with (refine wpList_store_mid rfl 35 _ _ rfl gX 0 (arr 16 (d16 (Y % Pm))) rfl rfl ?there (info35 _) (arr_one _ _) ?_)
        case there => rw [arr_size]; exact RX.there
        go_roundw
        case rel => exact ⟨i + 1, by omega, by go_num, R1'.out, R2'.out, by rw [HE.out]; exact RR.out, B'.out, O'.out⟩
        case measure => simp [intOf]; omega
      · rw [hf] at BC HE
        go_wp2_with (first | (refine wpList_store_mid rfl 35 _ _ rfl gX 0 (arr 16 (d16 (Y % Pm))) rfl rfl ?there (info35 _) (arr_one _ _) ?_) | (refine wpList_load_row rfl 35 _ rfl gX rfl 35 (arr 16 (d16 (Y % Pm))) (0, 0) _ RR.out Try.underlying35 rfl (info35 _) ?_) | (refine wpList_load_row rfl 35 _ rfl w.heap.size rfl 35 (arr 16 a) (0, 0) _ R1'.out Try.underlying35 rfl (info35 _) ?_))
        case there => rw [arr_size]; exact RX.there
        refine (rmul_any _ _ _ (d16_dig _ 16) ha).mono ?_
        rintro _ w5 ⟨rfl, hb5⟩
        rw [dS]
        rw [if_pos trivial] at HE
        have R1 := R1'.out.keep hb5
        have R2 := R2'.out.keep hb5
        have B := B'.out.keep hb5
        have RY := RR.out.keep hb5
        have O := O'.out.trans (hb5.mono O'.out.size)
        clear hb5 R1' R2' B' RR O' BC RX
        generalize Y % Pm * S a 16 = Y2 at *
        have RR := hide (RY.setAll (d16 (Y2 % Pm)))
        have R1' := hide (R1.setOther (k := gX) (by omega) 0 (arr 16 (d16 (Y2 % Pm))).toList)
        have R2' := hide (R2.setOther (k := gX) (by omega) 0 (arr 16 (d16 (Y2 % Pm))).toList)
        have B' : Hid (Brow (w5.setCells gX 0 (arr 16 (d16 (Y2 % Pm))).toList) b n f) := hide (by
          unfold Brow
          rw [heap_setCells_other gX b (by omega)]
          exact B)
        have O' := hide (below_setCells (g := gX) (by omega) (arr 16 (d16 (Y2 % Pm))).toList 0 O)
        clear R1 R2 B O
        go_wp2_with (refine wpList_store_mid rfl 35 _ _ rfl gX 0 (arr 16 (d16 (Y2 % Pm))) rfl rfl ?there (info35 _) (arr_one _ _) ?_)
        case there => rw [arr_size]; exact RY.there
        go_roundw
        case rel => exact ⟨i + 1, by omega, by go_num, R1'.out, R2'.out, by rw [HE.out]; exact RR.out, B'.out, O'.out⟩
        case measure => simp [intOf]; omega
    · have hi' : i = n := by omega
      subst hi'
      have RR := hide (R2.setAll (d16 (pwm (S a 16) f i)))
      have OO := hide (below_setCells (g := w.heap.size + 1) (by omega) (arr 16 (d16 (pwm (S a 16) f i))).toList 0 O)
      clear hp R1 B O
      go_wp2_with (first | (refine wpList_load_row rfl 35 _ rfl gX rfl 35 (arr 16 (d16 (pwm (S a 16) f i))) (0, 0) _ RX Try.underlying35 rfl (info35 _) ?_) | (refine wpList_store_mid rfl 35 _ _ rfl (w.heap.size + 1) 0 (arr 16 (d16 (pwm (S a 16) f i))) rfl rfl ?there (info35 _) (arr_one _ _) ?_))
      case there => rw [arr_size]; exact R2.there
      exact bodyPost_ret (v := .agg (arr 16 (d16 (pwm (S a 16) f i)))) (results_cell_row Try.results53 _ _ (w.heap.size + 1) 35 (arr 16 (d16 (pwm (S a 16) f i))) (0, 0) _ rfl RR.out Try.underlying35 rfl (info35 _)) rfl ⟨rfl, OO.out⟩

end Go.Proofs.Ytiiniodidkfbiaa
