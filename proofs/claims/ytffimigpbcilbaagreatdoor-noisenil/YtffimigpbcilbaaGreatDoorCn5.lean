/- Part 5 of the walks and facts. -/
import Derived.Test.YtffimigpbcilbaaGreatDoorCnDef
import Derived.Test.YtffimigpbcilbaaGreatDoorCn1
import Derived.Test.YtffimigpbcilbaaGreatDoorCn2
import Derived.Test.YtffimigpbcilbaaGreatDoorCn3
import Derived.Test.YtffimigpbcilbaaGreatDoorCn4
import Derived.Deep.Cut
import Derived.Laws.IdiomStrings
import Derived.RegionTactic
set_option maxHeartbeats 16000000
set_option maxRecDepth 100000
namespace Go.Proofs.YtffimigpbcilbaaGreatDoor.Mon
open Go.RowKit
def pwm (x : Int) (f : Nat → Bool) : Nat → Int
 | 0 => 1
 | i + 1 => if f i = true then (pwm x f i * pwm x f i % Pm) * x % Pm else pwm x f i * pwm x f i % Pm
theorem pwm_bd (x : Int) (f : Nat → Bool) : ∀ i, 0 ≤ pwm x f i ∧ pwm x f i < Pm
 | 0 => by unfold pwm; exact ⟨by decide, by decide⟩
 | i + 1 => by
  unfold pwm
  have h : ∀ y : Int, 0 ≤ y % Pm ∧ y % Pm < Pm := fun y => ⟨Int.emod_nonneg y (by decide), Int.emod_lt_of_pos y Pm_pos⟩
  split
  ·exact h _
  ·exact h _
theorem bS {y : Int} (h : 0 ≤ y ∧ y < Pm) : S (d16 y) 16 = y := by
 have h2 := Pm_16
 rw [d16_S _ h.1, Int.emod_eq_of_lt h.1 (by omega)]
theorem power_any (a : Nat → Int) (n : Nat) (f : Nat → Bool) (b : Nat) (w : World) (ha : Dig a 16) (hB : Brow w b n f) (hn : n ≤ 300) : Cs 63 #[.agg (arr 16 a), .slice (some ⟨b, 0, none⟩) n n] w (.agg (arr 16 (d16 (pwm (S a 16) f n)))) := by
 have hb1 := hB.lt
 go_enter Tryz.func63, Tryz.ntmps63
 go_wp2_with fail
 rw [show #[Value.int IntKind.u64 0, Value.int IntKind.u64 0, Value.int IntKind.u64 0, Value.int IntKind.u64 0, Value.int IntKind.u64 0, Value.int IntKind.u64 0, Value.int IntKind.u64 0, Value.int IntKind.u64 0, Value.int IntKind.u64 0, Value.int IntKind.u64 0, Value.int IntKind.u64 0, Value.int IntKind.u64 0, Value.int IntKind.u64 0, Value.int IntKind.u64 0, Value.int IntKind.u64 0, Value.int IntKind.u64 0] = arr 16 (fun _ => 0) from rfl]
 have R1 : Row ((w.alloc (.cells (arr 16 a) 88)).alloc (.cells (arr 16 fun _ => 0) 88)) w.heap.size 88 16 a := (Row.new w 88 16 a).alloc _
 have R2 : Row ((w.alloc (.cells (arr 16 a) 88)).alloc (.cells (arr 16 fun _ => 0) 88)) (w.heap.size + 1) 88 16 (fun _ => 0) := Row.new' _ 88 16 _ (by simp)
 have O : Below w.heap.size w ((w.alloc (.cells (arr 16 a) 88)).alloc (.cells (arr 16 fun _ => 0) 88)) := ((Below.refl _ _).alloc (Nat.le_refl _) _).alloc (by simp) _
 have B := hB.keep O
 generalize (w.alloc (.cells (arr 16 a) 88)).alloc (.cells (arr 16 fun _ => 0) 88) = W at R1 R2 O B ⊢
 clear hB
 refine (rsmall_any 1 _ (by decide) (by decide)).mono ?_
 rintro _ w1 ⟨rfl, hb⟩
 replace R1 := R1.keep hb
 replace R2 := R2.keep hb
 replace B := B.keep hb
 replace O := O.trans (hb.mono O.size)
 clear hb
 have RX : Row (w1.alloc (.cells #[Value.int IntKind.u64 0, Value.int IntKind.u64 0, Value.int IntKind.u64 0, Value.int IntKind.u64 0, Value.int IntKind.u64 0, Value.int IntKind.u64 0, Value.int IntKind.u64 0, Value.int IntKind.u64 0, Value.int IntKind.u64 0, Value.int IntKind.u64 0, Value.int IntKind.u64 0, Value.int IntKind.u64 0, Value.int IntKind.u64 0, Value.int IntKind.u64 0, Value.int IntKind.u64 0, Value.int IntKind.u64 0] 88)) w1.heap.size 88 16 (fun _ => 0) := Row.new w1 88 16 (fun _ => 0)
 have RR := hide (RX.setAll (d16 1))
 have BB := below_setCells (g := w1.heap.size) (Nat.le_refl _) (arr 16 (d16 1)).toList 0 (new_below w1 (.cells #[Value.int IntKind.u64 0, Value.int IntKind.u64 0, Value.int IntKind.u64 0, Value.int IntKind.u64 0, Value.int IntKind.u64 0, Value.int IntKind.u64 0, Value.int IntKind.u64 0, Value.int IntKind.u64 0, Value.int IntKind.u64 0, Value.int IntKind.u64 0, Value.int IntKind.u64 0, Value.int IntKind.u64 0, Value.int IntKind.u64 0, Value.int IntKind.u64 0, Value.int IntKind.u64 0, Value.int IntKind.u64 0] 88))
 have gx := R2.lt
 have R1' := hide (R1.keep BB)
 have R2' := hide (R2.keep BB)
 have B' := hide (B.keep BB)
 have O' := hide (O.trans (BB.mono O.size))
 clear R1 R2 B O BB
 go_wp2_with (refine wpList_store_mid rfl 88 _ _ rfl w1.heap.size 0 (arr 16 (d16 1)) rfl rfl ?there (info88 _) (arr_one _ _) ?_)
 case there => rw [arr_size]; exact RX.there
 try rw [show ∀ (a : Act) (v : Value), a.put none v = a from fun _ _ => rfl]
 have R1 := R1'.out
 have R2 := R2'.out
 have B := B'.out
 have O := O'.out
 replace RX := RR.out
 clear R1' R2' B' O' RR
 generalize w1.heap.size = gX at *
 generalize (w1.alloc (.cells #[Value.int IntKind.u64 0, Value.int IntKind.u64 0, Value.int IntKind.u64 0, Value.int IntKind.u64 0, Value.int IntKind.u64 0, Value.int IntKind.u64 0, Value.int IntKind.u64 0, Value.int IntKind.u64 0, Value.int IntKind.u64 0, Value.int IntKind.u64 0, Value.int IntKind.u64 0, Value.int IntKind.u64 0, Value.int IntKind.u64 0, Value.int IntKind.u64 0, Value.int IntKind.u64 0, Value.int IntKind.u64 0] 88)).setCells gX 0 (arr 16 (d16 1)).toList = W2 at *
 go_loopw [6] (fun x wr => ∃ i : Nat, i ≤ n ∧ x = .int .i64 i ∧ Row wr w.heap.size 88 16 a ∧ Row wr (w.heap.size + 1) 88 16 (fun _ => 0) ∧ Row wr gX 88 16 (d16 (pwm (S a 16) f i)) ∧ Brow wr b n f ∧ Below w.heap.size w wr) (fun x _ => n - (intOf x).toNat)
 case atStart => exact ⟨0, by omega, rfl, R1, R2, RX, B, O⟩
 case round =>
  clear R1 R2 RX B O
  obtain ⟨i, hi, rfl, R1, R2, RX, B, O⟩ := hrel
  have hp := pwm_bd (S a 16) f i
  by_cases hlt : i < n
  ·have h1 : (i : Int) < (n : Int) := by omega
   have HP := hide hp
   have HX := hide RX
   clear hp RX
   go_wp2_with (refine wpList_load_row rfl 88 _ rfl gX rfl 88 (arr 16 (d16 (pwm (S a 16) f i))) (0, 0) _ HX.out Tryz.underlying88 rfl (info88 _) ?_)
   refine (rmul_any _ _ _ (d16_dig _ 16) (d16_dig _ 16)).mono ?_
   rintro _ w3 ⟨rfl, hb3⟩
   rw [bS HP.out]
   replace R1 := R1.keep hb3
   replace R2 := R2.keep hb3
   replace B := B.keep hb3
   have RX := HX.out.keep hb3
   replace O := O.trans (hb3.mono O.size)
   clear hb3 HX
   have hE : pwm (S a 16) f (i + 1) = if f i = true then (pwm (S a 16) f i * pwm (S a 16) f i % Pm) * S a 16 % Pm else pwm (S a 16) f i * pwm (S a 16) f i % Pm := rfl
   have HE := hide hE
   clear hE HP
   generalize pwm (S a 16) f i * pwm (S a 16) f i = Y at *
   have RR := hide (RX.setAll (d16 (Y % Pm)))
   have R1' := hide (R1.setOther (k := gX) (by omega) 0 (arr 16 (d16 (Y % Pm))).toList)
   have R2' := hide (R2.setOther (k := gX) (by omega) 0 (arr 16 (d16 (Y % Pm))).toList)
   have B' : Hid (Brow (w3.setCells gX 0 (arr 16 (d16 (Y % Pm))).toList) b n f) := hide (by
    unfold Brow
    rw [heap_setCells_other gX b (by omega)]
    exact B)
   have O' := hide (below_setCells (g := gX) (by omega) (arr 16 (d16 (Y % Pm))).toList 0 O)
   clear R1 R2 B O
   have BC := B'.out.cell hlt
   cases hf : f i
   ·rw [hf] at BC HE
    go_wp2_with (refine wpList_store_mid rfl 88 _ _ rfl gX 0 (arr 16 (d16 (Y % Pm))) rfl rfl ?there (info88 _) (arr_one _ _) ?_)
    case there => rw [arr_size]; exact RX.there
    go_roundw
    case rel => exact ⟨i + 1, by omega, by go_num, R1'.out, R2'.out, by rw [HE.out]; exact RR.out, B'.out, O'.out⟩
    case measure => simp [intOf]; omega
   ·rw [hf] at BC HE
    go_wp2_with (first | (refine wpList_store_mid rfl 88 _ _ rfl gX 0 (arr 16 (d16 (Y % Pm))) rfl rfl ?there (info88 _) (arr_one _ _) ?_) | (refine wpList_load_row rfl 88 _ rfl gX rfl 88 (arr 16 (d16 (Y % Pm))) (0, 0) _ RR.out Tryz.underlying88 rfl (info88 _) ?_) | (refine wpList_load_row rfl 88 _ rfl w.heap.size rfl 88 (arr 16 a) (0, 0) _ R1'.out Tryz.underlying88 rfl (info88 _) ?_))
    case there => rw [arr_size]; exact RX.there
    refine (rmul_any _ _ _ (d16_dig _ 16) ha).mono ?_
    rintro _ w5 ⟨rfl, hb5⟩
    rw [dS]
    rw [if_pos trivial] at HE
    have R1 := R1'.out.keep hb5
    have R2 := R2'.out.keep hb5
    have B := B'.out.keep hb5
    have RY := RR.out.keep hb5
    have O := O'.out.trans (hb5.mono O'.out.size)
    clear hb5 R1' R2' B' RR O' BC RX
    generalize Y % Pm * S a 16 = Y2 at *
    have RR := hide (RY.setAll (d16 (Y2 % Pm)))
    have R1' := hide (R1.setOther (k := gX) (by omega) 0 (arr 16 (d16 (Y2 % Pm))).toList)
    have R2' := hide (R2.setOther (k := gX) (by omega) 0 (arr 16 (d16 (Y2 % Pm))).toList)
    have B' : Hid (Brow (w5.setCells gX 0 (arr 16 (d16 (Y2 % Pm))).toList) b n f) := hide (by
     unfold Brow
     rw [heap_setCells_other gX b (by omega)]
     exact B)
    have O' := hide (below_setCells (g := gX) (by omega) (arr 16 (d16 (Y2 % Pm))).toList 0 O)
    clear R1 R2 B O
    go_wp2_with (refine wpList_store_mid rfl 88 _ _ rfl gX 0 (arr 16 (d16 (Y2 % Pm))) rfl rfl ?there (info88 _) (arr_one _ _) ?_)
    case there => rw [arr_size]; exact RY.there
    go_roundw
    case rel => exact ⟨i + 1, by omega, by go_num, R1'.out, R2'.out, by rw [HE.out]; exact RR.out, B'.out, O'.out⟩
    case measure => simp [intOf]; omega
  ·have hi' : i = n := by omega
   subst hi'
   have RR := hide (R2.setAll (d16 (pwm (S a 16) f i)))
   have OO := hide (below_setCells (g := w.heap.size + 1) (by omega) (arr 16 (d16 (pwm (S a 16) f i))).toList 0 O)
   clear hp R1 B O
   go_wp2_with (first | (refine wpList_load_row rfl 88 _ rfl gX rfl 88 (arr 16 (d16 (pwm (S a 16) f i))) (0, 0) _ RX Tryz.underlying88 rfl (info88 _) ?_) | (refine wpList_store_mid rfl 88 _ _ rfl (w.heap.size + 1) 0 (arr 16 (d16 (pwm (S a 16) f i))) rfl rfl ?there (info88 _) (arr_one _ _) ?_))
   case there => rw [arr_size]; exact R2.there
   exact bodyPost_ret (v := .agg (arr 16 (d16 (pwm (S a 16) f i)))) (results_cell_row Tryz.results63 _ _ (w.heap.size + 1) 88 (arr 16 (d16 (pwm (S a 16) f i))) (0, 0) _ rfl RR.out Tryz.underlying88 rfl (info88 _)) rfl ⟨rfl, OO.out⟩
open Go.RowKit
theorem rinv_any (a : Nat → Int) (w : World) (ha : Dig a 16) : Cs 43 #[.agg (arr 16 a)] w (.agg (arr 16 (d16 (pwm (S a 16) (xbit 255 21) 255)))) := by
 go_enter Tryz.func43, Tryz.ntmps43
 go_wp2_with fail
 rw [show #[Value.int IntKind.u64 0, Value.int IntKind.u64 0, Value.int IntKind.u64 0, Value.int IntKind.u64 0, Value.int IntKind.u64 0, Value.int IntKind.u64 0, Value.int IntKind.u64 0, Value.int IntKind.u64 0, Value.int IntKind.u64 0, Value.int IntKind.u64 0, Value.int IntKind.u64 0, Value.int IntKind.u64 0, Value.int IntKind.u64 0, Value.int IntKind.u64 0, Value.int IntKind.u64 0, Value.int IntKind.u64 0] = arr 16 (fun _ => 0) from rfl]
 have R1 : Row ((w.alloc (.cells (arr 16 a) 88)).alloc (.cells (arr 16 fun _ => 0) 88)) w.heap.size 88 16 a := (Row.new w 88 16 a).alloc _
 have R2 : Row ((w.alloc (.cells (arr 16 a) 88)).alloc (.cells (arr 16 fun _ => 0) 88)) (w.heap.size + 1) 88 16 (fun _ => 0) := Row.new' _ 88 16 _ (by simp)
 have O : Below w.heap.size w ((w.alloc (.cells (arr 16 a) 88)).alloc (.cells (arr 16 fun _ => 0) 88)) := ((Below.refl _ _).alloc (Nat.le_refl _) _).alloc (by simp) _
 generalize ((w.alloc (.cells (arr 16 a) 88)).alloc (.cells (arr 16 fun _ => 0) 88)) = W at R1 R2 O ⊢
 refine region_cut (fun a0 a' w' => ∃ b : Nat, a' = ((a0.put (some 3) (.agg (arr 16 a))).put (some 4) (.slice (some ⟨b, 0, none⟩) 255 255)).put (some 5) (.agg (arr 16 (d16 (pwm (S a 16) (xbit 255 21) 255)))) ∧ Row w' (w.heap.size + 1) 88 16 (d16 (pwm (S a 16) (xbit 255 21) 255)) ∧ Below w.heap.size w w') (by kernel_rfl) ?_ ?_
 ·clear R1 R2 O
  rintro _ w' ⟨b, rfl, R, O⟩
  go_wp2
  exact bodyPost_ret (v := .agg (arr 16 (d16 (pwm (S a 16) (xbit 255 21) 255)))) (results_cell_row Tryz.results43 _ _ (w.heap.size + 1) 88 (arr 16 (d16 (pwm (S a 16) (xbit 255 21) 255))) (0, 0) _ rfl R Tryz.underlying88 rfl (info88 _)) rfl ⟨rfl, O⟩
 ·intro hrest
  replace R1 := rowD R1
  replace R2 := rowD R2
  replace O := O.drew
  refine wpAny_ready (rs := [0, 1]) (by kernel_rfl) (by simp) ?_
  refine ready_load rfl rfl 88 _ rfl w.heap.size (by kernel_rfl) 88 (arr 16 a) (0, 0) _ R1 Tryz.underlying88 rfl (info88 _) ?_ ?_
  ·skip
   refine wpAny_ready (rs := [1]) (by kernel_rfl) (by simp) ?_
   refine ready_call 64 #[.int .i64 255, .int .i64 21] rfl rfl (by kernel_rfl) ?_ ?_
   ·refine (bits_255 _).mono ?_
    rintro _ w2 ⟨b, rfl, _, HB, hb2⟩
    refine ⟨_, rfl, ?_⟩
    replace R1 := R1.keep hb2
    replace R2 := R2.keep hb2
    replace O := O.trans (hb2.mono O.size)
    clear hb2
    refine wpAny_ready (rs := [2]) (by kernel_rfl) (by simp) ?_
    refine ready_call 63 #[.agg (arr 16 a), .slice (some ⟨b, 0, none⟩) 255 255] rfl rfl (by kernel_rfl) ?_ ?_
    ·refine (power_any a 255 _ b _ ha HB (by decide)).mono ?_
     rintro _ w3 ⟨rfl, hb3⟩
     refine ⟨_, rfl, ?_⟩
     replace R1 := R1.keep hb3
     replace R2 := R2.keep hb3
     replace HB := HB.keep hb3
     replace O := O.trans (hb3.mono O.size)
     clear hb3
     refine wpAny_ready (rs := [3]) (by kernel_rfl) (by simp) ?_
     refine ready_store rfl rfl 88 _ _ rfl (w.heap.size + 1) 0 (arr 16 (d16 (pwm (S a 16) (xbit 255 21) 255))) (by kernel_rfl) (by kernel_rfl) (by rw [arr_size]; exact R2.there) (info88 _) (arr_one _ _) ?_ ?_
     ·skip
      exact wpAny_done (by kernel_rfl) (hrest _ _ ⟨b, by kernel_rfl, R2.setAll _, below_setCells (by omega) _ _ O⟩) _
     exact AllReady.nil
    exact AllReady.nil
   exact AllReady.nil
  refine ready_call 64 #[.int .i64 255, .int .i64 21] rfl rfl (by kernel_rfl) ?_ ?_
  ·refine (bits_255 _).mono ?_
   rintro _ w5 ⟨b, rfl, _, HB, hb5⟩
   refine ⟨_, rfl, ?_⟩
   replace R1 := R1.keep hb5
   replace R2 := R2.keep hb5
   replace O := O.trans (hb5.mono O.size)
   clear hb5
   refine wpAny_ready (rs := [0]) (by kernel_rfl) (by simp) ?_
   refine ready_load rfl rfl 88 _ rfl w.heap.size (by kernel_rfl) 88 (arr 16 a) (0, 0) _ R1 Tryz.underlying88 rfl (info88 _) ?_ ?_
   ·skip
    refine wpAny_ready (rs := [2]) (by kernel_rfl) (by simp) ?_
    refine ready_call 63 #[.agg (arr 16 a), .slice (some ⟨b, 0, none⟩) 255 255] rfl rfl (by kernel_rfl) ?_ ?_
    ·refine (power_any a 255 _ b _ ha HB (by decide)).mono ?_
     rintro _ w7 ⟨rfl, hb7⟩
     refine ⟨_, rfl, ?_⟩
     replace R1 := R1.keep hb7
     replace R2 := R2.keep hb7
     replace HB := HB.keep hb7
     replace O := O.trans (hb7.mono O.size)
     clear hb7
     refine wpAny_ready (rs := [3]) (by kernel_rfl) (by simp) ?_
     refine ready_store rfl rfl 88 _ _ rfl (w.heap.size + 1) 0 (arr 16 (d16 (pwm (S a 16) (xbit 255 21) 255))) (by kernel_rfl) (by kernel_rfl) (by rw [arr_size]; exact R2.there) (info88 _) (arr_one _ _) ?_ ?_
     ·skip
      exact wpAny_done (by kernel_rfl) (hrest _ _ ⟨b, by kernel_rfl, R2.setAll _, below_setCells (by omega) _ _ O⟩) _
     exact AllReady.nil
    exact AllReady.nil
   exact AllReady.nil
  exact AllReady.nil
open Go.RowKit
theorem Cg.pow {x y : Int} (h : Cg x y) : ∀ n : Nat, Cg (x ^ n) (y ^ n)
 | 0 => by rw [Int.pow_zero, Int.pow_zero]; exact Cg.refl _
 | n + 1 => by
  rw [Int.pow_succ, Int.pow_succ]
  exact (Cg.pow h n).mul h
theorem sqz_pow : ∀ (n : Nat) (y : Int), sqz y n = y ^ (2 ^ n)
 | 0, y => by simp [sqz, Int.pow_succ]
 | n + 1, y => by
  unfold sqz
  rw [sqz_pow n, Nat.pow_succ, Nat.mul_comm, Int.pow_mul, Int.pow_succ, Int.pow_succ, Int.pow_zero, Int.one_mul]
theorem onz_pow (x : Int) : ∀ n : Nat, onz x n = x ^ (2 ^ n - 1)
 | 0 => by simp [onz]
 | n + 1 => by
  have hp : 0 < 2 ^ n := Nat.two_pow_pos n
  unfold onz
  rw [onz_pow x n, ← Int.pow_add, ← Int.pow_succ]
  congr 1
  rw [Nat.pow_succ]
  omega
def exf (f : Nat → Bool) : Nat → Nat
 | 0 => 0
 | i + 1 => 2 * exf f i + (f i).toNat
theorem pwm_pow (x : Int) (f : Nat → Bool) : ∀ i, Cg (pwm x f i) (x ^ exf f i)
 | 0 => by simp [pwm, exf]; exact Cg.refl _
 | i + 1 => by
  have ih := pwm_pow x f i
  have h2 : Cg (pwm x f i * pwm x f i % Pm) (x ^ (2 * exf f i)) := by
   refine (cg_emod _).trans ?_
   rw [Nat.two_mul, Int.pow_add]
   exact ih.mul ih
  unfold pwm exf
  cases hf : f i
  ·rw [if_neg (by simp)]
   exact h2
  ·rw [if_pos rfl]
   refine (cg_emod _).trans ?_
   rw [Bool.toNat_true, Int.pow_succ]
   exact h2.mul (Cg.refl x)
theorem ex255 : exf (xbit 255 21) 255 = 2 ^ 255 - 21 := by decide +kernel
theorem invF_pow (x : E5) : Cg (invF x).n (x.n ^ (2 ^ 255 - 21)) := by
 refine (invF_n x).trans (Cg.of_eq ?_)
 rw [sqz_pow, sqz_pow, onz_pow, onz_pow, ← Int.pow_mul, ← Int.pow_add, ← Int.pow_add]
theorem rinv_val {x : E5} {A : Int} (h : Cg x.n A) : Cg (invF x).n (pwm A (xbit 255 21) 255) := by
 refine (invF_pow x).trans ((h.pow _).trans ?_)
 rw [← ex255]
 exact (pwm_pow A _ 255).symm
open Go.RowKit
def ad (a b : Nat → Int) (k : Nat) : Nat → Int := fun i => wid a 16 i + if i < k then b i else 0
theorem ad_48 {a b : Nat → Int} (ha : Dig a 16) (hb : Dig b 16) : B48 (ad a b 16) := ⟨fun i _ => by
 unfold ad wid
 by_cases hi : i < 16
 ·rw [if_pos hi, if_pos hi]
  have := ha i hi
  have := hb i hi
  omega
 ·rw [if_neg hi, if_neg hi]
  omega⟩
theorem S_add (f g : Nat → Int) : ∀ n, S (fun i => f i + g i) n = S f n + S g n
 | 0 => rfl
 | n + 1 => by
  have ih := S_add f g n
  simp only [S]
  rw [ih, Int.add_mul]
  omega
theorem ad_S (a b : Nat → Int) : S (ad a b 16) 32 = S a 16 + S b 16 := by
 have e : S (ad a b 16) 32 = S (wid a 16) 32 + S (wid b 16) 32 := by
  rw [← S_add]
  exact S_congr fun i _ => rfl
 rw [e, wid_S, wid_S]
theorem radd_any (a b : Nat → Int) (w : World) (ha : Dig a 16) (hb : Dig b 16) : Cs 40 #[.agg (arr 16 a), .agg (arr 16 b)] w (.agg (arr 16 (d16 ((S a 16 + S b 16) % Pm)))) := by
 go_enter Tryz.func40, Tryz.ntmps40
 have R1 : Row (((w.alloc (.cells (arr 16 a) 88)).alloc (.cells (arr 16 b) 88)).alloc (.cells (arr 16 fun _ => 0) 88)) w.heap.size 88 16 a := ((Row.new w 88 16 a).alloc _).alloc _
 have R2 : Row (((w.alloc (.cells (arr 16 a) 88)).alloc (.cells (arr 16 b) 88)).alloc (.cells (arr 16 fun _ => 0) 88)) (w.heap.size + 1) 88 16 b := (Row.new' _ 88 16 _ (by simp)).alloc _
 have R3 : Row (((w.alloc (.cells (arr 16 a) 88)).alloc (.cells (arr 16 b) 88)).alloc (.cells (arr 16 fun _ => 0) 88)) (w.heap.size + 1 + 1) 88 16 (fun _ => 0) := Row.new' _ 88 16 _ (by simp)
 have O : Below w.heap.size w (((w.alloc (.cells (arr 16 a) 88)).alloc (.cells (arr 16 b) 88)).alloc (.cells (arr 16 fun _ => 0) 88)) := (((Below.refl _ _).alloc (Nat.le_refl _) _).alloc (by simp) _).alloc (by simp; omega) _
 have HR := hide R1
 go_wp2_with (refine wpList_load_row rfl 88 _ rfl w.heap.size rfl 88 (arr 16 a) (0, 0) _ HR.out Tryz.underlying88 rfl (info88 _) ?_)
 clear HR R1
 rw [show #[Value.int IntKind.u64 0, Value.int IntKind.u64 0, Value.int IntKind.u64 0, Value.int IntKind.u64 0, Value.int IntKind.u64 0, Value.int IntKind.u64 0, Value.int IntKind.u64 0, Value.int IntKind.u64 0, Value.int IntKind.u64 0, Value.int IntKind.u64 0, Value.int IntKind.u64 0, Value.int IntKind.u64 0, Value.int IntKind.u64 0, Value.int IntKind.u64 0, Value.int IntKind.u64 0, Value.int IntKind.u64 0] = arr 16 (fun _ => 0) from rfl]
 refine (wide_any a _).mono ?_
 rintro _ w1 ⟨rfl, hb1⟩
 replace R2 := R2.keep hb1
 replace R3 := R3.keep hb1
 replace O := O.trans (hb1.mono O.size)
 clear hb1
 have gt1 := R3.lt
 have R : Row (w1.alloc (.cells #[Value.int IntKind.u64 0, Value.int IntKind.u64 0, Value.int IntKind.u64 0, Value.int IntKind.u64 0, Value.int IntKind.u64 0, Value.int IntKind.u64 0, Value.int IntKind.u64 0, Value.int IntKind.u64 0, Value.int IntKind.u64 0, Value.int IntKind.u64 0, Value.int IntKind.u64 0, Value.int IntKind.u64 0, Value.int IntKind.u64 0, Value.int IntKind.u64 0, Value.int IntKind.u64 0, Value.int IntKind.u64 0, Value.int IntKind.u64 0, Value.int IntKind.u64 0, Value.int IntKind.u64 0, Value.int IntKind.u64 0, Value.int IntKind.u64 0, Value.int IntKind.u64 0, Value.int IntKind.u64 0, Value.int IntKind.u64 0, Value.int IntKind.u64 0, Value.int IntKind.u64 0, Value.int IntKind.u64 0, Value.int IntKind.u64 0, Value.int IntKind.u64 0, Value.int IntKind.u64 0, Value.int IntKind.u64 0, Value.int IntKind.u64 0] 108)) w1.heap.size 108 32 (fun _ => 0) := Row.new w1 108 32 (fun _ => 0)
 have BB := below_setCells (g := w1.heap.size) (Nat.le_refl _) (arr 32 (wid a 16)).toList 0 (new_below w1 (.cells #[Value.int IntKind.u64 0, Value.int IntKind.u64 0, Value.int IntKind.u64 0, Value.int IntKind.u64 0, Value.int IntKind.u64 0, Value.int IntKind.u64 0, Value.int IntKind.u64 0, Value.int IntKind.u64 0, Value.int IntKind.u64 0, Value.int IntKind.u64 0, Value.int IntKind.u64 0, Value.int IntKind.u64 0, Value.int IntKind.u64 0, Value.int IntKind.u64 0, Value.int IntKind.u64 0, Value.int IntKind.u64 0, Value.int IntKind.u64 0, Value.int IntKind.u64 0, Value.int IntKind.u64 0, Value.int IntKind.u64 0, Value.int IntKind.u64 0, Value.int IntKind.u64 0, Value.int IntKind.u64 0, Value.int IntKind.u64 0, Value.int IntKind.u64 0, Value.int IntKind.u64 0, Value.int IntKind.u64 0, Value.int IntKind.u64 0, Value.int IntKind.u64 0, Value.int IntKind.u64 0, Value.int IntKind.u64 0, Value.int IntKind.u64 0] 108))
 have RR := hide (R.setAll (wid a 16))
 have R2' := hide (R2.keep BB)
 have R3' := hide (R3.keep BB)
 have O' := hide (O.trans (BB.mono O.size))
 clear R2 R3 O BB
 go_wp2_with (refine wpList_store_mid rfl 108 _ _ rfl w1.heap.size 0 (arr 32 (wid a 16)) rfl rfl (by rw [arr_size]; exact R.there) (info108 _) (arr_one _ _) ?_)
 try rw [show ∀ (a : Act) (v : Value), a.put none v = a from fun _ _ => rfl]
 replace R := RR.out
 have R2 := R2'.out
 have R3 := R3'.out
 have O := O'.out
 clear RR R2' R3' O'
 generalize w1.heap.size = gt at *
 generalize (w1.alloc (.cells #[Value.int IntKind.u64 0, Value.int IntKind.u64 0, Value.int IntKind.u64 0, Value.int IntKind.u64 0, Value.int IntKind.u64 0, Value.int IntKind.u64 0, Value.int IntKind.u64 0, Value.int IntKind.u64 0, Value.int IntKind.u64 0, Value.int IntKind.u64 0, Value.int IntKind.u64 0, Value.int IntKind.u64 0, Value.int IntKind.u64 0, Value.int IntKind.u64 0, Value.int IntKind.u64 0, Value.int IntKind.u64 0, Value.int IntKind.u64 0, Value.int IntKind.u64 0, Value.int IntKind.u64 0, Value.int IntKind.u64 0, Value.int IntKind.u64 0, Value.int IntKind.u64 0, Value.int IntKind.u64 0, Value.int IntKind.u64 0, Value.int IntKind.u64 0, Value.int IntKind.u64 0, Value.int IntKind.u64 0, Value.int IntKind.u64 0, Value.int IntKind.u64 0, Value.int IntKind.u64 0, Value.int IntKind.u64 0, Value.int IntKind.u64 0] 108)).setCells gt 0 (arr 32 (wid a 16)).toList = W2 at *
 go_loopw [6] (fun i wr => ∃ k : Nat, k ≤ 16 ∧ i = .int .i64 k ∧ Row wr gt 108 32 (ad a b k) ∧ Row wr (w.heap.size + 1) 88 16 b ∧ Row wr (w.heap.size + 1 + 1) 88 16 (fun _ => 0) ∧ Below w.heap.size w wr) (fun i _ => 16 - (intOf i).toNat)
 case atStart => exact ⟨0, by omega, rfl, R.congr (fun i _ => by unfold ad; rw [if_neg (by omega)]; omega), R2, R3, O⟩
 case round =>
  clear R R2 R3 O
  obtain ⟨k, hk, rfl, R, R2, R3, O⟩ := hrel
  by_cases hlt : k < 16
  ·have c := R.cell (i := k) (by omega)
   rw [show ad a b k k = a k by unfold ad wid; rw [if_pos hlt, if_neg (by omega)]; omega] at c
   have d := R2.cell hlt
   have e := R.free
   obtain ⟨a0, a1⟩ := ha k hlt
   obtain ⟨b0, b1⟩ := hb k hlt
   have i1 : (0 : Int) ≤ (k : Int) := by omega
   have i2 : (k : Int) < 16 := by omega
   go_wp2_with fail
   go_region
   go_wp2
   exact ⟨⟨k + 1, by omega, by go_num, rowD ((R.set k (a k + b k)).congr (fun i _ => by
    unfold upd ad
    by_cases h : i = k
    ·subst h
     rw [if_pos rfl, if_pos (by omega)]
     unfold wid
     rw [if_pos hlt]
    ·rw [if_neg h]
     by_cases h2 : i < k
     ·rw [if_pos h2, if_pos (by omega)]
     ·rw [if_neg h2, if_neg (by omega)])), rowD (R2.other (a := ⟨gt, k, none⟩) (by simp; omega) _), rowD (R3.other (a := ⟨gt, k, none⟩) (by simp; omega) _), (O.setCell (p := ⟨gt, k, none⟩) (by simp; omega) _).drew⟩, by simp [intOf]; omega⟩
  ·have hk' : k = 16 := by omega
   subst hk'
   have HR := hide R
   clear R R2
   go_wp2_with (refine wpList_load_row rfl 108 _ rfl gt rfl 108 (arr 32 (ad a b 16)) (0, 0) _ HR.out Tryz.underlying108 rfl (info108 _) ?_)
   try rw [show ∀ (a : Act) (v : Value), a.put none v = a from fun _ _ => rfl]
   refine (reduce_any (ad a b 16) _ (ad_48 ha hb)).mono ?_
   rintro _ w3 ⟨rfl, hb3⟩
   replace R3 := R3.keep hb3
   replace O := O.trans (hb3.mono O.size)
   clear hb3 HR
   rw [ad_S]
   have RR := hide (R3.setAll (d16 ((S a 16 + S b 16) % Pm)))
   have OO := hide (below_setCells (g := w.heap.size + 1 + 1) (by omega) (arr 16 (d16 ((S a 16 + S b 16) % Pm))).toList 0 O)
   go_wp2_with (refine wpList_store_mid rfl 88 _ _ rfl (w.heap.size + 1 + 1) 0 (arr 16 (d16 ((S a 16 + S b 16) % Pm))) rfl rfl (by rw [arr_size]; exact R3.there) (info88 _) (arr_one _ _) ?_)
   exact bodyPost_ret (v := .agg (arr 16 (d16 ((S a 16 + S b 16) % Pm)))) (results_cell_row Tryz.results40 _ _ (w.heap.size + 1 + 1) 88 (arr 16 (d16 ((S a 16 + S b 16) % Pm))) (0, 0) _ rfl RR.out Tryz.underlying88 rfl (info88 _)) rfl ⟨rfl, OO.out⟩
open Go.RowKit
theorem neg_zero {a : Nat → Int} (h : eqw a (fun _ => 0) 0 16 = true) : arr 16 (d16 ((- S a 16) % Pm)) = arr 16 a := by
 have hz := (eqw_iff a (fun _ => 0) 16 0).1 h
 have e : S a 16 = 0 := by rw [S_congr (g := fun _ => 0) fun i hi => hz i (by omega) (by omega), S_zero]
 rw [e]
 refine arr_congr fun i hi => ?_
 rw [hz i (by omega) (by omega)]
 simp [d16]
theorem neg_some {a : Nat → Int} (ha : Dig a 16) (hlt : S a 16 < Pm) (h : eqw a (fun _ => 0) 0 16 = false) : arr 16 (d16 ((- S a 16) % Pm)) = arr 16 (minusF pF a) := by
 have hm : S (minusF pF a) 16 = Pm - S a 16 := by rw [minus_le pF_dig ha (by rw [pF_S]; omega), pF_S]
 have h0 := (S_bd ha).1
 have hne : S a 16 ≠ 0 := by
  intro e
  have hz : ∀ i, i < 16 → a i = 0 := fun i hi => S_inj (f := a) (g := fun _ => 0) ha (fun _ _ => ⟨Int.le_refl 0, (by decide : (0 : Int) < 65536)⟩) (by rw [e, S_zero]) i hi
  have := (eqw_iff a (fun _ => 0) 16 0).2 fun i _ hi => hz i (by omega)
  rw [this] at h
  cases h
 exact fin_eq (minusF_dig pF a 16) (by rw [hm]; exact ⟨1, by omega⟩) (by rw [hm]; omega)
theorem rneg_any (a : Nat → Int) (w : World) (ha : Dig a 16) (hlt : S a 16 < Pm) : Cs 62 #[.agg (arr 16 a)] w (.agg (arr 16 (d16 ((- S a 16) % Pm)))) := by
 have hgu : Tryz.prog.eqGuardType Tryz.prog.depth 88 = false := by kernel_rfl
 have he : ∀ w, (binOp .eql 88 (.agg (arr 16 a)) (.agg #[Value.int IntKind.u64 0, Value.int IntKind.u64 0, Value.int IntKind.u64 0, Value.int IntKind.u64 0, Value.int IntKind.u64 0, Value.int IntKind.u64 0, Value.int IntKind.u64 0, Value.int IntKind.u64 0, Value.int IntKind.u64 0, Value.int IntKind.u64 0, Value.int IntKind.u64 0, Value.int IntKind.u64 0, Value.int IntKind.u64 0, Value.int IntKind.u64 0, Value.int IntKind.u64 0, Value.int IntKind.u64 0])).run Tryz.prog w = .ok (.bool (eqw a (fun _ => 0) 0 16)) w := fun w => run_eql_words 88 16 a (fun _ => 0) w Tryz.underlying88
 have R1 : Row ((w.alloc (.cells (arr 16 a) 88)).alloc (.cells #[Value.int IntKind.u64 0, Value.int IntKind.u64 0, Value.int IntKind.u64 0, Value.int IntKind.u64 0, Value.int IntKind.u64 0, Value.int IntKind.u64 0, Value.int IntKind.u64 0, Value.int IntKind.u64 0, Value.int IntKind.u64 0, Value.int IntKind.u64 0, Value.int IntKind.u64 0, Value.int IntKind.u64 0, Value.int IntKind.u64 0, Value.int IntKind.u64 0, Value.int IntKind.u64 0, Value.int IntKind.u64 0] 88)) w.heap.size 88 16 a := (Row.new w 88 16 a).alloc _
 have R3 : Row ((w.alloc (.cells (arr 16 a) 88)).alloc (.cells #[Value.int IntKind.u64 0, Value.int IntKind.u64 0, Value.int IntKind.u64 0, Value.int IntKind.u64 0, Value.int IntKind.u64 0, Value.int IntKind.u64 0, Value.int IntKind.u64 0, Value.int IntKind.u64 0, Value.int IntKind.u64 0, Value.int IntKind.u64 0, Value.int IntKind.u64 0, Value.int IntKind.u64 0, Value.int IntKind.u64 0, Value.int IntKind.u64 0, Value.int IntKind.u64 0, Value.int IntKind.u64 0] 88)) (w.heap.size + 1) 88 16 (fun _ => 0) := Row.new' _ 88 16 (fun _ => 0) (by simp)
 have O : Below w.heap.size w ((w.alloc (.cells (arr 16 a) 88)).alloc (.cells #[Value.int IntKind.u64 0, Value.int IntKind.u64 0, Value.int IntKind.u64 0, Value.int IntKind.u64 0, Value.int IntKind.u64 0, Value.int IntKind.u64 0, Value.int IntKind.u64 0, Value.int IntKind.u64 0, Value.int IntKind.u64 0, Value.int IntKind.u64 0, Value.int IntKind.u64 0, Value.int IntKind.u64 0, Value.int IntKind.u64 0, Value.int IntKind.u64 0, Value.int IntKind.u64 0, Value.int IntKind.u64 0] 88)) := ((Below.refl _ _).alloc (Nat.le_refl _) _).alloc (by simp) _
 have H1 := hide R1
 have H3 := hide R3
 have H4 := hide O
 clear R1 R3 O
 cases hz : eqw a (fun _ => 0) 0 16
 ·rw [hz] at he
  have HE := hide (neg_some ha hlt hz)
  clear hz
  go_enter Tryz.func62, Tryz.ntmps62
  go_wp2_with (refine wpList_load_row rfl 88 _ rfl w.heap.size rfl 88 (arr 16 a) (0, 0) _ H1.out Tryz.underlying88 rfl (info88 _) ?_)
  try rw [show ∀ (a : Act) (v : Value), a.put none v = a from fun _ _ => rfl]
  have R1 := H1.out
  have R3 := H3.out
  have O := H4.out
  clear H1 H3 H4
  generalize (w.alloc (.cells (arr 16 a) 88)).alloc (.cells #[Value.int IntKind.u64 0, Value.int IntKind.u64 0, Value.int IntKind.u64 0, Value.int IntKind.u64 0, Value.int IntKind.u64 0, Value.int IntKind.u64 0, Value.int IntKind.u64 0, Value.int IntKind.u64 0, Value.int IntKind.u64 0, Value.int IntKind.u64 0, Value.int IntKind.u64 0, Value.int IntKind.u64 0, Value.int IntKind.u64 0, Value.int IntKind.u64 0, Value.int IntKind.u64 0, Value.int IntKind.u64 0] 88) = W at *
  have hne := KW.some W
  have hg3 : ∀ w', (∃ s : KW W, w' = s.w) → w'.heap[w.heap.size]? = some (.cells (arr 16 a) 88 (0, 0)) := by
   rintro _ ⟨s, rfl⟩
   exact R1.keep s.keep
  have HG := hide hg3
  clear hg3 R1 he hgu
  refine wp_region_keep_tail 3 (by kernel_rfl) (by kernel_rfl) ?_
  simp only [List.take_succ_cons, List.take_zero, List.drop_succ_cons, List.drop_zero]
  go_big_quiet_step ((exact keep_of (prime_any _)))
  go_big_quiet_want
  refine quiet_load_row 88 _ rfl w.heap.size rfl 88 (arr 16 a) (0, 0) _ HG.out Tryz.underlying88 rfl (info88 _) ?_
  go_simp
  go_big_quiet_on
  go_big_quiet_step ((exact keep_of (minus_any pF a _ pF_dig ha)))
  refine wpQuiet_nil ?_
  intro s
  replace R3 := R3.keep s.keep
  replace O := O.trans (s.keep.mono O.size)
  generalize s.w = W8 at R3 O ⊢
  have RR := hide (R3.setAll (minusF pF a))
  have OO := hide (below_setCells (g := w.heap.size + 1) (by omega) (arr 16 (minusF pF a)).toList 0 O)
  clear HG hne
  go_wp2_with (refine wpList_store_mid rfl 88 _ _ rfl (w.heap.size + 1) 0 (arr 16 (minusF pF a)) rfl rfl (by rw [arr_size]; exact R3.there) (info88 _) (arr_one _ _) ?_)
  exact bodyPost_ret (v := .agg (arr 16 (minusF pF a))) (results_cell_row Tryz.results62 _ _ (w.heap.size + 1) 88 (arr 16 (minusF pF a)) (0, 0) _ rfl RR.out Tryz.underlying88 rfl (info88 _)) rfl ⟨by rw [HE.out], OO.out⟩
 ·rw [hz] at he
  have HE := hide (neg_zero hz)
  clear hz
  have RR := hide (H3.out.setAll a)
  have OO := hide (below_setCells (g := w.heap.size + 1) (by omega) (arr 16 a).toList 0 H4.out)
  go_enter Tryz.func62, Tryz.ntmps62
  go_wp2_with (first | (refine wpList_load_row rfl 88 _ rfl w.heap.size rfl 88 (arr 16 a) (0, 0) _ H1.out Tryz.underlying88 rfl (info88 _) ?_) | (refine wpList_store_mid rfl 88 _ _ rfl (w.heap.size + 1) 0 (arr 16 a) rfl rfl (by rw [arr_size]; exact H3.out.there) (info88 _) (arr_one _ _) ?_))
  exact bodyPost_ret (v := .agg (arr 16 a)) (results_cell_row Tryz.results62 _ _ (w.heap.size + 1) 88 (arr 16 a) (0, 0) _ rfl RR.out Tryz.underlying88 rfl (info88 _)) rfl ⟨by rw [HE.out], OO.out⟩
theorem sub_val {a b : Nat → Int} : (S a 16 + S (d16 ((- S b 16) % Pm)) 16) % Pm = (S a 16 - S b 16) % Pm := by
 have h0 : 0 ≤ (- S b 16) % Pm := Int.emod_nonneg _ (by decide)
 have h1 : (- S b 16) % Pm < Pm := Int.emod_lt_of_pos _ (by decide)
 have hP : Pm < 65536 ^ 16 := by decide
 rw [d16_S _ h0, Int.emod_eq_of_lt h0 (by omega)]
 exact ((Cg.refl (S a 16)).add (cg_emod (- S b 16))).emod
theorem rsub_any (a b : Nat → Int) (w : World) (ha : Dig a 16) (hb : Dig b 16) (hlt : S b 16 < Pm) : Cs 42 #[.agg (arr 16 a), .agg (arr 16 b)] w (.agg (arr 16 (d16 ((S a 16 - S b 16) % Pm)))) := by
 have hcall : ∀ w, Cs 40 #[.agg (arr 16 a), .agg (arr 16 (d16 ((- S b 16) % Pm)))] w (.agg (arr 16 (d16 ((S a 16 - S b 16) % Pm)))) := fun w => by
  have := radd_any a (d16 ((- S b 16) % Pm)) w ha (d16_dig _ 16)
  rwa [sub_val] at this
 have HC := hide hcall
 clear hcall
 have R1 : Row (((w.alloc (.cells (arr 16 a) 88)).alloc (.cells (arr 16 b) 88)).alloc (.cells #[Value.int IntKind.u64 0, Value.int IntKind.u64 0, Value.int IntKind.u64 0, Value.int IntKind.u64 0, Value.int IntKind.u64 0, Value.int IntKind.u64 0, Value.int IntKind.u64 0, Value.int IntKind.u64 0, Value.int IntKind.u64 0, Value.int IntKind.u64 0, Value.int IntKind.u64 0, Value.int IntKind.u64 0, Value.int IntKind.u64 0, Value.int IntKind.u64 0, Value.int IntKind.u64 0, Value.int IntKind.u64 0] 88)) w.heap.size 88 16 a := ((Row.new w 88 16 a).alloc _).alloc _
 have R2 : Row (((w.alloc (.cells (arr 16 a) 88)).alloc (.cells (arr 16 b) 88)).alloc (.cells #[Value.int IntKind.u64 0, Value.int IntKind.u64 0, Value.int IntKind.u64 0, Value.int IntKind.u64 0, Value.int IntKind.u64 0, Value.int IntKind.u64 0, Value.int IntKind.u64 0, Value.int IntKind.u64 0, Value.int IntKind.u64 0, Value.int IntKind.u64 0, Value.int IntKind.u64 0, Value.int IntKind.u64 0, Value.int IntKind.u64 0, Value.int IntKind.u64 0, Value.int IntKind.u64 0, Value.int IntKind.u64 0] 88)) (w.heap.size + 1) 88 16 b := (Row.new' _ 88 16 _ (by simp)).alloc _
 have R3 : Row (((w.alloc (.cells (arr 16 a) 88)).alloc (.cells (arr 16 b) 88)).alloc (.cells #[Value.int IntKind.u64 0, Value.int IntKind.u64 0, Value.int IntKind.u64 0, Value.int IntKind.u64 0, Value.int IntKind.u64 0, Value.int IntKind.u64 0, Value.int IntKind.u64 0, Value.int IntKind.u64 0, Value.int IntKind.u64 0, Value.int IntKind.u64 0, Value.int IntKind.u64 0, Value.int IntKind.u64 0, Value.int IntKind.u64 0, Value.int IntKind.u64 0, Value.int IntKind.u64 0, Value.int IntKind.u64 0] 88)) (w.heap.size + 1 + 1) 88 16 (fun _ => 0) := Row.new' _ 88 16 (fun _ => 0) (by simp)
 have O : Below w.heap.size w (((w.alloc (.cells (arr 16 a) 88)).alloc (.cells (arr 16 b) 88)).alloc (.cells #[Value.int IntKind.u64 0, Value.int IntKind.u64 0, Value.int IntKind.u64 0, Value.int IntKind.u64 0, Value.int IntKind.u64 0, Value.int IntKind.u64 0, Value.int IntKind.u64 0, Value.int IntKind.u64 0, Value.int IntKind.u64 0, Value.int IntKind.u64 0, Value.int IntKind.u64 0, Value.int IntKind.u64 0, Value.int IntKind.u64 0, Value.int IntKind.u64 0, Value.int IntKind.u64 0, Value.int IntKind.u64 0] 88)) := (((Below.refl _ _).alloc (Nat.le_refl _) _).alloc (by simp) _).alloc (by simp; omega) _
 go_enter Tryz.func42, Tryz.ntmps42
 go_wp2_with fail
 generalize ((w.alloc (.cells (arr 16 a) 88)).alloc (.cells (arr 16 b) 88)).alloc (.cells #[Value.int IntKind.u64 0, Value.int IntKind.u64 0, Value.int IntKind.u64 0, Value.int IntKind.u64 0, Value.int IntKind.u64 0, Value.int IntKind.u64 0, Value.int IntKind.u64 0, Value.int IntKind.u64 0, Value.int IntKind.u64 0, Value.int IntKind.u64 0, Value.int IntKind.u64 0, Value.int IntKind.u64 0, Value.int IntKind.u64 0, Value.int IntKind.u64 0, Value.int IntKind.u64 0, Value.int IntKind.u64 0] 88) = W at *
 have hne := KW.some W
 have hg1 : ∀ w', (∃ s : KW W, w' = s.w) → w'.heap[w.heap.size]? = some (.cells (arr 16 a) 88 (0, 0)) := by
  rintro _ ⟨s, rfl⟩
  exact R1.keep s.keep
 have hg2 : ∀ w', (∃ s : KW W, w' = s.w) → w'.heap[w.heap.size + 1]? = some (.cells (arr 16 b) 88 (0, 0)) := by
  rintro _ ⟨s, rfl⟩
  exact R2.keep s.keep
 have HG1 := hide hg1
 have HG2 := hide hg2
 clear hg1 hg2 R1 R2
 refine wp_region_keep_tail 4 (by kernel_rfl) (by kernel_rfl) ?_
 simp only [List.take_succ_cons, List.take_zero, List.drop_succ_cons, List.drop_zero]
 go_big_quiet_want
 refine quiet_load_row 88 _ rfl w.heap.size rfl 88 (arr 16 a) (0, 0) _ HG1.out Tryz.underlying88 rfl (info88 _) ?_
 go_simp
 go_big_quiet_on
 go_big_quiet_want
 refine quiet_load_row 88 _ rfl (w.heap.size + 1) rfl 88 (arr 16 b) (0, 0) _ HG2.out Tryz.underlying88 rfl (info88 _) ?_
 go_simp
 go_big_quiet_on
 go_big_quiet_step ((exact keep_of (rneg_any b _ hb hlt)))
 go_big_quiet_step ((exact keep_of (HC.out _)))
 refine wpQuiet_nil ?_
 intro s
 replace R3 := R3.keep s.keep
 replace O := O.trans (s.keep.mono O.size)
 generalize s.w = W8 at R3 O ⊢
 have RR := hide (R3.setAll (d16 ((S a 16 - S b 16) % Pm)))
 have OO := hide (below_setCells (g := w.heap.size + 1 + 1) (by omega) (arr 16 (d16 ((S a 16 - S b 16) % Pm))).toList 0 O)
 clear HG1 HG2 hne HC
 go_wp2_with (refine wpList_store_mid rfl 88 _ _ rfl (w.heap.size + 1 + 1) 0 (arr 16 (d16 ((S a 16 - S b 16) % Pm))) rfl rfl (by rw [arr_size]; exact R3.there) (info88 _) (arr_one _ _) ?_)
 exact bodyPost_ret (v := .agg (arr 16 (d16 ((S a 16 - S b 16) % Pm)))) (results_cell_row Tryz.results42 _ _ (w.heap.size + 1 + 1) 88 (arr 16 (d16 ((S a 16 - S b 16) % Pm))) (0, 0) _ rfl RR.out Tryz.underlying88 rfl (info88 _)) rfl ⟨rfl, OO.out⟩
open Go.RowKit
def E5.f (x : E5) : Nat → Int := fun i => [x.a, x.b, x.c, x.d, x.e].getD i 0
def pj (x z : Nat → Int) : Nat → Int := fun i => if i < 5 then x i else z (i - 5)
theorem arr_toList_get (n : Nat) (f : Nat → Int) (j : Nat) (v : Value) (h : (arr n f).toList[j]? = some v) : j < n ∧ v = .int .u64 (f j) := by
 have hj : j < n := by
  have := (List.getElem?_eq_some_iff.1 h).1
  simpa [arr_size] using this
 refine ⟨hj, ?_⟩
 have h2 := arr_get n f j hj
 rw [Array.getElem?_toList] at h
 rw [h2] at h
 exact (Option.some.inj h).symm
theorem Row.range {W : World} {g : Nat} {T : TypeId} {n : Nat} {f : Nat → Int} (h : Row W g T n f) (o k : Nat) (f' : Nat → Int) (hok : o + k ≤ n) (he : ∀ i, i < k → f (o + i) = f' i) : W.rangeAt g o (arr k f').toList := by
 intro j v hv
 obtain ⟨hj, rfl⟩ := arr_toList_get k f' j v hv
 rw [h.cell (by omega), he j hj]
theorem Row.px {W : World} {g : Nat} {x z : Nat → Int} (h : Row W g 135 10 (pj x z)) : W.rangeAt g 0 (arr 5 x).toList :=
 h.range 0 5 x (by omega) fun i hi => by simp [pj, hi]
theorem Row.pz {W : World} {g : Nat} {x z : Nat → Int} (h : Row W g 135 10 (pj x z)) : W.rangeAt g 5 (arr 5 z).toList :=
 h.range 5 5 z (by omega) fun i hi => by
  unfold pj
  rw [if_neg (by omega), show 5 + i - 5 = i by omega]
theorem Row.all {W : World} {g : Nat} {T : TypeId} {n : Nat} {f : Nat → Int} (h : Row W g T n f) : W.rangeAt g 0 (arr n f).toList :=
 h.range 0 n f (by omega) fun i _ => by rw [Nat.zero_add]
theorem info116 : (Tryz.prog.info? 116).map (·.size) = some 5 := by kernel_rfl
theorem info135 : (Tryz.prog.info? 135).map (·.size) = some 10 := by kernel_rfl
theorem inf41 (f : Nat → Int) : (Tryz.prog.info? 116).map (·.size) = some (arr 5 f).size := by rw [arr_size]; kernel_rfl
theorem inf54 (f : Nat → Int) : (Tryz.prog.info? 135).map (·.size) = some (arr 10 f).size := by rw [arr_size]; kernel_rfl
section
variable {P : Program} {ops : Array Oper} {W : World} {Q : Act → Prop}
theorem wpK_val {rest : List Oper} {o : Oper} {a : Act} (v : Value) (hgd : o.guard = none) (hrun : ∀ w, (execOp a.eval o).run P w = .ok (.value v) w) (h : wpK P ops W Q rest (a.put o.dst v)) : wpK P ops W Q (o :: rest) a := by
 unfold wpK
 rw [if_pos (by simp [Region.wanted, hgd])]
 refine ⟨v, fun s => ?_, h⟩
 unfold keepAt
 rw [hrun]
 exact ⟨rfl, rfl⟩
theorem wpK_load {rest : List Oper} {o : Oper} {a : Act} (hgd : o.guard = none) (ty : TypeId) (x : Operand) (ho : o.op = .load ty x) (g off : Nat) (hx : a.eval x = .pointer (some ⟨g, off, none⟩)) (k : Nat) (f : Nat → Int)
  (hr : ∀ s : KW W, s.w.rangeAt g off (arr k f).toList) (d : TypeDesc) (hu : P.underlying ty = some d) (hd : d.isRow = true) (hi : (P.info? ty).map (·.size) = some k)
  (h : wpK P ops W Q rest (a.put o.dst (.agg (arr k f)))) : wpK P ops W Q (o :: rest) a := by
 unfold wpK
 rw [if_pos (by simp [Region.wanted, hgd])]
 refine ⟨.agg (arr k f), fun s => ?_, h⟩
 unfold keepAt execOp
 have hl := run_loadAt_mid (P := P) s.w g off ty (arr k f).toList d (hr s) hu hd (by rw [hi]; simp [arr_size])
 simp only [ho, hx, Sem.run_bind, hl, Result.andThen_ok, Sem.run_pure]
 exact ⟨rfl, by simp⟩
theorem wpK_call {rest : List Oper} {o : Oper} {a : Act} (f : FuncId) (args : Array Value) (v : Value) (hgd : o.guard = none) (hrun : ∀ w, (execOp a.eval o).run P w = .ok (.enter f args) w)
  (hc : ∀ w, Calls P f args w fun e w' => e = .returned v ∧ Below w.heap.size w w') (h : wpK P ops W Q rest (a.put o.dst v)) : wpK P ops W Q (o :: rest) a := by
 unfold wpK
 rw [if_pos (by simp [Region.wanted, hgd])]
 refine ⟨v, fun s => ?_, h⟩
 unfold keepAt
 rw [hrun]
 exact ⟨rfl, hc s.w⟩
end
theorem results_two {P : Program} {fn : Func} {p q : Tmp} {ty tz : TypeId} (h : fn.results = #[.cell p ty, .cell q tz]) (tmps : Array Value) (w : World) (g k : Nat) (t t' : TypeId) (cs cs' : Array Value) (fr fr' : Nat × Nat) (d d' : TypeDesc)
  (hp : tmps.getD p undef = .pointer (some ⟨g, 0, none⟩)) (hq : tmps.getD q undef = .pointer (some ⟨k, 0, none⟩)) (hg : w.heap[g]? = some (.cells cs t fr)) (hk : w.heap[k]? = some (.cells cs' t' fr'))
  (hu : P.underlying ty = some d) (hd : (match d with | .struct _ | .array _ _ => true | _ => false) = true) (hi : (P.info? ty).map (·.size) = some cs.size)
  (hu' : P.underlying tz = some d') (hd' : (match d' with | .struct _ | .array _ _ => true | _ => false) = true) (hi' : (P.info? tz).map (·.size) = some cs'.size) :
  (results fn tmps).run P w = .ok (.tuple #[.agg cs, .agg cs']) w := by
 have hp' : tmps[p]?.getD undef = .pointer (some ⟨g, 0, none⟩) := by simpa using hp
 have hq' : tmps[q]?.getD undef = .pointer (some ⟨k, 0, none⟩) := by simpa using hq
 simp [results, h, hp', hq', asAddr, run_loadVar_row w g t ty cs fr d hg hu hd hi, run_loadVar_row w k t' tz cs' fr' d' hk hu' hd' hi']
open Go.RowKit
section
variable {P : Program} {ops : Array Oper} {md : Region.Mode} {Q : Exit → Act → World → Prop}
theorem ready_put {fuel : Nat} {listed : Array Bool} {a : Act} {w : World} {i : Nat} {o : Oper} {rs : List Nat} {b T n : Nat} {f f' : Nat → Int} (R : Row w b T n f) (ho : ops[i]? = some o) (hgd : o.guard = none) (ty : TypeId) (x y : Operand) (hop : o.op = .store ty x y)
  (hx : a.eval x = .pointer (some ⟨b, 0, none⟩)) (hy : a.eval y = .agg (arr n f')) (hi : (P.info? ty).map (·.size) = some (arr n f').size)
  (h : ∀ w', Row w' b T n f' → (∀ k, k ≠ b → w'.heap[k]? = w.heap[k]?) → (∀ B u, B ≤ b → Below B u w → Below B u w') → wpAny P md ops Q fuel (listed.setIfInBounds i true) (a.put o.dst undef) w') (hs : AllReady P md ops Q fuel listed a w rs) : AllReady P md ops Q fuel listed a w (i :: rs) :=
 ready_store ho hgd ty x y hop b 0 (arr n f') hx hy (by rw [arr_size]; exact R.there) hi (arr_one _ _) (h _ (R.setAll f') (fun k hk => heap_setCells_other b k hk _ _ _) (fun B u hB hu => below_setCells hB _ 0 hu)) hs
end
theorem Row.at_ {W W' : World} {g : Nat} {T : TypeId} {n : Nat} {f : Nat → Int} (h : Row W g T n f) (e : W'.heap[g]? = W.heap[g]?) : Row W' g T n f := by
 unfold Row
 rw [e]
 exact h
open Go.RowKit
structure SF (ax az bx bz xx sm df aa bb ee u1 da u2 cb ps ms dx k1 k2 k3 dz px m2 pz : Nat → Int) : Prop where
 h1 : ∀ w, Cs 120 #[.agg (arr 5 ax), .agg (arr 5 az)] w (.agg (arr 5 sm))
 h2 : ∀ w, Cs 121 #[.agg (arr 5 ax), .agg (arr 5 az)] w (.agg (arr 5 df))
 h3 : ∀ w, Cs 93 #[.agg (arr 5 sm), .agg (arr 5 sm)] w (.agg (arr 5 aa))
 h4 : ∀ w, Cs 93 #[.agg (arr 5 df), .agg (arr 5 df)] w (.agg (arr 5 bb))
 h5 : ∀ w, Cs 121 #[.agg (arr 5 aa), .agg (arr 5 bb)] w (.agg (arr 5 ee))
 h6 : ∀ w, Cs 121 #[.agg (arr 5 bx), .agg (arr 5 bz)] w (.agg (arr 5 u1))
 h7 : ∀ w, Cs 93 #[.agg (arr 5 u1), .agg (arr 5 sm)] w (.agg (arr 5 da))
 h8 : ∀ w, Cs 120 #[.agg (arr 5 bx), .agg (arr 5 bz)] w (.agg (arr 5 u2))
 h9 : ∀ w, Cs 93 #[.agg (arr 5 u2), .agg (arr 5 df)] w (.agg (arr 5 cb))
 h10 : ∀ w, Cs 120 #[.agg (arr 5 da), .agg (arr 5 cb)] w (.agg (arr 5 ps))
 h11 : ∀ w, Cs 121 #[.agg (arr 5 da), .agg (arr 5 cb)] w (.agg (arr 5 ms))
 h12 : ∀ w, Cs 93 #[.agg (arr 5 aa), .agg (arr 5 bb)] w (.agg (arr 5 dx))
 h14 : ∀ w, Cs 93 #[.agg (arr 5 k1), .agg (arr 5 ee)] w (.agg (arr 5 k2))
 h15 : ∀ w, Cs 120 #[.agg (arr 5 aa), .agg (arr 5 k2)] w (.agg (arr 5 k3))
 h16 : ∀ w, Cs 93 #[.agg (arr 5 ee), .agg (arr 5 k3)] w (.agg (arr 5 dz))
 h17 : ∀ w, Cs 93 #[.agg (arr 5 ps), .agg (arr 5 ps)] w (.agg (arr 5 px))
 h18 : ∀ w, Cs 93 #[.agg (arr 5 ms), .agg (arr 5 ms)] w (.agg (arr 5 m2))
 h19 : ∀ w, Cs 93 #[.agg (arr 5 xx), .agg (arr 5 m2)] w (.agg (arr 5 pz))
 h13 : ∀ w, Cs 75 #[.int .u32 121665] w (.agg (arr 5 k1))
theorem step_gen (ax az bx bz xx sm df aa bb ee u1 da u2 cb ps ms dx k1 k2 k3 dz px m2 pz : Nat → Int) (w : World) (F0 : SF ax az bx bz xx sm df aa bb ee u1 da u2 cb ps ms dx k1 k2 k3 dz px m2 pz) : Cs 92 #[.agg (arr 10 (pj ax az)), .agg (arr 10 (pj bx bz)), .agg (arr 5 xx)] w (.tuple #[.agg (arr 10 (pj dx dz)), .agg (arr 10 (pj px pz))]) := by
 have F := hide F0
 clear F0
 go_enter Tryz.func92, Tryz.ntmps92
 go_wp2_with fail
 rw [show #[Value.int IntKind.u64 0, Value.int IntKind.u64 0, Value.int IntKind.u64 0, Value.int IntKind.u64 0, Value.int IntKind.u64 0, Value.int IntKind.u64 0, Value.int IntKind.u64 0, Value.int IntKind.u64 0, Value.int IntKind.u64 0, Value.int IntKind.u64 0] = arr 10 (fun _ => 0) from rfl]
 have RA : Row (((((w.alloc (.cells (arr 10 (pj ax az)) 135)).alloc (.cells (arr 10 (pj bx bz)) 135)).alloc (.cells (arr 5 xx) 116)).alloc (.cells (arr 10 fun _ => 0) 135)).alloc (.cells (arr 10 fun _ => 0) 135)) w.heap.size 135 10 (pj ax az) := ((((Row.new w 135 10 _).alloc _).alloc _).alloc _).alloc _
 have RB : Row (((((w.alloc (.cells (arr 10 (pj ax az)) 135)).alloc (.cells (arr 10 (pj bx bz)) 135)).alloc (.cells (arr 5 xx) 116)).alloc (.cells (arr 10 fun _ => 0) 135)).alloc (.cells (arr 10 fun _ => 0) 135)) (w.heap.size + 1) 135 10 (pj bx bz) := (((Row.new' _ 135 10 _ (by simp)).alloc _).alloc _).alloc _
 have RX : Row (((((w.alloc (.cells (arr 10 (pj ax az)) 135)).alloc (.cells (arr 10 (pj bx bz)) 135)).alloc (.cells (arr 5 xx) 116)).alloc (.cells (arr 10 fun _ => 0) 135)).alloc (.cells (arr 10 fun _ => 0) 135)) (w.heap.size + 1 + 1) 116 5 xx := ((Row.new' _ 116 5 _ (by simp)).alloc _).alloc _
 have R6 : Row (((((w.alloc (.cells (arr 10 (pj ax az)) 135)).alloc (.cells (arr 10 (pj bx bz)) 135)).alloc (.cells (arr 5 xx) 116)).alloc (.cells (arr 10 fun _ => 0) 135)).alloc (.cells (arr 10 fun _ => 0) 135)) (w.heap.size + 1 + 1 + 1) 135 10 (fun _ => 0) := (Row.new' _ 135 10 _ (by simp)).alloc _
 have R7 : Row (((((w.alloc (.cells (arr 10 (pj ax az)) 135)).alloc (.cells (arr 10 (pj bx bz)) 135)).alloc (.cells (arr 5 xx) 116)).alloc (.cells (arr 10 fun _ => 0) 135)).alloc (.cells (arr 10 fun _ => 0) 135)) (w.heap.size + 1 + 1 + 1 + 1) 135 10 (fun _ => 0) := Row.new' _ 135 10 _ (by simp)
 have O : Below w.heap.size w (((((w.alloc (.cells (arr 10 (pj ax az)) 135)).alloc (.cells (arr 10 (pj bx bz)) 135)).alloc (.cells (arr 5 xx) 116)).alloc (.cells (arr 10 fun _ => 0) 135)).alloc (.cells (arr 10 fun _ => 0) 135)) := (((((Below.refl _ _).alloc (Nat.le_refl _) _).alloc (by simp) _).alloc (by simp; omega) _).alloc (by simp; omega) _).alloc (by simp; omega) _
 generalize (((((w.alloc (.cells (arr 10 (pj ax az)) 135)).alloc (.cells (arr 10 (pj bx bz)) 135)).alloc (.cells (arr 5 xx) 116)).alloc (.cells (arr 10 fun _ => 0) 135)).alloc (.cells (arr 10 fun _ => 0) 135)) = W at RA RB RX R6 R7 O ⊢
 have LAx : Hid (∀ s : KW W, s.w.rangeAt w.heap.size 0 (arr 5 ax).toList) := hide fun s => (RA.keep s.keep).px
 have LAz : Hid (∀ s : KW W, s.w.rangeAt w.heap.size 5 (arr 5 az).toList) := hide fun s => (RA.keep s.keep).pz
 refine wp_region_keep_alloc2 (Z := .cells #[Value.int IntKind.u64 0, Value.int IntKind.u64 0, Value.int IntKind.u64 0, Value.int IntKind.u64 0, Value.int IntKind.u64 0] 116) (Y := .cells #[Value.int IntKind.u64 0, Value.int IntKind.u64 0, Value.int IntKind.u64 0, Value.int IntKind.u64 0, Value.int IntKind.u64 0] 116) 10 (by kernel_rfl) (by kernel_rfl) rfl rfl rfl rfl (fun _ _ => by kernel_rfl) (fun _ _ => by kernel_rfl) ?_
 simp only [List.take_succ_cons, List.take_zero]
 refine wpK_val (.pointer (some ⟨w.heap.size, 0, none⟩)) rfl (fun _ => by kernel_rfl) ?_
 refine wpK_load rfl 116 _ rfl w.heap.size 0 (by kernel_rfl) 5 ax LAx.out _ Tryz.underlying116 rfl info116 ?_
 refine wpK_val (.pointer (some ⟨w.heap.size, 5, none⟩)) rfl (fun _ => by kernel_rfl) ?_
 refine wpK_load rfl 116 _ rfl w.heap.size 5 (by kernel_rfl) 5 az LAz.out _ Tryz.underlying116 rfl info116 ?_
 refine wpK_call 120 #[.agg (arr 5 ax), .agg (arr 5 az)] (.agg (arr 5 sm)) rfl (fun _ => by kernel_rfl) F.out.h1 ?_
 refine wpK_val (.pointer (some ⟨w.heap.size, 0, none⟩)) rfl (fun _ => by kernel_rfl) ?_
 refine wpK_load rfl 116 _ rfl w.heap.size 0 (by kernel_rfl) 5 ax LAx.out _ Tryz.underlying116 rfl info116 ?_
 refine wpK_val (.pointer (some ⟨w.heap.size, 5, none⟩)) rfl (fun _ => by kernel_rfl) ?_
 refine wpK_load rfl 116 _ rfl w.heap.size 5 (by kernel_rfl) 5 az LAz.out _ Tryz.underlying116 rfl info116 ?_
 refine wpK_call 121 #[.agg (arr 5 ax), .agg (arr 5 az)] (.agg (arr 5 df)) rfl (fun _ => by kernel_rfl) F.out.h2 ?_
 clear RA
 refine wpK_nil ?_
 intro W1 g8 g9 hb n1 n2 n3 r1 r2 a2 ha2
 simp [go_sem] at ha2
 subst ha2
 clear LAx LAz
 have lB := RB.lt
 have lX := RX.lt
 have l6 := R6.lt
 have l7 := R7.lt
 replace RB := RB.keep hb
 replace RX := RX.keep hb
 replace R6 := R6.keep hb
 replace R7 := R7.keep hb
 have lo := O.size
 replace O := O.trans (hb.mono O.size)
 clear hb
 replace r1 : Row W1 g8 116 5 (fun _ => 0) := r1
 replace r2 : Row W1 g9 116 5 (fun _ => 0) := r2
 have SB := hide ((RB.setOther (k := g8) (by omega) 0 (arr 5 sm).toList).setOther (k := g9) (by omega) 0 (arr 5 df).toList)
 have SX := hide ((RX.setOther (k := g8) (by omega) 0 (arr 5 sm).toList).setOther (k := g9) (by omega) 0 (arr 5 df).toList)
 have S6 := hide ((R6.setOther (k := g8) (by omega) 0 (arr 5 sm).toList).setOther (k := g9) (by omega) 0 (arr 5 df).toList)
 have S7 := hide ((R7.setOther (k := g8) (by omega) 0 (arr 5 sm).toList).setOther (k := g9) (by omega) 0 (arr 5 df).toList)
 have S8 := hide ((r1.setAll sm).setOther (k := g9) (by omega) 0 (arr 5 df).toList)
 have S9 := hide ((r2.setOther (k := g8) (by omega) 0 (arr 5 sm).toList).setAll df)
 have hth := hide (r2.setOther (k := g8) (by omega) 0 (arr 5 sm).toList)
 have SO := hide (below_setCells (g := g9) (by omega) (arr 5 df).toList 0 (below_setCells (g := g8) (by omega) (arr 5 sm).toList 0 O))
 have hth1 := hide r1
 clear r1 r2 O RB RX R6 R7
 refine wpList_store_mid rfl 116 _ _ rfl g8 0 (arr 5 sm) rfl rfl (by rw [arr_size]; exact hth1.out.there) (inf41 _) (arr_one _ _) ?_
 rw [show ∀ (a : Act) (v : Value), a.put none v = a from fun _ _ => rfl]
 refine wpList_store_mid rfl 116 _ _ rfl g9 0 (arr 5 df) rfl rfl (by rw [arr_size]; exact hth.out.there) (inf41 _) (arr_one _ _) ?_
 rw [show ∀ (a : Act) (v : Value), a.put none v = a from fun _ _ => rfl]
 go_wp2_with fail
 try rw [show ∀ (a : Act) (v : Value), a.put none v = a from fun _ _ => rfl]
 have RB := SB.out
 have RX := SX.out
 have R6 := S6.out
 have R7 := S7.out
 have R8 := S8.out
 have R9 := S9.out
 have O := SO.out
 clear hth1 SO hth SB SX S6 S7 S8 S9
 generalize ((W1.setCells g8 0 (arr 5 sm).toList).setCells g9 0 (arr 5 df).toList) = V1 at *
 clear n1 lo n2 n3 lB lX l6 l7
 have L8a : Hid (∀ s : KW V1, s.w.rangeAt g8 0 (arr 5 sm).toList) := hide fun s => (R8.keep s.keep).all
 have L9a : Hid (∀ s : KW V1, s.w.rangeAt g9 0 (arr 5 df).toList) := hide fun s => (R9.keep s.keep).all
 refine wp_region_keep_alloc2 (Z := .cells #[Value.int IntKind.u64 0, Value.int IntKind.u64 0, Value.int IntKind.u64 0, Value.int IntKind.u64 0, Value.int IntKind.u64 0] 116) (Y := .cells #[Value.int IntKind.u64 0, Value.int IntKind.u64 0, Value.int IntKind.u64 0, Value.int IntKind.u64 0, Value.int IntKind.u64 0] 116) 6 (by kernel_rfl) (by kernel_rfl) rfl rfl rfl rfl (fun _ _ => by kernel_rfl) (fun _ _ => by kernel_rfl) ?_
 simp only [List.take_succ_cons, List.take_zero]
 refine wpK_load rfl 116 _ rfl g8 0 (by kernel_rfl) 5 sm L8a.out _ Tryz.underlying116 rfl info116 ?_
 refine wpK_load rfl 116 _ rfl g8 0 (by kernel_rfl) 5 sm L8a.out _ Tryz.underlying116 rfl info116 ?_
 refine wpK_call 93 #[.agg (arr 5 sm), .agg (arr 5 sm)] (.agg (arr 5 aa)) rfl (fun _ => by kernel_rfl) F.out.h3 ?_
 refine wpK_load rfl 116 _ rfl g9 0 (by kernel_rfl) 5 df L9a.out _ Tryz.underlying116 rfl info116 ?_
 refine wpK_load rfl 116 _ rfl g9 0 (by kernel_rfl) 5 df L9a.out _ Tryz.underlying116 rfl info116 ?_
 refine wpK_call 93 #[.agg (arr 5 df), .agg (arr 5 df)] (.agg (arr 5 bb)) rfl (fun _ => by kernel_rfl) F.out.h4 ?_
 refine wpK_nil ?_
 intro W2 g10 g11 hb n1 n2 n3 r1 r2 a2 ha2
 simp [go_sem] at ha2
 subst ha2
 clear L8a L9a
 have lB := RB.lt
 have lX := RX.lt
 have l6 := R6.lt
 have l7 := R7.lt
 have l8 := R8.lt
 have l9 := R9.lt
 replace RB := RB.keep hb
 replace RX := RX.keep hb
 replace R6 := R6.keep hb
 replace R7 := R7.keep hb
 replace R8 := R8.keep hb
 replace R9 := R9.keep hb
 have lo := O.size
 replace O := O.trans (hb.mono O.size)
 clear hb
 replace r1 : Row W2 g10 116 5 (fun _ => 0) := r1
 replace r2 : Row W2 g11 116 5 (fun _ => 0) := r2
 have SB := hide ((RB.setOther (k := g10) (by omega) 0 (arr 5 aa).toList).setOther (k := g11) (by omega) 0 (arr 5 bb).toList)
 have SX := hide ((RX.setOther (k := g10) (by omega) 0 (arr 5 aa).toList).setOther (k := g11) (by omega) 0 (arr 5 bb).toList)
 have S6 := hide ((R6.setOther (k := g10) (by omega) 0 (arr 5 aa).toList).setOther (k := g11) (by omega) 0 (arr 5 bb).toList)
 have S7 := hide ((R7.setOther (k := g10) (by omega) 0 (arr 5 aa).toList).setOther (k := g11) (by omega) 0 (arr 5 bb).toList)
 have S8 := hide ((R8.setOther (k := g10) (by omega) 0 (arr 5 aa).toList).setOther (k := g11) (by omega) 0 (arr 5 bb).toList)
 have S9 := hide ((R9.setOther (k := g10) (by omega) 0 (arr 5 aa).toList).setOther (k := g11) (by omega) 0 (arr 5 bb).toList)
 have S10 := hide ((r1.setAll aa).setOther (k := g11) (by omega) 0 (arr 5 bb).toList)
 have S11 := hide ((r2.setOther (k := g10) (by omega) 0 (arr 5 aa).toList).setAll bb)
 have hth := hide (r2.setOther (k := g10) (by omega) 0 (arr 5 aa).toList)
 have SO := hide (below_setCells (g := g11) (by omega) (arr 5 bb).toList 0 (below_setCells (g := g10) (by omega) (arr 5 aa).toList 0 O))
 have hth1 := hide r1
 clear r1 r2 O RB RX R6 R7 R8 R9
 refine wpList_store_mid rfl 116 _ _ rfl g10 0 (arr 5 aa) rfl rfl (by rw [arr_size]; exact hth1.out.there) (inf41 _) (arr_one _ _) ?_
 rw [show ∀ (a : Act) (v : Value), a.put none v = a from fun _ _ => rfl]
 refine wpList_store_mid rfl 116 _ _ rfl g11 0 (arr 5 bb) rfl rfl (by rw [arr_size]; exact hth.out.there) (inf41 _) (arr_one _ _) ?_
 rw [show ∀ (a : Act) (v : Value), a.put none v = a from fun _ _ => rfl]
 go_wp2_with (first | (refine wpList_load_row rfl 116 _ rfl g10 rfl 116 (arr 5 aa) (0, 0) _ S10.out Tryz.underlying116 rfl (inf41 _) ?_) | (refine wpList_load_row rfl 116 _ rfl g11 rfl 116 (arr 5 bb) (0, 0) _ S11.out Tryz.underlying116 rfl (inf41 _) ?_))
 try rw [show ∀ (a : Act) (v : Value), a.put none v = a from fun _ _ => rfl]
 have RB := SB.out
 have RX := SX.out
 have R6 := S6.out
 have R7 := S7.out
 have R8 := S8.out
 have R9 := S9.out
 have R10 := S10.out
 have R11 := S11.out
 have O := SO.out
 clear hth1 SO hth SB SX S6 S7 S8 S9 S10 S11
 generalize ((W2.setCells g10 0 (arr 5 aa).toList).setCells g11 0 (arr 5 bb).toList) = V2 at *
 clear n1 lo n2 n3 lB lX l6 l7 l8 l9
 refine (F.out.h5 _).mono ?_
 rintro _ w3 ⟨rfl, hb⟩
 replace RB := RB.keep hb
 replace RX := RX.keep hb
 replace R6 := R6.keep hb
 replace R7 := R7.keep hb
 replace R8 := R8.keep hb
 replace R9 := R9.keep hb
 replace R10 := R10.keep hb
 replace R11 := R11.keep hb
 replace O := O.trans (hb.mono O.size)
 clear hb
 have RC : Row (w3.alloc (.cells #[Value.int IntKind.u64 0, Value.int IntKind.u64 0, Value.int IntKind.u64 0, Value.int IntKind.u64 0, Value.int IntKind.u64 0] 116)) w3.heap.size 116 5 (fun _ => 0) := Row.new w3 116 5 (fun _ => 0)
 have BB := below_setCells (g := w3.heap.size) (Nat.le_refl _) (arr 5 ee).toList 0 (new_below w3 (.cells #[Value.int IntKind.u64 0, Value.int IntKind.u64 0, Value.int IntKind.u64 0, Value.int IntKind.u64 0, Value.int IntKind.u64 0] 116))
 have SB := hide (RB.keep BB)
 have SX := hide (RX.keep BB)
 have S6 := hide (R6.keep BB)
 have S7 := hide (R7.keep BB)
 have S8 := hide (R8.keep BB)
 have S9 := hide (R9.keep BB)
 have S10 := hide (R10.keep BB)
 have S11 := hide (R11.keep BB)
 have S12 := hide (RC.setAll ee)
 have SO := hide (O.trans (BB.mono O.size))
 clear O BB RB RX R6 R7 R8 R9 R10 R11
 go_wp2_with (refine wpList_store_mid rfl 116 _ _ rfl w3.heap.size 0 (arr 5 ee) rfl rfl ?t3a (inf41 _) (arr_one _ _) ?_)
 case t3a => rw [arr_size]; exact RC.there
 try rw [show ∀ (a : Act) (v : Value), a.put none v = a from fun _ _ => rfl]
 clear RC
 have RB := SB.out
 have RX := SX.out
 have R6 := S6.out
 have R7 := S7.out
 have R8 := S8.out
 have R9 := S9.out
 have R10 := S10.out
 have R11 := S11.out
 have R12 := S12.out
 have O := SO.out
 clear SO SB SX S6 S7 S8 S9 S10 S11 S12
 generalize w3.heap.size = g12 at *
 generalize (w3.alloc (.cells #[Value.int IntKind.u64 0, Value.int IntKind.u64 0, Value.int IntKind.u64 0, Value.int IntKind.u64 0, Value.int IntKind.u64 0] 116)).setCells g12 0 (arr 5 ee).toList = V3b at *
 have LBx : Hid (∀ s : KW V3b, s.w.rangeAt (w.heap.size + 1) 0 (arr 5 bx).toList) := hide fun s => (RB.keep s.keep).px
 have LBz : Hid (∀ s : KW V3b, s.w.rangeAt (w.heap.size + 1) 5 (arr 5 bz).toList) := hide fun s => (RB.keep s.keep).pz
 have L8a : Hid (∀ s : KW V3b, s.w.rangeAt g8 0 (arr 5 sm).toList) := hide fun s => (R8.keep s.keep).all
 have L9a : Hid (∀ s : KW V3b, s.w.rangeAt g9 0 (arr 5 df).toList) := hide fun s => (R9.keep s.keep).all
 refine wp_region_keep_alloc2 (Z := .cells #[Value.int IntKind.u64 0, Value.int IntKind.u64 0, Value.int IntKind.u64 0, Value.int IntKind.u64 0, Value.int IntKind.u64 0] 116) (Y := .cells #[Value.int IntKind.u64 0, Value.int IntKind.u64 0, Value.int IntKind.u64 0, Value.int IntKind.u64 0, Value.int IntKind.u64 0] 116) 14 (by kernel_rfl) (by kernel_rfl) rfl rfl rfl rfl (fun _ _ => by kernel_rfl) (fun _ _ => by kernel_rfl) ?_
 simp only [List.take_succ_cons, List.take_zero]
 refine wpK_val (.pointer (some ⟨w.heap.size + 1, 0, none⟩)) rfl (fun _ => by kernel_rfl) ?_
 refine wpK_load rfl 116 _ rfl (w.heap.size + 1) 0 (by kernel_rfl) 5 bx LBx.out _ Tryz.underlying116 rfl info116 ?_
 refine wpK_val (.pointer (some ⟨w.heap.size + 1, 5, none⟩)) rfl (fun _ => by kernel_rfl) ?_
 refine wpK_load rfl 116 _ rfl (w.heap.size + 1) 5 (by kernel_rfl) 5 bz LBz.out _ Tryz.underlying116 rfl info116 ?_
 refine wpK_call 121 #[.agg (arr 5 bx), .agg (arr 5 bz)] (.agg (arr 5 u1)) rfl (fun _ => by kernel_rfl) F.out.h6 ?_
 refine wpK_load rfl 116 _ rfl g8 0 (by kernel_rfl) 5 sm L8a.out _ Tryz.underlying116 rfl info116 ?_
 refine wpK_call 93 #[.agg (arr 5 u1), .agg (arr 5 sm)] (.agg (arr 5 da)) rfl (fun _ => by kernel_rfl) F.out.h7 ?_
 refine wpK_val (.pointer (some ⟨w.heap.size + 1, 0, none⟩)) rfl (fun _ => by kernel_rfl) ?_
 refine wpK_load rfl 116 _ rfl (w.heap.size + 1) 0 (by kernel_rfl) 5 bx LBx.out _ Tryz.underlying116 rfl info116 ?_
 refine wpK_val (.pointer (some ⟨w.heap.size + 1, 5, none⟩)) rfl (fun _ => by kernel_rfl) ?_
 refine wpK_load rfl 116 _ rfl (w.heap.size + 1) 5 (by kernel_rfl) 5 bz LBz.out _ Tryz.underlying116 rfl info116 ?_
 refine wpK_call 120 #[.agg (arr 5 bx), .agg (arr 5 bz)] (.agg (arr 5 u2)) rfl (fun _ => by kernel_rfl) F.out.h8 ?_
 refine wpK_load rfl 116 _ rfl g9 0 (by kernel_rfl) 5 df L9a.out _ Tryz.underlying116 rfl info116 ?_
 refine wpK_call 93 #[.agg (arr 5 u2), .agg (arr 5 df)] (.agg (arr 5 cb)) rfl (fun _ => by kernel_rfl) F.out.h9 ?_
 clear RB R8 R9
 refine wpK_nil ?_
 intro W3 g13 g14 hb n1 n2 n3 r1 r2 a2 ha2
 simp [go_sem] at ha2
 subst ha2
 clear LBx LBz L8a L9a
 have lX := RX.lt
 have l6 := R6.lt
 have l7 := R7.lt
 have l10 := R10.lt
 have l11 := R11.lt
 have l12 := R12.lt
 replace RX := RX.keep hb
 replace R6 := R6.keep hb
 replace R7 := R7.keep hb
 replace R10 := R10.keep hb
 replace R11 := R11.keep hb
 replace R12 := R12.keep hb
 have lo := O.size
 replace O := O.trans (hb.mono O.size)
 clear hb
 replace r1 : Row W3 g13 116 5 (fun _ => 0) := r1
 replace r2 : Row W3 g14 116 5 (fun _ => 0) := r2
 have SX := hide ((RX.setOther (k := g13) (by omega) 0 (arr 5 da).toList).setOther (k := g14) (by omega) 0 (arr 5 cb).toList)
 have S6 := hide ((R6.setOther (k := g13) (by omega) 0 (arr 5 da).toList).setOther (k := g14) (by omega) 0 (arr 5 cb).toList)
 have S7 := hide ((R7.setOther (k := g13) (by omega) 0 (arr 5 da).toList).setOther (k := g14) (by omega) 0 (arr 5 cb).toList)
 have S10 := hide ((R10.setOther (k := g13) (by omega) 0 (arr 5 da).toList).setOther (k := g14) (by omega) 0 (arr 5 cb).toList)
 have S11 := hide ((R11.setOther (k := g13) (by omega) 0 (arr 5 da).toList).setOther (k := g14) (by omega) 0 (arr 5 cb).toList)
 have S12 := hide ((R12.setOther (k := g13) (by omega) 0 (arr 5 da).toList).setOther (k := g14) (by omega) 0 (arr 5 cb).toList)
 have S13 := hide ((r1.setAll da).setOther (k := g14) (by omega) 0 (arr 5 cb).toList)
 have S14 := hide ((r2.setOther (k := g13) (by omega) 0 (arr 5 da).toList).setAll cb)
 have hth := hide (r2.setOther (k := g13) (by omega) 0 (arr 5 da).toList)
 have SO := hide (below_setCells (g := g14) (by omega) (arr 5 cb).toList 0 (below_setCells (g := g13) (by omega) (arr 5 da).toList 0 O))
 have hth1 := hide r1
 clear r1 r2 O RX R6 R7 R10 R11 R12
 refine wpList_store_mid rfl 116 _ _ rfl g13 0 (arr 5 da) rfl rfl (by rw [arr_size]; exact hth1.out.there) (inf41 _) (arr_one _ _) ?_
 rw [show ∀ (a : Act) (v : Value), a.put none v = a from fun _ _ => rfl]
 refine wpList_store_mid rfl 116 _ _ rfl g14 0 (arr 5 cb) rfl rfl (by rw [arr_size]; exact hth.out.there) (inf41 _) (arr_one _ _) ?_
 rw [show ∀ (a : Act) (v : Value), a.put none v = a from fun _ _ => rfl]
 go_wp2_with fail
 try rw [show ∀ (a : Act) (v : Value), a.put none v = a from fun _ _ => rfl]
 have RX := SX.out
 have R6 := S6.out
 have R7 := S7.out
 have R10 := S10.out
 have R11 := S11.out
 have R12 := S12.out
 have R13 := S13.out
 have R14 := S14.out
 have O := SO.out
 clear hth1 SO hth SX S6 S7 S10 S11 S12 S13 S14
 generalize ((W3.setCells g13 0 (arr 5 da).toList).setCells g14 0 (arr 5 cb).toList) = V3 at *
 clear n1 lo n2 n3 lX l6 l7 l10 l11 l12
 have L13a : Hid (∀ s : KW V3, s.w.rangeAt g13 0 (arr 5 da).toList) := hide fun s => (R13.keep s.keep).all
 have L14a : Hid (∀ s : KW V3, s.w.rangeAt g14 0 (arr 5 cb).toList) := hide fun s => (R14.keep s.keep).all
 refine wp_region_keep_alloc2 (Z := .cells #[Value.int IntKind.u64 0, Value.int IntKind.u64 0, Value.int IntKind.u64 0, Value.int IntKind.u64 0, Value.int IntKind.u64 0] 116) (Y := .cells #[Value.int IntKind.u64 0, Value.int IntKind.u64 0, Value.int IntKind.u64 0, Value.int IntKind.u64 0, Value.int IntKind.u64 0] 116) 6 (by kernel_rfl) (by kernel_rfl) rfl rfl rfl rfl (fun _ _ => by kernel_rfl) (fun _ _ => by kernel_rfl) ?_
 simp only [List.take_succ_cons, List.take_zero]
 refine wpK_load rfl 116 _ rfl g13 0 (by kernel_rfl) 5 da L13a.out _ Tryz.underlying116 rfl info116 ?_
 refine wpK_load rfl 116 _ rfl g14 0 (by kernel_rfl) 5 cb L14a.out _ Tryz.underlying116 rfl info116 ?_
 refine wpK_call 120 #[.agg (arr 5 da), .agg (arr 5 cb)] (.agg (arr 5 ps)) rfl (fun _ => by kernel_rfl) F.out.h10 ?_
 refine wpK_load rfl 116 _ rfl g13 0 (by kernel_rfl) 5 da L13a.out _ Tryz.underlying116 rfl info116 ?_
 refine wpK_load rfl 116 _ rfl g14 0 (by kernel_rfl) 5 cb L14a.out _ Tryz.underlying116 rfl info116 ?_
 refine wpK_call 121 #[.agg (arr 5 da), .agg (arr 5 cb)] (.agg (arr 5 ms)) rfl (fun _ => by kernel_rfl) F.out.h11 ?_
 clear R13 R14
 refine wpK_nil ?_
 intro W4 g15 g16 hb n1 n2 n3 r1 r2 a2 ha2
 simp [go_sem] at ha2
 subst ha2
 clear L13a L14a
 have lX := RX.lt
 have l6 := R6.lt
 have l7 := R7.lt
 have l10 := R10.lt
 have l11 := R11.lt
 have l12 := R12.lt
 replace RX := RX.keep hb
 replace R6 := R6.keep hb
 replace R7 := R7.keep hb
 replace R10 := R10.keep hb
 replace R11 := R11.keep hb
 replace R12 := R12.keep hb
 have lo := O.size
 replace O := O.trans (hb.mono O.size)
 clear hb
 replace r1 : Row W4 g15 116 5 (fun _ => 0) := r1
 replace r2 : Row W4 g16 116 5 (fun _ => 0) := r2
 have SX := hide ((RX.setOther (k := g15) (by omega) 0 (arr 5 ps).toList).setOther (k := g16) (by omega) 0 (arr 5 ms).toList)
 have S6 := hide ((R6.setOther (k := g15) (by omega) 0 (arr 5 ps).toList).setOther (k := g16) (by omega) 0 (arr 5 ms).toList)
 have S7 := hide ((R7.setOther (k := g15) (by omega) 0 (arr 5 ps).toList).setOther (k := g16) (by omega) 0 (arr 5 ms).toList)
 have S10 := hide ((R10.setOther (k := g15) (by omega) 0 (arr 5 ps).toList).setOther (k := g16) (by omega) 0 (arr 5 ms).toList)
 have S11 := hide ((R11.setOther (k := g15) (by omega) 0 (arr 5 ps).toList).setOther (k := g16) (by omega) 0 (arr 5 ms).toList)
 have S12 := hide ((R12.setOther (k := g15) (by omega) 0 (arr 5 ps).toList).setOther (k := g16) (by omega) 0 (arr 5 ms).toList)
 have S15 := hide ((r1.setAll ps).setOther (k := g16) (by omega) 0 (arr 5 ms).toList)
 have S16 := hide ((r2.setOther (k := g15) (by omega) 0 (arr 5 ps).toList).setAll ms)
 have hth := hide (r2.setOther (k := g15) (by omega) 0 (arr 5 ps).toList)
 have SO := hide (below_setCells (g := g16) (by omega) (arr 5 ms).toList 0 (below_setCells (g := g15) (by omega) (arr 5 ps).toList 0 O))
 have hth1 := hide r1
 clear r1 r2 O RX R6 R7 R10 R11 R12
 refine wpList_store_mid rfl 116 _ _ rfl g15 0 (arr 5 ps) rfl rfl (by rw [arr_size]; exact hth1.out.there) (inf41 _) (arr_one _ _) ?_
 rw [show ∀ (a : Act) (v : Value), a.put none v = a from fun _ _ => rfl]
 refine wpList_store_mid rfl 116 _ _ rfl g16 0 (arr 5 ms) rfl rfl (by rw [arr_size]; exact hth.out.there) (inf41 _) (arr_one _ _) ?_
 rw [show ∀ (a : Act) (v : Value), a.put none v = a from fun _ _ => rfl]
 go_wp2_with fail
 try rw [show ∀ (a : Act) (v : Value), a.put none v = a from fun _ _ => rfl]
 have RX := SX.out
 have R6 := S6.out
 have R7 := S7.out
 have R10 := S10.out
 have R11 := S11.out
 have R12 := S12.out
 have R15 := S15.out
 have R16 := S16.out
 have O := SO.out
 clear hth1 SO hth SX S6 S7 S10 S11 S12 S15 S16
 generalize ((W4.setCells g15 0 (arr 5 ps).toList).setCells g16 0 (arr 5 ms).toList) = V4 at *
 clear n1 lo n2 n3 lX l6 l7 l10 l11 l12
 have L10a : Hid (∀ s : KW V4, s.w.rangeAt g10 0 (arr 5 aa).toList) := hide fun s => (R10.keep s.keep).all
 have L11a : Hid (∀ s : KW V4, s.w.rangeAt g11 0 (arr 5 bb).toList) := hide fun s => (R11.keep s.keep).all
 have L12a : Hid (∀ s : KW V4, s.w.rangeAt g12 0 (arr 5 ee).toList) := hide fun s => (R12.keep s.keep).all
 refine wp_region_keep_alloc (Z := .cells #[Value.int IntKind.u64 0, Value.int IntKind.u64 0, Value.int IntKind.u64 0, Value.int IntKind.u64 0, Value.int IntKind.u64 0, Value.int IntKind.u64 0, Value.int IntKind.u64 0, Value.int IntKind.u64 0, Value.int IntKind.u64 0, Value.int IntKind.u64 0] 135) 11 (by kernel_rfl) (by kernel_rfl) rfl rfl (fun _ _ => by kernel_rfl) ?_
 simp only [List.take_succ_cons, List.take_zero, List.drop_succ_cons, List.drop_zero]
 refine wpK_load rfl 116 _ rfl g10 0 (by kernel_rfl) 5 aa L10a.out _ Tryz.underlying116 rfl info116 ?_
 refine wpK_load rfl 116 _ rfl g11 0 (by kernel_rfl) 5 bb L11a.out _ Tryz.underlying116 rfl info116 ?_
 refine wpK_call 93 #[.agg (arr 5 aa), .agg (arr 5 bb)] (.agg (arr 5 dx)) rfl (fun _ => by kernel_rfl) F.out.h12 ?_
 refine wpK_load rfl 116 _ rfl g12 0 (by kernel_rfl) 5 ee L12a.out _ Tryz.underlying116 rfl info116 ?_
 refine wpK_load rfl 116 _ rfl g10 0 (by kernel_rfl) 5 aa L10a.out _ Tryz.underlying116 rfl info116 ?_
 refine wpK_call 75 #[.int .u32 121665] (.agg (arr 5 k1)) rfl (fun _ => by kernel_rfl) F.out.h13 ?_
 refine wpK_load rfl 116 _ rfl g12 0 (by kernel_rfl) 5 ee L12a.out _ Tryz.underlying116 rfl info116 ?_
 refine wpK_call 93 #[.agg (arr 5 k1), .agg (arr 5 ee)] (.agg (arr 5 k2)) rfl (fun _ => by kernel_rfl) F.out.h14 ?_
 refine wpK_call 120 #[.agg (arr 5 aa), .agg (arr 5 k2)] (.agg (arr 5 k3)) rfl (fun _ => by kernel_rfl) F.out.h15 ?_
 refine wpK_call 93 #[.agg (arr 5 ee), .agg (arr 5 k3)] (.agg (arr 5 dz)) rfl (fun _ => by kernel_rfl) F.out.h16 ?_
 refine wpK_val (.agg (arr 10 (pj dx dz))) rfl (fun _ => by kernel_rfl) ?_
 clear R10 R11 R12
 refine wpK_nil ?_
 intro W5 g17 hb n1 r1 a2 ha2
 simp [go_sem] at ha2
 subst ha2
 clear L10a L11a L12a
 have lX := RX.lt
 have l6 := R6.lt
 have l7 := R7.lt
 have l15 := R15.lt
 have l16 := R16.lt
 replace RX := RX.keep hb
 replace R6 := R6.keep hb
 replace R7 := R7.keep hb
 replace R15 := R15.keep hb
 replace R16 := R16.keep hb
 have lo := O.size
 replace O := O.trans (hb.mono O.size)
 clear hb
 replace r1 : Row W5 g17 135 10 (fun _ => 0) := r1
 have SX := hide (RX.setOther (k := g17) (by omega) 0 (arr 10 (pj dx dz)).toList)
 have S6 := hide (R6.setOther (k := g17) (by omega) 0 (arr 10 (pj dx dz)).toList)
 have S7 := hide (R7.setOther (k := g17) (by omega) 0 (arr 10 (pj dx dz)).toList)
 have S15 := hide (R15.setOther (k := g17) (by omega) 0 (arr 10 (pj dx dz)).toList)
 have S16 := hide (R16.setOther (k := g17) (by omega) 0 (arr 10 (pj dx dz)).toList)
 have S17 := hide (r1.setAll (pj dx dz))
 have SO := hide (below_setCells (g := g17) (by omega) (arr 10 (pj dx dz)).toList 0 O)
 have hth1 := hide r1
 clear r1 O RX R6 R7 R15 R16
 refine wpList_store_mid rfl 135 _ _ rfl g17 0 (arr 10 (pj dx dz)) rfl rfl (by rw [arr_size]; exact hth1.out.there) (inf54 _) (arr_one _ _) ?_
 rw [show ∀ (a : Act) (v : Value), a.put none v = a from fun _ _ => rfl]
 go_wp2_with fail
 try rw [show ∀ (a : Act) (v : Value), a.put none v = a from fun _ _ => rfl]
 have RX := SX.out
 have R6 := S6.out
 have R7 := S7.out
 have R15 := S15.out
 have R16 := S16.out
 have R17 := S17.out
 have O := SO.out
 clear hth1 SO SX S6 S7 S15 S16 S17
 generalize (W5.setCells g17 0 (arr 10 (pj dx dz)).toList) = V5 at *
 have d17 : w.heap.size + 1 + 1 + 1 + 1 < g17 := by omega
 clear n1 lo lX l6 l7 l15 l16
 have L15a : Hid (∀ s : KW V5, s.w.rangeAt g15 0 (arr 5 ps).toList) := hide fun s => (R15.keep s.keep).all
 have L16a : Hid (∀ s : KW V5, s.w.rangeAt g16 0 (arr 5 ms).toList) := hide fun s => (R16.keep s.keep).all
 have LXa : Hid (∀ s : KW V5, s.w.rangeAt (w.heap.size + 1 + 1) 0 (arr 5 xx).toList) := hide fun s => (RX.keep s.keep).all
 refine wp_region_keep_alloc (Z := .cells #[Value.int IntKind.u64 0, Value.int IntKind.u64 0, Value.int IntKind.u64 0, Value.int IntKind.u64 0, Value.int IntKind.u64 0, Value.int IntKind.u64 0, Value.int IntKind.u64 0, Value.int IntKind.u64 0, Value.int IntKind.u64 0, Value.int IntKind.u64 0] 135) 9 (by kernel_rfl) (by kernel_rfl) rfl rfl (fun _ _ => by kernel_rfl) ?_
 simp only [List.take_succ_cons, List.take_zero, List.drop_succ_cons, List.drop_zero]
 refine wpK_load rfl 116 _ rfl g15 0 (by kernel_rfl) 5 ps L15a.out _ Tryz.underlying116 rfl info116 ?_
 refine wpK_load rfl 116 _ rfl g15 0 (by kernel_rfl) 5 ps L15a.out _ Tryz.underlying116 rfl info116 ?_
 refine wpK_call 93 #[.agg (arr 5 ps), .agg (arr 5 ps)] (.agg (arr 5 px)) rfl (fun _ => by kernel_rfl) F.out.h17 ?_
 refine wpK_load rfl 116 _ rfl (w.heap.size + 1 + 1) 0 (by kernel_rfl) 5 xx LXa.out _ Tryz.underlying116 rfl info116 ?_
 refine wpK_load rfl 116 _ rfl g16 0 (by kernel_rfl) 5 ms L16a.out _ Tryz.underlying116 rfl info116 ?_
 refine wpK_load rfl 116 _ rfl g16 0 (by kernel_rfl) 5 ms L16a.out _ Tryz.underlying116 rfl info116 ?_
 refine wpK_call 93 #[.agg (arr 5 ms), .agg (arr 5 ms)] (.agg (arr 5 m2)) rfl (fun _ => by kernel_rfl) F.out.h18 ?_
 refine wpK_call 93 #[.agg (arr 5 xx), .agg (arr 5 m2)] (.agg (arr 5 pz)) rfl (fun _ => by kernel_rfl) F.out.h19 ?_
 refine wpK_val (.agg (arr 10 (pj px pz))) rfl (fun _ => by kernel_rfl) ?_
 clear R15 R16 RX
 refine wpK_nil ?_
 intro W6 g18 hb n1 r1 a2 ha2
 simp [go_sem] at ha2
 subst ha2
 clear L15a L16a LXa
 have l6 := R6.lt
 have l7 := R7.lt
 have l17 := R17.lt
 replace R6 := R6.keep hb
 replace R7 := R7.keep hb
 replace R17 := R17.keep hb
 have lo := O.size
 replace O := O.trans (hb.mono O.size)
 clear hb
 replace r1 : Row W6 g18 135 10 (fun _ => 0) := r1
 have S6 := hide (R6.setOther (k := g18) (by omega) 0 (arr 10 (pj px pz)).toList)
 have S7 := hide (R7.setOther (k := g18) (by omega) 0 (arr 10 (pj px pz)).toList)
 have S17 := hide (R17.setOther (k := g18) (by omega) 0 (arr 10 (pj px pz)).toList)
 have S18 := hide (r1.setAll (pj px pz))
 have SO := hide (below_setCells (g := g18) (by omega) (arr 10 (pj px pz)).toList 0 O)
 have hth1 := hide r1
 clear r1 O R6 R7 R17
 refine wpList_store_mid rfl 135 _ _ rfl g18 0 (arr 10 (pj px pz)) rfl rfl (by rw [arr_size]; exact hth1.out.there) (inf54 _) (arr_one _ _) ?_
 rw [show ∀ (a : Act) (v : Value), a.put none v = a from fun _ _ => rfl]
 go_wp2_with fail
 try rw [show ∀ (a : Act) (v : Value), a.put none v = a from fun _ _ => rfl]
 have R6 := S6.out
 have R7 := S7.out
 have R17 := S17.out
 have R18 := S18.out
 have O := SO.out
 clear hth1 SO S6 S7 S17 S18
 generalize (W6.setCells g18 0 (arr 10 (pj px pz)).toList) = V6 at *
 have d18 : w.heap.size + 1 + 1 + 1 + 1 < g18 := by omega
 clear n1 lo l6 l7 l17
 clear F
 generalize hfd : pj dx dz = fd at *
 generalize hfp : pj px pz = fp at *
 have HD := hide hfd
 have HP := hide hfp
 clear hfd hfp
 refine region_cut (fun a0 a' w' => a' = (a0.put (some 78) (.agg (arr 10 fd))).put (some 79) (.agg (arr 10 fp)) ∧ Row w' (w.heap.size + 1 + 1 + 1) 135 10 fd ∧ Row w' (w.heap.size + 1 + 1 + 1 + 1) 135 10 fp ∧ Below w.heap.size w w') (by kernel_rfl) ?_ ?_
 ·clear R17 R18 R6 R7 O
  rintro _ w9 ⟨rfl, R6, R7, O⟩
  go_simp
  go_wp2_with fail
  exact bodyPost_ret (v := .tuple #[.agg (arr 10 fd), .agg (arr 10 fp)]) (results_two Tryz.results92 _ _ (w.heap.size + 1 + 1 + 1) (w.heap.size + 1 + 1 + 1 + 1) 135 135 (arr 10 fd) (arr 10 fp) (0, 0) (0, 0) _ _ rfl rfl R6 R7 Tryz.underlying135 rfl (inf54 _) Tryz.underlying135 rfl (inf54 _)) rfl ⟨by rw [HD.out, HP.out], O⟩
 ·intro hrest
  replace R17 := rowD R17
  replace R18 := rowD R18
  replace R6 := rowD R6
  replace R7 := rowD R7
  replace O := O.drew
  generalize V6.drew = W0 at *
  refine wpAny_ready (rs := [0, 1]) (by kernel_rfl) (by simp) ?_
  refine ready_load rfl rfl 135 _ rfl g17 (by kernel_rfl) 135 (arr 10 fd) (0, 0) _ R17 Tryz.underlying135 rfl (inf54 _) ?_ ?_
  ·skip
   refine wpAny_ready (rs := [1, 2]) (by kernel_rfl) (by simp) ?_
   refine ready_load rfl rfl 135 _ rfl g18 (by kernel_rfl) 135 (arr 10 fp) (0, 0) _ R18 Tryz.underlying135 rfl (inf54 _) ?_ ?_
   ·skip
    refine wpAny_ready (rs := [2]) (by kernel_rfl) (by simp) ?_
    refine ready_put (f' := fd) R6 rfl rfl 135 _ _ rfl (by kernel_rfl) (by kernel_rfl) (inf54 _) ?_ ?_
    ·intro w201 R6 ho hu
     replace R17 := R17.at_ (ho g17 (by omega))
     replace R18 := R18.at_ (ho g18 (by omega))
     replace R7 := R7.at_ (ho (w.heap.size + 1 + 1 + 1 + 1) (by omega))
     replace O := hu _ _ (by omega) O
     clear ho hu
     refine wpAny_ready (rs := [3]) (by kernel_rfl) (by simp) ?_
     refine ready_put (f' := fp) R7 rfl rfl 135 _ _ rfl (by kernel_rfl) (by kernel_rfl) (inf54 _) ?_ ?_
     ·intro w202 R7 ho hu
      replace R6 := R6.at_ (ho (w.heap.size + 1 + 1 + 1) (by omega))
      replace O := hu _ _ (by omega) O
      clear ho hu
      exact wpAny_done (by kernel_rfl) (hrest _ _ ⟨by kernel_rfl, R6, R7, O⟩) _
     exact AllReady.nil
    exact AllReady.nil
   refine ready_put (f' := fd) R6 rfl rfl 135 _ _ rfl (by kernel_rfl) (by kernel_rfl) (inf54 _) ?_ ?_
   ·intro w203 R6 ho hu
    replace R17 := R17.at_ (ho g17 (by omega))
    replace R18 := R18.at_ (ho g18 (by omega))
    replace R7 := R7.at_ (ho (w.heap.size + 1 + 1 + 1 + 1) (by omega))
    replace O := hu _ _ (by omega) O
    clear ho hu
    refine wpAny_ready (rs := [1]) (by kernel_rfl) (by simp) ?_
    refine ready_load rfl rfl 135 _ rfl g18 (by kernel_rfl) 135 (arr 10 fp) (0, 0) _ R18 Tryz.underlying135 rfl (inf54 _) ?_ ?_
    ·skip
     refine wpAny_ready (rs := [3]) (by kernel_rfl) (by simp) ?_
     refine ready_put (f' := fp) R7 rfl rfl 135 _ _ rfl (by kernel_rfl) (by kernel_rfl) (inf54 _) ?_ ?_
     ·intro w204 R7 ho hu
      replace R6 := R6.at_ (ho (w.heap.size + 1 + 1 + 1) (by omega))
      replace O := hu _ _ (by omega) O
      clear ho hu
      exact wpAny_done (by kernel_rfl) (hrest _ _ ⟨by kernel_rfl, R6, R7, O⟩) _
     exact AllReady.nil
    exact AllReady.nil
   exact AllReady.nil
  refine ready_load rfl rfl 135 _ rfl g18 (by kernel_rfl) 135 (arr 10 fp) (0, 0) _ R18 Tryz.underlying135 rfl (inf54 _) ?_ ?_
  ·skip
   refine wpAny_ready (rs := [0]) (by kernel_rfl) (by simp) ?_
   refine ready_load rfl rfl 135 _ rfl g17 (by kernel_rfl) 135 (arr 10 fd) (0, 0) _ R17 Tryz.underlying135 rfl (inf54 _) ?_ ?_
   ·skip
    refine wpAny_ready (rs := [2]) (by kernel_rfl) (by simp) ?_
    refine ready_put (f' := fd) R6 rfl rfl 135 _ _ rfl (by kernel_rfl) (by kernel_rfl) (inf54 _) ?_ ?_
    ·intro w205 R6 ho hu
     replace R17 := R17.at_ (ho g17 (by omega))
     replace R18 := R18.at_ (ho g18 (by omega))
     replace R7 := R7.at_ (ho (w.heap.size + 1 + 1 + 1 + 1) (by omega))
     replace O := hu _ _ (by omega) O
     clear ho hu
     refine wpAny_ready (rs := [3]) (by kernel_rfl) (by simp) ?_
     refine ready_put (f' := fp) R7 rfl rfl 135 _ _ rfl (by kernel_rfl) (by kernel_rfl) (inf54 _) ?_ ?_
     ·intro w206 R7 ho hu
      replace R6 := R6.at_ (ho (w.heap.size + 1 + 1 + 1) (by omega))
      replace O := hu _ _ (by omega) O
      clear ho hu
      exact wpAny_done (by kernel_rfl) (hrest _ _ ⟨by kernel_rfl, R6, R7, O⟩) _
     exact AllReady.nil
    exact AllReady.nil
   exact AllReady.nil
  exact AllReady.nil
open Go.RowKit
structure St where
 dx : E5
 dz : E5
 px : E5
 pz : E5
def stepF (ax az bx bz x : E5) : St :=
 let sm := addF ax az
 let df := subF ax az
 let aa := mulF sm sm
 let bb := mulF df df
 let ee := subF aa bb
 let da := mulF (subF bx bz) sm
 let cb := mulF (addF bx bz) df
 let ps := addF da cb
 let ms := subF da cb
 ⟨mulF aa bb, mulF ee (addF aa (mulF (smallF 121665) ee)), mulF ps ps, mulF x (mulF ms ms)⟩
structure St.Ok (s : St) : Prop where
 dx : s.dx.Ok
 dz : s.dz.Ok
 px : s.px.Ok
 pz : s.pz.Ok
theorem stepF_ok {ax az bx bz x : E5} (h1 : ax.Ok) (h2 : az.Ok) (h3 : bx.Ok) (h4 : bz.Ok) (h5 : x.Ok) : (stepF ax az bx bz x).Ok := by
 have k1 := addF_ok h1 h2
 have k2 := subF_ok h1 h2
 have k3 := mulF_ok k1 k1
 have k4 := mulF_ok k2 k2
 have k5 := subF_ok k3 k4
 have k6 := mulF_ok (subF_ok h3 h4) k1
 have k7 := mulF_ok (addF_ok h3 h4) k2
 have k8 := addF_ok k6 k7
 have k9 := subF_ok k6 k7
 have k0 := smallF_ok (n := 121665) (by decide) (by decide)
 exact ⟨mulF_ok k3 k4, mulF_ok k5 (addF_ok k3 (mulF_ok k0 k5)), mulF_ok k8 k8, mulF_ok h5 (mulF_ok k9 k9)⟩
theorem step_any (ax az bx bz x : E5) (w : World) (h1 : ax.Ok) (h2 : az.Ok) (h3 : bx.Ok) (h4 : bz.Ok) (h5 : x.Ok) : Cs 92 #[.agg (arr 10 (pj ax.f az.f)), .agg (arr 10 (pj bx.f bz.f)), .agg (arr 5 x.f)] w (.tuple #[.agg (arr 10 (pj (stepF ax az bx bz x).dx.f (stepF ax az bx bz x).dz.f)), .agg (arr 10 (pj (stepF ax az bx bz x).px.f (stepF ax az bx bz x).pz.f))]) := by
 have k1 := addF_ok h1 h2
 have k2 := subF_ok h1 h2
 have k3 := mulF_ok k1 k1
 have k4 := mulF_ok k2 k2
 have k5 := subF_ok k3 k4
 have k6 := mulF_ok (subF_ok h3 h4) k1
 have k7 := mulF_ok (addF_ok h3 h4) k2
 have k8 := addF_ok k6 k7
 have k9 := subF_ok k6 k7
 have k0 := smallF_ok (n := 121665) (by decide) (by decide)
 have A : ∀ {p q : E5}, p.Ok → q.Ok → ∀ w, Cs 120 #[.agg (arr 5 p.f), .agg (arr 5 q.f)] w (.agg (arr 5 (addF p q).f)) := fun hp hq w => add_any _ _ w hp hq
 have B : ∀ {p q : E5}, p.Ok → q.Ok → ∀ w, Cs 121 #[.agg (arr 5 p.f), .agg (arr 5 q.f)] w (.agg (arr 5 (subF p q).f)) := fun hp hq w => sub_any _ _ w hp hq
 have M : ∀ {p q : E5}, p.Ok → q.Ok → ∀ w, Cs 93 #[.agg (arr 5 p.f), .agg (arr 5 q.f)] w (.agg (arr 5 (mulF p q).f)) := fun hp hq w => mul_any _ _ w hp hq
 have T : ∀ w, Cs 75 #[.int .u32 121665] w (.agg (arr 5 (smallF 121665).f)) := fun w => small_any 121665 w (by decide) (by decide)
 exact step_gen _ _ _ _ _ _ _ _ _ _ _ _ _ _ _ _ _ _ _ _ _ _ _ _ w ⟨A h1 h2, B h1 h2, M k1 k1, M k2 k2, B k3 k4, B h3 h4, M (subF_ok h3 h4) k1, A h3 h4, M (addF_ok h3 h4) k2, A k6 k7, B k6 k7, M k3 k4, M k0 k5, A k3 (mulF_ok k0 k5), M k5 (addF_ok k3 (mulF_ok k0 k5)), M k8 k8, M k9 k9, M h5 (mulF_ok k9 k9), T⟩
theorem and1u {x : Int} (h0 : 0 ≤ x) (h1 : x < 256) : bits .and .u8 x 1 = x % 2 := by
 obtain ⟨X, rfl⟩ := Int.eq_ofNat_of_zero_le h0
 have hX : X < 256 := by omega
 have h : ∀ n : Fin 256, bits .and .u8 ((n.val : Nat) : Int) 1 = ((n.val : Nat) : Int) % 2 := by decide +kernel
 exact h ⟨X, hX⟩
def bit (s : ByteArray) (i : Nat) : Int := bt s (i / 8) / 2 ^ (i % 8) % 2
theorem bit_two (s : ByteArray) (i : Nat) : bit s i = 0 ∨ bit s i = 1 := by unfold bit; omega
theorem bitAt_any (s : ByteArray) (p : Nat) (w : World) (hs : p < 8 * s.size) (hp : p < 255) : Cs 91 #[.string s, .int .i64 (p : Int)] w (.int .i64 (bit s p)) := by
 have a1 : (0 : Int) ≤ (p : Int) / 8 := by omega
 have a2 : (p : Int) / 8 < (s.size : Int) := by omega
 have a4 : p / 8 < s.size := by omega
 have a5 := bt_at s (p / 8) a4
 have a6 := bt_bd s (p / 8)
 have HB := hide (show bit s p = bt s (p / 8) / 2 ^ (p % 8) % 2 from rfl)
 rcases (show p % 8 = 0 ∨ p % 8 = 1 ∨ p % 8 = 2 ∨ p % 8 = 3 ∨ p % 8 = 4 ∨ p % 8 = 5 ∨ p % 8 = 6 ∨ p % 8 = 7 by omega) with h8 | h8 | h8 | h8 | h8 | h8 | h8 | h8
 ·have a3 : (p : Int) % 8 = 0 := by omega
  have eb : bits BinOp.and IntKind.u8 (bt s (p / 8)) 1 = bt s (p / 8) % 2 := and1u (by omega) (by omega)
  have HV := hide (show bit s p = bt s (p / 8) % 2 by rw [HB.out, h8]; simp)
  clear h8 HB
  go_enter Tryz.func91, Tryz.ntmps91
  go_wp2
  go_ret
  exact ⟨by rw [HV.out]; rfl, Below.refl _ _⟩
 ·have a3 : (p : Int) % 8 = 1 := by omega
  have eb : bits BinOp.and IntKind.u8 (bt s (p / 8) / 2) 1 = bt s (p / 8) / 2 % 2 := and1u (by omega) (by omega)
  have HV := hide (show bit s p = bt s (p / 8) / 2 % 2 by rw [HB.out, h8]; simp)
  clear h8 HB
  go_enter Tryz.func91, Tryz.ntmps91
  go_wp2
  go_ret
  exact ⟨by rw [HV.out]; rfl, Below.refl _ _⟩
 ·have a3 : (p : Int) % 8 = 2 := by omega
  have eb : bits BinOp.and IntKind.u8 (bt s (p / 8) / 4) 1 = bt s (p / 8) / 4 % 2 := and1u (by omega) (by omega)
  have HV := hide (show bit s p = bt s (p / 8) / 4 % 2 by rw [HB.out, h8]; simp)
  clear h8 HB
  go_enter Tryz.func91, Tryz.ntmps91
  go_wp2
  go_ret
  exact ⟨by rw [HV.out]; rfl, Below.refl _ _⟩
 ·have a3 : (p : Int) % 8 = 3 := by omega
  have eb : bits BinOp.and IntKind.u8 (bt s (p / 8) / 8) 1 = bt s (p / 8) / 8 % 2 := and1u (by omega) (by omega)
  have HV := hide (show bit s p = bt s (p / 8) / 8 % 2 by rw [HB.out, h8]; simp)
  clear h8 HB
  go_enter Tryz.func91, Tryz.ntmps91
  go_wp2
  go_ret
  exact ⟨by rw [HV.out]; rfl, Below.refl _ _⟩
 ·have a3 : (p : Int) % 8 = 4 := by omega
  have eb : bits BinOp.and IntKind.u8 (bt s (p / 8) / 16) 1 = bt s (p / 8) / 16 % 2 := and1u (by omega) (by omega)
  have HV := hide (show bit s p = bt s (p / 8) / 16 % 2 by rw [HB.out, h8]; simp)
  clear h8 HB
  go_enter Tryz.func91, Tryz.ntmps91
  go_wp2
  go_ret
  exact ⟨by rw [HV.out]; rfl, Below.refl _ _⟩
 ·have a3 : (p : Int) % 8 = 5 := by omega
  have eb : bits BinOp.and IntKind.u8 (bt s (p / 8) / 32) 1 = bt s (p / 8) / 32 % 2 := and1u (by omega) (by omega)
  have HV := hide (show bit s p = bt s (p / 8) / 32 % 2 by rw [HB.out, h8]; simp)
  clear h8 HB
  go_enter Tryz.func91, Tryz.ntmps91
  go_wp2
  go_ret
  exact ⟨by rw [HV.out]; rfl, Below.refl _ _⟩
 ·have a3 : (p : Int) % 8 = 6 := by omega
  have eb : bits BinOp.and IntKind.u8 (bt s (p / 8) / 64) 1 = bt s (p / 8) / 64 % 2 := and1u (by omega) (by omega)
  have HV := hide (show bit s p = bt s (p / 8) / 64 % 2 by rw [HB.out, h8]; simp)
  clear h8 HB
  go_enter Tryz.func91, Tryz.ntmps91
  go_wp2
  go_ret
  exact ⟨by rw [HV.out]; rfl, Below.refl _ _⟩
 ·have a3 : (p : Int) % 8 = 7 := by omega
  have eb : bits BinOp.and IntKind.u8 (bt s (p / 8) / 128) 1 = bt s (p / 8) / 128 % 2 := and1u (by omega) (by omega)
  have HV := hide (show bit s p = bt s (p / 8) / 128 % 2 by rw [HB.out, h8]; simp)
  clear h8 HB
  go_enter Tryz.func91, Tryz.ntmps91
  go_wp2
  go_ret
  exact ⟨by rw [HV.out]; rfl, Below.refl _ _⟩
open Go.RowKit
section
variable {P : Program} {ops : Array Oper} {rest : List Oper} {o : Oper} {a : Act} {w : World} {Q : Exit → Act → World → Prop}
theorem wpList_to (hg : o.guard = none) (v : Value) (w' : World) (hrun : (execOp a.eval o).run P w = .ok (.value v) w')
  (h : wpList P ops Q rest (a.put o.dst v) w') : wpList P ops Q (o :: rest) a w :=
 wpList_plain hg fun _ hK => by
  unfold Oper.wp
  rw [hrun]
  exact hK _ _ h
theorem wpList_value (hg : o.guard = none) (v : Value) (hrun : ∀ w, (execOp a.eval o).run P w = .ok (.value v) w)
  (h : wpList P ops Q rest (a.put o.dst v) w) : wpList P ops Q (o :: rest) a w := wpList_to hg v w (hrun w) h
theorem wpList_new (hg : o.guard = none) (v : Nat → Value) (Z : Obj) (hrun : ∀ w, (execOp a.eval o).run P w = .ok (.value (v w.heap.size)) (w.alloc Z))
  (h : ∀ g w', w'.heap[g]? = some Z → w.heap.size ≤ g → Below w.heap.size w w' → wpList P ops Q rest (a.put o.dst (v g)) w') : wpList P ops Q (o :: rest) a w :=
 wpList_to hg _ _ (hrun w) (h w.heap.size (w.alloc Z) (heap_alloc_new w Z) (Nat.le_refl _) (new_below w Z))
theorem wpList_call (hg : o.guard = none) (f : FuncId) (args : Array Value) (v : Value) (hrun : ∀ w, (execOp a.eval o).run P w = .ok (.enter f args) w)
  (hc : ∀ w, Calls P f args w fun e w' => e = .returned v ∧ Below w.heap.size w w') (h : ∀ w', Below w.heap.size w w' → wpList P ops Q rest (a.put o.dst v) w') : wpList P ops Q (o :: rest) a w :=
 wpList_plain hg fun _ hK => by
  unfold Oper.wp
  rw [hrun]
  exact (hc w).mono fun e w' ⟨he, hb⟩ => by subst he; exact hK _ _ (h w' hb)
theorem wpList_part (hg : o.guard = none) (ty : TypeId) (x : Operand) (ho : o.op = .load ty x) (g off : Nat) (hx : a.eval x = .pointer (some ⟨g, off, none⟩)) (k : Nat) (f : Nat → Int)
  (hr : w.rangeAt g off (arr k f).toList) (d : TypeDesc) (hu : P.underlying ty = some d) (hd : d.isRow = true) (hi : (P.info? ty).map (·.size) = some k)
  (h : wpList P ops Q rest (a.put o.dst (.agg (arr k f))) w) : wpList P ops Q (o :: rest) a w :=
 wpList_load_mid hg ty x ho g off hx (arr k f).toList d hr hu hd (by rw [hi]; simp [arr_size]) (by simpa using h)
theorem wpList_put (hg : o.guard = none) {b T n : Nat} {f : Nat → Int} (R : Row w b T n f) (f' : Nat → Int) (ty : TypeId) (x y : Operand) (hop : o.op = .store ty x y)
  (hx : a.eval x = .pointer (some ⟨b, 0, none⟩)) (hy : a.eval y = .agg (arr n f')) (hi : (P.info? ty).map (·.size) = some n)
  (h : ∀ w', Row w' b T n f' → (∀ k, k ≠ b → w'.heap[k]? = w.heap[k]?) → (∀ B u, B ≤ b → Below B u w → Below B u w') → wpList P ops Q rest (a.put o.dst undef) w') : wpList P ops Q (o :: rest) a w :=
 wpList_store_mid hg ty x y hop b 0 (arr n f') hx hy (by rw [arr_size]; exact R.there) (by rw [hi, arr_size]) (arr_one _ _) (h _ (R.setAll f') (fun k hk => heap_setCells_other b k hk _ _ _) (fun B u hB hu => below_setCells hB _ 0 hu))
end
open Go.RowKit
theorem setAll_arr (cs : Array Value) (o n : Nat) (f : Nat → Int) (N : Nat) (F : Nat → Int) (hcs : cs = arr N F) (h : o + n ≤ N) : setAll cs o (arr n f).toList = arr N (fun i => if o ≤ i ∧ i < o + n then f (i - o) else F i) := by
 subst hcs
 apply Array.ext_getElem?
 intro i
 rw [setAll_get _ _ _ _ (by simp [arr_size]; omega)]
 have hl : (arr n f).toList.length = n := by simp [arr_size]
 rw [hl]
 by_cases hi : i < N
 ·by_cases h1 : o ≤ i ∧ i < o + n
  ·rw [if_pos h1, Array.getElem?_toList, arr_get n f (i - o) (by omega), arr_get N _ i hi, if_pos h1]
  ·rw [if_neg h1, arr_get N F i hi, arr_get N (fun i => if o ≤ i ∧ i < o + n then f (i - o) else F i) i hi, if_neg h1]
 ·rw [if_neg (by omega), Array.getElem?_eq_none (by rw [arr_size]; omega), Array.getElem?_eq_none (by rw [arr_size]; omega)]
theorem Row.mid {W : World} {g : Nat} {T : TypeId} {N : Nat} {F : Nat → Int} (h : Row W g T N F) (o n : Nat) (f : Nat → Int) (hon : o + n ≤ N) : Row (W.setCells g o (arr n f).toList) g T N (fun i => if o ≤ i ∧ i < o + n then f (i - o) else F i) := by
 unfold Row
 rw [heap_setCells g T _ W (arr N F) o h, setAll_arr _ o n f N F rfl hon]
theorem Row.thereAt {W : World} {g : Nat} {T : TypeId} {N : Nat} {F : Nat → Int} (h : Row W g T N F) (o n : Nat) (hon : o + n ≤ N) : W.there g o n := fun j hj => by
 rw [h.cell (i := o + j) (by omega)]
 exact ⟨rfl, h.free _⟩
section
variable {P : Program} {ops : Array Oper} {md : Region.Mode} {Q : Exit → Act → World → Prop}
theorem ready_part {fuel : Nat} {listed : Array Bool} {a : Act} {w : World} {i : Nat} {o : Oper} {rs : List Nat} (ho : ops[i]? = some o) (hgd : o.guard = none) (ty : TypeId) (x : Operand) (hop : o.op = .load ty x) (g off : Nat) (hx : a.eval x = .pointer (some ⟨g, off, none⟩)) (k : Nat) (f : Nat → Int)
  (hr : w.rangeAt g off (arr k f).toList) (d : TypeDesc) (hu : P.underlying ty = some d) (hd : d.isRow = true) (hi : (P.info? ty).map (·.size) = some k)
  (h : wpAny P md ops Q fuel (listed.setIfInBounds i true) (a.put o.dst (.agg (arr k f))) w) (hs : AllReady P md ops Q fuel listed a w rs) : AllReady P md ops Q fuel listed a w (i :: rs) :=
 ready_step ho hgd (wp_load_mid ty x hop g off hx (arr k f).toList d hr hu hd (by rw [hi]; simp [arr_size]) (by simpa using h)) hs
theorem ready_puts {fuel : Nat} {listed : Array Bool} {a : Act} {w : World} {i : Nat} {o : Oper} {rs : List Nat} {b T N : Nat} {F : Nat → Int} (R : Row w b T N F) (off n : Nat) (f : Nat → Int) (hon : off + n ≤ N) (ho : ops[i]? = some o) (hgd : o.guard = none) (ty : TypeId) (x y : Operand) (hop : o.op = .store ty x y)
  (hx : a.eval x = .pointer (some ⟨b, off, none⟩)) (hy : a.eval y = .agg (arr n f)) (hi : (P.info? ty).map (·.size) = some (arr n f).size)
  (h : ∀ w', Row w' b T N (fun i => if off ≤ i ∧ i < off + n then f (i - off) else F i) → (∀ k, k ≠ b → w'.heap[k]? = w.heap[k]?) → (∀ B u, B ≤ b → Below B u w → Below B u w') → wpAny P md ops Q fuel (listed.setIfInBounds i true) (a.put o.dst undef) w') (hs : AllReady P md ops Q fuel listed a w rs) : AllReady P md ops Q fuel listed a w (i :: rs) :=
 ready_store ho hgd ty x y hop b off (arr n f) hx hy (by rw [arr_size]; exact R.thereAt off n hon) hi (arr_one _ _) (h _ (R.mid off n f hon) (fun k hk => heap_setCells_other b k hk _ _ _) (fun B u hB hu => below_setCells hB _ off hu)) hs
end
theorem quiet_part {P : Program} {C : World → Prop} {o : Oper} {a : Act} {K : Act → Prop} (ty : TypeId) (x : Operand) (ho : o.op = .load ty x) (g off : Nat) (hx : a.eval x = .pointer (some ⟨g, off, none⟩)) (k : Nat) (f : Nat → Int)
  (hr : ∀ w, C w → w.rangeAt g off (arr k f).toList) (d : TypeDesc) (hu : P.underlying ty = some d) (hd : d.isRow = true) (hi : (P.info? ty).map (·.size) = some k) (hk : K (a.put o.dst (.agg (arr k f)))) : o.quiet P a C K := by
 refine ⟨.agg (arr k f), fun w hw => ?_, hk⟩
 unfold Oper.quietAt execOp
 have hl := run_loadAt_mid (P := P) w g off ty (arr k f).toList d (hr w hw) hu hd (by rw [hi]; simp [arr_size])
 simp only [ho, hx, Sem.run_bind, hl, Result.andThen_ok, Sem.run_pure]
 exact ⟨rfl, by simp⟩
def ladF (s : ByteArray) (x : E5) : Nat → St
 | 0 => ⟨smallF 1, zeroE, x, smallF 1⟩
 | k + 1 => if bit s (254 - k) = 0 then stepF (ladF s x k).dx (ladF s x k).dz (ladF s x k).px (ladF s x k).pz x
  else ⟨(stepF (ladF s x k).px (ladF s x k).pz (ladF s x k).dx (ladF s x k).dz x).px, (stepF (ladF s x k).px (ladF s x k).pz (ladF s x k).dx (ladF s x k).dz x).pz, (stepF (ladF s x k).px (ladF s x k).pz (ladF s x k).dx (ladF s x k).dz x).dx, (stepF (ladF s x k).px (ladF s x k).pz (ladF s x k).dx (ladF s x k).dz x).dz⟩
theorem ladF_ok (s : ByteArray) {x : E5} (hx : x.Ok) : ∀ k, (ladF s x k).Ok
 | 0 => ⟨smallF_ok (by decide) (by decide), zeroE_ok, hx, smallF_ok (by decide) (by decide)⟩
 | k + 1 => by
  have ih := ladF_ok s hx k
  unfold ladF
  by_cases h : bit s (254 - k) = 0
  ·rw [if_pos h]
   exact stepF_ok ih.dx ih.dz ih.px ih.pz hx
  ·rw [if_neg h]
   have := stepF_ok ih.px ih.pz ih.dx ih.dz hx
   exact ⟨this.px, this.pz, this.dx, this.dz⟩
theorem info136 : (Tryz.prog.info? 136).map (·.size) = some 20 := by kernel_rfl
def qj (p q : Nat → Int) : Nat → Int := fun i => if i < 10 then p i else q (i - 10)
def qs (l : St) : Nat → Int := qj (pj l.dx.f l.dz.f) (pj l.px.f l.pz.f)
theorem Row.q0 {W : World} {g : Nat} {p q : Nat → Int} (h : Row W g 136 20 (qj p q)) : W.rangeAt g 0 (arr 10 p).toList :=
 h.range 0 10 p (by omega) fun i hi => by simp [qj, hi]
theorem Row.q1 {W : World} {g : Nat} {p q : Nat → Int} (h : Row W g 136 20 (qj p q)) : W.rangeAt g 10 (arr 10 q).toList :=
 h.range 10 10 q (by omega) fun i hi => by
  unfold qj
  rw [if_neg (by omega), show 10 + i - 10 = i by omega]
theorem Row.q0x {W : World} {g : Nat} {x z q : Nat → Int} (h : Row W g 136 20 (qj (pj x z) q)) : W.rangeAt g 0 (arr 5 x).toList :=
 h.range 0 5 x (by omega) fun i hi => by
  unfold qj pj
  rw [if_pos (by omega), if_pos (by omega), Nat.zero_add]
theorem Row.q0z {W : World} {g : Nat} {x z q : Nat → Int} (h : Row W g 136 20 (qj (pj x z) q)) : W.rangeAt g 5 (arr 5 z).toList :=
 h.range 5 5 z (by omega) fun i hi => by
  unfold qj pj
  rw [if_pos (by omega), if_neg (by omega), show 5 + i - 5 = i by omega]
theorem qj01 (p q d b : Nat → Int) (i : Nat) (hi : i < 20) : (if 10 ≤ i ∧ i < 10 + 10 then b (i - 10) else if 0 ≤ i ∧ i < 0 + 10 then d (i - 0) else qj p q i) = qj d b i := by
 unfold qj
 by_cases h : i < 10
 ·rw [if_neg (by omega), if_pos (by omega), if_pos h, Nat.sub_zero]
 ·rw [if_pos (by omega), if_neg h]
theorem qj10 (p q d b : Nat → Int) (i : Nat) (hi : i < 20) : (if 0 ≤ i ∧ i < 0 + 10 then b (i - 0) else if 10 ≤ i ∧ i < 10 + 10 then d (i - 10) else qj p q i) = qj b d i := by
 unfold qj
 by_cases h : i < 10
 ·rw [if_pos (by omega), if_pos h, Nat.sub_zero]
 ·rw [if_neg (by omega), if_pos (by omega), if_neg h]
theorem times_any (s : ByteArray) (e : E5) (w : World) (hs : s.size = 32) (hx : e.Ok) : Cs 68 #[.string s, .agg (arr 5 e.f)] w (.agg (arr 5 (mulF (ladF s e 255).dx (invF (ladF s e 255).dz)).f)) := by
 have HS : Hid (∀ w, Cs 75 #[.int .u32 1] w (.agg (arr 5 (smallF 1).f))) := hide fun w => small_any 1 w (by decide) (by decide)
 have RX : Row ((w.alloc (.cells (arr 5 e.f) 116)).alloc (.cells #[Value.int IntKind.u64 0, Value.int IntKind.u64 0, Value.int IntKind.u64 0, Value.int IntKind.u64 0, Value.int IntKind.u64 0] 116)) w.heap.size 116 5 e.f := (Row.new w 116 5 _).alloc _
 have RZ : Row ((w.alloc (.cells (arr 5 e.f) 116)).alloc (.cells #[Value.int IntKind.u64 0, Value.int IntKind.u64 0, Value.int IntKind.u64 0, Value.int IntKind.u64 0, Value.int IntKind.u64 0] 116)) (w.heap.size + 1) 116 5 (fun _ => 0) := Row.new' _ 116 5 (fun _ => 0) (by simp)
 have O : Below w.heap.size w ((w.alloc (.cells (arr 5 e.f) 116)).alloc (.cells #[Value.int IntKind.u64 0, Value.int IntKind.u64 0, Value.int IntKind.u64 0, Value.int IntKind.u64 0, Value.int IntKind.u64 0] 116)) := ((Below.refl _ _).alloc (Nat.le_refl _) _).alloc (by simp) _
 have HQ : Hid (qj (pj (smallF 1).f (fun _ => 0)) (pj e.f (smallF 1).f) = qs (ladF s e 0)) := hide (by
  have e0 : zeroE.f = fun _ => 0 := by
   funext i
   unfold E5.f zeroE
   match i with
   | 0 => rfl
   | 1 => rfl
   | 2 => rfl
   | 3 => rfl
   | 4 => rfl
   | n + 5 => rfl
  show _ = qj (pj (smallF 1).f zeroE.f) (pj e.f (smallF 1).f)
  rw [e0])
 have HE := hide (fun k => ladF_ok s hx k)
 generalize hxf : e.f = x at *
 have HX := hide hxf
 clear hxf
 generalize hone : (smallF 1).f = one at *
 clear hone
 go_enter Tryz.func68, Tryz.ntmps68
 go_upto_region 1 with fail
 generalize ((w.alloc (.cells (arr 5 x) 116)).alloc (.cells #[Value.int IntKind.u64 0, Value.int IntKind.u64 0, Value.int IntKind.u64 0, Value.int IntKind.u64 0, Value.int IntKind.u64 0] 116)) = W0 at *
 refine wp_region_lit ?_
 refine wpList_call rfl 75 #[.int .u32 1] (.agg (arr 5 one)) (fun _ => by kernel_rfl) HS.out ?_
 intro w1 hb
 replace RX := RX.keep hb
 replace RZ := RZ.keep hb
 replace O := O.trans (hb.mono O.size)
 clear hb HS
 refine wpList_new rfl (fun g => .pointer (some ⟨g, 0, none⟩)) (.cells #[Value.int IntKind.u64 0, Value.int IntKind.u64 0, Value.int IntKind.u64 0, Value.int IntKind.u64 0, Value.int IntKind.u64 0] 116) (fun _ => by kernel_rfl) ?_
 intro g5 w2 R5 n5 hb
 replace R5 : Row w2 g5 116 5 (fun _ => 0) := R5
 have lx := RX.lt
 have lz := RZ.lt
 replace RX := RX.keep hb
 replace RZ := RZ.keep hb
 have lo := O.size
 replace O := O.trans (hb.mono O.size)
 clear hb
 refine wpList_put rfl R5 one 116 _ _ rfl (by kernel_rfl) (by kernel_rfl) info116 ?_
 intro w3 R5 ho hu
 replace RX := RX.at_ (ho _ (by omega))
 replace RZ := RZ.at_ (ho _ (by omega))
 replace O := hu _ _ (by omega) O
 clear ho hu lx lz lo n5
 refine wpList_nil ?_
 go_simp
 go_upto_region 2 with fail
 refine wp_region_lit ?_
 refine wpList_part rfl 116 _ rfl g5 0 (by kernel_rfl) 5 one R5.all _ Tryz.underlying116 rfl info116 ?_
 refine wpList_value rfl (.agg (arr 10 (pj one fun _ => 0))) (fun _ => by kernel_rfl) ?_
 refine wpList_part rfl 116 _ rfl w.heap.size 0 (by kernel_rfl) 5 x RX.all _ Tryz.underlying116 rfl info116 ?_
 refine wpList_part rfl 116 _ rfl g5 0 (by kernel_rfl) 5 one R5.all _ Tryz.underlying116 rfl info116 ?_
 refine wpList_value rfl (.agg (arr 10 (pj x one))) (fun _ => by kernel_rfl) ?_
 refine wpList_value rfl (.agg (arr 20 (qj (pj one fun _ => 0) (pj x one)))) (fun _ => by kernel_rfl) ?_
 refine wpList_new rfl (fun g => .pointer (some ⟨g, 0, none⟩)) (.cells #[Value.int IntKind.u64 0, Value.int IntKind.u64 0, Value.int IntKind.u64 0, Value.int IntKind.u64 0, Value.int IntKind.u64 0, Value.int IntKind.u64 0, Value.int IntKind.u64 0, Value.int IntKind.u64 0, Value.int IntKind.u64 0, Value.int IntKind.u64 0, Value.int IntKind.u64 0, Value.int IntKind.u64 0, Value.int IntKind.u64 0, Value.int IntKind.u64 0, Value.int IntKind.u64 0, Value.int IntKind.u64 0, Value.int IntKind.u64 0, Value.int IntKind.u64 0, Value.int IntKind.u64 0, Value.int IntKind.u64 0] 136) (fun _ => by kernel_rfl) ?_
 intro gp w4 RP n5 hb
 replace RP : Row w4 gp 136 20 (fun _ => 0) := RP
 have lx := RX.lt
 have lz := RZ.lt
 have hxp : w.heap.size ≠ gp := by omega
 have hzp : w.heap.size + 1 ≠ gp := by omega
 have hle : w.heap.size ≤ gp := by have := O.size; omega
 replace RX := RX.keep hb
 replace RZ := RZ.keep hb
 replace O := O.trans (hb.mono O.size)
 clear hb lx lz n5 R5
 refine wpList_put rfl RP (qj (pj one fun _ => 0) (pj x one)) 136 _ _ rfl (by kernel_rfl) (by kernel_rfl) info136 ?_
 intro w5 RP ho hu
 replace RX := RX.at_ (ho _ hxp)
 replace RZ := RZ.at_ (ho _ hzp)
 replace O := hu _ _ hle O
 clear ho hu
 rw [HQ.out] at RP
 refine wpList_nil ?_
 go_simp
 go_wp2_with fail
 go_loopw [16] (fun v wr => ∃ k : Nat, k ≤ 255 ∧ v = .int .i64 k ∧ Row wr w.heap.size 116 5 x ∧ Row wr (w.heap.size + 1) 116 5 (fun _ => 0) ∧ Row wr gp 136 20 (qs (ladF s e k)) ∧ Below w.heap.size w wr) (fun v _ => 255 - (intOf v).toNat)
 case atStart => exact ⟨0, by omega, rfl, RX, RZ, RP, O⟩
 case round =>
  clear RX RZ RP O HQ
  obtain ⟨k, hk, rfl, RX, RZ, RP, O⟩ := hrel
  by_cases hlt : k < 255
  ·have HBT : Hid (∀ w, Cs 91 #[.string s, .int .i64 (254 - (k : Int))] w (.int .i64 (bit s (254 - k)))) := hide fun w => by
    have h := bitAt_any s (254 - k) w (by omega) (by omega)
    rwa [show ((254 - k : Nat) : Int) = 254 - (k : Int) by omega] at h
   have i1 : (0 : Int) ≤ (k : Int) := by omega
   have i2 : (k : Int) < 255 := by omega
   have HL := hide (HE.out k)
   have HN : Hid (ladF s e (k + 1) = if bit s (254 - k) = 0 then stepF (ladF s e k).dx (ladF s e k).dz (ladF s e k).px (ladF s e k).pz e
    else ⟨(stepF (ladF s e k).px (ladF s e k).pz (ladF s e k).dx (ladF s e k).dz e).px, (stepF (ladF s e k).px (ladF s e k).pz (ladF s e k).dx (ladF s e k).dz e).pz, (stepF (ladF s e k).px (ladF s e k).pz (ladF s e k).dx (ladF s e k).dz e).dx, (stepF (ladF s e k).px (ladF s e k).pz (ladF s e k).dx (ladF s e k).dz e).dz⟩) := hide rfl
   unfold qs at RP
   generalize ladF s e k = l at *
   go_wp2_with fail
   refine (HBT.out _).mono ?_
   rintro _ w6 ⟨rfl, hb⟩
   replace RX := RX.keep hb
   replace RZ := RZ.keep hb
   replace RP := RP.keep hb
   replace O := O.trans (hb.mono O.size)
   clear hb HBT
   rcases bit_two s (254 - k) with hbit | hbit
   ·rw [hbit] at HN ⊢
    have HT : Hid (qs (ladF s e (k + 1)) = qj (pj (stepF l.dx l.dz l.px l.pz e).dx.f (stepF l.dx l.dz l.px l.pz e).dz.f) (pj (stepF l.dx l.dz l.px l.pz e).px.f (stepF l.dx l.dz l.px l.pz e).pz.f)) := hide (by rw [HN.out]; rfl)
    have HC : Hid (∀ w, Cs 92 #[.agg (arr 10 (pj l.dx.f l.dz.f)), .agg (arr 10 (pj l.px.f l.pz.f)), .agg (arr 5 x)] w (.tuple #[.agg (arr 10 (pj (stepF l.dx l.dz l.px l.pz e).dx.f (stepF l.dx l.dz l.px l.pz e).dz.f)), .agg (arr 10 (pj (stepF l.dx l.dz l.px l.pz e).px.f (stepF l.dx l.dz l.px l.pz e).pz.f))])) := hide fun w => by
     rw [← HX.out]
     exact step_any _ _ _ _ _ w HL.out.dx HL.out.dz HL.out.px HL.out.pz hx
    generalize pj l.dx.f l.dz.f = p at *
    generalize pj l.px.f l.pz.f = q at *
    generalize pj (stepF l.dx l.dz l.px l.pz e).dx.f (stepF l.dx l.dz l.px l.pz e).dz.f = d at *
    generalize pj (stepF l.dx l.dz l.px l.pz e).px.f (stepF l.dx l.dz l.px l.pz e).pz.f = b at *
    clear HN HL hbit
    go_wp2_with fail
    refine region_cut (fun a0 a' w' => a' = (((((((((((((((((a0.put (some 24) (.int .i64 0)).put (some 25) (.int .i64 0)).put (some 26) (.int .i64 1)).put (some 27) (.int .i64 0)).put (some 28) (.pointer (some ⟨gp, 0, none⟩))).put (some 29) (.agg (arr 10 p))).put (some 30) (.int .i64 0)).put (some 31) (.int .i64 1)).put (some 32) (.pointer (some ⟨gp, 10, none⟩))).put (some 33) (.agg (arr 10 q))).put (some 34) (.agg (arr 5 x))).put (some 35) (.tuple #[.agg (arr 10 d), .agg (arr 10 b)])).put (some 23) (.tuple #[.agg (arr 10 d), .agg (arr 10 b)])).put (some 36) (.agg (arr 10 d))).put (some 37) (.agg (arr 10 b))).put (some 38) (.pointer (some ⟨gp, 0, none⟩))).put (some 39) (.pointer (some ⟨gp, 10, none⟩))) ∧ Row w' w.heap.size 116 5 x ∧ Row w' (w.heap.size + 1) 116 5 (fun _ => 0) ∧ Row w' gp 136 20 (qj d b) ∧ Below w.heap.size w w') (by kernel_rfl) ?_ ?_
    ·clear RX RZ RP O
     rintro _ w9 ⟨rfl, RX, RZ, RP, O⟩
     rw [← HT.out] at RP
     clear HC HT
     go_simp
     go_wp2_with fail
     exact ⟨⟨k + 1, by omega, by go_num, RX, RZ, RP, O⟩, by simp [intOf]; omega⟩
    ·intro hrest
     replace RX := rowD RX
     replace RZ := rowD RZ
     replace RP := rowD RP
     replace O := O.drew
     generalize w6.drew = W0 at *
     refine wpAny_take (i := 0) (v := .int .i64 0) rfl (by kernel_rfl) (by kernel_rfl) (by kernel_rfl) (fun _ _ _ h => h) (Or.inl ⟨by rfl, fun _ => by kernel_rfl⟩) ?_
     refine wpAny_take (i := 1) (v := .int .i64 0) rfl (by kernel_rfl) (by kernel_rfl) (by kernel_rfl) (fun _ _ _ h => h) (Or.inl ⟨by rfl, fun _ => by kernel_rfl⟩) ?_
     refine wpAny_take (i := 2) (v := .int .i64 1) rfl (by kernel_rfl) (by kernel_rfl) (by kernel_rfl) (fun _ _ _ h => h) (Or.inl ⟨by rfl, fun _ => by kernel_rfl⟩) ?_
     refine wpAny_take (i := 3) (v := .int .i64 0) rfl (by kernel_rfl) (by kernel_rfl) (by kernel_rfl) (fun _ _ _ h => h) (Or.inl ⟨by rfl, fun _ => by kernel_rfl⟩) ?_
     refine wpAny_take (i := 4) (v := .pointer (some ⟨gp, 0, none⟩)) rfl (by kernel_rfl) (by kernel_rfl) (by kernel_rfl) (fun _ _ _ h => h) (Or.inl ⟨by rfl, fun _ => by kernel_rfl⟩) ?_
     refine wpAny_take (i := 6) (v := .int .i64 0) rfl (by kernel_rfl) (by kernel_rfl) (by kernel_rfl) (fun _ _ _ h => h) (Or.inl ⟨by rfl, fun _ => by kernel_rfl⟩) ?_
     refine wpAny_take (i := 7) (v := .int .i64 1) rfl (by kernel_rfl) (by kernel_rfl) (by kernel_rfl) (fun _ _ _ h => h) (Or.inl ⟨by rfl, fun _ => by kernel_rfl⟩) ?_
     refine wpAny_take (i := 8) (v := .pointer (some ⟨gp, 10, none⟩)) rfl (by kernel_rfl) (by kernel_rfl) (by kernel_rfl) (fun _ _ _ h => h) (Or.inl ⟨by rfl, fun _ => by kernel_rfl⟩) ?_
     refine wpAny_ready (rs := [5, 9, 10]) (by kernel_rfl) (by simp) ?_
     refine ready_part rfl rfl 135 _ rfl gp 0 (by kernel_rfl) 10 p RP.q0 _ Tryz.underlying135 rfl info135 ?_ ?_
     ·skip
      refine wpAny_ready (rs := [9, 10]) (by kernel_rfl) (by simp) ?_
      refine ready_part rfl rfl 135 _ rfl gp 10 (by kernel_rfl) 10 q RP.q1 _ Tryz.underlying135 rfl info135 ?_ ?_
      ·skip
       refine wpAny_ready (rs := [10]) (by kernel_rfl) (by simp) ?_
       refine ready_part rfl rfl 116 _ rfl w.heap.size 0 (by kernel_rfl) 5 x RX.all _ Tryz.underlying116 rfl info116 ?_ ?_
       ·skip
        refine wpAny_ready (rs := [11]) (by kernel_rfl) (by simp) ?_
        refine ready_call 92 #[.agg (arr 10 p), .agg (arr 10 q), .agg (arr 5 x)] rfl rfl (by kernel_rfl) ?_ ?_
        ·refine (HC.out _).mono ?_
         rintro _ w104 ⟨rfl, hb⟩
         refine ⟨_, rfl, ?_⟩
         replace RX := RX.keep hb
         replace RZ := RZ.keep hb
         replace RP := RP.keep hb
         replace O := O.trans (hb.mono O.size)
         clear hb
         refine wpAny_take (i := 12) (v := .tuple #[.agg (arr 10 d), .agg (arr 10 b)]) rfl (by kernel_rfl) (by kernel_rfl) (by kernel_rfl) (fun _ _ _ h => h) (Or.inl ⟨by rfl, fun _ => by kernel_rfl⟩) ?_
         refine wpAny_take (i := 13) (v := .agg (arr 10 d)) rfl (by kernel_rfl) (by kernel_rfl) (by kernel_rfl) (fun _ _ _ h => h) (Or.inl ⟨by rfl, fun _ => by kernel_rfl⟩) ?_
         refine wpAny_take (i := 14) (v := .agg (arr 10 b)) rfl (by kernel_rfl) (by kernel_rfl) (by kernel_rfl) (fun _ _ _ h => h) (Or.inl ⟨by rfl, fun _ => by kernel_rfl⟩) ?_
         refine wpAny_take (i := 15) (v := .pointer (some ⟨gp, 0, none⟩)) rfl (by kernel_rfl) (by kernel_rfl) (by kernel_rfl) (fun _ _ _ h => h) (Or.inl ⟨by rfl, fun _ => by kernel_rfl⟩) ?_
         refine wpAny_ready (rs := [16]) (by kernel_rfl) (by simp) ?_
         refine ready_puts RP 0 10 d (by omega) rfl rfl 135 _ _ rfl (by kernel_rfl) (by kernel_rfl) (inf54 _) ?_ ?_
         ·intro w105 RP ho hu
          replace RX := RX.at_ (ho _ hxp)
          replace RZ := RZ.at_ (ho _ hzp)
          replace O := hu _ _ hle O
          clear ho hu
          refine wpAny_take (i := 17) (v := .pointer (some ⟨gp, 10, none⟩)) rfl (by kernel_rfl) (by kernel_rfl) (by kernel_rfl) (fun _ _ _ h => h) (Or.inl ⟨by rfl, fun _ => by kernel_rfl⟩) ?_
          refine wpAny_ready (rs := [18]) (by kernel_rfl) (by simp) ?_
          refine ready_puts RP 10 10 b (by omega) rfl rfl 135 _ _ rfl (by kernel_rfl) (by kernel_rfl) (inf54 _) ?_ ?_
          ·intro w106 RP ho hu
           replace RX := RX.at_ (ho _ hxp)
           replace RZ := RZ.at_ (ho _ hzp)
           replace O := hu _ _ hle O
           clear ho hu
           exact wpAny_done (by kernel_rfl) (hrest _ _ ⟨by kernel_rfl, RX, RZ, RP.congr (fun i hi => qj01 p q d b i hi), O⟩) _
          exact AllReady.nil
         exact AllReady.nil
        exact AllReady.nil
       exact AllReady.nil
      refine ready_part rfl rfl 116 _ rfl w.heap.size 0 (by kernel_rfl) 5 x RX.all _ Tryz.underlying116 rfl info116 ?_ ?_
      ·skip
       refine wpAny_ready (rs := [9]) (by kernel_rfl) (by simp) ?_
       refine ready_part rfl rfl 135 _ rfl gp 10 (by kernel_rfl) 10 q RP.q1 _ Tryz.underlying135 rfl info135 ?_ ?_
       ·skip
        refine wpAny_ready (rs := [11]) (by kernel_rfl) (by simp) ?_
        refine ready_call 92 #[.agg (arr 10 p), .agg (arr 10 q), .agg (arr 5 x)] rfl rfl (by kernel_rfl) ?_ ?_
        ·refine (HC.out _).mono ?_
         rintro _ w109 ⟨rfl, hb⟩
         refine ⟨_, rfl, ?_⟩
         replace RX := RX.keep hb
         replace RZ := RZ.keep hb
         replace RP := RP.keep hb
         replace O := O.trans (hb.mono O.size)
         clear hb
         refine wpAny_take (i := 12) (v := .tuple #[.agg (arr 10 d), .agg (arr 10 b)]) rfl (by kernel_rfl) (by kernel_rfl) (by kernel_rfl) (fun _ _ _ h => h) (Or.inl ⟨by rfl, fun _ => by kernel_rfl⟩) ?_
         refine wpAny_take (i := 13) (v := .agg (arr 10 d)) rfl (by kernel_rfl) (by kernel_rfl) (by kernel_rfl) (fun _ _ _ h => h) (Or.inl ⟨by rfl, fun _ => by kernel_rfl⟩) ?_
         refine wpAny_take (i := 14) (v := .agg (arr 10 b)) rfl (by kernel_rfl) (by kernel_rfl) (by kernel_rfl) (fun _ _ _ h => h) (Or.inl ⟨by rfl, fun _ => by kernel_rfl⟩) ?_
         refine wpAny_take (i := 15) (v := .pointer (some ⟨gp, 0, none⟩)) rfl (by kernel_rfl) (by kernel_rfl) (by kernel_rfl) (fun _ _ _ h => h) (Or.inl ⟨by rfl, fun _ => by kernel_rfl⟩) ?_
         refine wpAny_ready (rs := [16]) (by kernel_rfl) (by simp) ?_
         refine ready_puts RP 0 10 d (by omega) rfl rfl 135 _ _ rfl (by kernel_rfl) (by kernel_rfl) (inf54 _) ?_ ?_
         ·intro w110 RP ho hu
          replace RX := RX.at_ (ho _ hxp)
          replace RZ := RZ.at_ (ho _ hzp)
          replace O := hu _ _ hle O
          clear ho hu
          refine wpAny_take (i := 17) (v := .pointer (some ⟨gp, 10, none⟩)) rfl (by kernel_rfl) (by kernel_rfl) (by kernel_rfl) (fun _ _ _ h => h) (Or.inl ⟨by rfl, fun _ => by kernel_rfl⟩) ?_
          refine wpAny_ready (rs := [18]) (by kernel_rfl) (by simp) ?_
          refine ready_puts RP 10 10 b (by omega) rfl rfl 135 _ _ rfl (by kernel_rfl) (by kernel_rfl) (inf54 _) ?_ ?_
          ·intro w111 RP ho hu
           replace RX := RX.at_ (ho _ hxp)
           replace RZ := RZ.at_ (ho _ hzp)
           replace O := hu _ _ hle O
           clear ho hu
           exact wpAny_done (by kernel_rfl) (hrest _ _ ⟨by kernel_rfl, RX, RZ, RP.congr (fun i hi => qj01 p q d b i hi), O⟩) _
          exact AllReady.nil
         exact AllReady.nil
        exact AllReady.nil
       exact AllReady.nil
      exact AllReady.nil
     refine ready_part rfl rfl 135 _ rfl gp 10 (by kernel_rfl) 10 q RP.q1 _ Tryz.underlying135 rfl info135 ?_ ?_
     ·skip
      refine wpAny_ready (rs := [5, 10]) (by kernel_rfl) (by simp) ?_
      refine ready_part rfl rfl 135 _ rfl gp 0 (by kernel_rfl) 10 p RP.q0 _ Tryz.underlying135 rfl info135 ?_ ?_
      ·skip
       refine wpAny_ready (rs := [10]) (by kernel_rfl) (by simp) ?_
       refine ready_part rfl rfl 116 _ rfl w.heap.size 0 (by kernel_rfl) 5 x RX.all _ Tryz.underlying116 rfl info116 ?_ ?_
       ·skip
        refine wpAny_ready (rs := [11]) (by kernel_rfl) (by simp) ?_
        refine ready_call 92 #[.agg (arr 10 p), .agg (arr 10 q), .agg (arr 5 x)] rfl rfl (by kernel_rfl) ?_ ?_
        ·refine (HC.out _).mono ?_
         rintro _ w115 ⟨rfl, hb⟩
         refine ⟨_, rfl, ?_⟩
         replace RX := RX.keep hb
         replace RZ := RZ.keep hb
         replace RP := RP.keep hb
         replace O := O.trans (hb.mono O.size)
         clear hb
         refine wpAny_take (i := 12) (v := .tuple #[.agg (arr 10 d), .agg (arr 10 b)]) rfl (by kernel_rfl) (by kernel_rfl) (by kernel_rfl) (fun _ _ _ h => h) (Or.inl ⟨by rfl, fun _ => by kernel_rfl⟩) ?_
         refine wpAny_take (i := 13) (v := .agg (arr 10 d)) rfl (by kernel_rfl) (by kernel_rfl) (by kernel_rfl) (fun _ _ _ h => h) (Or.inl ⟨by rfl, fun _ => by kernel_rfl⟩) ?_
         refine wpAny_take (i := 14) (v := .agg (arr 10 b)) rfl (by kernel_rfl) (by kernel_rfl) (by kernel_rfl) (fun _ _ _ h => h) (Or.inl ⟨by rfl, fun _ => by kernel_rfl⟩) ?_
         refine wpAny_take (i := 15) (v := .pointer (some ⟨gp, 0, none⟩)) rfl (by kernel_rfl) (by kernel_rfl) (by kernel_rfl) (fun _ _ _ h => h) (Or.inl ⟨by rfl, fun _ => by kernel_rfl⟩) ?_
         refine wpAny_ready (rs := [16]) (by kernel_rfl) (by simp) ?_
         refine ready_puts RP 0 10 d (by omega) rfl rfl 135 _ _ rfl (by kernel_rfl) (by kernel_rfl) (inf54 _) ?_ ?_
         ·intro w116 RP ho hu
          replace RX := RX.at_ (ho _ hxp)
          replace RZ := RZ.at_ (ho _ hzp)
          replace O := hu _ _ hle O
          clear ho hu
          refine wpAny_take (i := 17) (v := .pointer (some ⟨gp, 10, none⟩)) rfl (by kernel_rfl) (by kernel_rfl) (by kernel_rfl) (fun _ _ _ h => h) (Or.inl ⟨by rfl, fun _ => by kernel_rfl⟩) ?_
          refine wpAny_ready (rs := [18]) (by kernel_rfl) (by simp) ?_
          refine ready_puts RP 10 10 b (by omega) rfl rfl 135 _ _ rfl (by kernel_rfl) (by kernel_rfl) (inf54 _) ?_ ?_
          ·intro w117 RP ho hu
           replace RX := RX.at_ (ho _ hxp)
           replace RZ := RZ.at_ (ho _ hzp)
           replace O := hu _ _ hle O
           clear ho hu
           exact wpAny_done (by kernel_rfl) (hrest _ _ ⟨by kernel_rfl, RX, RZ, RP.congr (fun i hi => qj01 p q d b i hi), O⟩) _
          exact AllReady.nil
         exact AllReady.nil
        exact AllReady.nil
       exact AllReady.nil
      refine ready_part rfl rfl 116 _ rfl w.heap.size 0 (by kernel_rfl) 5 x RX.all _ Tryz.underlying116 rfl info116 ?_ ?_
      ·skip
       refine wpAny_ready (rs := [5]) (by kernel_rfl) (by simp) ?_
       refine ready_part rfl rfl 135 _ rfl gp 0 (by kernel_rfl) 10 p RP.q0 _ Tryz.underlying135 rfl info135 ?_ ?_
       ·skip
        refine wpAny_ready (rs := [11]) (by kernel_rfl) (by simp) ?_
        refine ready_call 92 #[.agg (arr 10 p), .agg (arr 10 q), .agg (arr 5 x)] rfl rfl (by kernel_rfl) ?_ ?_
        ·refine (HC.out _).mono ?_
         rintro _ w120 ⟨rfl, hb⟩
         refine ⟨_, rfl, ?_⟩
         replace RX := RX.keep hb
         replace RZ := RZ.keep hb
         replace RP := RP.keep hb
         replace O := O.trans (hb.mono O.size)
         clear hb
         refine wpAny_take (i := 12) (v := .tuple #[.agg (arr 10 d), .agg (arr 10 b)]) rfl (by kernel_rfl) (by kernel_rfl) (by kernel_rfl) (fun _ _ _ h => h) (Or.inl ⟨by rfl, fun _ => by kernel_rfl⟩) ?_
         refine wpAny_take (i := 13) (v := .agg (arr 10 d)) rfl (by kernel_rfl) (by kernel_rfl) (by kernel_rfl) (fun _ _ _ h => h) (Or.inl ⟨by rfl, fun _ => by kernel_rfl⟩) ?_
         refine wpAny_take (i := 14) (v := .agg (arr 10 b)) rfl (by kernel_rfl) (by kernel_rfl) (by kernel_rfl) (fun _ _ _ h => h) (Or.inl ⟨by rfl, fun _ => by kernel_rfl⟩) ?_
         refine wpAny_take (i := 15) (v := .pointer (some ⟨gp, 0, none⟩)) rfl (by kernel_rfl) (by kernel_rfl) (by kernel_rfl) (fun _ _ _ h => h) (Or.inl ⟨by rfl, fun _ => by kernel_rfl⟩) ?_
         refine wpAny_ready (rs := [16]) (by kernel_rfl) (by simp) ?_
         refine ready_puts RP 0 10 d (by omega) rfl rfl 135 _ _ rfl (by kernel_rfl) (by kernel_rfl) (inf54 _) ?_ ?_
         ·intro w121 RP ho hu
          replace RX := RX.at_ (ho _ hxp)
          replace RZ := RZ.at_ (ho _ hzp)
          replace O := hu _ _ hle O
          clear ho hu
          refine wpAny_take (i := 17) (v := .pointer (some ⟨gp, 10, none⟩)) rfl (by kernel_rfl) (by kernel_rfl) (by kernel_rfl) (fun _ _ _ h => h) (Or.inl ⟨by rfl, fun _ => by kernel_rfl⟩) ?_
          refine wpAny_ready (rs := [18]) (by kernel_rfl) (by simp) ?_
          refine ready_puts RP 10 10 b (by omega) rfl rfl 135 _ _ rfl (by kernel_rfl) (by kernel_rfl) (inf54 _) ?_ ?_
          ·intro w122 RP ho hu
           replace RX := RX.at_ (ho _ hxp)
           replace RZ := RZ.at_ (ho _ hzp)
           replace O := hu _ _ hle O
           clear ho hu
           exact wpAny_done (by kernel_rfl) (hrest _ _ ⟨by kernel_rfl, RX, RZ, RP.congr (fun i hi => qj01 p q d b i hi), O⟩) _
          exact AllReady.nil
         exact AllReady.nil
        exact AllReady.nil
       exact AllReady.nil
      exact AllReady.nil
     refine ready_part rfl rfl 116 _ rfl w.heap.size 0 (by kernel_rfl) 5 x RX.all _ Tryz.underlying116 rfl info116 ?_ ?_
     ·skip
      refine wpAny_ready (rs := [5, 9]) (by kernel_rfl) (by simp) ?_
      refine ready_part rfl rfl 135 _ rfl gp 0 (by kernel_rfl) 10 p RP.q0 _ Tryz.underlying135 rfl info135 ?_ ?_
      ·skip
       refine wpAny_ready (rs := [9]) (by kernel_rfl) (by simp) ?_
       refine ready_part rfl rfl 135 _ rfl gp 10 (by kernel_rfl) 10 q RP.q1 _ Tryz.underlying135 rfl info135 ?_ ?_
       ·skip
        refine wpAny_ready (rs := [11]) (by kernel_rfl) (by simp) ?_
        refine ready_call 92 #[.agg (arr 10 p), .agg (arr 10 q), .agg (arr 5 x)] rfl rfl (by kernel_rfl) ?_ ?_
        ·refine (HC.out _).mono ?_
         rintro _ w126 ⟨rfl, hb⟩
         refine ⟨_, rfl, ?_⟩
         replace RX := RX.keep hb
         replace RZ := RZ.keep hb
         replace RP := RP.keep hb
         replace O := O.trans (hb.mono O.size)
         clear hb
         refine wpAny_take (i := 12) (v := .tuple #[.agg (arr 10 d), .agg (arr 10 b)]) rfl (by kernel_rfl) (by kernel_rfl) (by kernel_rfl) (fun _ _ _ h => h) (Or.inl ⟨by rfl, fun _ => by kernel_rfl⟩) ?_
         refine wpAny_take (i := 13) (v := .agg (arr 10 d)) rfl (by kernel_rfl) (by kernel_rfl) (by kernel_rfl) (fun _ _ _ h => h) (Or.inl ⟨by rfl, fun _ => by kernel_rfl⟩) ?_
         refine wpAny_take (i := 14) (v := .agg (arr 10 b)) rfl (by kernel_rfl) (by kernel_rfl) (by kernel_rfl) (fun _ _ _ h => h) (Or.inl ⟨by rfl, fun _ => by kernel_rfl⟩) ?_
         refine wpAny_take (i := 15) (v := .pointer (some ⟨gp, 0, none⟩)) rfl (by kernel_rfl) (by kernel_rfl) (by kernel_rfl) (fun _ _ _ h => h) (Or.inl ⟨by rfl, fun _ => by kernel_rfl⟩) ?_
         refine wpAny_ready (rs := [16]) (by kernel_rfl) (by simp) ?_
         refine ready_puts RP 0 10 d (by omega) rfl rfl 135 _ _ rfl (by kernel_rfl) (by kernel_rfl) (inf54 _) ?_ ?_
         ·intro w127 RP ho hu
          replace RX := RX.at_ (ho _ hxp)
          replace RZ := RZ.at_ (ho _ hzp)
          replace O := hu _ _ hle O
          clear ho hu
          refine wpAny_take (i := 17) (v := .pointer (some ⟨gp, 10, none⟩)) rfl (by kernel_rfl) (by kernel_rfl) (by kernel_rfl) (fun _ _ _ h => h) (Or.inl ⟨by rfl, fun _ => by kernel_rfl⟩) ?_
          refine wpAny_ready (rs := [18]) (by kernel_rfl) (by simp) ?_
          refine ready_puts RP 10 10 b (by omega) rfl rfl 135 _ _ rfl (by kernel_rfl) (by kernel_rfl) (inf54 _) ?_ ?_
          ·intro w128 RP ho hu
           replace RX := RX.at_ (ho _ hxp)
           replace RZ := RZ.at_ (ho _ hzp)
           replace O := hu _ _ hle O
           clear ho hu
           exact wpAny_done (by kernel_rfl) (hrest _ _ ⟨by kernel_rfl, RX, RZ, RP.congr (fun i hi => qj01 p q d b i hi), O⟩) _
          exact AllReady.nil
         exact AllReady.nil
        exact AllReady.nil
       exact AllReady.nil
      refine ready_part rfl rfl 135 _ rfl gp 10 (by kernel_rfl) 10 q RP.q1 _ Tryz.underlying135 rfl info135 ?_ ?_
      ·skip
       refine wpAny_ready (rs := [5]) (by kernel_rfl) (by simp) ?_
       refine ready_part rfl rfl 135 _ rfl gp 0 (by kernel_rfl) 10 p RP.q0 _ Tryz.underlying135 rfl info135 ?_ ?_
       ·skip
        refine wpAny_ready (rs := [11]) (by kernel_rfl) (by simp) ?_
        refine ready_call 92 #[.agg (arr 10 p), .agg (arr 10 q), .agg (arr 5 x)] rfl rfl (by kernel_rfl) ?_ ?_
        ·refine (HC.out _).mono ?_
         rintro _ w131 ⟨rfl, hb⟩
         refine ⟨_, rfl, ?_⟩
         replace RX := RX.keep hb
         replace RZ := RZ.keep hb
         replace RP := RP.keep hb
         replace O := O.trans (hb.mono O.size)
         clear hb
         refine wpAny_take (i := 12) (v := .tuple #[.agg (arr 10 d), .agg (arr 10 b)]) rfl (by kernel_rfl) (by kernel_rfl) (by kernel_rfl) (fun _ _ _ h => h) (Or.inl ⟨by rfl, fun _ => by kernel_rfl⟩) ?_
         refine wpAny_take (i := 13) (v := .agg (arr 10 d)) rfl (by kernel_rfl) (by kernel_rfl) (by kernel_rfl) (fun _ _ _ h => h) (Or.inl ⟨by rfl, fun _ => by kernel_rfl⟩) ?_
         refine wpAny_take (i := 14) (v := .agg (arr 10 b)) rfl (by kernel_rfl) (by kernel_rfl) (by kernel_rfl) (fun _ _ _ h => h) (Or.inl ⟨by rfl, fun _ => by kernel_rfl⟩) ?_
         refine wpAny_take (i := 15) (v := .pointer (some ⟨gp, 0, none⟩)) rfl (by kernel_rfl) (by kernel_rfl) (by kernel_rfl) (fun _ _ _ h => h) (Or.inl ⟨by rfl, fun _ => by kernel_rfl⟩) ?_
         refine wpAny_ready (rs := [16]) (by kernel_rfl) (by simp) ?_
         refine ready_puts RP 0 10 d (by omega) rfl rfl 135 _ _ rfl (by kernel_rfl) (by kernel_rfl) (inf54 _) ?_ ?_
         ·intro w132 RP ho hu
          replace RX := RX.at_ (ho _ hxp)
          replace RZ := RZ.at_ (ho _ hzp)
          replace O := hu _ _ hle O
          clear ho hu
          refine wpAny_take (i := 17) (v := .pointer (some ⟨gp, 10, none⟩)) rfl (by kernel_rfl) (by kernel_rfl) (by kernel_rfl) (fun _ _ _ h => h) (Or.inl ⟨by rfl, fun _ => by kernel_rfl⟩) ?_
          refine wpAny_ready (rs := [18]) (by kernel_rfl) (by simp) ?_
          refine ready_puts RP 10 10 b (by omega) rfl rfl 135 _ _ rfl (by kernel_rfl) (by kernel_rfl) (inf54 _) ?_ ?_
          ·intro w133 RP ho hu
           replace RX := RX.at_ (ho _ hxp)
           replace RZ := RZ.at_ (ho _ hzp)
           replace O := hu _ _ hle O
           clear ho hu
           exact wpAny_done (by kernel_rfl) (hrest _ _ ⟨by kernel_rfl, RX, RZ, RP.congr (fun i hi => qj01 p q d b i hi), O⟩) _
          exact AllReady.nil
         exact AllReady.nil
        exact AllReady.nil
       exact AllReady.nil
      exact AllReady.nil
     exact AllReady.nil
   ·rw [hbit] at HN ⊢
    have HT : Hid (qs (ladF s e (k + 1)) = qj (pj (stepF l.px l.pz l.dx l.dz e).px.f (stepF l.px l.pz l.dx l.dz e).pz.f) (pj (stepF l.px l.pz l.dx l.dz e).dx.f (stepF l.px l.pz l.dx l.dz e).dz.f)) := hide (by rw [HN.out]; rfl)
    have HC : Hid (∀ w, Cs 92 #[.agg (arr 10 (pj l.px.f l.pz.f)), .agg (arr 10 (pj l.dx.f l.dz.f)), .agg (arr 5 x)] w (.tuple #[.agg (arr 10 (pj (stepF l.px l.pz l.dx l.dz e).dx.f (stepF l.px l.pz l.dx l.dz e).dz.f)), .agg (arr 10 (pj (stepF l.px l.pz l.dx l.dz e).px.f (stepF l.px l.pz l.dx l.dz e).pz.f))])) := hide fun w => by
     rw [← HX.out]
     exact step_any _ _ _ _ _ w HL.out.px HL.out.pz HL.out.dx HL.out.dz hx
    generalize pj l.dx.f l.dz.f = p at *
    generalize pj l.px.f l.pz.f = q at *
    generalize pj (stepF l.px l.pz l.dx l.dz e).dx.f (stepF l.px l.pz l.dx l.dz e).dz.f = d at *
    generalize pj (stepF l.px l.pz l.dx l.dz e).px.f (stepF l.px l.pz l.dx l.dz e).pz.f = b at *
    clear HN HL hbit
    go_wp2_with fail
    refine region_cut (fun a0 a' w' => a' = (((((((((((((((((a0.put (some 24) (.int .i64 1)).put (some 25) (.int .i64 1)).put (some 26) (.int .i64 0)).put (some 27) (.int .i64 1)).put (some 28) (.pointer (some ⟨gp, 10, none⟩))).put (some 29) (.agg (arr 10 q))).put (some 30) (.int .i64 1)).put (some 31) (.int .i64 0)).put (some 32) (.pointer (some ⟨gp, 0, none⟩))).put (some 33) (.agg (arr 10 p))).put (some 34) (.agg (arr 5 x))).put (some 35) (.tuple #[.agg (arr 10 d), .agg (arr 10 b)])).put (some 23) (.tuple #[.agg (arr 10 d), .agg (arr 10 b)])).put (some 36) (.agg (arr 10 d))).put (some 37) (.agg (arr 10 b))).put (some 38) (.pointer (some ⟨gp, 10, none⟩))).put (some 39) (.pointer (some ⟨gp, 0, none⟩))) ∧ Row w' w.heap.size 116 5 x ∧ Row w' (w.heap.size + 1) 116 5 (fun _ => 0) ∧ Row w' gp 136 20 (qj b d) ∧ Below w.heap.size w w') (by kernel_rfl) ?_ ?_
    ·clear RX RZ RP O
     rintro _ w9 ⟨rfl, RX, RZ, RP, O⟩
     rw [← HT.out] at RP
     clear HC HT
     go_simp
     go_wp2_with fail
     exact ⟨⟨k + 1, by omega, by go_num, RX, RZ, RP, O⟩, by simp [intOf]; omega⟩
    ·intro hrest
     replace RX := rowD RX
     replace RZ := rowD RZ
     replace RP := rowD RP
     replace O := O.drew
     generalize w6.drew = W0 at *
     refine wpAny_take (i := 0) (v := .int .i64 1) rfl (by kernel_rfl) (by kernel_rfl) (by kernel_rfl) (fun _ _ _ h => h) (Or.inl ⟨by rfl, fun _ => by kernel_rfl⟩) ?_
     refine wpAny_take (i := 1) (v := .int .i64 1) rfl (by kernel_rfl) (by kernel_rfl) (by kernel_rfl) (fun _ _ _ h => h) (Or.inl ⟨by rfl, fun _ => by kernel_rfl⟩) ?_
     refine wpAny_take (i := 2) (v := .int .i64 0) rfl (by kernel_rfl) (by kernel_rfl) (by kernel_rfl) (fun _ _ _ h => h) (Or.inl ⟨by rfl, fun _ => by kernel_rfl⟩) ?_
     refine wpAny_take (i := 3) (v := .int .i64 1) rfl (by kernel_rfl) (by kernel_rfl) (by kernel_rfl) (fun _ _ _ h => h) (Or.inl ⟨by rfl, fun _ => by kernel_rfl⟩) ?_
     refine wpAny_take (i := 4) (v := .pointer (some ⟨gp, 10, none⟩)) rfl (by kernel_rfl) (by kernel_rfl) (by kernel_rfl) (fun _ _ _ h => h) (Or.inl ⟨by rfl, fun _ => by kernel_rfl⟩) ?_
     refine wpAny_take (i := 6) (v := .int .i64 1) rfl (by kernel_rfl) (by kernel_rfl) (by kernel_rfl) (fun _ _ _ h => h) (Or.inl ⟨by rfl, fun _ => by kernel_rfl⟩) ?_
     refine wpAny_take (i := 7) (v := .int .i64 0) rfl (by kernel_rfl) (by kernel_rfl) (by kernel_rfl) (fun _ _ _ h => h) (Or.inl ⟨by rfl, fun _ => by kernel_rfl⟩) ?_
     refine wpAny_take (i := 8) (v := .pointer (some ⟨gp, 0, none⟩)) rfl (by kernel_rfl) (by kernel_rfl) (by kernel_rfl) (fun _ _ _ h => h) (Or.inl ⟨by rfl, fun _ => by kernel_rfl⟩) ?_
     refine wpAny_ready (rs := [5, 9, 10]) (by kernel_rfl) (by simp) ?_
     refine ready_part rfl rfl 135 _ rfl gp 10 (by kernel_rfl) 10 q RP.q1 _ Tryz.underlying135 rfl info135 ?_ ?_
     ·skip
      refine wpAny_ready (rs := [9, 10]) (by kernel_rfl) (by simp) ?_
      refine ready_part rfl rfl 135 _ rfl gp 0 (by kernel_rfl) 10 p RP.q0 _ Tryz.underlying135 rfl info135 ?_ ?_
      ·skip
       refine wpAny_ready (rs := [10]) (by kernel_rfl) (by simp) ?_
       refine ready_part rfl rfl 116 _ rfl w.heap.size 0 (by kernel_rfl) 5 x RX.all _ Tryz.underlying116 rfl info116 ?_ ?_
       ·skip
        refine wpAny_ready (rs := [11]) (by kernel_rfl) (by simp) ?_
        refine ready_call 92 #[.agg (arr 10 q), .agg (arr 10 p), .agg (arr 5 x)] rfl rfl (by kernel_rfl) ?_ ?_
        ·refine (HC.out _).mono ?_
         rintro _ w104 ⟨rfl, hb⟩
         refine ⟨_, rfl, ?_⟩
         replace RX := RX.keep hb
         replace RZ := RZ.keep hb
         replace RP := RP.keep hb
         replace O := O.trans (hb.mono O.size)
         clear hb
         refine wpAny_take (i := 12) (v := .tuple #[.agg (arr 10 d), .agg (arr 10 b)]) rfl (by kernel_rfl) (by kernel_rfl) (by kernel_rfl) (fun _ _ _ h => h) (Or.inl ⟨by rfl, fun _ => by kernel_rfl⟩) ?_
         refine wpAny_take (i := 13) (v := .agg (arr 10 d)) rfl (by kernel_rfl) (by kernel_rfl) (by kernel_rfl) (fun _ _ _ h => h) (Or.inl ⟨by rfl, fun _ => by kernel_rfl⟩) ?_
         refine wpAny_take (i := 14) (v := .agg (arr 10 b)) rfl (by kernel_rfl) (by kernel_rfl) (by kernel_rfl) (fun _ _ _ h => h) (Or.inl ⟨by rfl, fun _ => by kernel_rfl⟩) ?_
         refine wpAny_take (i := 15) (v := .pointer (some ⟨gp, 10, none⟩)) rfl (by kernel_rfl) (by kernel_rfl) (by kernel_rfl) (fun _ _ _ h => h) (Or.inl ⟨by rfl, fun _ => by kernel_rfl⟩) ?_
         refine wpAny_ready (rs := [16]) (by kernel_rfl) (by simp) ?_
         refine ready_puts RP 10 10 d (by omega) rfl rfl 135 _ _ rfl (by kernel_rfl) (by kernel_rfl) (inf54 _) ?_ ?_
         ·intro w105 RP ho hu
          replace RX := RX.at_ (ho _ hxp)
          replace RZ := RZ.at_ (ho _ hzp)
          replace O := hu _ _ hle O
          clear ho hu
          refine wpAny_take (i := 17) (v := .pointer (some ⟨gp, 0, none⟩)) rfl (by kernel_rfl) (by kernel_rfl) (by kernel_rfl) (fun _ _ _ h => h) (Or.inl ⟨by rfl, fun _ => by kernel_rfl⟩) ?_
          refine wpAny_ready (rs := [18]) (by kernel_rfl) (by simp) ?_
          refine ready_puts RP 0 10 b (by omega) rfl rfl 135 _ _ rfl (by kernel_rfl) (by kernel_rfl) (inf54 _) ?_ ?_
          ·intro w106 RP ho hu
           replace RX := RX.at_ (ho _ hxp)
           replace RZ := RZ.at_ (ho _ hzp)
           replace O := hu _ _ hle O
           clear ho hu
           exact wpAny_done (by kernel_rfl) (hrest _ _ ⟨by kernel_rfl, RX, RZ, RP.congr (fun i hi => qj10 p q d b i hi), O⟩) _
          exact AllReady.nil
         exact AllReady.nil
        exact AllReady.nil
       exact AllReady.nil
      refine ready_part rfl rfl 116 _ rfl w.heap.size 0 (by kernel_rfl) 5 x RX.all _ Tryz.underlying116 rfl info116 ?_ ?_
      ·skip
       refine wpAny_ready (rs := [9]) (by kernel_rfl) (by simp) ?_
       refine ready_part rfl rfl 135 _ rfl gp 0 (by kernel_rfl) 10 p RP.q0 _ Tryz.underlying135 rfl info135 ?_ ?_
       ·skip
        refine wpAny_ready (rs := [11]) (by kernel_rfl) (by simp) ?_
        refine ready_call 92 #[.agg (arr 10 q), .agg (arr 10 p), .agg (arr 5 x)] rfl rfl (by kernel_rfl) ?_ ?_
        ·refine (HC.out _).mono ?_
         rintro _ w109 ⟨rfl, hb⟩
         refine ⟨_, rfl, ?_⟩
         replace RX := RX.keep hb
         replace RZ := RZ.keep hb
         replace RP := RP.keep hb
         replace O := O.trans (hb.mono O.size)
         clear hb
         refine wpAny_take (i := 12) (v := .tuple #[.agg (arr 10 d), .agg (arr 10 b)]) rfl (by kernel_rfl) (by kernel_rfl) (by kernel_rfl) (fun _ _ _ h => h) (Or.inl ⟨by rfl, fun _ => by kernel_rfl⟩) ?_
         refine wpAny_take (i := 13) (v := .agg (arr 10 d)) rfl (by kernel_rfl) (by kernel_rfl) (by kernel_rfl) (fun _ _ _ h => h) (Or.inl ⟨by rfl, fun _ => by kernel_rfl⟩) ?_
         refine wpAny_take (i := 14) (v := .agg (arr 10 b)) rfl (by kernel_rfl) (by kernel_rfl) (by kernel_rfl) (fun _ _ _ h => h) (Or.inl ⟨by rfl, fun _ => by kernel_rfl⟩) ?_
         refine wpAny_take (i := 15) (v := .pointer (some ⟨gp, 10, none⟩)) rfl (by kernel_rfl) (by kernel_rfl) (by kernel_rfl) (fun _ _ _ h => h) (Or.inl ⟨by rfl, fun _ => by kernel_rfl⟩) ?_
         refine wpAny_ready (rs := [16]) (by kernel_rfl) (by simp) ?_
         refine ready_puts RP 10 10 d (by omega) rfl rfl 135 _ _ rfl (by kernel_rfl) (by kernel_rfl) (inf54 _) ?_ ?_
         ·intro w110 RP ho hu
          replace RX := RX.at_ (ho _ hxp)
          replace RZ := RZ.at_ (ho _ hzp)
          replace O := hu _ _ hle O
          clear ho hu
          refine wpAny_take (i := 17) (v := .pointer (some ⟨gp, 0, none⟩)) rfl (by kernel_rfl) (by kernel_rfl) (by kernel_rfl) (fun _ _ _ h => h) (Or.inl ⟨by rfl, fun _ => by kernel_rfl⟩) ?_
          refine wpAny_ready (rs := [18]) (by kernel_rfl) (by simp) ?_
          refine ready_puts RP 0 10 b (by omega) rfl rfl 135 _ _ rfl (by kernel_rfl) (by kernel_rfl) (inf54 _) ?_ ?_
          ·intro w111 RP ho hu
           replace RX := RX.at_ (ho _ hxp)
           replace RZ := RZ.at_ (ho _ hzp)
           replace O := hu _ _ hle O
           clear ho hu
           exact wpAny_done (by kernel_rfl) (hrest _ _ ⟨by kernel_rfl, RX, RZ, RP.congr (fun i hi => qj10 p q d b i hi), O⟩) _
          exact AllReady.nil
         exact AllReady.nil
        exact AllReady.nil
       exact AllReady.nil
      exact AllReady.nil
     refine ready_part rfl rfl 135 _ rfl gp 0 (by kernel_rfl) 10 p RP.q0 _ Tryz.underlying135 rfl info135 ?_ ?_
     ·skip
      refine wpAny_ready (rs := [5, 10]) (by kernel_rfl) (by simp) ?_
      refine ready_part rfl rfl 135 _ rfl gp 10 (by kernel_rfl) 10 q RP.q1 _ Tryz.underlying135 rfl info135 ?_ ?_
      ·skip
       refine wpAny_ready (rs := [10]) (by kernel_rfl) (by simp) ?_
       refine ready_part rfl rfl 116 _ rfl w.heap.size 0 (by kernel_rfl) 5 x RX.all _ Tryz.underlying116 rfl info116 ?_ ?_
       ·skip
        refine wpAny_ready (rs := [11]) (by kernel_rfl) (by simp) ?_
        refine ready_call 92 #[.agg (arr 10 q), .agg (arr 10 p), .agg (arr 5 x)] rfl rfl (by kernel_rfl) ?_ ?_
        ·refine (HC.out _).mono ?_
         rintro _ w115 ⟨rfl, hb⟩
         refine ⟨_, rfl, ?_⟩
         replace RX := RX.keep hb
         replace RZ := RZ.keep hb
         replace RP := RP.keep hb
         replace O := O.trans (hb.mono O.size)
         clear hb
         refine wpAny_take (i := 12) (v := .tuple #[.agg (arr 10 d), .agg (arr 10 b)]) rfl (by kernel_rfl) (by kernel_rfl) (by kernel_rfl) (fun _ _ _ h => h) (Or.inl ⟨by rfl, fun _ => by kernel_rfl⟩) ?_
         refine wpAny_take (i := 13) (v := .agg (arr 10 d)) rfl (by kernel_rfl) (by kernel_rfl) (by kernel_rfl) (fun _ _ _ h => h) (Or.inl ⟨by rfl, fun _ => by kernel_rfl⟩) ?_
         refine wpAny_take (i := 14) (v := .agg (arr 10 b)) rfl (by kernel_rfl) (by kernel_rfl) (by kernel_rfl) (fun _ _ _ h => h) (Or.inl ⟨by rfl, fun _ => by kernel_rfl⟩) ?_
         refine wpAny_take (i := 15) (v := .pointer (some ⟨gp, 10, none⟩)) rfl (by kernel_rfl) (by kernel_rfl) (by kernel_rfl) (fun _ _ _ h => h) (Or.inl ⟨by rfl, fun _ => by kernel_rfl⟩) ?_
         refine wpAny_ready (rs := [16]) (by kernel_rfl) (by simp) ?_
         refine ready_puts RP 10 10 d (by omega) rfl rfl 135 _ _ rfl (by kernel_rfl) (by kernel_rfl) (inf54 _) ?_ ?_
         ·intro w116 RP ho hu
          replace RX := RX.at_ (ho _ hxp)
          replace RZ := RZ.at_ (ho _ hzp)
          replace O := hu _ _ hle O
          clear ho hu
          refine wpAny_take (i := 17) (v := .pointer (some ⟨gp, 0, none⟩)) rfl (by kernel_rfl) (by kernel_rfl) (by kernel_rfl) (fun _ _ _ h => h) (Or.inl ⟨by rfl, fun _ => by kernel_rfl⟩) ?_
          refine wpAny_ready (rs := [18]) (by kernel_rfl) (by simp) ?_
          refine ready_puts RP 0 10 b (by omega) rfl rfl 135 _ _ rfl (by kernel_rfl) (by kernel_rfl) (inf54 _) ?_ ?_
          ·intro w117 RP ho hu
           replace RX := RX.at_ (ho _ hxp)
           replace RZ := RZ.at_ (ho _ hzp)
           replace O := hu _ _ hle O
           clear ho hu
           exact wpAny_done (by kernel_rfl) (hrest _ _ ⟨by kernel_rfl, RX, RZ, RP.congr (fun i hi => qj10 p q d b i hi), O⟩) _
          exact AllReady.nil
         exact AllReady.nil
        exact AllReady.nil
       exact AllReady.nil
      refine ready_part rfl rfl 116 _ rfl w.heap.size 0 (by kernel_rfl) 5 x RX.all _ Tryz.underlying116 rfl info116 ?_ ?_
      ·skip
       refine wpAny_ready (rs := [5]) (by kernel_rfl) (by simp) ?_
       refine ready_part rfl rfl 135 _ rfl gp 10 (by kernel_rfl) 10 q RP.q1 _ Tryz.underlying135 rfl info135 ?_ ?_
       ·skip
        refine wpAny_ready (rs := [11]) (by kernel_rfl) (by simp) ?_
        refine ready_call 92 #[.agg (arr 10 q), .agg (arr 10 p), .agg (arr 5 x)] rfl rfl (by kernel_rfl) ?_ ?_
        ·refine (HC.out _).mono ?_
         rintro _ w120 ⟨rfl, hb⟩
         refine ⟨_, rfl, ?_⟩
         replace RX := RX.keep hb
         replace RZ := RZ.keep hb
         replace RP := RP.keep hb
         replace O := O.trans (hb.mono O.size)
         clear hb
         refine wpAny_take (i := 12) (v := .tuple #[.agg (arr 10 d), .agg (arr 10 b)]) rfl (by kernel_rfl) (by kernel_rfl) (by kernel_rfl) (fun _ _ _ h => h) (Or.inl ⟨by rfl, fun _ => by kernel_rfl⟩) ?_
         refine wpAny_take (i := 13) (v := .agg (arr 10 d)) rfl (by kernel_rfl) (by kernel_rfl) (by kernel_rfl) (fun _ _ _ h => h) (Or.inl ⟨by rfl, fun _ => by kernel_rfl⟩) ?_
         refine wpAny_take (i := 14) (v := .agg (arr 10 b)) rfl (by kernel_rfl) (by kernel_rfl) (by kernel_rfl) (fun _ _ _ h => h) (Or.inl ⟨by rfl, fun _ => by kernel_rfl⟩) ?_
         refine wpAny_take (i := 15) (v := .pointer (some ⟨gp, 10, none⟩)) rfl (by kernel_rfl) (by kernel_rfl) (by kernel_rfl) (fun _ _ _ h => h) (Or.inl ⟨by rfl, fun _ => by kernel_rfl⟩) ?_
         refine wpAny_ready (rs := [16]) (by kernel_rfl) (by simp) ?_
         refine ready_puts RP 10 10 d (by omega) rfl rfl 135 _ _ rfl (by kernel_rfl) (by kernel_rfl) (inf54 _) ?_ ?_
         ·intro w121 RP ho hu
          replace RX := RX.at_ (ho _ hxp)
          replace RZ := RZ.at_ (ho _ hzp)
          replace O := hu _ _ hle O
          clear ho hu
          refine wpAny_take (i := 17) (v := .pointer (some ⟨gp, 0, none⟩)) rfl (by kernel_rfl) (by kernel_rfl) (by kernel_rfl) (fun _ _ _ h => h) (Or.inl ⟨by rfl, fun _ => by kernel_rfl⟩) ?_
          refine wpAny_ready (rs := [18]) (by kernel_rfl) (by simp) ?_
          refine ready_puts RP 0 10 b (by omega) rfl rfl 135 _ _ rfl (by kernel_rfl) (by kernel_rfl) (inf54 _) ?_ ?_
          ·intro w122 RP ho hu
           replace RX := RX.at_ (ho _ hxp)
           replace RZ := RZ.at_ (ho _ hzp)
           replace O := hu _ _ hle O
           clear ho hu
           exact wpAny_done (by kernel_rfl) (hrest _ _ ⟨by kernel_rfl, RX, RZ, RP.congr (fun i hi => qj10 p q d b i hi), O⟩) _
          exact AllReady.nil
         exact AllReady.nil
        exact AllReady.nil
       exact AllReady.nil
      exact AllReady.nil
     refine ready_part rfl rfl 116 _ rfl w.heap.size 0 (by kernel_rfl) 5 x RX.all _ Tryz.underlying116 rfl info116 ?_ ?_
     ·skip
      refine wpAny_ready (rs := [5, 9]) (by kernel_rfl) (by simp) ?_
      refine ready_part rfl rfl 135 _ rfl gp 10 (by kernel_rfl) 10 q RP.q1 _ Tryz.underlying135 rfl info135 ?_ ?_
      ·skip
       refine wpAny_ready (rs := [9]) (by kernel_rfl) (by simp) ?_
       refine ready_part rfl rfl 135 _ rfl gp 0 (by kernel_rfl) 10 p RP.q0 _ Tryz.underlying135 rfl info135 ?_ ?_
       ·skip
        refine wpAny_ready (rs := [11]) (by kernel_rfl) (by simp) ?_
        refine ready_call 92 #[.agg (arr 10 q), .agg (arr 10 p), .agg (arr 5 x)] rfl rfl (by kernel_rfl) ?_ ?_
        ·refine (HC.out _).mono ?_
         rintro _ w126 ⟨rfl, hb⟩
         refine ⟨_, rfl, ?_⟩
         replace RX := RX.keep hb
         replace RZ := RZ.keep hb
         replace RP := RP.keep hb
         replace O := O.trans (hb.mono O.size)
         clear hb
         refine wpAny_take (i := 12) (v := .tuple #[.agg (arr 10 d), .agg (arr 10 b)]) rfl (by kernel_rfl) (by kernel_rfl) (by kernel_rfl) (fun _ _ _ h => h) (Or.inl ⟨by rfl, fun _ => by kernel_rfl⟩) ?_
         refine wpAny_take (i := 13) (v := .agg (arr 10 d)) rfl (by kernel_rfl) (by kernel_rfl) (by kernel_rfl) (fun _ _ _ h => h) (Or.inl ⟨by rfl, fun _ => by kernel_rfl⟩) ?_
         refine wpAny_take (i := 14) (v := .agg (arr 10 b)) rfl (by kernel_rfl) (by kernel_rfl) (by kernel_rfl) (fun _ _ _ h => h) (Or.inl ⟨by rfl, fun _ => by kernel_rfl⟩) ?_
         refine wpAny_take (i := 15) (v := .pointer (some ⟨gp, 10, none⟩)) rfl (by kernel_rfl) (by kernel_rfl) (by kernel_rfl) (fun _ _ _ h => h) (Or.inl ⟨by rfl, fun _ => by kernel_rfl⟩) ?_
         refine wpAny_ready (rs := [16]) (by kernel_rfl) (by simp) ?_
         refine ready_puts RP 10 10 d (by omega) rfl rfl 135 _ _ rfl (by kernel_rfl) (by kernel_rfl) (inf54 _) ?_ ?_
         ·intro w127 RP ho hu
          replace RX := RX.at_ (ho _ hxp)
          replace RZ := RZ.at_ (ho _ hzp)
          replace O := hu _ _ hle O
          clear ho hu
          refine wpAny_take (i := 17) (v := .pointer (some ⟨gp, 0, none⟩)) rfl (by kernel_rfl) (by kernel_rfl) (by kernel_rfl) (fun _ _ _ h => h) (Or.inl ⟨by rfl, fun _ => by kernel_rfl⟩) ?_
          refine wpAny_ready (rs := [18]) (by kernel_rfl) (by simp) ?_
          refine ready_puts RP 0 10 b (by omega) rfl rfl 135 _ _ rfl (by kernel_rfl) (by kernel_rfl) (inf54 _) ?_ ?_
          ·intro w128 RP ho hu
           replace RX := RX.at_ (ho _ hxp)
           replace RZ := RZ.at_ (ho _ hzp)
           replace O := hu _ _ hle O
           clear ho hu
           exact wpAny_done (by kernel_rfl) (hrest _ _ ⟨by kernel_rfl, RX, RZ, RP.congr (fun i hi => qj10 p q d b i hi), O⟩) _
          exact AllReady.nil
         exact AllReady.nil
        exact AllReady.nil
       exact AllReady.nil
      refine ready_part rfl rfl 135 _ rfl gp 0 (by kernel_rfl) 10 p RP.q0 _ Tryz.underlying135 rfl info135 ?_ ?_
      ·skip
       refine wpAny_ready (rs := [5]) (by kernel_rfl) (by simp) ?_
       refine ready_part rfl rfl 135 _ rfl gp 10 (by kernel_rfl) 10 q RP.q1 _ Tryz.underlying135 rfl info135 ?_ ?_
       ·skip
        refine wpAny_ready (rs := [11]) (by kernel_rfl) (by simp) ?_
        refine ready_call 92 #[.agg (arr 10 q), .agg (arr 10 p), .agg (arr 5 x)] rfl rfl (by kernel_rfl) ?_ ?_
        ·refine (HC.out _).mono ?_
         rintro _ w131 ⟨rfl, hb⟩
         refine ⟨_, rfl, ?_⟩
         replace RX := RX.keep hb
         replace RZ := RZ.keep hb
         replace RP := RP.keep hb
         replace O := O.trans (hb.mono O.size)
         clear hb
         refine wpAny_take (i := 12) (v := .tuple #[.agg (arr 10 d), .agg (arr 10 b)]) rfl (by kernel_rfl) (by kernel_rfl) (by kernel_rfl) (fun _ _ _ h => h) (Or.inl ⟨by rfl, fun _ => by kernel_rfl⟩) ?_
         refine wpAny_take (i := 13) (v := .agg (arr 10 d)) rfl (by kernel_rfl) (by kernel_rfl) (by kernel_rfl) (fun _ _ _ h => h) (Or.inl ⟨by rfl, fun _ => by kernel_rfl⟩) ?_
         refine wpAny_take (i := 14) (v := .agg (arr 10 b)) rfl (by kernel_rfl) (by kernel_rfl) (by kernel_rfl) (fun _ _ _ h => h) (Or.inl ⟨by rfl, fun _ => by kernel_rfl⟩) ?_
         refine wpAny_take (i := 15) (v := .pointer (some ⟨gp, 10, none⟩)) rfl (by kernel_rfl) (by kernel_rfl) (by kernel_rfl) (fun _ _ _ h => h) (Or.inl ⟨by rfl, fun _ => by kernel_rfl⟩) ?_
         refine wpAny_ready (rs := [16]) (by kernel_rfl) (by simp) ?_
         refine ready_puts RP 10 10 d (by omega) rfl rfl 135 _ _ rfl (by kernel_rfl) (by kernel_rfl) (inf54 _) ?_ ?_
         ·intro w132 RP ho hu
          replace RX := RX.at_ (ho _ hxp)
          replace RZ := RZ.at_ (ho _ hzp)
          replace O := hu _ _ hle O
          clear ho hu
          refine wpAny_take (i := 17) (v := .pointer (some ⟨gp, 0, none⟩)) rfl (by kernel_rfl) (by kernel_rfl) (by kernel_rfl) (fun _ _ _ h => h) (Or.inl ⟨by rfl, fun _ => by kernel_rfl⟩) ?_
          refine wpAny_ready (rs := [18]) (by kernel_rfl) (by simp) ?_
          refine ready_puts RP 0 10 b (by omega) rfl rfl 135 _ _ rfl (by kernel_rfl) (by kernel_rfl) (inf54 _) ?_ ?_
          ·intro w133 RP ho hu
           replace RX := RX.at_ (ho _ hxp)
           replace RZ := RZ.at_ (ho _ hzp)
           replace O := hu _ _ hle O
           clear ho hu
           exact wpAny_done (by kernel_rfl) (hrest _ _ ⟨by kernel_rfl, RX, RZ, RP.congr (fun i hi => qj10 p q d b i hi), O⟩) _
          exact AllReady.nil
         exact AllReady.nil
        exact AllReady.nil
       exact AllReady.nil
      exact AllReady.nil
     exact AllReady.nil
  ·have hk' : k = 255 := by omega
   subst hk'
   have hl := HE.out 255
   have HR : Hid (∀ w, Cs 94 #[.agg (arr 5 (ladF s e 255).dz.f)] w (.agg (arr 5 (invF (ladF s e 255).dz).f))) := hide fun w => inv_any _ w hl.dz
   have HM : Hid (∀ w, Cs 93 #[.agg (arr 5 (ladF s e 255).dx.f), .agg (arr 5 (invF (ladF s e 255).dz).f)] w (.agg (arr 5 (mulF (ladF s e 255).dx (invF (ladF s e 255).dz)).f))) := hide fun w => mul_any _ _ w hl.dx (invF_ok hl.dz)
   unfold qs at RP
   generalize hres : (mulF (ladF s e 255).dx (invF (ladF s e 255).dz)).f = r at *
   have HRES := hide hres
   clear hres hl
   generalize (invF (ladF s e 255).dz).f = iv at *
   generalize (ladF s e 255).dx.f = fx at *
   generalize (ladF s e 255).dz.f = fz at *
   generalize pj (ladF s e 255).px.f (ladF s e 255).pz.f = fq at *
   go_wp2_with fail
   have hne := KW.some wr
   have HA : Hid (∀ w', (∃ s : KW wr, w' = s.w) → w'.rangeAt gp 0 (arr 5 fx).toList) := hide (by rintro _ ⟨s, rfl⟩; exact (RP.keep s.keep).q0x)
   have HB : Hid (∀ w', (∃ s : KW wr, w' = s.w) → w'.rangeAt gp 5 (arr 5 fz).toList) := hide (by rintro _ ⟨s, rfl⟩; exact (RP.keep s.keep).q0z)
   have KK := hide (And.intro RZ O)
   clear RX RP RZ O
   refine wp_region_keep_tail 8 (by kernel_rfl) (by kernel_rfl) ?_
   simp only [List.take_succ_cons, List.take_zero, List.drop_succ_cons, List.drop_zero]
   go_big_quiet_step (fail)
   go_big_quiet_step (fail)
   go_big_quiet_want
   refine quiet_part 116 _ rfl gp 0 rfl 5 fx HA.out _ Tryz.underlying116 rfl info116 ?_
   go_simp
   go_big_quiet_on
   go_big_quiet_step (fail)
   go_big_quiet_step (fail)
   go_big_quiet_want
   refine quiet_part 116 _ rfl gp 5 rfl 5 fz HB.out _ Tryz.underlying116 rfl info116 ?_
   go_simp
   go_big_quiet_on
   go_big_quiet_step ((exact keep_of (HR.out _)))
   go_big_quiet_step ((exact keep_of (HM.out _)))
   refine wpQuiet_nil ?_
   intro t
   obtain ⟨RZ, O⟩ := KK.out
   replace RZ := RZ.keep t.keep
   replace O := O.trans (t.keep.mono O.size)
   clear KK HA HB hne HR HM
   refine wpList_put rfl RZ r 116 _ _ rfl (by kernel_rfl) (by kernel_rfl) info116 ?_
   intro w7 RZ _ hu
   replace O := hu _ _ (by omega) O
   clear hu
   refine wpList_nil ?_
   go_simp
   go_wp2_with fail
   exact bodyPost_ret (v := .agg (arr 5 r)) (results_cell_row Tryz.results68 _ _ (w.heap.size + 1) 116 (arr 5 r) (0, 0) _ rfl RZ Tryz.underlying116 rfl (inf41 _)) rfl ⟨by rw [HRES.out], O⟩
open Go.RowKit
theorem bt_bs (l : List Int) (i : Nat) (x : Int) (hl : l[i]? = some x) (h0 : 0 ≤ x) (h1 : x < 256) : bt (bs l) i = x := by
 unfold bt bs
 simp only [List.getElem?_toArray, List.getElem?_map, hl, Option.map_some, Option.getD_some]
 simp only [UInt8.toNat_ofNat']
 omega
structure BC (W : World) (g : Nat) (f : Nat → Int) (n : Nat) : Prop where
 lt : g < W.heap.size
 c : ∀ i, i < n → W.cell? ⟨g, i, none⟩ = some (.int .u8 (f i))
 fz : ∀ i, i < n → W.frozen? ⟨g, i, none⟩ = false
theorem heap_setCell_size (W : World) (a : Addr) (v : Value) : (W.setCell a v).heap.size = W.heap.size := by
 simp
theorem BC.set {W : World} {g n : Nat} {f : Nat → Int} (h : BC W g f n) {k : Nat} (hk : k < n) (v : Int) : BC (W.setCell ⟨g, k, none⟩ (.int .u8 v)) g (upd f k v) n where
 lt := by rw [heap_setCell_size]; exact h.lt
 c := fun i hi => by
  by_cases e : i = k
  ·subst e
   rw [World.cell?_setCell_same _ _ _ (h.c i hk)]
   simp [upd]
  ·rw [World.cell?_setCell_other _ _ _ _ (by simp <;> omega), h.c i hi]
   simp [upd, e]
 fz := fun i hi => by
  rw [World.frozen?_setCell]
  exact h.fz i hi
theorem row_frozen (w : World) (g j : Nat) (cs : Array Value) (t : TypeId) (hg : w.heap[g]? = some (.cells cs t (cs.size, cs.size + 1))) (hj : j < cs.size) : w.frozen? ⟨g, j, none⟩ = false := by
 unfold World.frozen?
 rw [hg]
 simp
 omega
theorem conv_str (W : World) (s : ByteArray) : ∃ (cap : Nat) (W1 : World), (convert 9 61 (.string s)).run Tryz.prog W = .ok (.slice (some ⟨W.heap.size, 0, none⟩) s.size cap) W1 ∧ BC W1 W.heap.size (bt s) s.size ∧ Below W.heap.size W W1 := by
 have h := run_bytes_of_string (P := Tryz.prog) W 9 61 5 s Tryz.underlying9 Tryz.underlying61 Tryz.underlying5
 generalize grownCap W s.size 0 5 = cap at h
 refine ⟨cap, _, h, ?_, ((Below.refl _ _).drew).alloc (Nat.le_refl _) _⟩
 have hg : (W.drew.alloc (.cells (bytesRow s cap) 5 ((bytesRow s cap).size, (bytesRow s cap).size + 1))).heap[W.heap.size]? = some (.cells (bytesRow s cap) 5 ((bytesRow s cap).size, (bytesRow s cap).size + 1)) := heap_alloc_new W.drew _
 have hsz : s.size ≤ (bytesRow s cap).size := by
  simp [bytesRow]
 refine ⟨by simp, fun i hi => ?_, fun i hi => row_frozen _ _ _ _ _ hg (by omega)⟩
 rw [cell_of_row _ _ _ _ _ _ hg]
 have hi' : i < s.data.size := hi
 unfold bytesRow bt
 rw [Array.getElem?_append_left (by simpa using hi'), Array.getElem?_map, Array.getElem?_eq_getElem hi']
 rfl
theorem conv_back {W : World} {g n : Nat} {f : Nat → Int} (h : BC W g f n) (cap : Nat) (hf : ∀ i, i < n → 0 ≤ f i ∧ f i < 256) :
  (convert 61 9 (.slice (some ⟨g, 0, none⟩) n cap)).run Tryz.prog W = .ok (.string (bs ((List.range n).map f))) W := by
 have hl : ((List.range n).map fun i => UInt8.ofNat (f i).toNat).length = n := by simp
 have h2 := run_convert_bytes_back (P := Tryz.prog) W 61 9 5 ⟨g, 0, none⟩ cap ((List.range n).map fun i => UInt8.ofNat (f i).toNat) Tryz.underlying61 Tryz.underlying5 Tryz.underlying9 (fun j hj => by
  rw [hl] at hj
  have hadd : (⟨g, 0, none⟩ : Addr).add j = ⟨g, j, none⟩ := by unfold Addr.add; split <;> simp_all
  rw [hadd, h.c j hj]
  have := hf j hj
  simp
  omega)
 rw [hl] at h2
 rw [h2]
 unfold bs
 congr 3
 simp [List.map_map]
theorem and_bd {x : Int} (h0 : 0 ≤ x) (h1 : x < 256) : 0 ≤ bits .and .u8 x 248 ∧ bits .and .u8 x 248 < 256 := by
 obtain ⟨X, rfl⟩ := Int.eq_ofNat_of_zero_le h0
 have hX : X < 256 := by omega
 have h : ∀ n : Fin 256, 0 ≤ bits .and .u8 ((n.val : Nat) : Int) 248 ∧ bits .and .u8 ((n.val : Nat) : Int) 248 < 256 := by decide +kernel
 exact h ⟨X, hX⟩
theorem or_bd {x : Int} (h0 : 0 ≤ x) (h1 : x < 256) : 0 ≤ bits .or .u8 (bits .and .u8 x 127) 64 ∧ bits .or .u8 (bits .and .u8 x 127) 64 < 256 := by
 obtain ⟨X, rfl⟩ := Int.eq_ofNat_of_zero_le h0
 have hX : X < 256 := by omega
 have h : ∀ n : Fin 256, 0 ≤ bits .or .u8 (bits .and .u8 ((n.val : Nat) : Int) 127) 64 ∧ bits .or .u8 (bits .and .u8 ((n.val : Nat) : Int) 127) 64 < 256 := by decide +kernel
 exact h ⟨X, hX⟩
def clF (s : ByteArray) : Nat → Int := upd (upd (bt s) 0 (bits .and .u8 (bt s 0) 248)) 31 (bits .or .u8 (bits .and .u8 (bt s 31) 127) 64)
def clS (s : ByteArray) : ByteArray := bs ((List.range 32).map (clF s))
theorem clF_bd (s : ByteArray) (i : Nat) : 0 ≤ clF s i ∧ clF s i < 256 := by
 unfold clF upd
 by_cases h1 : i = 31
 ·rw [if_pos h1]
  exact or_bd (bt_bd s 31).1 (bt_bd s 31).2
 ·rw [if_neg h1]
  by_cases h2 : i = 0
  ·rw [if_pos h2]
   exact and_bd (bt_bd s 0).1 (bt_bd s 0).2
  ·rw [if_neg h2]
   exact bt_bd s i
theorem clS_size (s : ByteArray) : (clS s).size = 32 := by unfold clS; rw [bs_size]; simp
theorem clamp_yes (s : ByteArray) (w : World) (hs : s.size = 32) : Cs 66 #[.string s] w (.tuple #[.string (clS s), .int .i64 0]) := by
 have n0 : ((s.size : Int) != 32) = false := by simp [hs]
 obtain ⟨cap, W1, hcv, B, hb⟩ := conv_str w s
 rw [hs] at B
 have c0 := B.c 0 (by omega)
 have c31 := B.c 31 (by omega)
 have f0 := B.fz 0 (by omega)
 have f31 := B.fz 31 (by omega)
 have gl := B.lt
 have B2 := (B.set (k := 0) (by omega) (bits .and .u8 (bt s 0) 248)).set (k := 31) (by omega) (bits .or .u8 (bits .and .u8 (bt s 31) 127) 64)
 have hbk := conv_back (f := clF s) B2 cap (fun i _ => clF_bd s i)
 rw [show bs ((List.range 32).map (clF s)) = clS s from rfl] at hbk
 have OO := hide ((hb.setCell (p := ⟨w.heap.size, 0, none⟩) (Nat.le_refl _) (.int .u8 (bits .and .u8 (bt s 0) 248))).setCell (p := ⟨w.heap.size, 31, none⟩) (Nat.le_refl _) (.int .u8 (bits .or .u8 (bits .and .u8 (bt s 31) 127) 64)))
 clear B2 B hb
 generalize clS s = C at *
 go_enter Tryz.func66, Tryz.ntmps66
 go_wp2
 exact bodyPost_ret (v := .tuple #[.string C, .int .i64 0]) (by simp [results, Tryz.results66, go_sem]) rfl ⟨rfl, OO.out⟩
theorem rclamp_yes (s : ByteArray) (w : World) (hs : s.size = 32) : Cs 37 #[.string s] w (.string (clS s)) := by
 obtain ⟨cap, W1, hcv, B, hb⟩ := conv_str w s
 rw [hs] at B
 have c0 := B.c 0 (by omega)
 have c31 := B.c 31 (by omega)
 have f0 := B.fz 0 (by omega)
 have f31 := B.fz 31 (by omega)
 have gl := B.lt
 have B2 := (B.set (k := 0) (by omega) (bits .and .u8 (bt s 0) 248)).set (k := 31) (by omega) (bits .or .u8 (bits .and .u8 (bt s 31) 127) 64)
 have hbk := conv_back (f := clF s) B2 cap (fun i _ => clF_bd s i)
 rw [show bs ((List.range 32).map (clF s)) = clS s from rfl] at hbk
 have OO := hide ((hb.setCell (p := ⟨w.heap.size, 0, none⟩) (Nat.le_refl _) (.int .u8 (bits .and .u8 (bt s 0) 248))).setCell (p := ⟨w.heap.size, 31, none⟩) (Nat.le_refl _) (.int .u8 (bits .or .u8 (bits .and .u8 (bt s 31) 127) 64)))
 clear B2 B hb
 generalize clS s = C at *
 go_enter Tryz.func37, Tryz.ntmps37
 go_wp2
 go_ret
 exact ⟨rfl, OO.out⟩
open Go.RowKit
theorem and127_bd {x : Int} (h0 : 0 ≤ x) (h1 : x < 256) : 0 ≤ bits .and .u8 x 127 ∧ bits .and .u8 x 127 < 256 := by
 obtain ⟨X, rfl⟩ := Int.eq_ofNat_of_zero_le h0
 have hX : X < 256 := by omega
 have h : ∀ n : Fin 256, 0 ≤ bits .and .u8 ((n.val : Nat) : Int) 127 ∧ bits .and .u8 ((n.val : Nat) : Int) 127 < 256 := by decide +kernel
 exact h ⟨X, hX⟩
def mkF (s : ByteArray) : Nat → Int := upd (bt s) 31 (bits .and .u8 (bt s 31) 127)
def mkS (s : ByteArray) : ByteArray := bs ((List.range 32).map (mkF s))
theorem mkF_bd (s : ByteArray) (i : Nat) : 0 ≤ mkF s i ∧ mkF s i < 256 := by
 unfold mkF upd
 by_cases h1 : i = 31
 ·rw [if_pos h1]
  exact and127_bd (bt_bd s 31).1 (bt_bd s 31).2
 ·rw [if_neg h1]
  exact bt_bd s i
theorem mkS_size (s : ByteArray) : (mkS s).size = 32 := by unfold mkS; rw [bs_size]; simp
theorem results_ct {P : Program} {fn : Func} {p s : Tmp} {ty : TypeId} (h : fn.results = #[.cell p ty, .tmp s]) (tmps : Array Value) (w : World) (g : Nat) (t : TypeId) (cs : Array Value) (fr : Nat × Nat) (d : TypeDesc) (v : Value)
  (hp : tmps.getD p undef = .pointer (some ⟨g, 0, none⟩)) (hs : tmps.getD s undef = v) (hg : w.heap[g]? = some (.cells cs t fr))
  (hu : P.underlying ty = some d) (hd : (match d with | .struct _ | .array _ _ => true | _ => false) = true) (hi : (P.info? ty).map (·.size) = some cs.size) :
  (results fn tmps).run P w = .ok (.tuple #[.agg cs, v]) w := results_cell_tmp h tmps w g t cs fr d v hp hs hg hu hd hi
theorem coord_yes (s : ByteArray) (w : World) (hs : s.size = 32) : Cs 67 #[.string s] w (.tuple #[.agg (arr 5 (ofF (mkS s)).f), .int .i64 0]) := by
 have HO : Hid (∀ w, Cs 90 #[.string (mkS s)] w (.tuple #[.agg (arr 5 (ofF (mkS s)).f), .int .i64 0])) := hide fun w => of_yes (mkS s) w (mkS_size s)
 have n0 : ((s.size : Int) != 32) = false := by simp [hs]
 have R : Row (w.alloc (.cells #[Value.int IntKind.u64 0, Value.int IntKind.u64 0, Value.int IntKind.u64 0, Value.int IntKind.u64 0, Value.int IntKind.u64 0] 116)) w.heap.size 116 5 (fun _ => 0) := Row.new w 116 5 (fun _ => 0)
 have O : Below w.heap.size w (w.alloc (.cells #[Value.int IntKind.u64 0, Value.int IntKind.u64 0, Value.int IntKind.u64 0, Value.int IntKind.u64 0, Value.int IntKind.u64 0] 116)) := new_below w _
 obtain ⟨cap, W1, hcv, B, hb⟩ := conv_str (w.alloc (.cells #[Value.int IntKind.u64 0, Value.int IntKind.u64 0, Value.int IntKind.u64 0, Value.int IntKind.u64 0, Value.int IntKind.u64 0] 116)) s
 rw [show (w.alloc (.cells #[Value.int IntKind.u64 0, Value.int IntKind.u64 0, Value.int IntKind.u64 0, Value.int IntKind.u64 0, Value.int IntKind.u64 0] 116)).heap.size = w.heap.size + 1 by simp] at hcv B
 rw [hs] at B
 have c31 := B.c 31 (by omega)
 have f31 := B.fz 31 (by omega)
 have gl := B.lt
 have B2 := B.set (k := 31) (by omega) (bits .and .u8 (bt s 31) 127)
 have hbk := conv_back (f := mkF s) B2 cap (fun i _ => mkF_bd s i)
 rw [show bs ((List.range 32).map (mkF s)) = mkS s from rfl] at hbk
 replace R := (R.keep hb).other (a := ⟨w.heap.size + 1, 31, none⟩) (by simp) (.int .u8 (bits .and .u8 (bt s 31) 127))
 replace O := (O.trans (hb.mono O.size)).setCell (p := ⟨w.heap.size + 1, 31, none⟩) (by simp) (.int .u8 (bits .and .u8 (bt s 31) 127))
 have HR := hide (And.intro R O)
 clear B2 B hb R O
 generalize mkS s = C at *
 generalize (ofF C).f = x at *
 go_enter Tryz.func67, Tryz.ntmps67
 go_wp2_with fail
 refine (HO.out _).mono ?_
 rintro _ w1 ⟨rfl, hb⟩
 obtain ⟨R, O⟩ := HR.out
 replace R := R.keep hb
 replace O := O.trans (hb.mono O.size)
 clear hb HO HR hcv hbk c31 f31 gl n0
 have RR := hide (R.setAll x)
 have OO := hide (below_setCells (g := w.heap.size) (Nat.le_refl _) (arr 5 x).toList 0 O)
 clear O
 go_wp2_with (refine wpList_store_mid rfl 116 _ _ rfl w.heap.size 0 (arr 5 x) rfl rfl ?thc (inf41 _) (arr_one _ _) ?_)
 case thc => rw [arr_size]; exact R.there
 exact bodyPost_ret (v := .tuple #[.agg (arr 5 x), .int .i64 0]) (results_ct Tryz.results67 _ _ w.heap.size 116 (arr 5 x) (0, 0) _ _ rfl rfl RR.out Tryz.underlying116 rfl (inf41 _)) rfl ⟨rfl, OO.out⟩
def shE (s p : ByteArray) : E5 := mulF (ladF (clS s) (ofF (mkS p)) 255).dx (invF (ladF (clS s) (ofF (mkS p)) 255).dz)
theorem shE_ok (s p : ByteArray) : (shE s p).Ok := by
 have h := ladF_ok (clS s) (ofF_ok (mkS p)) 255
 exact mulF_ok h.dx (invF_ok h.dz)
def shS (s p : ByteArray) : ByteArray := if (shE s p).n % Pm = 0 then ⟨#[]⟩ else lebytes ((shE s p).n % Pm)
def shC (s p : ByteArray) : Int := if (shE s p).n % Pm = 0 then 30 else 0
theorem shared_yes (s p : ByteArray) (w : World) (hs : s.size = 32) (hp : p.size = 32) : Cs 46 #[.string s, .string p] w (.tuple #[.string (shS s p), .int .i64 (shC s p)]) := by
 have H1 : Hid (∀ w, Cs 66 #[.string s] w (.tuple #[.string (clS s), .int .i64 0])) := hide fun w => clamp_yes s w hs
 have H2 : Hid (∀ w, Cs 67 #[.string p] w (.tuple #[.agg (arr 5 (ofF (mkS p)).f), .int .i64 0])) := hide fun w => coord_yes p w hp
 have H3 : Hid (∀ w, Cs 68 #[.string (clS s), .agg (arr 5 (ofF (mkS p)).f)] w (.agg (arr 5 (shE s p).f))) := hide fun w => times_any (clS s) (ofF (mkS p)) w (clS_size s) (ofF_ok _)
 have H4 : Hid (∀ w, Cs 69 #[.agg (arr 5 (shE s p).f), .agg #[Value.int IntKind.u64 0, Value.int IntKind.u64 0, Value.int IntKind.u64 0, Value.int IntKind.u64 0, Value.int IntKind.u64 0]] w (.bool ((shE s p).n % Pm == 0))) := hide fun w => by
  have h := same_any (shE s p) zeroE w (shE_ok s p) zeroE_ok
  rw [zeroE_n] at h
  exact h
 have H5 : Hid (∀ w, Cs 70 #[.agg (arr 5 (shE s p).f)] w (.string (lebytes ((shE s p).n % Pm)))) := hide fun w => bytes_any (shE s p) w (shE_ok s p)
 have V : Hid (((shE s p).n % Pm == 0) = true ∧ shS s p = ⟨#[]⟩ ∧ shC s p = 30 ∨ ((shE s p).n % Pm == 0) = false ∧ shS s p = lebytes ((shE s p).n % Pm) ∧ shC s p = 0) := hide (by
  unfold shS shC
  by_cases h : (shE s p).n % Pm = 0
  ·left
   rw [if_pos h, if_pos h]
   exact ⟨by simp [h], rfl, rfl⟩
  ·right
   rw [if_neg h, if_neg h]
   exact ⟨by simp [h], rfl, rfl⟩)
 generalize ((shE s p).n % Pm == 0) = z at *
 generalize lebytes ((shE s p).n % Pm) = L at *
 generalize (shE s p).f = m at *
 generalize (ofF (mkS p)).f = x at *
 generalize clS s = C at *
 go_enter Tryz.func46, Tryz.ntmps46
 go_wp2_with fail
 refine (H1.out _).mono ?_
 rintro _ w1 ⟨rfl, O⟩
 clear H1
 go_upto_region 4 with fail
 refine wp_region_lit ?_
 refine wpList_value rfl (.string p) (fun _ => by kernel_rfl) ?_
 refine wpList_call rfl 67 #[.string p] (.tuple #[.agg (arr 5 x), .int .i64 0]) (fun _ => by kernel_rfl) H2.out ?_
 intro w2 hb
 replace O := O.trans (hb.mono O.size)
 clear hb H2
 refine wpList_value rfl (.tuple #[.agg (arr 5 x), .int .i64 0]) (fun _ => by kernel_rfl) ?_
 refine wpList_value rfl (.agg (arr 5 x)) (fun _ => by kernel_rfl) ?_
 refine wpList_value rfl (.int .i64 0) (fun _ => by kernel_rfl) ?_
 refine wpList_new rfl (fun g => .pointer (some ⟨g, 0, none⟩)) (.cells #[Value.int IntKind.u64 0, Value.int IntKind.u64 0, Value.int IntKind.u64 0, Value.int IntKind.u64 0, Value.int IntKind.u64 0] 116) (fun _ => by kernel_rfl) ?_
 intro g8 w3 R8 n8 hb
 replace R8 : Row w3 g8 116 5 (fun _ => 0) := R8
 have lo := O.size
 replace O := O.trans (hb.mono O.size)
 clear hb
 refine wpList_put rfl R8 x 116 _ _ rfl (by kernel_rfl) (by kernel_rfl) info116 ?_
 intro w4 R8 _ hu
 replace O := hu _ _ (by omega) O
 clear hu n8 lo
 refine wpList_value rfl (.int .i64 0) (fun _ => by kernel_rfl) ?_
 refine wpList_nil ?_
 go_simp
 go_upto_region 7 with fail
 refine wp_region_lit ?_
 refine wpList_value rfl (.string C) (fun _ => by kernel_rfl) ?_
 refine wpList_part rfl 116 _ rfl g8 0 (by kernel_rfl) 5 x R8.all _ Tryz.underlying116 rfl info116 ?_
 refine wpList_call rfl 68 #[.string C, .agg (arr 5 x)] (.agg (arr 5 m)) (fun _ => by kernel_rfl) H3.out ?_
 intro w5 hb
 replace O := O.trans (hb.mono O.size)
 clear hb H3 R8
 refine wpList_new rfl (fun g => .pointer (some ⟨g, 0, none⟩)) (.cells #[Value.int IntKind.u64 0, Value.int IntKind.u64 0, Value.int IntKind.u64 0, Value.int IntKind.u64 0, Value.int IntKind.u64 0] 116) (fun _ => by kernel_rfl) ?_
 intro g9 w6 R9 n9 hb
 replace R9 : Row w6 g9 116 5 (fun _ => 0) := R9
 have lo := O.size
 replace O := O.trans (hb.mono O.size)
 clear hb
 refine wpList_put rfl R9 m 116 _ _ rfl (by kernel_rfl) (by kernel_rfl) info116 ?_
 intro w7 R9 _ hu
 replace O := hu _ _ (by omega) O
 clear hu n9 lo
 refine wpList_nil ?_
 go_simp
 go_upto_region 8 with fail
 refine wp_region_lit ?_
 refine wpList_part rfl 116 _ rfl g9 0 (by kernel_rfl) 5 m R9.all _ Tryz.underlying116 rfl info116 ?_
 refine wpList_value rfl (.agg #[Value.int IntKind.u64 0, Value.int IntKind.u64 0, Value.int IntKind.u64 0, Value.int IntKind.u64 0, Value.int IntKind.u64 0]) (fun _ => by kernel_rfl) ?_
 refine wpList_call rfl 69 #[.agg (arr 5 m), .agg #[Value.int IntKind.u64 0, Value.int IntKind.u64 0, Value.int IntKind.u64 0, Value.int IntKind.u64 0, Value.int IntKind.u64 0]] (.bool z) (fun _ => by kernel_rfl) H4.out ?_
 intro w8 hb
 replace R9 := R9.keep hb
 replace O := O.trans (hb.mono O.size)
 clear hb H4
 refine wpList_nil ?_
 rcases V.out with ⟨hz, hS, hC⟩ | ⟨hz, hS, hC⟩
 ·subst hz
  have HS := hide hS
  have HC := hide hC
  clear V R9 H5 hS hC
  go_simp
  go_wp2_with fail
  exact bodyPost_ret (v := .tuple #[.string ⟨#[]⟩, .int .i64 30]) (by simp [results, Tryz.results46, go_sem]) rfl ⟨by rw [HS.out, HC.out], O⟩
 ·subst hz
  have HS := hide hS
  have HC := hide hC
  clear V hS hC
  go_simp
  go_upto_region 10 with fail
  refine wp_region_lit ?_
  refine wpList_part rfl 116 _ rfl g9 0 (by kernel_rfl) 5 m R9.all _ Tryz.underlying116 rfl info116 ?_
  refine wpList_call rfl 70 #[.agg (arr 5 m)] (.string L) (fun _ => by kernel_rfl) H5.out ?_
  intro w9 hb
  replace O := O.trans (hb.mono O.size)
  clear hb H5 R9
  refine wpList_value rfl (.string L) (fun _ => by kernel_rfl) ?_
  refine wpList_value rfl (.int .i64 0) (fun _ => by kernel_rfl) ?_
  refine wpList_nil ?_
  go_simp
  go_wp2_with fail
  exact bodyPost_ret (v := .tuple #[.string L, .int .i64 0]) (by simp [results, Tryz.results46, go_sem]) rfl ⟨by rw [HS.out, HC.out], O⟩
def nineS : ByteArray := lebytes ((smallF 9).n % Pm)
theorem nineS_size : nineS.size = 32 := by decide +kernel
theorem public_gen (s S : ByteArray) (c : Int) (w : World) (H : ∀ w, Cs 46 #[.string s, .string nineS] w (.tuple #[.string S, .int .i64 c])) : Cs 49 #[.string s] w (.tuple #[.string S, .int .i64 c]) := by
 have H1 := hide H
 clear H
 have H2 : Hid (∀ w, Cs 75 #[.int .u32 9] w (.agg (arr 5 (smallF 9).f))) := hide fun w => small_any 9 w (by decide) (by decide)
 have H3 : Hid (∀ w, Cs 70 #[.agg (arr 5 (smallF 9).f)] w (.string nineS)) := hide fun w => bytes_any (smallF 9) w (smallF_ok (by decide) (by decide))
 generalize (smallF 9).f = x at *
 generalize nineS = N at *
 go_enter Tryz.func49, Tryz.ntmps49
 go_wp2_with fail
 refine (H2.out _).mono ?_
 rintro _ w1 ⟨rfl, O⟩
 clear H2
 go_wp2_with fail
 refine (H3.out _).mono ?_
 rintro _ w2 ⟨rfl, hb⟩
 replace O := O.trans (hb.mono O.size)
 clear hb H3
 go_wp2_with fail
 refine (H1.out _).mono ?_
 rintro _ w3 ⟨rfl, hb⟩
 replace O := O.trans (hb.mono O.size)
 clear hb H1
 go_wp2_with fail
 exact bodyPost_ret (v := .tuple #[.string S, .int .i64 c]) (by simp [results, Tryz.results49, go_sem]) rfl ⟨rfl, O⟩
open Go.RowKit
structure RS where
 x2 : Int
 z2 : Int
 x3 : Int
 z3 : Int
def rstep (x1 : Int) (q : RS) : RS :=
 let a := (q.x2 + q.z2) % Pm
 let aa := a * a % Pm
 let d := (q.x2 - q.z2) % Pm
 let dd := d * d % Pm
 let e := (aa - dd) % Pm
 let da := (q.x3 - q.z3) % Pm * a % Pm
 let cb := (q.x3 + q.z3) % Pm * d % Pm
 let s := (da + cb) % Pm
 let t := (da - cb) % Pm
 ⟨aa * dd % Pm, e * ((aa + 121665 * e % Pm) % Pm) % Pm, s * s % Pm, x1 * (t * t % Pm) % Pm⟩
def RS.swap (q : RS) : RS := ⟨q.x3, q.z3, q.x2, q.z2⟩
def rladF (s : ByteArray) (x1 : Int) : Nat → RS
 | 0 => ⟨1, 0, x1, 1⟩
 | k + 1 => if bit s (254 - k) = 0 then rstep x1 (rladF s x1 k) else (rstep x1 (rladF s x1 k).swap).swap
structure RS.Ok (q : RS) : Prop where
 x2 : 0 ≤ q.x2 ∧ q.x2 < Pm
 z2 : 0 ≤ q.z2 ∧ q.z2 < Pm
 x3 : 0 ≤ q.x3 ∧ q.x3 < Pm
 z3 : 0 ≤ q.z3 ∧ q.z3 < Pm
theorem pmod (X : Int) : 0 ≤ X % Pm ∧ X % Pm < Pm := ⟨Int.emod_nonneg _ (by decide), Int.emod_lt_of_pos _ (by decide)⟩
theorem RS.Ok.swap {q : RS} (h : q.Ok) : q.swap.Ok := ⟨h.x3, h.z3, h.x2, h.z2⟩
theorem rstep_ok (x1 : Int) (q : RS) : (rstep x1 q).Ok := ⟨pmod _, pmod _, pmod _, pmod _⟩
theorem rladF_ok (s : ByteArray) {x1 : Int} (h : 0 ≤ x1 ∧ x1 < Pm) : ∀ k, (rladF s x1 k).Ok
 | 0 => ⟨⟨show (0 : Int) ≤ 1 by decide, show (1 : Int) < Pm by decide⟩, ⟨show (0 : Int) ≤ 0 by decide, show (0 : Int) < Pm by decide⟩, h, ⟨show (0 : Int) ≤ 1 by decide, show (1 : Int) < Pm by decide⟩⟩
 | k + 1 => by
  unfold rladF
  by_cases hb : bit s (254 - k) = 0
  ·rw [if_pos hb]
   exact rstep_ok _ _
  ·rw [if_neg hb]
   exact (rstep_ok _ _).swap
theorem dSP {X : Int} (h : 0 ≤ X ∧ X < Pm) : S (d16 X) 16 = X := by
 have := dS X
 rwa [Int.emod_eq_of_lt h.1 h.2] at this
open Go.RowKit
def shV (K : ByteArray) (X : Int) : Int := (rladF K X 255).x2 * pwm (rladF K X 255).z2 (xbit 255 21) 255 % Pm
structure Lc (l : St) (q : RS) : Prop where
 x2 : Cg l.dx.n q.x2
 z2 : Cg l.dz.n q.z2
 x3 : Cg l.px.n q.x3
 z3 : Cg l.pz.n q.z3
theorem em (X : Int) : Cg X (X % Pm) := (cg_emod X).symm
theorem step_cg {ax az bx bz x : E5} {q : RS} {X : Int} (h1 : Cg ax.n q.x2) (h2 : Cg az.n q.z2) (h3 : Cg bx.n q.x3) (h4 : Cg bz.n q.z3) (h5 : Cg x.n X) : Lc (stepF ax az bx bz x) (rstep X q) := by
 have a := ((addF_n ax az).trans (h1.add h2)).trans (em _)
 have d := ((subF_n ax az).trans (h1.sub h2)).trans (em _)
 have aa := ((mulF_n _ _).trans (a.mul a)).trans (em _)
 have dd := ((mulF_n _ _).trans (d.mul d)).trans (em _)
 have e := ((subF_n _ _).trans (aa.sub dd)).trans (em _)
 have u1 := ((subF_n bx bz).trans (h3.sub h4)).trans (em _)
 have da := ((mulF_n _ _).trans (u1.mul a)).trans (em _)
 have u2 := ((addF_n bx bz).trans (h3.add h4)).trans (em _)
 have cb := ((mulF_n _ _).trans (u2.mul d)).trans (em _)
 have s := ((addF_n _ _).trans (da.add cb)).trans (em _)
 have t := ((subF_n _ _).trans (da.sub cb)).trans (em _)
 have k := ((mulF_n _ _).trans ((smallF_n 121665).mul e)).trans (em _)
 have f := ((addF_n _ _).trans (aa.add k)).trans (em _)
 exact ⟨((mulF_n _ _).trans (aa.mul dd)).trans (em _), ((mulF_n _ _).trans (e.mul f)).trans (em _), ((mulF_n _ _).trans (s.mul s)).trans (em _), ((mulF_n _ _).trans (h5.mul (((mulF_n _ _).trans (t.mul t)).trans (em _)))).trans (em _)⟩
theorem lad_cg (K : ByteArray) {x : E5} {X : Int} (h : Cg x.n X) : ∀ k, Lc (ladF K x k) (rladF K X k)
 | 0 => ⟨smallF_n 1, Cg.of_eq zeroE_n, h, smallF_n 1⟩
 | k + 1 => by
  have ih := lad_cg K h k
  unfold ladF rladF
  by_cases hb : bit K (254 - k) = 0
  ·rw [if_pos hb, if_pos hb]
   exact step_cg ih.x2 ih.z2 ih.x3 ih.z3 h
  ·rw [if_neg hb, if_neg hb]
   have := step_cg (q := (rladF K X k).swap) ih.x3 ih.z3 ih.x2 ih.z2 h
   exact ⟨this.x3, this.z3, this.x2, this.z2⟩
theorem shE_V (s p : ByteArray) : (shE s p).n % Pm = shV (clS s) (val (mkS p) % Pm) := by
 have h := lad_cg (clS s) ((ofF_n (mkS p)).trans (em _)) 255
 exact ((mulF_n _ _).trans (h.x2.mul (rinv_val h.z2))).emod
def sS (V : Int) : ByteArray := if V = 0 then ⟨#[]⟩ else lebytes V
def sC (V : Int) : Int := if V = 0 then 30 else 0
theorem shS_V (s p : ByteArray) : shS s p = sS (shV (clS s) (val (mkS p) % Pm)) := by
 unfold shS sS
 rw [shE_V]
theorem shC_V (s p : ByteArray) : shC s p = sC (shV (clS s) (val (mkS p) % Pm)) := by
 unfold shC sC
 rw [shE_V]
theorem sh_any (s p : ByteArray) (w : World) (V : Int) (hs : s.size = 32) (hp : p.size = 32) (hV : shV (clS s) (val (mkS p) % Pm) = V) : Cs 46 #[.string s, .string p] w (.tuple #[.string (sS V), .int .i64 (sC V)]) := by
 have h := shared_yes s p w hs hp
 rwa [shS_V, shC_V, hV] at h
theorem pub_any (s : ByteArray) (w : World) (V : Int) (hs : s.size = 32) (hV : shV (clS s) (val (mkS nineS) % Pm) = V) : Cs 49 #[.string s] w (.tuple #[.string (sS V), .int .i64 (sC V)]) :=
 public_gen s _ _ w fun w => sh_any s nineS w V hs nineS_size hV
theorem rb_bt (f : Nat → Int) {i : Nat} (h : i < 32) : bt (bs (rb f 32)) i = by16 f i := by
 refine bt_bs _ _ _ ?_ (by unfold by16; omega) (by unfold by16; omega)
 simp only [rb, List.getElem?_map, List.getElem?_range h, Option.map_some]
 rw [if_pos h]
theorem rb_pt {f : Nat → Int} (hf : Dig f 16) : val (bs (rb f 32)) = S f 16 := by
 rw [← pt_S]
 refine S_congr fun i hi => ?_
 have h := hf i hi
 unfold pt
 rw [if_pos (by omega), if_pos (by omega), rb_bt f (by omega), rb_bt f (by omega)]
 unfold by16
 rw [show 2 * i / 2 = i by omega, show 2 * i % 2 = 0 by omega, show (2 * i + 1) / 2 = i by omega, show (2 * i + 1) % 2 = 1 by omega]
 simp
 omega
theorem and127 {x : Int} (h0 : 0 ≤ x) (h1 : x < 128) : bits .and .u8 x 127 = x := by
 obtain ⟨X, rfl⟩ := Int.eq_ofNat_of_zero_le h0
 have hX : X < 128 := by omega
 have h : ∀ n : Fin 128, bits .and .u8 ((n.val : Nat) : Int) 127 = ((n.val : Nat) : Int) := by decide +kernel
 exact h ⟨X, hX⟩
theorem bs_bt (s : ByteArray) (hs : s.size = 32) : bs ((List.range 32).map (bt s)) = s := by
 have hd : (bs ((List.range 32).map (bt s))).data = s.data := by
  apply Array.ext_getElem?
  intro i
  have hs' : s.data.size = 32 := hs
  by_cases hi : i < 32
  ·simp only [bs, List.getElem?_toArray, List.getElem?_map, List.getElem?_range hi, Option.map_some, bt]
   rw [Array.getElem?_eq_getElem (by omega)]
   simp
  ·simp only [bs, List.getElem?_toArray]
   rw [List.getElem?_eq_none (by simp; omega), Array.getElem?_eq_none (by omega)]
 cases s
 unfold bs at *
 simp only at hd
 rw [hd]
theorem mk_leb {W : Int} (hW : 0 ≤ W ∧ W < Pm) : val (mkS (bs (rb (d16 W) 32))) % Pm = W := by
 have hsz : (bs (rb (d16 W) 32)).size = 32 := by rw [bs_size, rb_len]
 have hb : bt (bs (rb (d16 W) 32)) 31 < 128 := by
  rw [rb_bt _ (by omega)]
  have hP : Pm < 2 ^ 255 := by decide
  have e : d16 W 15 = W / 65536 ^ 15 % 65536 := rfl
  show d16 W (31 / 2) / 256 ^ (31 % 2) % 256 < 128
  rw [show 31 / 2 = 15 from rfl, show 31 % 2 = 1 from rfl, e]
  have h1 : W / 65536 ^ 15 < 32768 := Int.ediv_lt_of_lt_mul (by decide) (by have : (32768 : Int) * 65536 ^ 15 = 2 ^ 255 := by decide
                                                                            omega)
  have h0 : 0 ≤ W / 65536 ^ 15 := Int.ediv_nonneg hW.1 (by decide)
  generalize W / 65536 ^ 15 = Y at *
  rw [show (256 : Int) ^ 1 = 256 by decide]
  omega
 have e : mkS (bs (rb (d16 W) 32)) = bs (rb (d16 W) 32) := by
  unfold mkS
  rw [show (List.range 32).map (mkF (bs (rb (d16 W) 32))) = (List.range 32).map (bt (bs (rb (d16 W) 32))) from List.map_congr_left fun i _ => by
   unfold mkF upd
   by_cases h : i = 31
   ·rw [if_pos h, h, and127 (bt_bd _ _).1 hb]
   ·rw [if_neg h]]
  exact bs_bt _ hsz
 rw [e, rb_pt (d16_dig W 16), dSP hW, Int.emod_eq_of_lt hW.1 hW.2]
theorem leb_rb {W : Int} (hW : 0 ≤ W ∧ W < Pm) : lebytes W = bs (rb (d16 W) 32) := by
 have h := lebytes_S (f := d16 W) (d16_dig W 16)
 rwa [dSP hW] at h
theorem shV_bd (K : ByteArray) (X : Int) : 0 ≤ shV K X ∧ shV K X < Pm := pmod _
def aS : ByteArray := bs (List.replicate 31 0 ++ [97])
def bbS : ByteArray := bs (List.replicate 31 0 ++ [98])
theorem v9 : val (mkS nineS) % Pm = 9 := by decide +kernel
theorem aS_size : aS.size = 32 := by decide +kernel
theorem bbS_size : bbS.size = 32 := by decide +kernel
end Go.Proofs.YtffimigpbcilbaaGreatDoor.Mon
