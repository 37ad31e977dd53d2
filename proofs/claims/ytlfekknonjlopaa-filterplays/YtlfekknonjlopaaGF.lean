/- Which rule matches: spans. -/
import Derived.Test.YtlfekknonjlopaaGE
import Derived.Test.YtlfekknonjlopaaXZ
namespace Go.Proofs.Ytlfekknonjlopaa
open Go.RowKit
set_option linter.unusedVariables false
set_option linter.unusedSimpArgs false
set_option maxHeartbeats 0
set_option maxRecDepth 100000
variable {C : World → Prop}
theorem an0 (h : Int) : IntKind.wrap .u64 ((BitVec.ofInt IntKind.u64.bits h &&& BitVec.ofInt IntKind.u64.bits 0).toNat : Int) = 0 := by
  have : (BitVec.ofInt IntKind.u64.bits h &&& BitVec.ofInt IntKind.u64.bits 0) = 0#IntKind.u64.bits := by simp
  rw [this]
  rfl
theorem nat_hi (n : Nat) (h : n < 4294967296) : n &&& 18446744069414584320 = 0 := by
  apply Nat.eq_of_testBit_eq
  intro i
  rw [Nat.testBit_and, show (18446744069414584320 : Nat) = 4294967295 <<< 32 from rfl, Nat.testBit_shiftLeft]
  by_cases hi : i < 32
  · simp [show ¬ 32 ≤ i by omega]
  · rw [Nat.testBit_lt_two_pow (Nat.lt_of_lt_of_le h (show 2 ^ 32 ≤ 2 ^ i from Nat.pow_le_pow_right (by decide) (show 32 ≤ i from by omega)))]
    simp
theorem an32 (l : Int) (h0 : 0 ≤ l) (h1 : l < 4294967296) : IntKind.wrap .u64 ((BitVec.ofInt IntKind.u64.bits l &&& BitVec.ofInt IntKind.u64.bits 18446744069414584320).toNat : Int) = 0 := by
  obtain ⟨n, rfl⟩ := Int.eq_ofNat_of_zero_le h0
  have h2 : n < 4294967296 := by omega
  have : (BitVec.ofInt IntKind.u64.bits (n : Int) &&& BitVec.ofInt IntKind.u64.bits 18446744069414584320).toNat = 0 := by
    rw [BitVec.toNat_and]
    show (BitVec.ofInt 64 (n : Int)).toNat &&& (BitVec.ofInt 64 18446744069414584320).toNat = 0
    rw [BitVec.ofInt_natCast, BitVec.toNat_ofNat, Nat.mod_eq_of_lt (by omega)]
    exact nat_hi n h2
  rw [this]
  rfl
def dIe (k : IntKind) (x y : Int) (h : x = y) : Dr S0 C := dEq (x := .int k x) (y := .int k y) (by rw [h])
theorem c_cut6 (h l : Int) : Ct S0 C 70 [vG [vV (.bool true), vV (.int .u64 h), vV (.int .u64 l)], vV (.int .u8 0)] [] [] [] [] (vG [vV (.bool true), vV (.int .u64 0), vV (.int .u64 0)]) := by
  refine xIn Try.f70 fun E0 w0 hL hC hk => ?_
  refine xR 24 [(3, dC (c_wid true h l) []), (12, dC (c_ones0) []), (13, dIe .u64 _ 0 (an0 h)), (20, dC (c_onesN) []), (21, dIe .u64 _ 0 (an0 l))] ?_
  exact xRetC []
theorem c_cut4 (l : Int) (h0 : 0 ≤ l) (h1 : l < 4294967296) : Ct S0 C 70 [vG [vV (.bool false), vV (.int .u64 0), vV (.int .u64 l)], vV (.int .u8 0)] [] [] [] [] (vG [vV (.bool false), vV (.int .u64 0), vV (.int .u64 0)]) := by
  refine xIn Try.f70 fun E0 w0 hL hC hk => ?_
  refine xR 24 [(3, dC (c_wid false (Int.ofNat 0) l) []), (12, dC (c_ones96) []), (20, dC (c_ones32) []), (21, dIe .u64 _ 0 (an32 l h0 h1))] ?_
  exact xRetC []
/-- Addresses are compared. -/
def dEq39 (v : Bool) (h l : Int) (v' : Bool) (h' l' : Int) (r : Bool) (hr : decide (v = v' ∧ h = h' ∧ l = l') = r) : Dr S0 C := dRd (oOp 13 39 0 [] [vG [vV (.bool v), vV (.int .u64 h), vV (.int .u64 l)], vG [vV (.bool v'), vV (.int .u64 h'), vV (.int .u64 l')]]) (vV (.bool r)) fun E w _ _ => by
  subst hr
  exact run_eqS (by kernel_rfl) (eqI39 9998 v h l v' h' l' w)
theorem c_mayP (v : Bool) : Ct S0 C 68 [vG [vV (.bool v), vV (.int .u64 0), vV (.int .u64 0), vV (.int .u8 0)]] [] [] [] [] (vV (.bool true)) := by
  refine xIn Try.f68 fun E0 w0 hL hC hk => ?_
  cases v
  · have k1 : ∀ C, Ct S0 C 69 [vG [vV (.bool false), vV (.int .u64 0), vV (.int .u64 0)]] [] [] [] [] (vV (.bool true)) := fun C => c_mayA false 0 0
    have k2 : ∀ C, Ct S0 C 70 [vG [vV (.bool false), vV (.int .u64 0), vV (.int .u64 0)], vV (.int .u8 0)] [] [] [] [] (vG [vV (.bool false), vV (.int .u64 0), vV (.int .u64 0)]) := fun C => c_cut4 0 (by decide) (by decide)
    have k3 : ∀ C, Ct S0 C 71 [vG [vV (.bool false), vV (.int .u64 0), vV (.int .u64 0)]] [] [] [] [] (vV (.int .i64 32)) := fun C => c_wid false 0 0
    refine xR 7 [(4, dC (k1 _) []), (11, dC (k3 _) []), (19, dC (k2 _) [])] ?_
    exact (xRetC [])
  · have k1 : ∀ C, Ct S0 C 69 [vG [vV (.bool true), vV (.int .u64 0), vV (.int .u64 0)]] [] [] [] [] (vV (.bool true)) := fun C => c_mayA true 0 0
    have k2 : ∀ C, Ct S0 C 70 [vG [vV (.bool true), vV (.int .u64 0), vV (.int .u64 0)], vV (.int .u8 0)] [] [] [] [] (vG [vV (.bool true), vV (.int .u64 0), vV (.int .u64 0)]) := fun C => c_cut6 0 0
    have k3 : ∀ C, Ct S0 C 71 [vG [vV (.bool true), vV (.int .u64 0), vV (.int .u64 0)]] [] [] [] [] (vV (.int .i64 128)) := fun C => c_wid true 0 0
    refine xR 7 [(4, dC (k1 _) []), (11, dC (k3 _) []), (19, dC (k2 _) [])] ?_
    exact (xRetC [])
theorem c_holds (v : Bool) (h l : Int) (h0 : 0 ≤ l) : Ct S0 C 67 [vG [vV (.bool v), vV (.int .u64 0), vV (.int .u64 0), vV (.int .u8 0)], vG [vV (.bool v), vV (.int .u64 h), vV (.int .u64 l)]] [] [] [] [] (vV (.bool (mayB (v, h, l)))) := by
  refine xIn Try.f67 fun E0 w0 hL hC hk => ?_
  cases v
  · by_cases q : h = 0 ∧ l < 4294967296
    · obtain ⟨rfl, q2⟩ := q
      have k1 : ∀ C, Ct S0 C 69 [vG [vV (.bool false), vV (.int .u64 0), vV (.int .u64 l)]] [] [] [] [] (vV (.bool true)) := fun C => by
        have := c_mayA (C := C) false 0 l
        rwa [show mayB (false, 0, l) = true by simp [mayB, q2]] at this
      have k2 : ∀ C, Ct S0 C 70 [vG [vV (.bool false), vV (.int .u64 0), vV (.int .u64 l)], vV (.int .u8 0)] [] [] [] [] (vG [vV (.bool false), vV (.int .u64 0), vV (.int .u64 0)]) := fun C => c_cut4 l h0 q2
      rw [show mayB (false, 0, l) = true by simp [mayB, q2]]
      refine xR 8 [(4, dC (c_mayP false) []), (7, dC (k1 _) []), (13, dC (k2 _) [])] ?_
      exact (xRetC [])
    · have k1 : ∀ C, Ct S0 C 69 [vG [vV (.bool false), vV (.int .u64 h), vV (.int .u64 l)]] [] [] [] [] (vV (.bool false)) := fun C => by
        have := c_mayA (C := C) false h l
        rwa [show mayB (false, h, l) = false by simp [mayB]; omega] at this
      rw [show mayB (false, h, l) = false by simp [mayB]; omega]
      refine xR 8 [(4, dC (c_mayP false) []), (7, dC (k1 _) [])] ?_
      exact (xRetC [])
  · have k1 : ∀ C, Ct S0 C 69 [vG [vV (.bool true), vV (.int .u64 h), vV (.int .u64 l)]] [] [] [] [] (vV (.bool true)) := fun C => c_mayA true h l
    rw [show mayB (true, h, l) = true from rfl]
    have k2 : ∀ C, Ct S0 C 70 [vG [vV (.bool true), vV (.int .u64 h), vV (.int .u64 l)], vV (.int .u8 0)] [] [] [] [] (vG [vV (.bool true), vV (.int .u64 0), vV (.int .u64 0)]) := fun C => c_cut6 h l
    refine xR 8 [(4, dC (c_mayP true) []), (7, dC (k1 _) []), (13, dC (k2 _) [])] ?_
    exact (xRetC [])
theorem c_may (v : Bool) (h l : Int) (h0 : 0 ≤ l) : Ct S0 C 65 [vG [vV (.bool v), vV (.int .u64 h), vV (.int .u64 l)]] [] [] [] [] (vV (.bool (mayB (v, h, l)))) := by
  refine xIn Try.f65 fun E0 w0 hL hC hk => ?_
  have k1 := fun C => c_holds (C := C) v h l h0
  refine xR 15 [(7, dC (k1 _) [])] ?_
  exact (xRetC [])
end Go.Proofs.Ytlfekknonjlopaa
