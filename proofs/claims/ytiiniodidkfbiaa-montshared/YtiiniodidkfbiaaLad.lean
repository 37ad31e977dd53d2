/- The contracts of step and bitAt; the ladder as a function. -/
import Derived.Test.YtiiniodidkfbiaaStep
namespace Go.Proofs.Ytiiniodidkfbiaa
open Go.RowKit

/-- The double of a, and the sum of a and b. -/
structure St where
  dx : E5
  dz : E5
  px : E5
  pz : E5
def stepF (ax az bx bz x : E5) : St :=
  let sm := addF ax az
  let df := subF ax az
  let aa := mulF sm sm
  let bb := mulF df df
  let ee := subF aa bb
  let da := mulF (subF bx bz) sm
  let cb := mulF (addF bx bz) df
  let ps := addF da cb
  let ms := subF da cb
  ⟨mulF aa bb, mulF ee (addF aa (mulF (smallF 121665) ee)), mulF ps ps, mulF x (mulF ms ms)⟩

structure St.Ok (s : St) : Prop where
  dx : s.dx.Ok
  dz : s.dz.Ok
  px : s.px.Ok
  pz : s.pz.Ok

theorem stepF_ok {ax az bx bz x : E5} (h1 : ax.Ok) (h2 : az.Ok) (h3 : bx.Ok) (h4 : bz.Ok) (h5 : x.Ok) : (stepF ax az bx bz x).Ok := by
  have k1 := addF_ok h1 h2
  have k2 := subF_ok h1 h2
  have k3 := mulF_ok k1 k1
  have k4 := mulF_ok k2 k2
  have k5 := subF_ok k3 k4
  have k6 := mulF_ok (subF_ok h3 h4) k1
  have k7 := mulF_ok (addF_ok h3 h4) k2
  have k8 := addF_ok k6 k7
  have k9 := subF_ok k6 k7
  have k0 := smallF_ok (n := 121665) (by decide) (by decide)
  exact ⟨mulF_ok k3 k4, mulF_ok k5 (addF_ok k3 (mulF_ok k0 k5)), mulF_ok k8 k8, mulF_ok h5 (mulF_ok k9 k9)⟩

theorem step_any (ax az bx bz x : E5) (w : World) (h1 : ax.Ok) (h2 : az.Ok) (h3 : bx.Ok) (h4 : bz.Ok) (h5 : x.Ok) :
    Calls Try.prog 26 #[.agg (arr 10 (pj ax.f az.f)), .agg (arr 10 (pj bx.f bz.f)), .agg (arr 5 x.f)] w fun r w' => r = .returned (.tuple #[.agg (arr 10 (pj (stepF ax az bx bz x).dx.f (stepF ax az bx bz x).dz.f)), .agg (arr 10 (pj (stepF ax az bx bz x).px.f (stepF ax az bx bz x).pz.f))]) ∧ Below w.heap.size w w' := by
  have k1 := addF_ok h1 h2
  have k2 := subF_ok h1 h2
  have k3 := mulF_ok k1 k1
  have k4 := mulF_ok k2 k2
  have k5 := subF_ok k3 k4
  have k6 := mulF_ok (subF_ok h3 h4) k1
  have k7 := mulF_ok (addF_ok h3 h4) k2
  have k8 := addF_ok k6 k7
  have k9 := subF_ok k6 k7
  have k0 := smallF_ok (n := 121665) (by decide) (by decide)
  have A : ∀ {p q : E5}, p.Ok → q.Ok → ∀ w, Calls Try.prog 44 #[.agg (arr 5 p.f), .agg (arr 5 q.f)] w fun r w' => r = .returned (.agg (arr 5 (addF p q).f)) ∧ Below w.heap.size w w' := fun hp hq w => add_any _ _ w hp hq
  have B : ∀ {p q : E5}, p.Ok → q.Ok → ∀ w, Calls Try.prog 45 #[.agg (arr 5 p.f), .agg (arr 5 q.f)] w fun r w' => r = .returned (.agg (arr 5 (subF p q).f)) ∧ Below w.heap.size w w' := fun hp hq w => sub_any _ _ w hp hq
  have M : ∀ {p q : E5}, p.Ok → q.Ok → ∀ w, Calls Try.prog 27 #[.agg (arr 5 p.f), .agg (arr 5 q.f)] w fun r w' => r = .returned (.agg (arr 5 (mulF p q).f)) ∧ Below w.heap.size w w' := fun hp hq w => mul_any _ _ w hp hq
  have T : ∀ w, Calls Try.prog 20 #[.int .u32 121665] w fun r w' => r = .returned (.agg (arr 5 (smallF 121665).f)) ∧ Below w.heap.size w w' := fun w => small_any 121665 w (by decide) (by decide)
  exact step_gen _ _ _ _ _ _ _ _ _ _ _ _ _ _ _ _ _ _ _ _ _ _ _ _ w ⟨A h1 h2, B h1 h2, M k1 k1, M k2 k2, B k3 k4, B h3 h4, M (subF_ok h3 h4) k1, A h3 h4, M (addF_ok h3 h4) k2, A k6 k7, B k6 k7, M k3 k4, M k0 k5, A k3 (mulF_ok k0 k5), M k5 (addF_ok k3 (mulF_ok k0 k5)), M k8 k8, M k9 k9, M h5 (mulF_ok k9 k9), T⟩

theorem and1u {x : Int} (h0 : 0 ≤ x) (h1 : x < 256) : bits .and .u8 x 1 = x % 2 := by
  obtain ⟨X, rfl⟩ := Int.eq_ofNat_of_zero_le h0
  have hX : X < 256 := by omega
  have h : ∀ n : Fin 256, bits .and .u8 ((n.val : Nat) : Int) 1 = ((n.val : Nat) : Int) % 2 := by decide +kernel
  exact h ⟨X, hX⟩

/-- Bit i of a string. -/
def bit (s : ByteArray) (i : Nat) : Int := bt s (i / 8) / 2 ^ (i % 8) % 2
theorem bit_two (s : ByteArray) (i : Nat) : bit s i = 0 ∨ bit s i = 1 := by unfold bit; omega

set_option maxRecDepth 100000 in
set_option maxHeartbeats 2000000 in
theorem bitAt_any (s : ByteArray) (p : Nat) (w : World) (hs : p < 8 * s.size) (hp : p < 255) :
    Calls Try.prog 25 #[.string s, .int .i64 (p : Int)] w fun r w' => r = .returned (.int .i64 (bit s p)) ∧ Below w.heap.size w w' := by
  have a1 : (0 : Int) ≤ (p : Int) / 8 := by omega
  have a2 : (p : Int) / 8 < (s.size : Int) := by omega
  have a4 : p / 8 < s.size := by omega
  have a5 := bt_at s (p / 8) a4
  have a6 := bt_bd s (p / 8)
  have HB := hide (show bit s p = bt s (p / 8) / 2 ^ (p % 8) % 2 from rfl)
  rcases (show p % 8 = 0 ∨ p % 8 = 1 ∨ p % 8 = 2 ∨ p % 8 = 3 ∨ p % 8 = 4 ∨ p % 8 = 5 ∨ p % 8 = 6 ∨ p % 8 = 7 by omega) with h8 | h8 | h8 | h8 | h8 | h8 | h8 | h8
  · have a3 : (p : Int) % 8 = 0 := by omega
    have eb : bits BinOp.and IntKind.u8 (bt s (p / 8)) 1 = bt s (p / 8) % 2 := and1u (by omega) (by omega)
    have HV := hide (show bit s p = bt s (p / 8) % 2 by rw [HB.out, h8]; simp)
    clear h8 HB
    go_enter Try.func25, Try.ntmps25
    go_wp2
    go_ret
    exact ⟨by rw [HV.out]; rfl, Below.refl _ _⟩
  · have a3 : (p : Int) % 8 = 1 := by omega
    have eb : bits BinOp.and IntKind.u8 (bt s (p / 8) / 2) 1 = bt s (p / 8) / 2 % 2 := and1u (by omega) (by omega)
    have HV := hide (show bit s p = bt s (p / 8) / 2 % 2 by rw [HB.out, h8]; simp)
    clear h8 HB
    go_enter Try.func25, Try.ntmps25
    go_wp2
    go_ret
    exact ⟨by rw [HV.out]; rfl, Below.refl _ _⟩
  · have a3 : (p : Int) % 8 = 2 := by omega
    have eb : bits BinOp.and IntKind.u8 (bt s (p / 8) / 4) 1 = bt s (p / 8) / 4 % 2 := and1u (by omega) (by omega)
    have HV := hide (show bit s p = bt s (p / 8) / 4 % 2 by rw [HB.out, h8]; simp)
    clear h8 HB
    go_enter Try.func25, Try.ntmps25
    go_wp2
    go_ret
    exact ⟨by rw [HV.out]; rfl, Below.refl _ _⟩
  · have a3 : (p : Int) % 8 = 3 := by omega
    have eb : bits BinOp.and IntKind.u8 (bt s (p / 8) / 8) 1 = bt s (p / 8) / 8 % 2 := and1u (by omega) (by omega)
    have HV := hide (show bit s p = bt s (p / 8) / 8 % 2 by rw [HB.out, h8]; simp)
    clear h8 HB
    go_enter Try.func25, Try.ntmps25
    go_wp2
    go_ret
    exact ⟨by rw [HV.out]; rfl, Below.refl _ _⟩
  · have a3 : (p : Int) % 8 = 4 := by omega
    have eb : bits BinOp.and IntKind.u8 (bt s (p / 8) / 16) 1 = bt s (p / 8) / 16 % 2 := and1u (by omega) (by omega)
    have HV := hide (show bit s p = bt s (p / 8) / 16 % 2 by rw [HB.out, h8]; simp)
    clear h8 HB
    go_enter Try.func25, Try.ntmps25
    go_wp2
    go_ret
    exact ⟨by rw [HV.out]; rfl, Below.refl _ _⟩
  · have a3 : (p : Int) % 8 = 5 := by omega
    have eb : bits BinOp.and IntKind.u8 (bt s (p / 8) / 32) 1 = bt s (p / 8) / 32 % 2 := and1u (by omega) (by omega)
    have HV := hide (show bit s p = bt s (p / 8) / 32 % 2 by rw [HB.out, h8]; simp)
    clear h8 HB
    go_enter Try.func25, Try.ntmps25
    go_wp2
    go_ret
    exact ⟨by rw [HV.out]; rfl, Below.refl _ _⟩
  · have a3 : (p : Int) % 8 = 6 := by omega
    have eb : bits BinOp.and IntKind.u8 (bt s (p / 8) / 64) 1 = bt s (p / 8) / 64 % 2 := and1u (by omega) (by omega)
    have HV := hide (show bit s p = bt s (p / 8) / 64 % 2 by rw [HB.out, h8]; simp)
    clear h8 HB
    go_enter Try.func25, Try.ntmps25
    go_wp2
    go_ret
    exact ⟨by rw [HV.out]; rfl, Below.refl _ _⟩
  · have a3 : (p : Int) % 8 = 7 := by omega
    have eb : bits BinOp.and IntKind.u8 (bt s (p / 8) / 128) 1 = bt s (p / 8) / 128 % 2 := and1u (by omega) (by omega)
    have HV := hide (show bit s p = bt s (p / 8) / 128 % 2 by rw [HB.out, h8]; simp)
    clear h8 HB
    go_enter Try.func25, Try.ntmps25
    go_wp2
    go_ret
    exact ⟨by rw [HV.out]; rfl, Below.refl _ _⟩

end Go.Proofs.Ytiiniodidkfbiaa
