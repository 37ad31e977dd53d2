/- The contract of least: the parts of a number below the prime. -/
import Derived.Test.YtiiniodidkfbiaaWalkA
import Derived.Test.YtiiniodidkfbiaaKeep
namespace Go.Proofs.Ytiiniodidkfbiaa
open Go.RowKit

/-- What goes over to the next part when 19 are added. -/
def ov1 (x : E5) : Int := (x.a + 19) / 2251799813685248
def ov2 (x : E5) : Int := (x.b + ov1 x) / 2251799813685248
def ov3 (x : E5) : Int := (x.c + ov2 x) / 2251799813685248
def ov4 (x : E5) : Int := (x.d + ov3 x) / 2251799813685248
def ov5 (x : E5) : Int := (x.e + ov4 x) / 2251799813685248
/-- What goes over when the prime is taken away, or nothing. -/
def le0 (x : E5) : Int := ov5 x * 19
def le1 (x : E5) : Int := (x.a + le0 x) / 2251799813685248
def le2 (x : E5) : Int := (x.b + le1 x) / 2251799813685248
def le3 (x : E5) : Int := (x.c + le2 x) / 2251799813685248
def le4 (x : E5) : Int := (x.d + le3 x) / 2251799813685248
def le5 (x : E5) : Int := (x.e + le4 x) / 2251799813685248
def leastF (x : E5) : E5 := ⟨(x.a + le0 x) % 2251799813685248, (x.b + le1 x) % 2251799813685248, (x.c + le2 x) % 2251799813685248, (x.d + le3 x) % 2251799813685248, (x.e + le4 x) % 2251799813685248⟩

structure LB (x : E5) : Prop where
  o1 : 0 ≤ ov1 x ∧ ov1 x ≤ 1
  o2 : 0 ≤ ov2 x ∧ ov2 x ≤ 1
  o3 : 0 ≤ ov3 x ∧ ov3 x ≤ 1
  o4 : 0 ≤ ov4 x ∧ ov4 x ≤ 1
  o5 : 0 ≤ ov5 x ∧ ov5 x ≤ 1
  l0 : 0 ≤ le0 x ∧ le0 x ≤ 19
  l1 : 0 ≤ le1 x ∧ le1 x ≤ 1
  l2 : 0 ≤ le2 x ∧ le2 x ≤ 1
  l3 : 0 ≤ le3 x ∧ le3 x ≤ 1
  l4 : 0 ≤ le4 x ∧ le4 x ≤ 1
  l5 : 0 ≤ le5 x ∧ le5 x ≤ 1

theorem LB.of {x : E5} (hx : x.Ok) : LB x := by
  obtain ⟨a0, a1, b0, b1, c0, c1, d0, d1, e0, e1⟩ := hx
  have o1 : 0 ≤ ov1 x ∧ ov1 x ≤ 1 := by unfold ov1; omega
  have o2 : 0 ≤ ov2 x ∧ ov2 x ≤ 1 := by unfold ov2; omega
  have o3 : 0 ≤ ov3 x ∧ ov3 x ≤ 1 := by unfold ov3; omega
  have o4 : 0 ≤ ov4 x ∧ ov4 x ≤ 1 := by unfold ov4; omega
  have o5 : 0 ≤ ov5 x ∧ ov5 x ≤ 1 := by unfold ov5; omega
  have l0 : 0 ≤ le0 x ∧ le0 x ≤ 19 := by unfold le0; omega
  have l1 : 0 ≤ le1 x ∧ le1 x ≤ 1 := by unfold le1; omega
  have l2 : 0 ≤ le2 x ∧ le2 x ≤ 1 := by unfold le2; omega
  have l3 : 0 ≤ le3 x ∧ le3 x ≤ 1 := by unfold le3; omega
  have l4 : 0 ≤ le4 x ∧ le4 x ≤ 1 := by unfold le4; omega
  have l5 : 0 ≤ le5 x ∧ le5 x ≤ 1 := by unfold le5; omega
  exact ⟨o1, o2, o3, o4, o5, l0, l1, l2, l3, l4, l5⟩

structure E5.Low (x : E5) : Prop where
  a0 : 0 ≤ x.a
  a1 : x.a < 2251799813685248
  b0 : 0 ≤ x.b
  b1 : x.b < 2251799813685248
  c0 : 0 ≤ x.c
  c1 : x.c < 2251799813685248
  d0 : 0 ≤ x.d
  d1 : x.d < 2251799813685248
  e0 : 0 ≤ x.e
  e1 : x.e < 2251799813685248

theorem leastF_low (x : E5) : (leastF x).Low := by
  constructor <;> simp only [leastF] <;> omega

/-- It is the number below the prime. -/
theorem leastF_n {x : E5} (hx : x.Ok) : (leastF x).n = x.n % Pm := by
  have L := LB.of hx
  obtain ⟨a0, a1, b0, b1, c0, c1, d0, d1, e0, e1⟩ := hx
  have hlow := leastF_low x
  obtain ⟨p0, p1, q0, q1, r0, r1, s0, s1, t0, t1⟩ := hlow
  have e : (leastF x).n = x.n + ov5 x * 19 - 57896044618658097711785492504343953926634992332820282019728792003956564819968 * le5 x := by
    simp only [leastF, E5.n, le5, le4, le3, le2, le1, le0]
    omega
  have hov : 57896044618658097711785492504343953926634992332820282019728792003956564819968 * ov5 x ≤ x.n + 19 ∧ x.n + 19 < 57896044618658097711785492504343953926634992332820282019728792003956564819968 * ov5 x + 57896044618658097711785492504343953926634992332820282019728792003956564819968 := by
    simp only [E5.n, ov5, ov4, ov3, ov2, ov1]
    omega
  have hn0 : 0 ≤ x.n := by simp only [E5.n]; omega
  have hr0 : 0 ≤ (leastF x).n := by rw [E5.n]; omega
  have hr1 : (leastF x).n < 57896044618658097711785492504343953926634992332820282019728792003956564819968 := by rw [E5.n]; omega
  have h5 := L.o5
  have h6 := L.l5
  have hle : le5 x = ov5 x := by omega
  rw [hle] at e
  have hk : x.n = (leastF x).n + ov5 x * Pm := by unfold Pm; omega
  have hn1 : x.n < 115792089237316195423570985008687907853269984665640564039457584007913129639898 := by simp only [E5.n]; omega
  have hlt : (leastF x).n < Pm := by unfold Pm; omega
  rw [hk, Int.add_mul_emod_self_right, Int.emod_eq_of_lt hr0 hlt]

set_option maxRecDepth 100000 in
set_option maxHeartbeats 2000000 in
theorem least_any (x : E5) (w : World) (hx : x.Ok) :
    Calls Try.prog 29 #[x.v] w fun r w' => r = .returned (leastF x).v ∧ Below w.heap.size w w' := by
  have L := LB.of hx
  obtain ⟨a0, a1, b0, b1, c0, c1, d0, d1, e0, e1⟩ := hx
  obtain ⟨⟨o10, o11⟩, ⟨o20, o21⟩, ⟨o30, o31⟩, ⟨o40, o41⟩, ⟨o50, o51⟩, ⟨l00, l01⟩, ⟨l10, l11⟩, ⟨l20, l21⟩, ⟨l30, l31⟩, ⟨l40, l41⟩, ⟨l50, l51⟩⟩ := L
  have i0 : ∀ w, (Instr.index 39 (.agg #[.int .u64 x.a, .int .u64 x.b, .int .u64 x.c, .int .u64 x.d, .int .u64 x.e]) (.int .i64 0)).run Try.prog w = .ok (.int .u64 x.a) w := fun _ => by kernel_rfl
  have i1 : ∀ w, (Instr.index 39 (.agg #[.int .u64 x.a, .int .u64 x.b, .int .u64 x.c, .int .u64 x.d, .int .u64 x.e]) (.int .i64 1)).run Try.prog w = .ok (.int .u64 x.b) w := fun _ => by kernel_rfl
  have i2 : ∀ w, (Instr.index 39 (.agg #[.int .u64 x.a, .int .u64 x.b, .int .u64 x.c, .int .u64 x.d, .int .u64 x.e]) (.int .i64 2)).run Try.prog w = .ok (.int .u64 x.c) w := fun _ => by kernel_rfl
  have i3 : ∀ w, (Instr.index 39 (.agg #[.int .u64 x.a, .int .u64 x.b, .int .u64 x.c, .int .u64 x.d, .int .u64 x.e]) (.int .i64 3)).run Try.prog w = .ok (.int .u64 x.d) w := fun _ => by kernel_rfl
  have i4 : ∀ w, (Instr.index 39 (.agg #[.int .u64 x.a, .int .u64 x.b, .int .u64 x.c, .int .u64 x.d, .int .u64 x.e]) (.int .i64 4)).run Try.prog w = .ok (.int .u64 x.e) w := fun _ => by kernel_rfl
  have g0 := and51 (x := x.a + le0 x) ⟨by omega, by omega⟩
  have g1 := and51 (x := x.b + le1 x) ⟨by omega, by omega⟩
  have g2 := and51 (x := x.c + le2 x) ⟨by omega, by omega⟩
  have g3 := and51 (x := x.d + le3 x) ⟨by omega, by omega⟩
  have g4 := and51 (x := x.e + le4 x) ⟨by omega, by omega⟩
  go_enter Try.func29, Try.ntmps29
  go_wp2
  refine wp_loop_rounds 6 ?_
  rw [rounds_succ]
  go_wp2
  rw [show (x.a + 19) / 2251799813685248 = ov1 x from rfl]
  rw [rounds_succ]
  go_wp2
  rw [show (x.b + ov1 x) / 2251799813685248 = ov2 x from rfl]
  rw [rounds_succ]
  go_wp2
  rw [show (x.c + ov2 x) / 2251799813685248 = ov3 x from rfl]
  rw [rounds_succ]
  go_wp2
  rw [show (x.d + ov3 x) / 2251799813685248 = ov4 x from rfl]
  rw [rounds_succ]
  go_wp2
  rw [show (x.e + ov4 x) / 2251799813685248 = ov5 x from rfl]
  rw [rounds_succ]
  go_wp2
  rw [show ov5 x * 19 = le0 x from rfl]
  refine wp_loop_rounds 6 ?_
  rw [rounds_succ]
  go_wp2
  rw [show (x.a + le0 x) / 2251799813685248 = le1 x from rfl]
  rw [rounds_succ]
  go_wp2
  rw [show (x.b + le1 x) / 2251799813685248 = le2 x from rfl]
  rw [rounds_succ]
  go_wp2
  rw [show (x.c + le2 x) / 2251799813685248 = le3 x from rfl]
  rw [rounds_succ]
  go_wp2
  rw [show (x.d + le3 x) / 2251799813685248 = le4 x from rfl]
  rw [rounds_succ]
  go_wp2
  rw [show (x.e + le4 x) / 2251799813685248 = le5 x from rfl]
  rw [rounds_succ]
  go_wp2
  exact bodyPost_ret (v := (leastF x).v) (by simp [results, Try.results29, go_sem, leastF]) rfl ⟨rfl, (((Below.refl _ _).alloc (Nat.le_refl _) _).alloc (by simp) _).alloc (by simp; omega) _⟩

end Go.Proofs.Ytiiniodidkfbiaa
