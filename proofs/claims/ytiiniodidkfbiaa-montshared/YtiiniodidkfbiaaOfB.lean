/- The contracts of number, Of and of: which number 32 bytes are. -/
import Derived.Test.YtiiniodidkfbiaaOf
import Derived.Test.YtiiniodidkfbiaaWalkA
import Derived.Test.YtiiniodidkfbiaaLie
namespace Go.Proofs.Ytiiniodidkfbiaa
open Go.RowKit

def numberF (a b c d : Int) : E5 := car (a % 2251799813685248) ((a / 2251799813685248 + b * 8192) % 2251799813685248) ((b / 274877906944 + c * 67108864) % 2251799813685248) ((c / 33554432 + d * 549755813888) % 2251799813685248) (d / 4096)

theorem part1 {a b : Int} (ha : W64 a) (_hb : W64 b) : bits BinOp.and IntKind.u64 (bits BinOp.or IntKind.u64 (a / 2251799813685248) (IntKind.u64.wrap (b * 8192))) 2251799813685247 = (a / 2251799813685248 + b * 8192) % 2251799813685248 := by
  unfold W64 at *
  rw [IntKind.wrap_u64, or_join' 13 8192 (by decide) ⟨by omega, by omega⟩ ⟨by omega, by omega⟩ (by omega) (by omega), and51 ⟨by omega, by omega⟩]
  omega
theorem part2 {a b : Int} (ha : W64 a) (_hb : W64 b) : bits BinOp.and IntKind.u64 (bits BinOp.or IntKind.u64 (a / 274877906944) (IntKind.u64.wrap (b * 67108864))) 2251799813685247 = (a / 274877906944 + b * 67108864) % 2251799813685248 := by
  unfold W64 at *
  rw [IntKind.wrap_u64, or_join' 26 67108864 (by decide) ⟨by omega, by omega⟩ ⟨by omega, by omega⟩ (by omega) (by omega), and51 ⟨by omega, by omega⟩]
  omega
theorem part3 {a b : Int} (ha : W64 a) (_hb : W64 b) : bits BinOp.and IntKind.u64 (bits BinOp.or IntKind.u64 (a / 33554432) (IntKind.u64.wrap (b * 549755813888))) 2251799813685247 = (a / 33554432 + b * 549755813888) % 2251799813685248 := by
  unfold W64 at *
  rw [IntKind.wrap_u64, or_join' 39 549755813888 (by decide) ⟨by omega, by omega⟩ ⟨by omega, by omega⟩ (by omega) (by omega), and51 ⟨by omega, by omega⟩]
  omega

theorem numberF_ok {a b c d : Int} (_ha : W64 a) (_hb : W64 b) (_hc : W64 c) (hd : W64 d) : (numberF a b c d).Ok := by
  unfold W64 at *
  exact car_ok ⟨by omega, by omega⟩ ⟨by omega, by omega⟩ ⟨by omega, by omega⟩ ⟨by omega, by omega⟩ ⟨by omega, by omega⟩

theorem numberF_n {a b c d : Int} (ha : W64 a) (hb : W64 b) (hc : W64 c) (_hd : W64 d) : Cg (numberF a b c d).n (a + 18446744073709551616 * b + 340282366920938463463374607431768211456 * c + 6277101735386680763835789423207666416102355444464034512896 * d) := by
  refine (car_n _ _ _ _ _).trans (Cg.of_eq ?_)
  unfold W64 at *
  simp only [E5.n]
  omega

set_option maxHeartbeats 400000 in
theorem number_any (a b c d : Int) (w : World) (ha : W64 a) (hb : W64 b) (hc : W64 c) (hd : W64 d) :
    Calls Try.prog 43 #[.agg #[.int .u64 a, .int .u64 b, .int .u64 c, .int .u64 d]] w fun r w' => r = .returned (numberF a b c d).v ∧ Below w.heap.size w w' := by
  have e0 := and51 ha
  have e1 := part1 ha hb
  have e2 := part2 hb hc
  have e3 := part3 hc hd
  have HE := hide (show numberF a b c d = car (a % 2251799813685248) ((a / 2251799813685248 + b * 8192) % 2251799813685248) ((b / 274877906944 + c * 67108864) % 2251799813685248) ((c / 33554432 + d * 549755813888) % 2251799813685248) (d / 4096) from rfl)
  have q0 : W64 (a % 2251799813685248) := ⟨by omega, by omega⟩
  have q1 : W64 ((a / 2251799813685248 + b * 8192) % 2251799813685248) := ⟨by omega, by omega⟩
  have q2 : W64 ((b / 274877906944 + c * 67108864) % 2251799813685248) := ⟨by omega, by omega⟩
  have q3 : W64 ((c / 33554432 + d * 549755813888) % 2251799813685248) := ⟨by omega, by omega⟩
  have q4 : W64 (d / 4096) := by unfold W64 at *; exact ⟨by omega, by omega⟩
  go_enter Try.func43, Try.ntmps43
  go_wp2_with fail
  have R := Out.start1 w (.cells #[.int .u64 a, .int .u64 b, .int .u64 c, .int .u64 d] 63)
  refine (carried_any _ _ _ _ _ _ q0 q1 q2 q3 q4).mono ?_
  rintro _ w1 ⟨rfl, hb⟩
  replace R := R.keep hb
  rw [← HE.out]
  clear HE
  generalize hz : numberF a b c d = z
  have HE := hide hz
  clear hz
  clear hb q0 q1 q2 q3 q4 e0 e1 e2 e3
  obtain ⟨old, ge, rs, rf, r0, r1, r2, r3, r4⟩ := R
  have O := hide old
  clear old
  go_wp2
  refine bodyPost_ret (v := z.v) (by simp [results, Try.results43, go_sem, r0, r1, r2, r3, r4]) rfl ⟨by rw [HE.out], ?_⟩
  exact five O.out ge

/-- The number that 32 bytes are. -/
def val (s : ByteArray) : Int := sw s 0 8 + 18446744073709551616 * sw s 1 8 + 340282366920938463463374607431768211456 * sw s 2 8 + 6277101735386680763835789423207666416102355444464034512896 * sw s 3 8
def ofF (s : ByteArray) : E5 := numberF (sw s 0 8) (sw s 1 8) (sw s 2 8) (sw s 3 8)

theorem sw64 (s : ByteArray) (j : Nat) : W64 (sw s j 8) := by
  have h := sw_bd s j 8
  have e : (256 : Int) ^ 8 = 18446744073709551616 := by decide
  rw [e] at h
  exact h

theorem ofF_ok (s : ByteArray) : (ofF s).Ok := numberF_ok (sw64 s 0) (sw64 s 1) (sw64 s 2) (sw64 s 3)
theorem ofF_n (s : ByteArray) : Cg (ofF s).n (val s) := numberF_n (sw64 s 0) (sw64 s 1) (sw64 s 2) (sw64 s 3)

set_option maxHeartbeats 400000 in
theorem of_yes (s : ByteArray) (w : World) (hs : s.size = 32) :
    Calls Try.prog 24 #[.string s] w fun r w' => r = .returned (.tuple #[(ofF s).v, .int .i64 0]) ∧ Below w.heap.size w w' := by
  have n0 : ((s.size : Int) != 32) = false := by simp [hs]
  go_enter Try.func24, Try.ntmps24
  go_wp2_with fail
  have R := Out.start0 w
  refine (wordsOf_any s _ hs).mono ?_
  rintro _ w1 ⟨rfl, hb⟩
  replace R := R.keep hb
  clear hb
  go_wp2_with fail
  refine (number_any _ _ _ _ _ (sw64 s 0) (sw64 s 1) (sw64 s 2) (sw64 s 3)).mono ?_
  rintro _ w2 ⟨rfl, hb⟩
  replace R := R.keep hb
  clear hb
  rw [show numberF (sw s 0 8) (sw s 1 8) (sw s 2 8) (sw s 3 8) = ofF s from rfl]
  generalize hz : ofF s = z
  have HZ := hide hz
  clear hz
  obtain ⟨old, ge, rs, rf, r0, r1, r2, r3, r4⟩ := R
  have O := hide old
  clear old
  go_wp2
  refine bodyPost_ret (v := .tuple #[z.v, .int .i64 0]) (by simp [results, Try.results24, go_sem, r0, r1, r2, r3, r4]) rfl ⟨by rw [HZ.out], ?_⟩
  exact five O.out ge

set_option maxHeartbeats 400000 in
theorem of_no (s : ByteArray) (w : World) (hs : s.size ≠ 32) :
    Calls Try.prog 24 #[.string s] w fun r w' => r = .returned (.tuple #[zeroE.v, .int .i64 2]) ∧ Below w.heap.size w w' := by
  have n0 : ((s.size : Int) != 32) = true := by simp; omega
  go_enter Try.func24, Try.ntmps24
  go_wp2
  exact bodyPost_ret (v := .tuple #[zeroE.v, .int .i64 2]) (by simp [results, Try.results24, go_sem, zeroE]) rfl ⟨rfl, (Below.refl _ _).alloc (Nat.le_refl _) _⟩

end Go.Proofs.Ytiiniodidkfbiaa
