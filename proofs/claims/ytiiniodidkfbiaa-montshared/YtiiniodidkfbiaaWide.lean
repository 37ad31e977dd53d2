/- Contracts of the functions of package num on products of two words: Mul64, Add64, product, plus, below, above. -/
import Derived.Test.YtiiniodidkfbiaaRows
import Derived.WalkKit
import Derived.WalkSpells
import Derived.WalkLawsBesides
import Derived.Lib.Mul64
import Derived.Laws.Bits64b
import Derived.Laws.Externs
import Derived.Test.YtiiniodidkfbiaaArith
namespace Go.Proofs.Ytiiniodidkfbiaa
open Go.RowKit

theorem maskN (a : Nat) (ha : a < 18446744073709551616) : bits .and .u64 (a : Int) 4294967295 = ((a % 4294967296 : Nat) : Int) := by
  have h := bits_and_u64_nat a 4294967295 ha (by omega)
  have e : a &&& 4294967295 = a % 4294967296 := Nat.and_two_pow_sub_one_eq_mod a 32
  rw [e] at h
  exact h
theorem divN (a : Nat) : (a : Int) / 4294967296 = ((a / 4294967296 : Nat) : Int) := by omega
theorem mulN (a b : Nat) : (a : Int) * (b : Int) = ((a * b : Nat) : Int) := (Int.natCast_mul a b).symm
theorem addN (a b : Nat) : (a : Int) + (b : Int) = ((a + b : Nat) : Int) := (Int.natCast_add a b).symm
theorem wrapN (a : Nat) (ha : a < 18446744073709551616) : IntKind.u64.wrap (a : Int) = (a : Int) := by rw [IntKind.wrap_u64]; omega
theorem wrapM (a : Nat) : IntKind.u64.wrap (a : Int) = ((a % 18446744073709551616 : Nat) : Int) := by rw [IntKind.wrap_u64]; omega

set_option maxHeartbeats 1000000 in
theorem mul64_nat (x y : Nat) (hx : x < 18446744073709551616) (hy : y < 18446744073709551616) (w : World) :
    Calls Try.prog 55 #[.int .u64 x, .int .u64 y] w fun e w' => e = .returned (.tuple #[.int .u64 ((x * y / 18446744073709551616 : Nat) : Int), .int .u64 ((x * y % 18446744073709551616 : Nat) : Int)]) ∧ w' = w := by
  obtain ⟨bd, bt, bw, hhi⟩ := Lib.mul64_hi x y hx hy
  have ba := Lib.half_mul_le (a := x / 4294967296) (b := y / 4294967296) (by omega) (by omega)
  have bb := Lib.half_mul_le (a := x / 4294967296) (b := y % 4294967296) (by omega) (by omega)
  have bc := Lib.half_mul_le (a := x % 4294967296) (b := y / 4294967296) (by omega) (by omega)
  have ba' : x / 4294967296 * (y / 4294967296) < 18446744073709551616 := by omega
  have bb' : x / 4294967296 * (y % 4294967296) < 18446744073709551616 := by omega
  have bc' : x % 4294967296 * (y / 4294967296) < 18446744073709551616 := by omega
  have bh1 : x / 4294967296 * (y / 4294967296) + (x / 4294967296 * (y % 4294967296) + x % 4294967296 * (y % 4294967296) / 4294967296) / 4294967296 < 18446744073709551616 := by omega
  have bh : x / 4294967296 * (y / 4294967296) + (x / 4294967296 * (y % 4294967296) + x % 4294967296 * (y % 4294967296) / 4294967296) / 4294967296 + ((x / 4294967296 * (y % 4294967296) + x % 4294967296 * (y % 4294967296) / 4294967296) % 4294967296 + x % 4294967296 * (y / 4294967296)) / 4294967296 < 18446744073709551616 := by omega
  go_enter Try.func55, Try.ntmps55
  go_wp2
  simp only [maskN x hx, maskN y hy, divN, mulN, addN, wrapN _ bd, wrapN _ bb', wrapN _ bt, maskN _ bt, wrapN _ bc', wrapN _ bw, wrapN _ ba', wrapN _ bh1, wrapN _ bh, wrapM (x * y)]
  rw [hhi]
  go_ret2
  exact ⟨rfl, rfl⟩

theorem add64_run (x y c : Int) (hx : 0 ≤ x) (hy : 0 ≤ y) (hc0 : 0 ≤ c) (hc : c ≤ 1) (w : World) :
    (callFunc 56 #[.int .u64 x, .int .u64 y, .int .u64 c]).run Try.prog w =
      .ok (.value (.tuple #[.int .u64 ((x + y + c) % 18446744073709551616), .int .u64 ((x + y + c) / 18446744073709551616)])) w := by
  rw [run_callFunc_extern Try.func56 (by kernel_rfl) (by kernel_rfl) (by kernel_rfl) (e := add64Entry) (by kernel_rfl), run_add64 x y c hx hy hc0 hc]
  simp only [Result.andThen]

/-- Two words that make a number. -/
abbrev wd (N : Int) : Value := .agg #[.int .u64 (N / 18446744073709551616), .int .u64 (N % 18446744073709551616)]

set_option maxHeartbeats 400000 in
theorem product_any (x y : Int) (w : World) (hx : W64 x) (hy : W64 y) :
    Calls Try.prog 46 #[.int .u64 x, .int .u64 y] w fun r w' => r = .returned (wd (x * y)) ∧ Below w.heap.size w w' := by
  obtain ⟨X, rfl⟩ := Int.eq_ofNat_of_zero_le hx.1
  obtain ⟨Y, rfl⟩ := Int.eq_ofNat_of_zero_le hy.1
  have hX : X < 18446744073709551616 := by have := hx.2; omega
  have hY : Y < 18446744073709551616 := by have := hy.2; omega
  clear hx hy
  go_enter Try.func46, Try.ntmps46
  go_wp2_with fail
  refine (mul64_nat X Y hX hY _).mono ?_
  rintro _ w1 ⟨rfl, rfl⟩
  go_wp2
  exact bodyPost_ret (v := wd ((X : Int) * (Y : Int))) (by simp [results, Try.results46, go_sem]) rfl ⟨rfl, (Below.refl _ _).alloc (Nat.le_refl _) _⟩

theorem plusH {N M : Int} (h0 : 0 ≤ N) (h1 : 0 ≤ M) (hlt : N + M < 340282366920938463463374607431768211456) : (N / 18446744073709551616 + M / 18446744073709551616 + (N % 18446744073709551616 + M % 18446744073709551616) / 18446744073709551616) % 18446744073709551616 = (N + M) / 18446744073709551616 := by omega
theorem plusL {N M : Int} : (N % 18446744073709551616 + M % 18446744073709551616) % 18446744073709551616 = (N + M) % 18446744073709551616 := by omega

set_option maxHeartbeats 400000 in
theorem plus_hl (h l h' l' : Int) (w : World) (a0 : 0 ≤ h) (b0 : 0 ≤ l) (b1 : l < 18446744073709551616) (c0 : 0 ≤ h') (d0 : 0 ≤ l') (d1 : l' < 18446744073709551616) :
    Calls Try.prog 47 #[.agg #[.int .u64 h, .int .u64 l], .agg #[.int .u64 h', .int .u64 l']] w fun r w' => r = .returned (.agg #[.int .u64 ((h + h' + (l + l') / 18446744073709551616) % 18446744073709551616), .int .u64 ((l + l') % 18446744073709551616)]) ∧ Below w.heap.size w w' := by
  have r1 := add64_run l l' 0 b0 d0 (by decide) (by decide)
  have r2 := add64_run h h' ((l + l' + 0) / 18446744073709551616) a0 c0 (by omega) (by omega)
  rw [Int.add_zero] at r1 r2
  go_enter Try.func47, Try.ntmps47
  go_wp2
  exact bodyPost_ret (v := .agg #[.int .u64 ((h + h' + (l + l') / 18446744073709551616) % 18446744073709551616), .int .u64 ((l + l') % 18446744073709551616)]) (by simp [results, Try.results47, go_sem]) rfl ⟨rfl, (((Below.refl _ _).alloc (Nat.le_refl _) _).alloc (by simp) _).alloc (by simp; omega) _⟩

theorem plus_any (N M : Int) (w : World) (h0 : 0 ≤ N) (h1 : 0 ≤ M) (hlt : N + M < 340282366920938463463374607431768211456) :
    Calls Try.prog 47 #[wd N, wd M] w fun r w' => r = .returned (wd (N + M)) ∧ Below w.heap.size w w' := by
  have := plus_hl (N / 18446744073709551616) (N % 18446744073709551616) (M / 18446744073709551616) (M % 18446744073709551616) w (by omega) (by omega) (by omega) (by omega) (by omega) (by omega)
  rw [plusH h0 h1 hlt, plusL] at this
  exact this

theorem belowR (N : Int) : bits BinOp.and IntKind.u64 (N % 18446744073709551616) 2251799813685247 = N % 2251799813685248 := by
  rw [and51 ⟨by omega, by omega⟩]
  omega

set_option maxHeartbeats 400000 in
theorem below_any (N : Int) (w : World) :
    Calls Try.prog 48 #[wd N] w fun r w' => r = .returned (.int .u64 (N % 2251799813685248)) ∧ Below w.heap.size w w' := by
  have e := belowR N
  go_enter Try.func48, Try.ntmps48
  go_wp2
  go_ret
  exact ⟨rfl, (Below.refl _ _).alloc (Nat.le_refl _) _⟩

theorem aboveR {N : Int} (h0 : 0 ≤ N) (h1 : N < 41538374868278621028243970633760768) : bits BinOp.or IntKind.u64 (IntKind.u64.wrap (N / 18446744073709551616 * 8192)) (N % 18446744073709551616 / 2251799813685248) = N / 2251799813685248 := by
  rw [wrap64u ⟨by omega, by omega⟩, or_join 13 8192 (by decide) ⟨by omega, by omega⟩ ⟨by omega, by omega⟩ (by omega) (by omega)]
  omega

set_option maxHeartbeats 400000 in
theorem above_any (N : Int) (w : World) (h0 : 0 ≤ N) (h1 : N < 41538374868278621028243970633760768) :
    Calls Try.prog 49 #[wd N] w fun r w' => r = .returned (.int .u64 (N / 2251799813685248)) ∧ Below w.heap.size w w' := by
  have e := aboveR h0 h1
  clear h0 h1
  go_enter Try.func49, Try.ntmps49
  go_wp2
  go_ret
  exact ⟨rfl, (Below.refl _ _).alloc (Nat.le_refl _) _⟩

end Go.Proofs.Ytiiniodidkfbiaa
