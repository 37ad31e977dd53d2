/- The contract of next: a number with a further half word below it, modulo the order. -/
import Derived.Test.YtaaijicpdampiaaOrdE
namespace Go.Proofs.Ytaaijicpdampiaa
open Go.RowKit

theorem nx_or {x y : Int} (_hx : W64 x) (hy : 0 ≤ y) (hy1 : y < 4294967296) : bits BinOp.or IntKind.u64 (IntKind.u64.wrap (x * 4294967296)) y = x * 4294967296 % 18446744073709551616 + y := by
  rw [IntKind.wrap_u64, or_join 32 4294967296 (by decide) ⟨by omega, by omega⟩ ⟨by omega, by omega⟩ (by omega) (by omega)]
theorem nx_and {x : Int} (hx : W64 x) : bits BinOp.and IntKind.u64 x 268435455 = x % 268435456 := by
  obtain ⟨h0, h1⟩ := hx
  rw [u64_and x _ h0 (by omega) (by decide) (by decide)]
  have e : (268435455 : Int).toNat = 268435455 := by decide
  have e2 : x.toNat &&& 268435455 = x.toNat % 268435456 := Nat.and_two_pow_sub_one_eq_mod _ 28
  rw [e, e2]
  omega

set_option maxRecDepth 100000 in
set_option maxHeartbeats 1000000 in
theorem next_gen (x0 x1 x2 x3 H : Int) (t : Nat → Int) (w : World) (k0 : W64 x0) (k1 : W64 x1) (k2 : W64 x2) (k3 : W64 x3) (h0 : 0 ≤ H) (h1 : H < 4294967296)
    (HC : ∀ w, Calls Try.prog 35 #[.agg #[.int .u64 (x0 * 4294967296 % 18446744073709551616 + H), .int .u64 (x1 * 4294967296 % 18446744073709551616 + x0 / 4294967296), .int .u64 (x2 * 4294967296 % 18446744073709551616 + x1 / 4294967296), .int .u64 (x3 % 268435456 * 4294967296 + x2 / 4294967296)], .agg #[.int .u64 (x3 / 268435456 * 6346243789798364141 % 18446744073709551616), .int .u64 ((x3 / 268435456 * 1503914060200516822 + x3 / 268435456 * 6346243789798364141 / 18446744073709551616) % 18446744073709551616), .int .u64 ((x3 / 268435456 * 1503914060200516822 + x3 / 268435456 * 6346243789798364141 / 18446744073709551616) / 18446744073709551616), .int .u64 0]] w fun x w' => x = .returned (.agg (arr 4 t)) ∧ Below w.heap.size w w') :
    Calls Try.prog 39 #[.agg #[.int .u64 x0, .int .u64 x1, .int .u64 x2, .int .u64 x3], .int .u64 H] w fun x w' => x = .returned (.agg (arr 4 t)) ∧ Below w.heap.size w w' := by
  have e0 := nx_or k0 h0 h1
  have e1 := nx_or k1 (y := x0 / 4294967296) (by unfold W64 at *; omega) (by unfold W64 at *; omega)
  have e2 := nx_or k2 (y := x1 / 4294967296) (by unfold W64 at *; omega) (by unfold W64 at *; omega)
  have e3 := nx_and k3
  have e4 : bits BinOp.or IntKind.u64 (x3 % 268435456 * 4294967296) (x2 / 4294967296) = x3 % 268435456 * 4294967296 + x2 / 4294967296 := by
    unfold W64 at *
    rw [or_join 32 4294967296 (by decide) ⟨by omega, by omega⟩ ⟨by omega, by omega⟩ (by omega) (by omega)]
  have q0 : W64 (x3 / 268435456) := by unfold W64 at *; omega
  have C := hide HC
  have c1 : W64 (x3 / 268435456 * 6346243789798364141 / 18446744073709551616) := by unfold W64 at *; omega
  have p1 := fun w => productAnd_any (x3 / 268435456) 6346243789798364141 0 0 w q0 ⟨by decide, by decide⟩ ⟨by decide, by decide⟩ ⟨by decide, by decide⟩
  have p2 := fun w => productAnd_any (x3 / 268435456) 1503914060200516822 (x3 / 268435456 * 6346243789798364141 / 18446744073709551616) 0 w q0 ⟨by decide, by decide⟩ c1 ⟨by decide, by decide⟩
  simp only [Int.add_zero] at p1 p2
  have P1 := hide p1
  have P2 := hide p2
  clear HC p1 p2 c1
  have O : Below w.heap.size w ((((w.alloc (.cells #[.int .u64 x0, .int .u64 x1, .int .u64 x2, .int .u64 x3] 27)).alloc (.cells #[.int .u64 0, .int .u64 0, .int .u64 0, .int .u64 0] 27)).alloc (.cells #[.int .u64 x0, .int .u64 x1, .int .u64 x2, .int .u64 x3] 25)).alloc (.cells #[.int .u64 (x0 * 4294967296 % 18446744073709551616 + H), .int .u64 (x1 * 4294967296 % 18446744073709551616 + x0 / 4294967296), .int .u64 (x2 * 4294967296 % 18446744073709551616 + x1 / 4294967296), .int .u64 (x3 % 268435456 * 4294967296 + x2 / 4294967296)] 25)) := ((((Below.refl _ _).alloc (Nat.le_refl _) _).alloc (by simp) _).alloc (by simp; omega) _).alloc (by simp; omega) _
  have R3 : Row ((((w.alloc (.cells #[.int .u64 x0, .int .u64 x1, .int .u64 x2, .int .u64 x3] 27)).alloc (.cells #[.int .u64 0, .int .u64 0, .int .u64 0, .int .u64 0] 27)).alloc (.cells #[.int .u64 x0, .int .u64 x1, .int .u64 x2, .int .u64 x3] 25)).alloc (.cells #[.int .u64 (x0 * 4294967296 % 18446744073709551616 + H), .int .u64 (x1 * 4294967296 % 18446744073709551616 + x0 / 4294967296), .int .u64 (x2 * 4294967296 % 18446744073709551616 + x1 / 4294967296), .int .u64 (x3 % 268435456 * 4294967296 + x2 / 4294967296)] 25)) (w.heap.size + 1) 27 4 (fun _ => 0) := ((Row.new' _ 27 4 (fun _ => 0) (by simp)).alloc _).alloc _
  have HO := hide (And.intro O R3)
  clear O R3
  go_enter Try.func39, Try.ntmps39
  go_wp2_with fail
  refine (P1.out _).mono ?_
  rintro _ w1 ⟨rfl, rfl⟩
  go_wp2_with fail
  refine (P2.out _).mono ?_
  rintro _ w2 ⟨rfl, rfl⟩
  go_wp2_with fail
  refine (C.out _).mono ?_
  rintro _ w3 ⟨rfl, hb⟩
  have R3 := HO.out.2.keep hb
  have O := HO.out.1.trans (hb.mono HO.out.1.size)
  clear hb HO C P1 P2 e0 e1 e2 e3 e4
  have RR := hide (R3.setAll t)
  have OO := hide (below_setCells (g := w.heap.size + 1) (by omega) (arr 4 t).toList 0 O)
  clear O
  go_wp2_with (refine wpList_store_mid rfl 27 _ _ rfl (w.heap.size + 1) 0 (arr 4 t) rfl rfl ?thn (info27 _) (arr_one _ _) ?_)
  case thn => rw [arr_size]; exact R3.there
  exact bodyPost_ret (v := .agg (arr 4 t)) (results_cell_row Try.results39 _ _ (w.heap.size + 1) 27 (arr 4 t) (0, 0) _ rfl RR.out Try.underlying27 rfl (info27 _)) rfl ⟨rfl, OO.out⟩

theorem Q4 (f : Nat → Int) : Q f 4 = f 0 + f 1 * 18446744073709551616 + f 2 * 340282366920938463463374607431768211456 + f 3 * 6277101735386680763835789423207666416102355444464034512896 := by
  simp [Q]

/-- What rest is. -/
def nf (x0 x1 x2 x3 H : Int) : Nat → Int := fun i => [x0 * 4294967296 % 18446744073709551616 + H, x1 * 4294967296 % 18446744073709551616 + x0 / 4294967296, x2 * 4294967296 % 18446744073709551616 + x1 / 4294967296, x3 % 268435456 * 4294967296 + x2 / 4294967296].getD i 0
def ng (o : Int) : Nat → Int := fun i => [o * 6346243789798364141 % 18446744073709551616, (o * 1503914060200516822 + o * 6346243789798364141 / 18446744073709551616) % 18446744073709551616, (o * 1503914060200516822 + o * 6346243789798364141 / 18446744073709551616) / 18446744073709551616, 0].getD i 0

theorem nf_Q (x0 x1 x2 x3 H : Int) : Q (nf x0 x1 x2 x3 H) 4 = (x0 + x1 * 18446744073709551616 + x2 * 340282366920938463463374607431768211456 + x3 % 268435456 * 6277101735386680763835789423207666416102355444464034512896) * 4294967296 + H := by
  rw [Q4]
  show (x0 * 4294967296 % 18446744073709551616 + H) + (x1 * 4294967296 % 18446744073709551616 + x0 / 4294967296) * 18446744073709551616 + (x2 * 4294967296 % 18446744073709551616 + x1 / 4294967296) * 340282366920938463463374607431768211456 + (x3 % 268435456 * 4294967296 + x2 / 4294967296) * 6277101735386680763835789423207666416102355444464034512896 = _
  omega
theorem ng_Q (o : Int) : Q (ng o) 4 = o * 27742317777372353535851937790883648493 := by
  rw [Q4]
  show o * 6346243789798364141 % 18446744073709551616 + ((o * 1503914060200516822 + o * 6346243789798364141 / 18446744073709551616) % 18446744073709551616) * 18446744073709551616 + ((o * 1503914060200516822 + o * 6346243789798364141 / 18446744073709551616) / 18446744073709551616) * 340282366920938463463374607431768211456 + 0 * 6277101735386680763835789423207666416102355444464034512896 = _
  omega

theorem next_any (N H : Int) (w : World) (hN : 0 ≤ N ∧ N < Lm) (h0 : 0 ≤ H) (h1 : H < 4294967296) :
    Calls Try.prog 39 #[.agg (arr 4 (d64 N)), .int .u64 H] w fun x w' => x = .returned (.agg (arr 4 (d64 ((N * 4294967296 + H) % Lm)))) ∧ Below w.heap.size w w' := by
  have k0 := d64_wds N 4 0 (by omega)
  have k1 := d64_wds N 4 1 (by omega)
  have k2 := d64_wds N 4 2 (by omega)
  have k3 := d64_wds N 4 3 (by omega)
  have hq := dQ hN
  rw [Q4] at hq
  show Calls Try.prog 39 #[.agg #[.int .u64 (d64 N 0), .int .u64 (d64 N 1), .int .u64 (d64 N 2), .int .u64 (d64 N 3)], .int .u64 H] w _
  generalize d64 N 0 = x0 at *
  generalize d64 N 1 = x1 at *
  generalize d64 N 2 = x2 at *
  generalize d64 N 3 = x3 at *
  refine next_gen x0 x1 x2 x3 H _ w k0 k1 k2 k3 h0 h1 (fun w => ?_)
  unfold W64 at k0 k1 k2 k3
  have wf : Wds (nf x0 x1 x2 x3 H) 4 := fun i hi => by
    rcases (show i = 0 ∨ i = 1 ∨ i = 2 ∨ i = 3 by omega) with rfl | rfl | rfl | rfl
    · show W64 (x0 * 4294967296 % 18446744073709551616 + H); exact ⟨by omega, by omega⟩
    · show W64 (x1 * 4294967296 % 18446744073709551616 + x0 / 4294967296); exact ⟨by omega, by omega⟩
    · show W64 (x2 * 4294967296 % 18446744073709551616 + x1 / 4294967296); exact ⟨by omega, by omega⟩
    · show W64 (x3 % 268435456 * 4294967296 + x2 / 4294967296); exact ⟨by omega, by omega⟩
  have wg : Wds (ng (x3 / 268435456)) 4 := fun i hi => by
    rcases (show i = 0 ∨ i = 1 ∨ i = 2 ∨ i = 3 by omega) with rfl | rfl | rfl | rfl
    · show W64 (x3 / 268435456 * 6346243789798364141 % 18446744073709551616); exact ⟨by omega, by omega⟩
    · show W64 ((x3 / 268435456 * 1503914060200516822 + x3 / 268435456 * 6346243789798364141 / 18446744073709551616) % 18446744073709551616); exact ⟨by omega, by omega⟩
    · show W64 ((x3 / 268435456 * 1503914060200516822 + x3 / 268435456 * 6346243789798364141 / 18446744073709551616) / 18446744073709551616); exact ⟨by omega, by omega⟩
    · show W64 0; exact ⟨by decide, by decide⟩
  have ef := nf_Q x0 x1 x2 x3 H
  have eg := ng_Q (x3 / 268435456)
  have ed : Q (nf x0 x1 x2 x3 H) 4 - Q (ng (x3 / 268435456)) 4 = N * 4294967296 + H - x3 / 268435456 * Lm := by
    rw [ef, eg, ← hq]
    unfold Lm
    omega
  have := without_any (nf x0 x1 x2 x3 H) (ng (x3 / 268435456)) w wf wg (by rw [ef, eg]; unfold Lm; omega) (by rw [ef, eg]; unfold Lm; omega)
  rw [ed, Int.sub_mul_emod_self_right] at this
  exact this

end Go.Proofs.Ytaaijicpdampiaa
