/- What the arguments are, opened. -/
import Derived.Test.YtlfekknonjlopaaG0
import Derived.ProofKit
import Derived.OpenShut
import Derived.ShutString
import Derived.SizedLaws
import Derived.Carry
namespace Go.Proofs.Ytlfekknonjlopaa
open Go.ChangeShapes Go.WideShapes Go.ChangeAt Go.RowKit

set_option maxRecDepth 100000
set_option linter.unusedVariables false
set_option linter.unusedSimpArgs false
theorem laidOut : laidOutB Try.prog = true := by kernel_rfl
theorem ownNone : ownKnob Try.prog.godebug = none := by kernel_rfl
section
variable {W : World} {b0 : Nat} {v : Value}
theorem cell4 (h : Cell.okWide Try.prog W .any b0 4 v) : ∃ b, v = .bool b := by
  simp only [Cell.okWide, Try.underlying4] at h
  cases v <;> simp_all [Cell.ok, Try.underlying4]
theorem cell3 (h : Cell.okWide Try.prog W .any b0 3 v) : ∃ n, v = .int .i64 n ∧ -9223372036854775808 ≤ n ∧ n < 9223372036854775808 := by
  simp only [Cell.okWide, Try.underlying3] at h
  cases v <;> simp_all [Cell.ok, Try.underlying3]
  rename_i k n
  obtain ⟨rfl, h1, h2⟩ := h
  simp [IntKind.min, IntKind.max, IntKind.bits, IntKind.signed] at h1 h2
  exact ⟨h1, by omega⟩
theorem op3 (h : Value.okWide Try.prog W .any b0 3 v) : ∃ n, v = .int .i64 n ∧ -9223372036854775808 ≤ n ∧ n < 9223372036854775808 := by
  simp only [Value.okWide, Try.underlying3] at h
  exact cell3 h
theorem cell5 (h : Cell.okWide Try.prog W .any b0 5 v) : ∃ n, v = .int .u8 n ∧ 0 ≤ n ∧ n < 256 := by
  simp only [Cell.okWide, Try.underlying5] at h
  cases v <;> simp_all [Cell.ok, Try.underlying5]
  rename_i k n
  obtain ⟨rfl, h1, h2⟩ := h
  simp [IntKind.min, IntKind.max, IntKind.bits, IntKind.signed] at h1 h2
  exact ⟨h1, by omega⟩
theorem op5 (h : Value.okWide Try.prog W .any b0 5 v) : ∃ n, v = .int .u8 n ∧ 0 ≤ n ∧ n < 256 := by
  simp only [Value.okWide, Try.underlying5] at h
  exact cell5 h
theorem cell23 (h : Cell.okWide Try.prog W .any b0 23 v) : ∃ n, v = .int .u64 n ∧ 0 ≤ n ∧ n < 18446744073709551616 := by
  simp only [Cell.okWide, Try.underlying23] at h
  cases v <;> simp_all [Cell.ok, Try.underlying23]
  rename_i k n
  obtain ⟨rfl, h1, h2⟩ := h
  simp [IntKind.min, IntKind.max, IntKind.bits, IntKind.signed] at h1 h2
  exact ⟨h1, by omega⟩
theorem op23 (h : Value.okWide Try.prog W .any b0 23 v) : ∃ n, v = .int .u64 n ∧ 0 ≤ n ∧ n < 18446744073709551616 := by
  simp only [Value.okWide, Try.underlying23] at h
  exact cell23 h
theorem cell40 (h : Cell.okWide Try.prog W .any b0 40 v) : ∃ n, v = .int .u16 n ∧ 0 ≤ n ∧ n < 65536 := by
  simp only [Cell.okWide, Try.underlying40] at h
  cases v <;> simp_all [Cell.ok, Try.underlying40]
  rename_i k n
  obtain ⟨rfl, h1, h2⟩ := h
  simp [IntKind.min, IntKind.max, IntKind.bits, IntKind.signed] at h1 h2
  exact ⟨h1, by omega⟩
theorem op40 (h : Value.okWide Try.prog W .any b0 40 v) : ∃ n, v = .int .u16 n ∧ 0 ≤ n ∧ n < 65536 := by
  simp only [Value.okWide, Try.underlying40] at h
  exact cell40 h
end
theorem row_cells {W : World} {b0 : Nat} {t : TypeId} {v : Value} {fs : Array Field} {ts : List TypeId} (ht : Try.prog.underlying t = some (.struct fs)) (hc : Try.prog.cellTypes Try.prog.depth t = some ts) (hn : Try.prog.cellsOf t = ts.length) (h : Value.okWide Try.prog W .any b0 t v) : ∃ cs, v = .agg cs ∧ cs.size = ts.length ∧ ∀ (i : Nat) (u : TypeId), ts[i]? = some u → ∃ x, cs[i]? = some x ∧ Cell.okWide Try.prog W .any b0 u x := by
  simp only [Value.okWide, ht] at h
  obtain ⟨cs, rfl, h2, ts2, h3, _, h4⟩ := h
  rw [hc] at h3
  cases h3
  refine ⟨cs, rfl, by omega, fun i u hu => ?_⟩
  have hi := (List.getElem?_eq_some_iff.1 hu).1
  obtain ⟨u2, hu2, hx⟩ := h4 i cs[i] (Array.getElem?_eq_getElem (by omega))
  rw [Nat.mod_eq_of_lt hi, hu] at hu2
  cases hu2
  exact ⟨cs[i], Array.getElem?_eq_getElem (by omega), hx⟩
theorem arr_eq (cs : Array Value) (l : List Value) (hs : cs.size = l.length) (h : ∀ i, i < l.length → cs[i]? = l[i]?) : cs = l.toArray := by
  apply Array.ext_getElem?
  intro i
  by_cases hi : i < l.length
  · rw [h i hi]; simp
  · rw [Array.getElem?_eq_none (by omega), Array.getElem?_eq_none (by simp; omega)]
theorem op44 {W : World} {b0 : Nat} {v : Value} (h : Value.okWide Try.prog W .any b0 44 v) : ∃ (x0 : Int) (x1 : Bool) (x2 : Int) (x3 : Int) (x4 : Bool) (x5 : Int) (x6 : Int) (x7 : Int) (x8 : Int) (x9 : Int) (x10 : Int) (x11 : Int) (x12 : Int), v = .agg ([.int .u8 x0, .bool x1, .int .u64 x2, .int .u64 x3, .bool x4, .int .u64 x5, .int .u64 x6, .int .u16 x7, .int .u16 x8, .int .u8 x9, .int .u8 x10, .int .u8 x11, .int .i64 x12] : List Value).toArray ∧ (0 ≤ x0 ∧ x0 < 256) ∧ (0 ≤ x2 ∧ x2 < 18446744073709551616) ∧ (0 ≤ x3 ∧ x3 < 18446744073709551616) ∧ (0 ≤ x5 ∧ x5 < 18446744073709551616) ∧ (0 ≤ x6 ∧ x6 < 18446744073709551616) ∧ (0 ≤ x7 ∧ x7 < 65536) ∧ (0 ≤ x8 ∧ x8 < 65536) ∧ (0 ≤ x9 ∧ x9 < 256) ∧ (0 ≤ x10 ∧ x10 < 256) ∧ (0 ≤ x11 ∧ x11 < 256) ∧ (-9223372036854775808 ≤ x12 ∧ x12 < 9223372036854775808) := by
  obtain ⟨cs, rfl, hs, hc⟩ := row_cells (ts := [5, 4, 23, 23, 4, 23, 23, 40, 40, 5, 5, 5, 3]) Try.underlying44 (by kernel_rfl) (by kernel_rfl) h
  obtain ⟨y0, e0, o0⟩ := hc 0 5 rfl
  obtain ⟨x0, rfl, r0⟩ := cell5 o0
  obtain ⟨y1, e1, o1⟩ := hc 1 4 rfl
  obtain ⟨x1, rfl⟩ := cell4 o1
  obtain ⟨y2, e2, o2⟩ := hc 2 23 rfl
  obtain ⟨x2, rfl, r2⟩ := cell23 o2
  obtain ⟨y3, e3, o3⟩ := hc 3 23 rfl
  obtain ⟨x3, rfl, r3⟩ := cell23 o3
  obtain ⟨y4, e4, o4⟩ := hc 4 4 rfl
  obtain ⟨x4, rfl⟩ := cell4 o4
  obtain ⟨y5, e5, o5⟩ := hc 5 23 rfl
  obtain ⟨x5, rfl, r5⟩ := cell23 o5
  obtain ⟨y6, e6, o6⟩ := hc 6 23 rfl
  obtain ⟨x6, rfl, r6⟩ := cell23 o6
  obtain ⟨y7, e7, o7⟩ := hc 7 40 rfl
  obtain ⟨x7, rfl, r7⟩ := cell40 o7
  obtain ⟨y8, e8, o8⟩ := hc 8 40 rfl
  obtain ⟨x8, rfl, r8⟩ := cell40 o8
  obtain ⟨y9, e9, o9⟩ := hc 9 5 rfl
  obtain ⟨x9, rfl, r9⟩ := cell5 o9
  obtain ⟨y10, e10, o10⟩ := hc 10 5 rfl
  obtain ⟨x10, rfl, r10⟩ := cell5 o10
  obtain ⟨y11, e11, o11⟩ := hc 11 5 rfl
  obtain ⟨x11, rfl, r11⟩ := cell5 o11
  obtain ⟨y12, e12, o12⟩ := hc 12 3 rfl
  obtain ⟨x12, rfl, r12⟩ := cell3 o12
  refine ⟨x0, x1, x2, x3, x4, x5, x6, x7, x8, x9, x10, x11, x12, congrArg Value.agg (arr_eq _ _ hs fun i hi => ?_), r0, r2, r3, r5, r6, r7, r8, r9, r10, r11, r12⟩
  have hi : i < 13 := hi
  match i, hi with
  | 0, _ => exact e0
  | 1, _ => exact e1
  | 2, _ => exact e2
  | 3, _ => exact e3
  | 4, _ => exact e4
  | 5, _ => exact e5
  | 6, _ => exact e6
  | 7, _ => exact e7
  | 8, _ => exact e8
  | 9, _ => exact e9
  | 10, _ => exact e10
  | 11, _ => exact e11
  | 12, _ => exact e12
theorem op42 {W : World} {b0 : Nat} {v : Value} (h : Value.okWide Try.prog W .any b0 42 v) : ∃ (x0 : Int) (x1 : Bool) (x2 : Int) (x3 : Int) (x4 : Bool) (x5 : Int) (x6 : Int) (x7 : Int) (x8 : Int), v = .agg ([.int .u8 x0, .bool x1, .int .u64 x2, .int .u64 x3, .bool x4, .int .u64 x5, .int .u64 x6, .int .u16 x7, .int .u16 x8] : List Value).toArray ∧ (0 ≤ x0 ∧ x0 < 256) ∧ (0 ≤ x2 ∧ x2 < 18446744073709551616) ∧ (0 ≤ x3 ∧ x3 < 18446744073709551616) ∧ (0 ≤ x5 ∧ x5 < 18446744073709551616) ∧ (0 ≤ x6 ∧ x6 < 18446744073709551616) ∧ (0 ≤ x7 ∧ x7 < 65536) ∧ (0 ≤ x8 ∧ x8 < 65536) := by
  obtain ⟨cs, rfl, hs, hc⟩ := row_cells (ts := [5, 4, 23, 23, 4, 23, 23, 40, 40]) Try.underlying42 (by kernel_rfl) (by kernel_rfl) h
  obtain ⟨y0, e0, o0⟩ := hc 0 5 rfl
  obtain ⟨x0, rfl, r0⟩ := cell5 o0
  obtain ⟨y1, e1, o1⟩ := hc 1 4 rfl
  obtain ⟨x1, rfl⟩ := cell4 o1
  obtain ⟨y2, e2, o2⟩ := hc 2 23 rfl
  obtain ⟨x2, rfl, r2⟩ := cell23 o2
  obtain ⟨y3, e3, o3⟩ := hc 3 23 rfl
  obtain ⟨x3, rfl, r3⟩ := cell23 o3
  obtain ⟨y4, e4, o4⟩ := hc 4 4 rfl
  obtain ⟨x4, rfl⟩ := cell4 o4
  obtain ⟨y5, e5, o5⟩ := hc 5 23 rfl
  obtain ⟨x5, rfl, r5⟩ := cell23 o5
  obtain ⟨y6, e6, o6⟩ := hc 6 23 rfl
  obtain ⟨x6, rfl, r6⟩ := cell23 o6
  obtain ⟨y7, e7, o7⟩ := hc 7 40 rfl
  obtain ⟨x7, rfl, r7⟩ := cell40 o7
  obtain ⟨y8, e8, o8⟩ := hc 8 40 rfl
  obtain ⟨x8, rfl, r8⟩ := cell40 o8
  refine ⟨x0, x1, x2, x3, x4, x5, x6, x7, x8, congrArg Value.agg (arr_eq _ _ hs fun i hi => ?_), r0, r2, r3, r5, r6, r7, r8⟩
  have hi : i < 9 := hi
  match i, hi with
  | 0, _ => exact e0
  | 1, _ => exact e1
  | 2, _ => exact e2
  | 3, _ => exact e3
  | 4, _ => exact e4
  | 5, _ => exact e5
  | 6, _ => exact e6
  | 7, _ => exact e7
  | 8, _ => exact e8
end Go.Proofs.Ytlfekknonjlopaa
