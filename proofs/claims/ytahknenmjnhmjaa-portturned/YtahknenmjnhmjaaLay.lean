/- What the arguments are, opened. -/
import Derived.Test.YtahknenmjnhmjaaP1
import Derived.ProofKit
import Derived.OpenShut
import Derived.ShutString
import Derived.SizedLaws
import Derived.Carry
namespace Go.Proofs.Ytahknenmjnhmjaa
open Go.ChangeShapes Go.WideShapes Go.ChangeAt Go.RowKit

theorem laidOut : laidOutB Try.prog = true := by kernel_rfl
theorem ownNone : ownKnob Try.prog.godebug = none := by kernel_rfl
section
variable {W : World} {b0 : Nat} {v : Value}
theorem cell_bool (h : Cell.okWide Try.prog W .any b0 4 v) : ∃ b, v = .bool b := by
  simp only [Cell.okWide, Try.underlying4] at h
  cases v <;> simp_all [Cell.ok, Try.underlying4]
theorem cell_u64 (h : Cell.okWide Try.prog W .any b0 22 v) : ∃ n, v = .int .u64 n ∧ 0 ≤ n ∧ n < 18446744073709551616 := by
  simp only [Cell.okWide, Try.underlying22] at h
  cases v <;> simp_all [Cell.ok, Try.underlying22]
  rename_i k n
  obtain ⟨rfl, h1, h2⟩ := h
  simp [IntKind.min, IntKind.max, IntKind.bits, IntKind.signed] at h1 h2
  exact ⟨h1, by omega⟩
theorem cell_u8 (h : Cell.okWide Try.prog W .any b0 5 v) : ∃ n, v = .int .u8 n ∧ 0 ≤ n ∧ n < 256 := by
  simp only [Cell.okWide, Try.underlying5] at h
  cases v <;> simp_all [Cell.ok, Try.underlying5]
  rename_i k n
  obtain ⟨rfl, h1, h2⟩ := h
  simp [IntKind.min, IntKind.max, IntKind.bits, IntKind.signed] at h1 h2
  exact ⟨h1, by omega⟩
theorem cell_str (h : Cell.okWide Try.prog W .any b0 9 v) : ∃ s, v = .string s := by
  simp only [Cell.okWide, Try.underlying9] at h
  cases v <;> simp_all [Cell.ok, Try.underlying9]
theorem op9 (h : Value.okWide Try.prog W .any b0 9 v) : ∃ s, v = .string s := by
  simp only [Value.okWide, Try.underlying9] at h
  exact cell_str h
theorem op5 (h : Value.okWide Try.prog W .any b0 5 v) : ∃ n, v = .int .u8 n ∧ 0 ≤ n ∧ n < 256 := by
  simp only [Value.okWide, Try.underlying5] at h
  exact cell_u8 h
theorem cell_u16 (h : Cell.okWide Try.prog W .any b0 27 v) : ∃ n, v = .int .u16 n ∧ 0 ≤ n ∧ n < 65536 := by
  simp only [Cell.okWide, Try.underlying27] at h
  cases v <;> simp_all [Cell.ok, Try.underlying27]
  rename_i k n
  obtain ⟨rfl, h1, h2⟩ := h
  simp [IntKind.min, IntKind.max, IntKind.bits, IntKind.signed] at h1 h2
  exact ⟨h1, by omega⟩
theorem op27 (h : Value.okWide Try.prog W .any b0 27 v) : ∃ n, v = .int .u16 n ∧ 0 ≤ n ∧ n < 65536 := by
  simp only [Value.okWide, Try.underlying27] at h
  exact cell_u16 h
theorem row_av (cs : Array Value) (l : List Value) (hs : cs.size = l.length) (h : ∀ i, i < l.length → cs[i]? = l[i]?) : cs = av l.length (ls l) := by
  apply Array.ext_getElem?
  intro i
  by_cases hi : i < l.length
  · rw [h i hi, av_get _ _ _ hi]
    unfold ls
    rw [getD_app, List.getElem?_eq_getElem hi]
    rfl
  · rw [Array.getElem?_eq_none (by omega), Array.getElem?_eq_none (by rw [av_size]; omega)]
end
theorem row_cells {W : World} {b0 : Nat} {t : TypeId} {v : Value} {fs : Array Field} {ts : List TypeId} (ht : Try.prog.underlying t = some (.struct fs)) (hc : Try.prog.cellTypes Try.prog.depth t = some ts) (hn : Try.prog.cellsOf t = ts.length) (h : Value.okWide Try.prog W .any b0 t v) : ∃ cs, v = .agg cs ∧ cs.size = ts.length ∧ ∀ (i : Nat) (u : TypeId), ts[i]? = some u → ∃ x, cs[i]? = some x ∧ Cell.okWide Try.prog W .any b0 u x := by
  simp only [Value.okWide, ht] at h
  obtain ⟨cs, rfl, h2, ts2, h3, _, h4⟩ := h
  rw [hc] at h3
  cases h3
  refine ⟨cs, rfl, by omega, fun i u hu => ?_⟩
  have hi := (List.getElem?_eq_some_iff.1 hu).1
  obtain ⟨u2, hu2, hx⟩ := h4 i cs[i] (Array.getElem?_eq_getElem (by omega))
  rw [Nat.mod_eq_of_lt hi, hu] at hu2
  cases hu2
  exact ⟨cs[i], Array.getElem?_eq_getElem (by omega), hx⟩
theorem op40 {W : World} {b0 : Nat} {v : Value} (h : Value.okWide Try.prog W .any b0 40 v) : ∃ (b : Bool) (h1 : Int) (l1 : Int) (n1 : Int), v = .agg (av 4 (ls [.bool b, .int .u64 h1, .int .u64 l1, .int .u16 n1])) ∧ (0 ≤ h1 ∧ h1 < 18446744073709551616) ∧ (0 ≤ l1 ∧ l1 < 18446744073709551616) ∧ (0 ≤ n1 ∧ n1 < 65536) := by
  obtain ⟨cs, rfl, hs, hc⟩ := row_cells (ts := [4, 22, 22, 27]) Try.underlying40 (by kernel_rfl) (by kernel_rfl) h
  obtain ⟨x0, e0, o0⟩ := hc 0 4 rfl
  obtain ⟨b, rfl⟩ := cell_bool o0
  obtain ⟨x1, e1, o1⟩ := hc 1 22 rfl
  obtain ⟨h1, rfl, r1⟩ := cell_u64 o1
  obtain ⟨x2, e2, o2⟩ := hc 2 22 rfl
  obtain ⟨l1, rfl, r2⟩ := cell_u64 o2
  obtain ⟨x3, e3, o3⟩ := hc 3 27 rfl
  obtain ⟨n1, rfl, r3⟩ := cell_u16 o3
  refine ⟨b, h1, l1, n1, congrArg Value.agg (row_av cs [.bool b, .int .u64 h1, .int .u64 l1, .int .u16 n1] hs fun i hi => ?_), r1, r2, r3⟩
  rcases i with _ | _ | _ | _ | i
  · exact e0
  · exact e1
  · exact e2
  · exact e3
  · exact absurd hi (by simp)
theorem op26 {W : World} {b0 : Nat} {v : Value} (h : Value.okWide Try.prog W .any b0 26 v) : ∃ (b0_ : Bool) (h0_ : Int) (l0_ : Int) (b1_ : Bool) (h1_ : Int) (l1_ : Int) (p_ : Int) (t_ : Int) (s_ : ByteArray), v = .agg (av 9 (ls [.bool b0_, .int .u64 h0_, .int .u64 l0_, .bool b1_, .int .u64 h1_, .int .u64 l1_, .int .u8 p_, .int .u8 t_, .string s_])) ∧ (0 ≤ h0_ ∧ h0_ < 18446744073709551616) ∧ (0 ≤ l0_ ∧ l0_ < 18446744073709551616) ∧ (0 ≤ h1_ ∧ h1_ < 18446744073709551616) ∧ (0 ≤ l1_ ∧ l1_ < 18446744073709551616) ∧ (0 ≤ p_ ∧ p_ < 256) ∧ (0 ≤ t_ ∧ t_ < 256) := by
  obtain ⟨cs, rfl, hs, hc⟩ := row_cells (ts := [4, 22, 22, 4, 22, 22, 5, 5, 9]) Try.underlying26 (by kernel_rfl) (by kernel_rfl) h
  obtain ⟨x0, e0, o0⟩ := hc 0 4 rfl
  obtain ⟨b0_, rfl⟩ := cell_bool o0
  obtain ⟨x1, e1, o1⟩ := hc 1 22 rfl
  obtain ⟨h0_, rfl, r1⟩ := cell_u64 o1
  obtain ⟨x2, e2, o2⟩ := hc 2 22 rfl
  obtain ⟨l0_, rfl, r2⟩ := cell_u64 o2
  obtain ⟨x3, e3, o3⟩ := hc 3 4 rfl
  obtain ⟨b1_, rfl⟩ := cell_bool o3
  obtain ⟨x4, e4, o4⟩ := hc 4 22 rfl
  obtain ⟨h1_, rfl, r4⟩ := cell_u64 o4
  obtain ⟨x5, e5, o5⟩ := hc 5 22 rfl
  obtain ⟨l1_, rfl, r5⟩ := cell_u64 o5
  obtain ⟨x6, e6, o6⟩ := hc 6 5 rfl
  obtain ⟨p_, rfl, r6⟩ := cell_u8 o6
  obtain ⟨x7, e7, o7⟩ := hc 7 5 rfl
  obtain ⟨t_, rfl, r7⟩ := cell_u8 o7
  obtain ⟨x8, e8, o8⟩ := hc 8 9 rfl
  obtain ⟨s_, rfl⟩ := cell_str o8
  refine ⟨b0_, h0_, l0_, b1_, h1_, l1_, p_, t_, s_, congrArg Value.agg (row_av cs [.bool b0_, .int .u64 h0_, .int .u64 l0_, .bool b1_, .int .u64 h1_, .int .u64 l1_, .int .u8 p_, .int .u8 t_, .string s_] hs fun i hi => ?_), r1, r2, r4, r5, r6, r7⟩
  rcases i with _ | _ | _ | _ | _ | _ | _ | _ | _ | i
  · exact e0
  · exact e1
  · exact e2
  · exact e3
  · exact e4
  · exact e5
  · exact e6
  · exact e7
  · exact e8
  · exact absurd hi (by simp)
theorem op29 {W : World} {b0 : Nat} {v : Value} (h : Value.okWide Try.prog W .any b0 29 v) : ∃ (p_ : Int) (b0_ : Bool) (h0_ : Int) (l0_ : Int) (b1_ : Bool) (h1_ : Int) (l1_ : Int) (f_ : Int) (g_ : Int), v = .agg (av 9 (ls [.int .u8 p_, .bool b0_, .int .u64 h0_, .int .u64 l0_, .bool b1_, .int .u64 h1_, .int .u64 l1_, .int .u16 f_, .int .u16 g_])) ∧ (0 ≤ p_ ∧ p_ < 256) ∧ (0 ≤ h0_ ∧ h0_ < 18446744073709551616) ∧ (0 ≤ l0_ ∧ l0_ < 18446744073709551616) ∧ (0 ≤ h1_ ∧ h1_ < 18446744073709551616) ∧ (0 ≤ l1_ ∧ l1_ < 18446744073709551616) ∧ (0 ≤ f_ ∧ f_ < 65536) ∧ (0 ≤ g_ ∧ g_ < 65536) := by
  obtain ⟨cs, rfl, hs, hc⟩ := row_cells (ts := [5, 4, 22, 22, 4, 22, 22, 27, 27]) Try.underlying29 (by kernel_rfl) (by kernel_rfl) h
  obtain ⟨x0, e0, o0⟩ := hc 0 5 rfl
  obtain ⟨p_, rfl, r0⟩ := cell_u8 o0
  obtain ⟨x1, e1, o1⟩ := hc 1 4 rfl
  obtain ⟨b0_, rfl⟩ := cell_bool o1
  obtain ⟨x2, e2, o2⟩ := hc 2 22 rfl
  obtain ⟨h0_, rfl, r2⟩ := cell_u64 o2
  obtain ⟨x3, e3, o3⟩ := hc 3 22 rfl
  obtain ⟨l0_, rfl, r3⟩ := cell_u64 o3
  obtain ⟨x4, e4, o4⟩ := hc 4 4 rfl
  obtain ⟨b1_, rfl⟩ := cell_bool o4
  obtain ⟨x5, e5, o5⟩ := hc 5 22 rfl
  obtain ⟨h1_, rfl, r5⟩ := cell_u64 o5
  obtain ⟨x6, e6, o6⟩ := hc 6 22 rfl
  obtain ⟨l1_, rfl, r6⟩ := cell_u64 o6
  obtain ⟨x7, e7, o7⟩ := hc 7 27 rfl
  obtain ⟨f_, rfl, r7⟩ := cell_u16 o7
  obtain ⟨x8, e8, o8⟩ := hc 8 27 rfl
  obtain ⟨g_, rfl, r8⟩ := cell_u16 o8
  refine ⟨p_, b0_, h0_, l0_, b1_, h1_, l1_, f_, g_, congrArg Value.agg (row_av cs [.int .u8 p_, .bool b0_, .int .u64 h0_, .int .u64 l0_, .bool b1_, .int .u64 h1_, .int .u64 l1_, .int .u16 f_, .int .u16 g_] hs fun i hi => ?_), r0, r2, r3, r5, r6, r7, r8⟩
  rcases i with _ | _ | _ | _ | _ | _ | _ | _ | _ | i
  · exact e0
  · exact e1
  · exact e2
  · exact e3
  · exact e4
  · exact e5
  · exact e6
  · exact e7
  · exact e8
  · exact absurd hi (by simp)

end Go.Proofs.Ytahknenmjnhmjaa
