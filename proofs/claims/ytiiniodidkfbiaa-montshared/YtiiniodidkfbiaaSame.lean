/- The contracts of Same and Odd. -/
import Derived.Test.YtiiniodidkfbiaaLeast
import Derived.Test.YtiiniodidkfbiaaLie
import Derived.Test.YtiiniodidkfbiaaEql
namespace Go.Proofs.Ytiiniodidkfbiaa
open Go.RowKit

theorem oddR {y : E5} {n : Int} (h : y.Low) (e : y.n = n) : (bits BinOp.and IntKind.u64 y.a 1 == 1) = (n % 2 == 1) := by
  obtain ⟨a0, a1, b0, b1, c0, c1, d0, d1, e0, e1⟩ := h
  rw [u64_and y.a 1 a0 (by omega) (by decide) (by decide), show (1 : Int).toNat = 1 from rfl, nat_mask1, ← e]
  have : ((y.a.toNat % 2 : Nat) : Int) = y.n % 2 := by simp only [E5.n]; omega
  rw [this]

theorem low_inj {x y : E5} (hx : x.Low) (hy : y.Low) (h : x.n = y.n) : x = y := by
  obtain ⟨a, b, c, d, e⟩ := x
  obtain ⟨f, g, i, j, k⟩ := y
  obtain ⟨a0, a1, b0, b1, c0, c1, d0, d1, e0, e1⟩ := hx
  obtain ⟨f0, f1, g0, g1, h0, h1, i0, i1, j0, j1⟩ := hy
  simp only [E5.n] at *
  have h1 : a = f := by omega
  have h2 : b = g := by omega
  have h3 : c = i := by omega
  have h4 : d = j := by omega
  have h5 : e = k := by omega
  rw [h1, h2, h3, h4, h5]

theorem sameR {x y : E5} (hx : x.Ok) (hy : y.Ok) : eq5 (leastF x) (leastF y) = (x.n % Pm == y.n % Pm) := by
  rw [Bool.eq_iff_iff, eq5_iff, beq_iff_eq, ← leastF_n hx, ← leastF_n hy]
  exact ⟨fun h => by rw [h], fun h => low_inj (leastF_low x) (leastF_low y) h⟩

set_option maxRecDepth 100000 in
set_option maxHeartbeats 1000000 in
theorem same_any (x y : E5) (w : World) (hx : x.Ok) (hy : y.Ok) :
    Calls Try.prog 17 #[x.v, y.v] w fun r w' => r = .returned (.bool (x.n % Pm == y.n % Pm)) ∧ Below w.heap.size w w' := by
  have hg : Try.prog.eqGuardType Try.prog.depth 39 = false := by kernel_rfl
  have he := run_eql_e5 (leastF x) (leastF y)
  go_enter Try.func17, Try.ntmps17
  go_wp2_with fail
  have A := (EAt.new w x 41).alloc (.cells #[.int .u64 y.a, .int .u64 y.b, .int .u64 y.c, .int .u64 y.d, .int .u64 y.e] 41)
  have B := EAt.new (w.alloc (.cells #[.int .u64 x.a, .int .u64 x.b, .int .u64 x.c, .int .u64 x.d, .int .u64 x.e] 41)) y 41
  rw [World.size_alloc] at B
  have O := hide (((Below.refl w.heap.size w).alloc (Nat.le_refl _) (.cells #[.int .u64 x.a, .int .u64 x.b, .int .u64 x.c, .int .u64 x.d, .int .u64 x.e] 41)).alloc (by simp) (.cells #[.int .u64 y.a, .int .u64 y.b, .int .u64 y.c, .int .u64 y.d, .int .u64 y.e] 41))
  generalize (w.alloc (.cells #[.int .u64 x.a, .int .u64 x.b, .int .u64 x.c, .int .u64 x.d, .int .u64 x.e] 41)).alloc (.cells #[.int .u64 y.a, .int .u64 y.b, .int .u64 y.c, .int .u64 y.d, .int .u64 y.e] 41) = W at A B O ⊢
  have hne := KW.some W
  have c0 := A.k0
  have d0 := B.k0
  have c1 := A.k1
  have d1 := B.k1
  have c2 := A.k2
  have d2 := B.k2
  have c3 := A.k3
  have d3 := B.k3
  have c4 := A.k4
  have d4 := B.k4
  clear A B
  refine wp_region_keep (by kernel_rfl) (by kernel_rfl) ?_
  repeat (go_big_quiet_step ((go_at_call 29; exact keep_of (least_any _ _ (by first | exact hx | exact hy)))))
  refine wpQuiet_nil ?_
  intro s
  have hw := O.out.trans (s.keep.mono O.out.size)
  have HR := hide (sameR hx hy)
  clear he hg c0 c1 c2 c3 c4 d0 d1 d2 d3 d4 O hne
  go_wp2
  go_ret
  exact ⟨by rw [← HR.out]; rfl, hw⟩

end Go.Proofs.Ytiiniodidkfbiaa
