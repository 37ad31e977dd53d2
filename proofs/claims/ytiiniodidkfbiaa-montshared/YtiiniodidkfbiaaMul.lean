/- The contract of Mul: the product modulo the prime. -/
import Derived.Test.YtiiniodidkfbiaaWide
import Derived.Test.YtiiniodidkfbiaaWalkA
import Derived.Test.YtiiniodidkfbiaaKeep
namespace Go.Proofs.Ytiiniodidkfbiaa
open Go.RowKit

theorem E5.Ok.wa {x : E5} (h : x.Ok) : W64 x.a := ⟨h.a0, by have := h.a1; omega⟩
theorem E5.Ok.va {x : E5} (h : x.Ok) : W64 (x.a * 19) := ⟨by have := h.a0; omega, by have := h.a1; omega⟩
theorem E5.Ok.wb {x : E5} (h : x.Ok) : W64 x.b := ⟨h.b0, by have := h.b1; omega⟩
theorem E5.Ok.vb {x : E5} (h : x.Ok) : W64 (x.b * 19) := ⟨by have := h.b0; omega, by have := h.b1; omega⟩
theorem E5.Ok.wc {x : E5} (h : x.Ok) : W64 x.c := ⟨h.c0, by have := h.c1; omega⟩
theorem E5.Ok.vc {x : E5} (h : x.Ok) : W64 (x.c * 19) := ⟨by have := h.c0; omega, by have := h.c1; omega⟩
theorem E5.Ok.wd {x : E5} (h : x.Ok) : W64 x.d := ⟨h.d0, by have := h.d1; omega⟩
theorem E5.Ok.vd {x : E5} (h : x.Ok) : W64 (x.d * 19) := ⟨by have := h.d0; omega, by have := h.d1; omega⟩
theorem E5.Ok.we {x : E5} (h : x.Ok) : W64 x.e := ⟨h.e0, by have := h.e1; omega⟩
theorem E5.Ok.ve {x : E5} (h : x.Ok) : W64 (x.e * 19) := ⟨by have := h.e0; omega, by have := h.e1; omega⟩

/-- What Mul's own memory is while it works: the result's block, and below it nothing has changed. -/
structure MulW (w W : World) : Prop where
  old : Below w.heap.size w W
  size : w.heap.size + 1 + 1 < W.heap.size
  free : ∀ o, W.frozen? ⟨w.heap.size + 1 + 1, o, none⟩ = false
  c0 : W.cell? ⟨w.heap.size + 1 + 1, 0, none⟩ = some (.int .u64 0)
  c1 : W.cell? ⟨w.heap.size + 1 + 1, 1, none⟩ = some (.int .u64 0)
  c2 : W.cell? ⟨w.heap.size + 1 + 1, 2, none⟩ = some (.int .u64 0)
  c3 : W.cell? ⟨w.heap.size + 1 + 1, 3, none⟩ = some (.int .u64 0)
  c4 : W.cell? ⟨w.heap.size + 1 + 1, 4, none⟩ = some (.int .u64 0)

theorem MulW.keep {w W W' : World} (h : MulW w W) (hb : Below W.heap.size W W') : MulW w W' :=
  ⟨h.old.trans (hb.mono h.old.size), Nat.lt_of_lt_of_le h.size hb.size, fun o => (hb.frozen (p := ⟨_, o, none⟩) h.size).trans (h.free o), (hb.cell (p := ⟨_, 0, none⟩) h.size).trans h.c0, (hb.cell (p := ⟨_, 1, none⟩) h.size).trans h.c1, (hb.cell (p := ⟨_, 2, none⟩) h.size).trans h.c2, (hb.cell (p := ⟨_, 3, none⟩) h.size).trans h.c3, (hb.cell (p := ⟨_, 4, none⟩) h.size).trans h.c4⟩

theorem MulW.start {w W : World} {A B : Obj} {n : Nat}
    (hb : Below ((((w.alloc A).alloc B).alloc (.cells #[.int .u64 0, .int .u64 0, .int .u64 0, .int .u64 0, .int .u64 0] 41)).drewN n).heap.size ((((w.alloc A).alloc B).alloc (.cells #[.int .u64 0, .int .u64 0, .int .u64 0, .int .u64 0, .int .u64 0] 41)).drewN n) W) : MulW w W := by
  refine MulW.keep ?_ hb
  refine ⟨?_, by simp, by simp [go_sem], by simp [go_sem], by simp [go_sem], by simp [go_sem], by simp [go_sem], by simp [go_sem]⟩
  have := (((Below.refl w.heap.size w).alloc (Nat.le_refl _) A).alloc (by simp) B).alloc (by simp; omega) (.cells #[.int .u64 0, .int .u64 0, .int .u64 0, .int .u64 0, .int .u64 0] 41)
  exact ⟨this.os, this.tape, this.output, this.size, this.block⟩

/-- A number of two words lies there. -/
structure At (W : World) (g : Nat) (N : Int) : Prop where
  size : g < W.heap.size
  c0 : W.cell? ⟨g, 0, none⟩ = some (.int .u64 (N / 18446744073709551616))
  c1 : W.cell? ⟨g, 1, none⟩ = some (.int .u64 (N % 18446744073709551616))

theorem At.keep {W W' : World} {g : Nat} {N : Int} (h : At W g N) (hb : Below W.heap.size W W') : At W' g N :=
  ⟨Nat.lt_of_lt_of_le h.size hb.size, (hb.cell (p := ⟨g, 0, none⟩) h.size).trans h.c0, (hb.cell (p := ⟨g, 1, none⟩) h.size).trans h.c1⟩

theorem At.new (W : World) (N : Int) : At (W.alloc (.cells #[.int .u64 (N / 18446744073709551616), .int .u64 (N % 18446744073709551616)] 74)) W.heap.size N :=
  ⟨by simp, by simp [go_sem], by simp [go_sem]⟩

theorem below_new (W : World) (o : Obj) : Below W.heap.size W (W.alloc o) := (Below.refl _ _).alloc (Nat.le_refl _) _

set_option maxRecDepth 100000 in
set_option maxHeartbeats 4000000 in
theorem mul_any (x y : E5) (w : World) (hx : x.Ok) (hy : y.Ok) :
    Calls Try.prog 27 #[x.v, y.v] w fun r w' => r = .returned (mulF x y).v ∧ Below w.heap.size w w' := by
  have HB := hide (MB.of hx hy)
  have HS := hide (MS.of hx hy)
  have q0 := hy.b0
  have q1 := hy.b1
  have q2 := hy.c0
  have q3 := hy.c1
  have q4 := hy.d0
  have q5 := hy.d1
  have q6 := hy.e0
  have q7 := hy.e1
  go_enter Try.func27, Try.ntmps27
  go_wp2_with fail
  go_quiet (fail)
  go_wp2_with fail
  go_quiet (fail)
  go_wp2_with fail
  clear q0 q1 q2 q3 q4 q5 q6 q7
  refine (product_any x.a y.a _ hx.wa hy.wa).mono ?_
  rintro _ wv ⟨rfl, hb⟩
  have M := MulW.start hb
  clear hb
  go_wp2_with fail
  refine (product_any x.b (y.e * 19) _ hx.wb hy.ve).mono ?_
  rintro _ wv ⟨rfl, hb⟩
  replace M := M.keep hb
  clear hb
  go_wp2_with fail
  refine (plus_any (x.a * y.a) (x.b * (y.e * 19)) _ (by have B := HB.out; have := B.aa; have := B.be'; have := B.cd'; have := B.dc'; have := B.eb'; omega) (by have B := HB.out; have := B.aa; have := B.be'; have := B.cd'; have := B.dc'; have := B.eb'; omega) (by have B := HB.out; have := B.aa; have := B.be'; have := B.cd'; have := B.dc'; have := B.eb'; omega)).mono ?_
  rintro _ wv ⟨rfl, hb⟩
  replace M := M.keep hb
  clear hb
  go_wp2_with fail
  refine (product_any x.c (y.d * 19) _ hx.wc hy.vd).mono ?_
  rintro _ wv ⟨rfl, hb⟩
  replace M := M.keep hb
  clear hb
  go_wp2_with fail
  refine (plus_any (x.a * y.a + x.b * (y.e * 19)) (x.c * (y.d * 19)) _ (by have B := HB.out; have := B.aa; have := B.be'; have := B.cd'; have := B.dc'; have := B.eb'; omega) (by have B := HB.out; have := B.aa; have := B.be'; have := B.cd'; have := B.dc'; have := B.eb'; omega) (by have B := HB.out; have := B.aa; have := B.be'; have := B.cd'; have := B.dc'; have := B.eb'; omega)).mono ?_
  rintro _ wv ⟨rfl, hb⟩
  replace M := M.keep hb
  clear hb
  go_wp2_with fail
  refine (product_any x.d (y.c * 19) _ hx.wd hy.vc).mono ?_
  rintro _ wv ⟨rfl, hb⟩
  replace M := M.keep hb
  clear hb
  go_wp2_with fail
  refine (plus_any (x.a * y.a + x.b * (y.e * 19) + x.c * (y.d * 19)) (x.d * (y.c * 19)) _ (by have B := HB.out; have := B.aa; have := B.be'; have := B.cd'; have := B.dc'; have := B.eb'; omega) (by have B := HB.out; have := B.aa; have := B.be'; have := B.cd'; have := B.dc'; have := B.eb'; omega) (by have B := HB.out; have := B.aa; have := B.be'; have := B.cd'; have := B.dc'; have := B.eb'; omega)).mono ?_
  rintro _ wv ⟨rfl, hb⟩
  replace M := M.keep hb
  clear hb
  go_wp2_with fail
  refine (product_any x.e (y.b * 19) _ hx.we hy.vb).mono ?_
  rintro _ wv ⟨rfl, hb⟩
  replace M := M.keep hb
  clear hb
  go_wp2_with fail
  refine (plus_any (x.a * y.a + x.b * (y.e * 19) + x.c * (y.d * 19) + x.d * (y.c * 19)) (x.e * (y.b * 19)) _ (by have B := HB.out; have := B.aa; have := B.be'; have := B.cd'; have := B.dc'; have := B.eb'; omega) (by have B := HB.out; have := B.aa; have := B.be'; have := B.cd'; have := B.dc'; have := B.eb'; omega) (by have B := HB.out; have := B.aa; have := B.be'; have := B.cd'; have := B.dc'; have := B.eb'; omega)).mono ?_
  rintro _ wv ⟨rfl, hb⟩
  replace M := M.keep hb
  clear hb
  rw [show x.a * y.a + x.b * (y.e * 19) + x.c * (y.d * 19) + x.d * (y.c * 19) + x.e * (y.b * 19) = m0 x y from rfl]
  go_wp2_with fail
  refine (product_any x.a y.b _ hx.wa hy.wb).mono ?_
  rintro _ wv ⟨rfl, hb⟩
  replace M := (M.keep (below_new _ _)).keep hb
  have A0 := (At.new _ _).keep hb
  clear hb
  go_wp2_with fail
  refine (product_any x.b y.a _ hx.wb hy.wa).mono ?_
  rintro _ wv ⟨rfl, hb⟩
  replace M := M.keep hb
  replace A0 := A0.keep hb
  clear hb
  go_wp2_with fail
  refine (plus_any (x.a * y.b) (x.b * y.a) _ (by have B := HB.out; have := B.ab; have := B.ba; have := B.ce'; have := B.dd'; have := B.ec'; omega) (by have B := HB.out; have := B.ab; have := B.ba; have := B.ce'; have := B.dd'; have := B.ec'; omega) (by have B := HB.out; have := B.ab; have := B.ba; have := B.ce'; have := B.dd'; have := B.ec'; omega)).mono ?_
  rintro _ wv ⟨rfl, hb⟩
  replace M := M.keep hb
  replace A0 := A0.keep hb
  clear hb
  go_wp2_with fail
  refine (product_any x.c (y.e * 19) _ hx.wc hy.ve).mono ?_
  rintro _ wv ⟨rfl, hb⟩
  replace M := M.keep hb
  replace A0 := A0.keep hb
  clear hb
  go_wp2_with fail
  refine (plus_any (x.a * y.b + x.b * y.a) (x.c * (y.e * 19)) _ (by have B := HB.out; have := B.ab; have := B.ba; have := B.ce'; have := B.dd'; have := B.ec'; omega) (by have B := HB.out; have := B.ab; have := B.ba; have := B.ce'; have := B.dd'; have := B.ec'; omega) (by have B := HB.out; have := B.ab; have := B.ba; have := B.ce'; have := B.dd'; have := B.ec'; omega)).mono ?_
  rintro _ wv ⟨rfl, hb⟩
  replace M := M.keep hb
  replace A0 := A0.keep hb
  clear hb
  go_wp2_with fail
  refine (product_any x.d (y.d * 19) _ hx.wd hy.vd).mono ?_
  rintro _ wv ⟨rfl, hb⟩
  replace M := M.keep hb
  replace A0 := A0.keep hb
  clear hb
  go_wp2_with fail
  refine (plus_any (x.a * y.b + x.b * y.a + x.c * (y.e * 19)) (x.d * (y.d * 19)) _ (by have B := HB.out; have := B.ab; have := B.ba; have := B.ce'; have := B.dd'; have := B.ec'; omega) (by have B := HB.out; have := B.ab; have := B.ba; have := B.ce'; have := B.dd'; have := B.ec'; omega) (by have B := HB.out; have := B.ab; have := B.ba; have := B.ce'; have := B.dd'; have := B.ec'; omega)).mono ?_
  rintro _ wv ⟨rfl, hb⟩
  replace M := M.keep hb
  replace A0 := A0.keep hb
  clear hb
  go_wp2_with fail
  refine (product_any x.e (y.c * 19) _ hx.we hy.vc).mono ?_
  rintro _ wv ⟨rfl, hb⟩
  replace M := M.keep hb
  replace A0 := A0.keep hb
  clear hb
  go_wp2_with fail
  refine (plus_any (x.a * y.b + x.b * y.a + x.c * (y.e * 19) + x.d * (y.d * 19)) (x.e * (y.c * 19)) _ (by have B := HB.out; have := B.ab; have := B.ba; have := B.ce'; have := B.dd'; have := B.ec'; omega) (by have B := HB.out; have := B.ab; have := B.ba; have := B.ce'; have := B.dd'; have := B.ec'; omega) (by have B := HB.out; have := B.ab; have := B.ba; have := B.ce'; have := B.dd'; have := B.ec'; omega)).mono ?_
  rintro _ wv ⟨rfl, hb⟩
  replace M := M.keep hb
  replace A0 := A0.keep hb
  clear hb
  rw [show x.a * y.b + x.b * y.a + x.c * (y.e * 19) + x.d * (y.d * 19) + x.e * (y.c * 19) = m1 x y from rfl]
  go_wp2_with fail
  refine (product_any x.a y.c _ hx.wa hy.wc).mono ?_
  rintro _ wv ⟨rfl, hb⟩
  replace M := (M.keep (below_new _ _)).keep hb
  replace A0 := (A0.keep (below_new _ _)).keep hb
  have A1 := (At.new _ _).keep hb
  clear hb
  go_wp2_with fail
  refine (product_any x.b y.b _ hx.wb hy.wb).mono ?_
  rintro _ wv ⟨rfl, hb⟩
  replace M := M.keep hb
  replace A0 := A0.keep hb
  replace A1 := A1.keep hb
  clear hb
  go_wp2_with fail
  refine (plus_any (x.a * y.c) (x.b * y.b) _ (by have B := HB.out; have := B.ac; have := B.bb; have := B.ca; have := B.de'; have := B.ed'; omega) (by have B := HB.out; have := B.ac; have := B.bb; have := B.ca; have := B.de'; have := B.ed'; omega) (by have B := HB.out; have := B.ac; have := B.bb; have := B.ca; have := B.de'; have := B.ed'; omega)).mono ?_
  rintro _ wv ⟨rfl, hb⟩
  replace M := M.keep hb
  replace A0 := A0.keep hb
  replace A1 := A1.keep hb
  clear hb
  go_wp2_with fail
  refine (product_any x.c y.a _ hx.wc hy.wa).mono ?_
  rintro _ wv ⟨rfl, hb⟩
  replace M := M.keep hb
  replace A0 := A0.keep hb
  replace A1 := A1.keep hb
  clear hb
  go_wp2_with fail
  refine (plus_any (x.a * y.c + x.b * y.b) (x.c * y.a) _ (by have B := HB.out; have := B.ac; have := B.bb; have := B.ca; have := B.de'; have := B.ed'; omega) (by have B := HB.out; have := B.ac; have := B.bb; have := B.ca; have := B.de'; have := B.ed'; omega) (by have B := HB.out; have := B.ac; have := B.bb; have := B.ca; have := B.de'; have := B.ed'; omega)).mono ?_
  rintro _ wv ⟨rfl, hb⟩
  replace M := M.keep hb
  replace A0 := A0.keep hb
  replace A1 := A1.keep hb
  clear hb
  go_wp2_with fail
  refine (product_any x.d (y.e * 19) _ hx.wd hy.ve).mono ?_
  rintro _ wv ⟨rfl, hb⟩
  replace M := M.keep hb
  replace A0 := A0.keep hb
  replace A1 := A1.keep hb
  clear hb
  go_wp2_with fail
  refine (plus_any (x.a * y.c + x.b * y.b + x.c * y.a) (x.d * (y.e * 19)) _ (by have B := HB.out; have := B.ac; have := B.bb; have := B.ca; have := B.de'; have := B.ed'; omega) (by have B := HB.out; have := B.ac; have := B.bb; have := B.ca; have := B.de'; have := B.ed'; omega) (by have B := HB.out; have := B.ac; have := B.bb; have := B.ca; have := B.de'; have := B.ed'; omega)).mono ?_
  rintro _ wv ⟨rfl, hb⟩
  replace M := M.keep hb
  replace A0 := A0.keep hb
  replace A1 := A1.keep hb
  clear hb
  go_wp2_with fail
  refine (product_any x.e (y.d * 19) _ hx.we hy.vd).mono ?_
  rintro _ wv ⟨rfl, hb⟩
  replace M := M.keep hb
  replace A0 := A0.keep hb
  replace A1 := A1.keep hb
  clear hb
  go_wp2_with fail
  refine (plus_any (x.a * y.c + x.b * y.b + x.c * y.a + x.d * (y.e * 19)) (x.e * (y.d * 19)) _ (by have B := HB.out; have := B.ac; have := B.bb; have := B.ca; have := B.de'; have := B.ed'; omega) (by have B := HB.out; have := B.ac; have := B.bb; have := B.ca; have := B.de'; have := B.ed'; omega) (by have B := HB.out; have := B.ac; have := B.bb; have := B.ca; have := B.de'; have := B.ed'; omega)).mono ?_
  rintro _ wv ⟨rfl, hb⟩
  replace M := M.keep hb
  replace A0 := A0.keep hb
  replace A1 := A1.keep hb
  clear hb
  rw [show x.a * y.c + x.b * y.b + x.c * y.a + x.d * (y.e * 19) + x.e * (y.d * 19) = m2 x y from rfl]
  go_wp2_with fail
  refine (product_any x.a y.d _ hx.wa hy.wd).mono ?_
  rintro _ wv ⟨rfl, hb⟩
  replace M := (M.keep (below_new _ _)).keep hb
  replace A0 := (A0.keep (below_new _ _)).keep hb
  replace A1 := (A1.keep (below_new _ _)).keep hb
  have A2 := (At.new _ _).keep hb
  clear hb
  go_wp2_with fail
  refine (product_any x.b y.c _ hx.wb hy.wc).mono ?_
  rintro _ wv ⟨rfl, hb⟩
  replace M := M.keep hb
  replace A0 := A0.keep hb
  replace A1 := A1.keep hb
  replace A2 := A2.keep hb
  clear hb
  go_wp2_with fail
  refine (plus_any (x.a * y.d) (x.b * y.c) _ (by have B := HB.out; have := B.ad; have := B.bc; have := B.cb; have := B.da; have := B.ee'; omega) (by have B := HB.out; have := B.ad; have := B.bc; have := B.cb; have := B.da; have := B.ee'; omega) (by have B := HB.out; have := B.ad; have := B.bc; have := B.cb; have := B.da; have := B.ee'; omega)).mono ?_
  rintro _ wv ⟨rfl, hb⟩
  replace M := M.keep hb
  replace A0 := A0.keep hb
  replace A1 := A1.keep hb
  replace A2 := A2.keep hb
  clear hb
  go_wp2_with fail
  refine (product_any x.c y.b _ hx.wc hy.wb).mono ?_
  rintro _ wv ⟨rfl, hb⟩
  replace M := M.keep hb
  replace A0 := A0.keep hb
  replace A1 := A1.keep hb
  replace A2 := A2.keep hb
  clear hb
  go_wp2_with fail
  refine (plus_any (x.a * y.d + x.b * y.c) (x.c * y.b) _ (by have B := HB.out; have := B.ad; have := B.bc; have := B.cb; have := B.da; have := B.ee'; omega) (by have B := HB.out; have := B.ad; have := B.bc; have := B.cb; have := B.da; have := B.ee'; omega) (by have B := HB.out; have := B.ad; have := B.bc; have := B.cb; have := B.da; have := B.ee'; omega)).mono ?_
  rintro _ wv ⟨rfl, hb⟩
  replace M := M.keep hb
  replace A0 := A0.keep hb
  replace A1 := A1.keep hb
  replace A2 := A2.keep hb
  clear hb
  go_wp2_with fail
  refine (product_any x.d y.a _ hx.wd hy.wa).mono ?_
  rintro _ wv ⟨rfl, hb⟩
  replace M := M.keep hb
  replace A0 := A0.keep hb
  replace A1 := A1.keep hb
  replace A2 := A2.keep hb
  clear hb
  go_wp2_with fail
  refine (plus_any (x.a * y.d + x.b * y.c + x.c * y.b) (x.d * y.a) _ (by have B := HB.out; have := B.ad; have := B.bc; have := B.cb; have := B.da; have := B.ee'; omega) (by have B := HB.out; have := B.ad; have := B.bc; have := B.cb; have := B.da; have := B.ee'; omega) (by have B := HB.out; have := B.ad; have := B.bc; have := B.cb; have := B.da; have := B.ee'; omega)).mono ?_
  rintro _ wv ⟨rfl, hb⟩
  replace M := M.keep hb
  replace A0 := A0.keep hb
  replace A1 := A1.keep hb
  replace A2 := A2.keep hb
  clear hb
  go_wp2_with fail
  refine (product_any x.e (y.e * 19) _ hx.we hy.ve).mono ?_
  rintro _ wv ⟨rfl, hb⟩
  replace M := M.keep hb
  replace A0 := A0.keep hb
  replace A1 := A1.keep hb
  replace A2 := A2.keep hb
  clear hb
  go_wp2_with fail
  refine (plus_any (x.a * y.d + x.b * y.c + x.c * y.b + x.d * y.a) (x.e * (y.e * 19)) _ (by have B := HB.out; have := B.ad; have := B.bc; have := B.cb; have := B.da; have := B.ee'; omega) (by have B := HB.out; have := B.ad; have := B.bc; have := B.cb; have := B.da; have := B.ee'; omega) (by have B := HB.out; have := B.ad; have := B.bc; have := B.cb; have := B.da; have := B.ee'; omega)).mono ?_
  rintro _ wv ⟨rfl, hb⟩
  replace M := M.keep hb
  replace A0 := A0.keep hb
  replace A1 := A1.keep hb
  replace A2 := A2.keep hb
  clear hb
  rw [show x.a * y.d + x.b * y.c + x.c * y.b + x.d * y.a + x.e * (y.e * 19) = m3 x y from rfl]
  go_wp2_with fail
  refine (product_any x.a y.e _ hx.wa hy.we).mono ?_
  rintro _ wv ⟨rfl, hb⟩
  replace M := (M.keep (below_new _ _)).keep hb
  replace A0 := (A0.keep (below_new _ _)).keep hb
  replace A1 := (A1.keep (below_new _ _)).keep hb
  replace A2 := (A2.keep (below_new _ _)).keep hb
  have A3 := (At.new _ _).keep hb
  clear hb
  go_wp2_with fail
  refine (product_any x.b y.d _ hx.wb hy.wd).mono ?_
  rintro _ wv ⟨rfl, hb⟩
  replace M := M.keep hb
  replace A0 := A0.keep hb
  replace A1 := A1.keep hb
  replace A2 := A2.keep hb
  replace A3 := A3.keep hb
  clear hb
  go_wp2_with fail
  refine (plus_any (x.a * y.e) (x.b * y.d) _ (by have B := HB.out; have := B.ae; have := B.bd; have := B.cc; have := B.db; have := B.ea; omega) (by have B := HB.out; have := B.ae; have := B.bd; have := B.cc; have := B.db; have := B.ea; omega) (by have B := HB.out; have := B.ae; have := B.bd; have := B.cc; have := B.db; have := B.ea; omega)).mono ?_
  rintro _ wv ⟨rfl, hb⟩
  replace M := M.keep hb
  replace A0 := A0.keep hb
  replace A1 := A1.keep hb
  replace A2 := A2.keep hb
  replace A3 := A3.keep hb
  clear hb
  go_wp2_with fail
  refine (product_any x.c y.c _ hx.wc hy.wc).mono ?_
  rintro _ wv ⟨rfl, hb⟩
  replace M := M.keep hb
  replace A0 := A0.keep hb
  replace A1 := A1.keep hb
  replace A2 := A2.keep hb
  replace A3 := A3.keep hb
  clear hb
  go_wp2_with fail
  refine (plus_any (x.a * y.e + x.b * y.d) (x.c * y.c) _ (by have B := HB.out; have := B.ae; have := B.bd; have := B.cc; have := B.db; have := B.ea; omega) (by have B := HB.out; have := B.ae; have := B.bd; have := B.cc; have := B.db; have := B.ea; omega) (by have B := HB.out; have := B.ae; have := B.bd; have := B.cc; have := B.db; have := B.ea; omega)).mono ?_
  rintro _ wv ⟨rfl, hb⟩
  replace M := M.keep hb
  replace A0 := A0.keep hb
  replace A1 := A1.keep hb
  replace A2 := A2.keep hb
  replace A3 := A3.keep hb
  clear hb
  go_wp2_with fail
  refine (product_any x.d y.b _ hx.wd hy.wb).mono ?_
  rintro _ wv ⟨rfl, hb⟩
  replace M := M.keep hb
  replace A0 := A0.keep hb
  replace A1 := A1.keep hb
  replace A2 := A2.keep hb
  replace A3 := A3.keep hb
  clear hb
  go_wp2_with fail
  refine (plus_any (x.a * y.e + x.b * y.d + x.c * y.c) (x.d * y.b) _ (by have B := HB.out; have := B.ae; have := B.bd; have := B.cc; have := B.db; have := B.ea; omega) (by have B := HB.out; have := B.ae; have := B.bd; have := B.cc; have := B.db; have := B.ea; omega) (by have B := HB.out; have := B.ae; have := B.bd; have := B.cc; have := B.db; have := B.ea; omega)).mono ?_
  rintro _ wv ⟨rfl, hb⟩
  replace M := M.keep hb
  replace A0 := A0.keep hb
  replace A1 := A1.keep hb
  replace A2 := A2.keep hb
  replace A3 := A3.keep hb
  clear hb
  go_wp2_with fail
  refine (product_any x.e y.a _ hx.we hy.wa).mono ?_
  rintro _ wv ⟨rfl, hb⟩
  replace M := M.keep hb
  replace A0 := A0.keep hb
  replace A1 := A1.keep hb
  replace A2 := A2.keep hb
  replace A3 := A3.keep hb
  clear hb
  go_wp2_with fail
  refine (plus_any (x.a * y.e + x.b * y.d + x.c * y.c + x.d * y.b) (x.e * y.a) _ (by have B := HB.out; have := B.ae; have := B.bd; have := B.cc; have := B.db; have := B.ea; omega) (by have B := HB.out; have := B.ae; have := B.bd; have := B.cc; have := B.db; have := B.ea; omega) (by have B := HB.out; have := B.ae; have := B.bd; have := B.cc; have := B.db; have := B.ea; omega)).mono ?_
  rintro _ wv ⟨rfl, hb⟩
  replace M := M.keep hb
  replace A0 := A0.keep hb
  replace A1 := A1.keep hb
  replace A2 := A2.keep hb
  replace A3 := A3.keep hb
  clear hb
  rw [show x.a * y.e + x.b * y.d + x.c * y.c + x.d * y.b + x.e * y.a = m4 x y from rfl]
  go_wp2_with fail
  have bn := below_new wv (.cells #[.int .u64 (m4 x y / 18446744073709551616), .int .u64 (m4 x y % 18446744073709551616)] 74)
  replace M := M.keep bn
  replace A0 := A0.keep bn
  replace A1 := A1.keep bn
  replace A2 := A2.keep bn
  replace A3 := A3.keep bn
  have A4 := At.new wv (m4 x y)
  clear bn
  obtain ⟨W9, hW9⟩ : ∃ W9, wv.alloc (.cells #[.int .u64 (m4 x y / 18446744073709551616), .int .u64 (m4 x y % 18446744073709551616)] 74) = W9 := ⟨_, rfl⟩
  rw [hW9] at M A0 A1 A2 A3 A4
  rw [hW9]
  clear hW9
  obtain ⟨⟨Z0, Y0⟩, ⟨Z1, Y1⟩, ⟨Z2, Y2⟩, ⟨Z3, Y3⟩, ⟨Z4, Y4⟩⟩ := HS.out
  have HF := hide (show mulF x y = car (m0 x y % 2251799813685248 + m4 x y / 2251799813685248 * 19) (m1 x y % 2251799813685248 + m0 x y / 2251799813685248) (m2 x y % 2251799813685248 + m1 x y / 2251799813685248) (m3 x y % 2251799813685248 + m2 x y / 2251799813685248) (m4 x y % 2251799813685248 + m3 x y / 2251799813685248) from rfl)
  clear HS HB hx hy
  generalize m0 x y = n0 at *
  generalize m1 x y = n1 at *
  generalize m2 x y = n2 at *
  generalize m3 x y = n3 at *
  generalize m4 x y = n4 at *
  have k0 := fun s : KW W9 => (A0.keep s.keep).c0
  have l0 := fun s : KW W9 => (A0.keep s.keep).c1
  have k1 := fun s : KW W9 => (A1.keep s.keep).c0
  have l1 := fun s : KW W9 => (A1.keep s.keep).c1
  have k2 := fun s : KW W9 => (A2.keep s.keep).c0
  have l2 := fun s : KW W9 => (A2.keep s.keep).c1
  have k3 := fun s : KW W9 => (A3.keep s.keep).c0
  have l3 := fun s : KW W9 => (A3.keep s.keep).c1
  have k4 := fun s : KW W9 => (A4.keep s.keep).c0
  have l4 := fun s : KW W9 => (A4.keep s.keep).c1
  clear A0 A1 A2 A3 A4
  have hne : Nonempty (KW W9) := ⟨⟨W9, Below.refl _ _⟩⟩
  refine wp_region_keep_tail 27 (by kernel_rfl) (by kernel_rfl) ?_
  simp only [List.take_succ_cons, List.take_zero, List.drop_succ_cons, List.drop_zero]
  repeat (go_big_quiet_step (first | (go_at_call 48; exact keep_of (below_any _ _)) | (go_at_call 49; exact keep_of (above_any _ _ (by omega) (by omega))) | (go_at_call 38; exact keep_of (carried_any _ _ _ _ _ _ ⟨by omega, by omega⟩ ⟨by omega, by omega⟩ ⟨by omega, by omega⟩ ⟨by omega, by omega⟩ ⟨by omega, by omega⟩))))
  refine wpQuiet_nil ?_
  intro s
  have HE := HF.out
  rw [← HE]
  replace M := M.keep s.keep
  generalize s.w = W' at M ⊢
  generalize hz : mulF x y = z at HE ⊢
  have H := hide hz
  clear HE HF hz k0 k1 k2 k3 k4 l0 l1 l2 l3 l4 hne
  have H3 := hide M.old
  obtain ⟨_, hs, hf, c0, c1, c2, c3, c4⟩ := M
  clear Z0 Z1 Z2 Z3 Z4 Y0 Y1 Y2 Y3 Y4
  go_wp2
  refine bodyPost_ret (v := z.v) (by simp [results, Try.results27, go_sem, c0, c1, c2, c3, c4]) rfl ⟨by rw [H.out], ?_⟩
  exact set5 H3.out (by omega)

end Go.Proofs.Ytiiniodidkfbiaa
