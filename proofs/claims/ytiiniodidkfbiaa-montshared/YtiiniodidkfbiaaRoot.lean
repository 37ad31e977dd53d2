/- The contracts of Inv, anyRoot and Root. -/
import Derived.Test.YtiiniodidkfbiaaOnes
import Derived.Test.YtiiniodidkfbiaaSame
namespace Go.Proofs.Ytiiniodidkfbiaa
open Go.RowKit

theorem ones_250 (x : E5) (w : World) (hx : x.Ok) : Calls Try.prog 50 #[x.v, .int .u64 250] w fun r w' => r = .returned (onesF x 8 250).v ∧ Below w.heap.size w w' := ones_any x hx 8 250 w (by decide) (by decide)
theorem ones_251 (x : E5) (w : World) (hx : x.Ok) : Calls Try.prog 50 #[x.v, .int .u64 251] w fun r w' => r = .returned (onesF x 8 251).v ∧ Below w.heap.size w w' := ones_any x hx 8 251 w (by decide) (by decide)
theorem ones_2 (x : E5) (w : World) (hx : x.Ok) : Calls Try.prog 50 #[x.v, .int .u64 2] w fun r w' => r = .returned (onesF x 8 2).v ∧ Below w.heap.size w w' := ones_any x hx 8 2 w (by decide) (by decide)

def invF (x : E5) : E5 := mulF (mulF (squaresF 5 (onesF x 8 250)) (squaresF 3 x)) (onesF x 8 2)

theorem invF_ok {x : E5} (hx : x.Ok) : (invF x).Ok := mulF_ok (mulF_ok (squaresF_ok _ (onesF_ok hx _ _)) (squaresF_ok _ hx)) (onesF_ok hx _ _)

set_option maxRecDepth 100000 in
set_option maxHeartbeats 1000000 in
theorem inv_any (x : E5) (w : World) (hx : x.Ok) :
    Calls Try.prog 28 #[x.v] w fun r w' => r = .returned (invF x).v ∧ Below w.heap.size w w' := by
  have k1 := onesF_ok hx 8 250
  have k2 := onesF_ok hx 8 2
  have HE := hide (show invF x = mulF (mulF (squaresF 5 (onesF x 8 250)) (squaresF 3 x)) (onesF x 8 2) from rfl)
  go_enter Try.func28, Try.ntmps28
  go_wp2_with fail
  have R := Out.start1 w (.cells #[.int .u64 x.a, .int .u64 x.b, .int .u64 x.c, .int .u64 x.d, .int .u64 x.e] 41)
  have A := EAt.new1 w x (.cells #[.int .u64 0, .int .u64 0, .int .u64 0, .int .u64 0, .int .u64 0] 41)
  generalize (w.alloc (.cells #[.int .u64 x.a, .int .u64 x.b, .int .u64 x.c, .int .u64 x.d, .int .u64 x.e] 41)).alloc (.cells #[.int .u64 0, .int .u64 0, .int .u64 0, .int .u64 0, .int .u64 0] 41) = W at R A ⊢
  have hne := KW.some W
  have a0 := A.k0
  have a1 := A.k1
  have a2 := A.k2
  have a3 := A.k3
  have a4 := A.k4
  clear A
  refine wp_region_keep_tail 9 (by kernel_rfl) (by kernel_rfl) ?_
  simp only [List.take_succ_cons, List.take_zero, List.drop_succ_cons, List.drop_zero]
  iterate 1 go_big_quiet_step (fail)
  go_big_quiet_step ((exact keep_of (ones_250 x _ hx)))
  generalize onesF x 8 250 = y1 at *
  go_big_quiet_step ((exact keep_of (squares_5 y1 _ k1)))
  have k3 := squaresF_ok 5 k1
  generalize squaresF 5 y1 = y2 at *
  go_big_quiet_step (fail)
  go_big_quiet_step ((exact keep_of (squares_3 x _ hx)))
  have k4 := squaresF_ok 3 hx
  generalize squaresF 3 x = y3 at *
  go_big_quiet_step ((exact keep_of (mul_any y2 y3 _ k3 k4)))
  have k5 := mulF_ok k3 k4
  generalize mulF y2 y3 = y4 at *
  go_big_quiet_step (fail)
  go_big_quiet_step ((exact keep_of (ones_2 x _ hx)))
  generalize onesF x 8 2 = y5 at *
  go_big_quiet_step ((exact keep_of (mul_any y4 y5 _ k5 k2)))
  generalize mulF y4 y5 = z at *
  refine wpQuiet_nil ?_
  intro s
  clear a0 a1 a2 a3 a4 hne k1 k2 k3 k4 k5
  replace R := R.keep s.keep
  generalize s.w = W3 at R ⊢
  obtain ⟨old, ge, hs, hf, c0, c1, c2, c3, c4⟩ := R
  have O := hide old
  clear old
  go_wp2
  refine bodyPost_ret (v := z.v) (by simp [results, Try.results28, go_sem, c0, c1, c2, c3, c4]) rfl ⟨by rw [HE.out], ?_⟩
  exact five O.out ge

/-- The root of -1 that is written out. -/
def rmo : E5 := ⟨1718705420411056, 234908883556509, 2233514472574048, 2117202627021982, 765476049583133⟩
theorem rmo_ok : rmo.Ok := ⟨by decide, by decide, by decide, by decide, by decide, by decide, by decide, by decide, by decide, by decide⟩

def rootR (x : E5) : E5 := squaresF 1 (onesF x 8 251)
def anyRootF (x : E5) : E5 × Bool :=
  if (mulF (rootR x) (rootR x)).n % Pm == x.n % Pm then (rootR x, true)
  else if (mulF (rootR x) (rootR x)).n % Pm == (negF x).n % Pm then (mulF (rootR x) rmo, true)
  else (zeroE, false)

theorem rootR_ok {x : E5} (hx : x.Ok) : (rootR x).Ok := squaresF_ok _ (onesF_ok hx _ _)
theorem anyRootF_ok {x : E5} (hx : x.Ok) : (anyRootF x).1.Ok := by
  unfold anyRootF
  split
  · exact rootR_ok hx
  · split
    · exact mulF_ok (rootR_ok hx) rmo_ok
    · exact zeroE_ok

def rootF (x : E5) : E5 × Bool := (if (anyRootF x).1.n % Pm % 2 == 1 then negF (anyRootF x).1 else (anyRootF x).1, (anyRootF x).2)

theorem ite_ok {c : Prop} [Decidable c] {a b : E5} (ha : a.Ok) (hb : b.Ok) : (if c then a else b).Ok := by split <;> assumption
theorem rootF_ok {x : E5} (hx : x.Ok) : (rootF x).1.Ok := by
  have k := anyRootF_ok hx
  have e : (rootF x).1 = if (anyRootF x).1.n % Pm % 2 == 1 then negF (anyRootF x).1 else (anyRootF x).1 := by simp only [rootF]
  rw [e]
  generalize (anyRootF x).1 = r at *
  exact ite_ok (negF_ok k) k

end Go.Proofs.Ytiiniodidkfbiaa
