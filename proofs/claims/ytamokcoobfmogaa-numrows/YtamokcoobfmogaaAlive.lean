/- The contract of alive: it answers true. -/
import Derived.Test.YtamokcoobfmogaaAlive0
namespace Go.Proofs.Ytamokcoobfmogaa
open Go.RowKit

set_option maxRecDepth 100000 in
set_option maxHeartbeats 4000000 in
theorem alive_any (w : World) : Calls Try.prog 8 #[] w fun r w' => r = .returned (.bool true) ∧ Below w.heap.size w w' := by
  have k1 := smallF_ok (n := 1) (by decide) (by decide)
  have k2 := smallF_ok (n := 2) (by decide) (by decide)
  have k3 := smallF_ok (n := 3) (by decide) (by decide)
  have k4 := smallF_ok (n := 4) (by decide) (by decide)
  have kr4 := rootF_ok k4
  have kr2 := rootF_ok k2
  have F1 := hide inv2
  have F2 := hide root4
  have F3 := hide root2
  have F4 := hide neg1
  have F5 := hide odd3
  have F6 := hide val2
  go_enter Try.func8, Try.ntmps8
  go_wp2_with fail
  refine (small_any 2 _ (by decide) (by decide)).mono ?_
  rintro _ w1 ⟨rfl, O⟩
  generalize smallF 2 = t at *
  go_wp2_with fail
  have A := EAt.new w1 t 27
  replace O := O.trans ((new_below w1 (.cells #[.int .u64 t.a, .int .u64 t.b, .int .u64 t.c, .int .u64 t.d, .int .u64 t.e] 27)).mono O.size)
  refine (small_any 4 _ (by decide) (by decide)).mono ?_
  rintro _ w2 ⟨rfl, hb⟩
  replace A := A.keep hb
  replace O := O.trans (hb.mono O.size)
  clear hb
  generalize smallF 4 = q at *
  generalize w1.heap.size = gt at *
  go_wp2_with fail
  refine (root_any q _ k4).mono ?_
  rintro _ w3 ⟨rfl, hb⟩
  replace A := A.keep hb
  replace O := O.trans (hb.mono O.size)
  clear hb
  rw [F2.out.1]
  have F2' := hide F2.out.2
  clear F2
  generalize (rootF q).1 = r at *
  have A' := hide (A.keep (new_below w3 (.cells #[.int .u64 r.a, .int .u64 r.b, .int .u64 r.c, .int .u64 r.d, .int .u64 r.e] 27)))
  have R' := hide (EAt.new w3 r 27)
  have O' := hide (O.trans ((new_below w3 (.cells #[.int .u64 r.a, .int .u64 r.b, .int .u64 r.c, .int .u64 r.d, .int .u64 r.e] 27)).mono O.size))
  obtain ⟨asz, af, a0, a1, a2, a3, a4⟩ := A
  clear O
  go_wp2_with fail
  refine (root_any t _ k2).mono ?_
  rintro _ w4 ⟨rfl, hb⟩
  have A := A'.out.keep hb
  have R := R'.out.keep hb
  have O := O'.out.trans (hb.mono O'.out.size)
  clear hb A' R' O' asz af a0 a1 a2 a3 a4
  rw [F3.out]
  clear F3
  generalize (rootF t).1 = u at *
  generalize w3.heap.size = gr at *
  go_wp2_with fail
  replace A := A.keep (new_below w4 (.cells #[.int .u64 u.a, .int .u64 u.b, .int .u64 u.c, .int .u64 u.d, .int .u64 u.e] 27))
  replace R := R.keep (new_below w4 (.cells #[.int .u64 u.a, .int .u64 u.b, .int .u64 u.c, .int .u64 u.d, .int .u64 u.e] 27))
  replace O := O.trans ((new_below w4 (.cells #[.int .u64 u.a, .int .u64 u.b, .int .u64 u.c, .int .u64 u.d, .int .u64 u.e] 27)).mono O.size)
  refine (of_no _ _ (by decide)).mono ?_
  rintro _ w5 ⟨rfl, hb⟩
  replace A := A.keep hb
  replace R := R.keep hb
  replace O := O.trans (hb.mono O.size)
  clear hb
  go_wp2_with fail
  replace A := A.keep (new_below w5 (.cells #[.int .u64 zeroE.a, .int .u64 zeroE.b, .int .u64 zeroE.c, .int .u64 zeroE.d, .int .u64 zeroE.e] 27))
  replace R := R.keep (new_below w5 (.cells #[.int .u64 zeroE.a, .int .u64 zeroE.b, .int .u64 zeroE.c, .int .u64 zeroE.d, .int .u64 zeroE.e] 27))
  replace O := O.trans ((new_below w5 (.cells #[.int .u64 zeroE.a, .int .u64 zeroE.b, .int .u64 zeroE.c, .int .u64 zeroE.d, .int .u64 zeroE.e] 27)).mono O.size)
  generalize w5.alloc (.cells #[.int .u64 zeroE.a, .int .u64 zeroE.b, .int .u64 zeroE.c, .int .u64 zeroE.d, .int .u64 zeroE.e] 27) = W at A R O ⊢
  have hne := KW.some W
  have a0 := A.k0
  have a1 := A.k1
  have a2 := A.k2
  have a3 := A.k3
  have a4 := A.k4
  have F1' : lebytes ((mulF t (invF t)).n % Pm) = ⟨#[1, 0, 0, 0, 0, 0, 0, 0, 0, 0, 0, 0, 0, 0, 0, 0, 0, 0, 0, 0, 0, 0, 0, 0, 0, 0, 0, 0, 0, 0, 0, 0]⟩ := by rw [F1.out, lebytes1]
  have hcall : ∀ w, Calls Try.prog 31 #[(mulF t (invF t)).v] w fun r w' => r = .returned (.string ⟨#[1, 0, 0, 0, 0, 0, 0, 0, 0, 0, 0, 0, 0, 0, 0, 0, 0, 0, 0, 0, 0, 0, 0, 0, 0, 0, 0, 0, 0, 0, 0, 0]⟩) ∧ Below w.heap.size w w' := fun w => by
    have := bytes_any (mulF t (invF t)) w (mulF_ok k2 (invF_ok k2))
    rwa [F1'] at this
  have HC := hide hcall
  clear F1' hcall F1
  refine wp_region_keep (by kernel_rfl) (by kernel_rfl) ?_
  go_big_quiet_step (fail)
  go_big_quiet_step (fail)
  go_big_quiet_step ((exact keep_of (inv_any t _ k2)))
  go_big_quiet_step ((exact keep_of (mul_any t (invF t) _ k2 (invF_ok k2))))
  go_big_quiet_step ((exact keep_of (HC.out _)))
  go_big_quiet_step (fail)
  refine wpQuiet_nil ?_
  intro s
  clear a0 a1 a2 a3 a4 hne HC
  replace A := A.keep s.keep
  replace R := R.keep s.keep
  replace O := O.trans (s.keep.mono O.size)
  generalize s.w = W7 at A R O ⊢
  have O' := hide O
  clear O
  obtain ⟨asz, af, a0, a1, a2, a3, a4⟩ := A
  obtain ⟨rsz, rf, r0, r1, r2, r3, r4⟩ := R
  go_wp2_with fail
  refine (same_any r t _ kr4 k2).mono ?_
  rintro _ w8 ⟨rfl, hb⟩
  have O := O'.out.trans (hb.mono O'.out.size)
  clear hb O' asz af a0 a1 a2 a3 a4 rsz rf r0 r1 r2 r3 r4
  rw [F2'.out, F6.out, show ((2 : Int) == 2) = true from rfl]
  have O' := hide O
  clear O
  go_wp2_with fail
  refine (small_any 1 _ (by decide) (by decide)).mono ?_
  rintro _ w9 ⟨rfl, hb⟩
  have O := O'.out.trans (hb.mono O'.out.size)
  have O2 := hide O
  clear O O' hb
  go_wp2_with fail
  refine (neg_any (smallF 1) _ k1).mono ?_
  rintro _ w10 ⟨rfl, hb⟩
  have O := O2.out.trans (hb.mono O2.out.size)
  have O3 := hide O
  clear O O2 hb
  go_wp2_with fail
  refine (odd_any (negF (smallF 1)) _ (negF_ok k1)).mono ?_
  rintro _ w11 ⟨rfl, hb⟩
  have O := O3.out.trans (hb.mono O3.out.size)
  have O4 := hide O
  clear O O3 hb
  rw [F4.out]
  go_wp2_with fail
  refine (small_any 3 _ (by decide) (by decide)).mono ?_
  rintro _ w12 ⟨rfl, hb⟩
  have O := O4.out.trans (hb.mono O4.out.size)
  have O5 := hide O
  clear O O4 hb
  go_wp2_with fail
  refine (odd_any (smallF 3) _ k3).mono ?_
  rintro _ w13 ⟨rfl, hb⟩
  have O := O5.out.trans (hb.mono O5.out.size)
  have O6 := hide O
  clear O O5 hb
  rw [F5.out]
  go_wp2
  go_ret
  exact ⟨rfl, O6.out⟩

end Go.Proofs.Ytamokcoobfmogaa
