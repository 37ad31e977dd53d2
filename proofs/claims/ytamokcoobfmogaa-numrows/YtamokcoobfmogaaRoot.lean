/- The contracts of Inv, anyRoot and Root. -/
import Derived.Test.YtamokcoobfmogaaOnes
import Derived.Test.YtamokcoobfmogaaSame
namespace Go.Proofs.Ytamokcoobfmogaa
open Go.RowKit

theorem ones_250 (x : E5) (w : World) (hx : x.Ok) : Calls Try.prog 50 #[x.v, .int .u64 250] w fun r w' => r = .returned (onesF x 8 250).v ∧ Below w.heap.size w w' := ones_any x hx 8 250 w (by decide) (by decide)
theorem ones_251 (x : E5) (w : World) (hx : x.Ok) : Calls Try.prog 50 #[x.v, .int .u64 251] w fun r w' => r = .returned (onesF x 8 251).v ∧ Below w.heap.size w w' := ones_any x hx 8 251 w (by decide) (by decide)
theorem ones_2 (x : E5) (w : World) (hx : x.Ok) : Calls Try.prog 50 #[x.v, .int .u64 2] w fun r w' => r = .returned (onesF x 8 2).v ∧ Below w.heap.size w w' := ones_any x hx 8 2 w (by decide) (by decide)

def invF (x : E5) : E5 := mulF (mulF (squaresF 5 (onesF x 8 250)) (squaresF 3 x)) (onesF x 8 2)

theorem invF_ok {x : E5} (hx : x.Ok) : (invF x).Ok := mulF_ok (mulF_ok (squaresF_ok _ (onesF_ok hx _ _)) (squaresF_ok _ hx)) (onesF_ok hx _ _)

set_option maxRecDepth 100000 in
set_option maxHeartbeats 1000000 in
theorem inv_any (x : E5) (w : World) (hx : x.Ok) :
    Calls Try.prog 29 #[x.v] w fun r w' => r = .returned (invF x).v ∧ Below w.heap.size w w' := by
  have k1 := onesF_ok hx 8 250
  have k2 := onesF_ok hx 8 2
  have HE := hide (show invF x = mulF (mulF (squaresF 5 (onesF x 8 250)) (squaresF 3 x)) (onesF x 8 2) from rfl)
  go_enter Try.func29, Try.ntmps29
  go_wp2_with fail
  have R := Out.start1 w (.cells #[.int .u64 x.a, .int .u64 x.b, .int .u64 x.c, .int .u64 x.d, .int .u64 x.e] 27)
  have A := EAt.new1 w x (.cells #[.int .u64 0, .int .u64 0, .int .u64 0, .int .u64 0, .int .u64 0] 27)
  generalize (w.alloc (.cells #[.int .u64 x.a, .int .u64 x.b, .int .u64 x.c, .int .u64 x.d, .int .u64 x.e] 27)).alloc (.cells #[.int .u64 0, .int .u64 0, .int .u64 0, .int .u64 0, .int .u64 0] 27) = W at R A ⊢
  have hne := KW.some W
  have a0 := A.k0
  have a1 := A.k1
  have a2 := A.k2
  have a3 := A.k3
  have a4 := A.k4
  clear A
  refine wp_region_keep_tail 9 (by kernel_rfl) (by kernel_rfl) ?_
  simp only [List.take_succ_cons, List.take_zero, List.drop_succ_cons, List.drop_zero]
  iterate 1 go_big_quiet_step (fail)
  go_big_quiet_step ((exact keep_of (ones_250 x _ hx)))
  generalize onesF x 8 250 = y1 at *
  go_big_quiet_step ((exact keep_of (squares_5 y1 _ k1)))
  have k3 := squaresF_ok 5 k1
  generalize squaresF 5 y1 = y2 at *
  go_big_quiet_step (fail)
  go_big_quiet_step ((exact keep_of (squares_3 x _ hx)))
  have k4 := squaresF_ok 3 hx
  generalize squaresF 3 x = y3 at *
  go_big_quiet_step ((exact keep_of (mul_any y2 y3 _ k3 k4)))
  have k5 := mulF_ok k3 k4
  generalize mulF y2 y3 = y4 at *
  go_big_quiet_step (fail)
  go_big_quiet_step ((exact keep_of (ones_2 x _ hx)))
  generalize onesF x 8 2 = y5 at *
  go_big_quiet_step ((exact keep_of (mul_any y4 y5 _ k5 k2)))
  generalize mulF y4 y5 = z at *
  refine wpQuiet_nil ?_
  intro s
  clear a0 a1 a2 a3 a4 hne k1 k2 k3 k4 k5
  replace R := R.keep s.keep
  generalize s.w = W3 at R ⊢
  obtain ⟨old, ge, hs, hf, c0, c1, c2, c3, c4⟩ := R
  have O := hide old
  clear old
  go_wp2
  refine bodyPost_ret (v := z.v) (by simp [results, Try.results29, go_sem, c0, c1, c2, c3, c4]) rfl ⟨by rw [HE.out], ?_⟩
  exact five O.out ge

/-- The root of -1 that is written out. -/
def rmo : E5 := ⟨1718705420411056, 234908883556509, 2233514472574048, 2117202627021982, 765476049583133⟩
theorem rmo_ok : rmo.Ok := ⟨by decide, by decide, by decide, by decide, by decide, by decide, by decide, by decide, by decide, by decide⟩

set_option maxHeartbeats 400000 in
theorem rmo_any (w : World) : Calls Try.prog 56 #[] w fun r w' => r = .returned rmo.v ∧ Below w.heap.size w w' := by
  go_enter Try.func56, Try.ntmps56
  go_wp2
  exact bodyPost_ret (v := rmo.v) (by simp [results, Try.results56, go_sem, rmo]) rfl ⟨rfl, (Below.refl _ _).alloc (Nat.le_refl _) _⟩

def rootR (x : E5) : E5 := squaresF 1 (onesF x 8 251)
def anyRootF (x : E5) : E5 × Bool :=
  if (mulF (rootR x) (rootR x)).n % Pm == x.n % Pm then (rootR x, true)
  else if (mulF (rootR x) (rootR x)).n % Pm == (negF x).n % Pm then (mulF (rootR x) rmo, true)
  else (zeroE, false)

theorem rootR_ok {x : E5} (hx : x.Ok) : (rootR x).Ok := squaresF_ok _ (onesF_ok hx _ _)
theorem anyRootF_ok {x : E5} (hx : x.Ok) : (anyRootF x).1.Ok := by
  unfold anyRootF
  split
  · exact rootR_ok hx
  · split
    · exact mulF_ok (rootR_ok hx) rmo_ok
    · exact zeroE_ok

set_option maxRecDepth 100000 in
set_option maxHeartbeats 4000000 in
theorem anyRoot_any (x : E5) (w : World) (hx : x.Ok) :
    Calls Try.prog 47 #[x.v] w fun r w' => r = .returned (.tuple #[(anyRootF x).1.v, .bool (anyRootF x).2]) ∧ Below w.heap.size w w' := by
  have k1 := onesF_ok hx 8 251
  go_enter Try.func47, Try.ntmps47
  go_wp2_with fail
  have R := Out.start1 w (.cells #[.int .u64 x.a, .int .u64 x.b, .int .u64 x.c, .int .u64 x.d, .int .u64 x.e] 27)
  have A := EAt.new1 w x (.cells #[.int .u64 0, .int .u64 0, .int .u64 0, .int .u64 0, .int .u64 0] 27)
  refine (ones_251 x _ hx).mono ?_
  rintro _ w1 ⟨rfl, hb⟩
  replace R := R.keep hb
  replace A := A.keep hb
  clear hb
  go_wp2_with fail
  refine (squares_1 (onesF x 8 251) _ k1).mono ?_
  rintro _ w2 ⟨rfl, hb⟩
  replace R := R.keep hb
  replace A := A.keep hb
  clear hb k1
  have HF := hide (show anyRootF x = if (mulF (rootR x) (rootR x)).n % Pm == x.n % Pm then (rootR x, true) else if (mulF (rootR x) (rootR x)).n % Pm == (negF x).n % Pm then (mulF (rootR x) rmo, true) else (zeroE, false) from rfl)
  rw [show squaresF 1 (onesF x 8 251) = rootR x from rfl]
  have kr := rootR_ok hx
  generalize rootR x = r at *
  go_wp2_with fail
  replace R := R.keep (new_below w2 (.cells #[.int .u64 r.a, .int .u64 r.b, .int .u64 r.c, .int .u64 r.d, .int .u64 r.e] 27))
  replace A := A.keep (new_below w2 (.cells #[.int .u64 r.a, .int .u64 r.b, .int .u64 r.c, .int .u64 r.d, .int .u64 r.e] 27))
  have B := EAt.new w2 r 27
  refine (mul_any r r _ kr kr).mono ?_
  rintro _ w3 ⟨rfl, hb⟩
  replace R := R.keep hb
  replace A := A.keep hb
  replace B := B.keep hb
  clear hb
  have kq := mulF_ok kr kr
  generalize mulF r r = q at *
  generalize w2.heap.size = gr at *
  have RR := hide (R.keep (new_below w3 (.cells #[.int .u64 q.a, .int .u64 q.b, .int .u64 q.c, .int .u64 q.d, .int .u64 q.e] 27)))
  have AA := A.keep (new_below w3 (.cells #[.int .u64 q.a, .int .u64 q.b, .int .u64 q.c, .int .u64 q.d, .int .u64 q.e] 27))
  have BB := hide (B.keep (new_below w3 (.cells #[.int .u64 q.a, .int .u64 q.b, .int .u64 q.c, .int .u64 q.d, .int .u64 q.e] 27)))
  have CC := hide (EAt.new w3 q 27)
  obtain ⟨asz, af, a0, a1, a2, a3, a4⟩ := A
  clear R B
  go_wp2_with fail
  refine (same_any q x _ kq hx).mono ?_
  rintro _ w4 ⟨rfl, hb⟩
  have R := RR.out.keep hb
  have A := AA.keep hb
  have B := BB.out.keep hb
  have C := CC.out.keep hb
  clear RR AA BB CC hb asz af a0 a1 a2 a3 a4
  generalize w3.heap.size = gq at *
  by_cases h1 : (q.n % Pm == x.n % Pm) = true
  · have hf := HF.out
    rw [if_pos h1] at hf
    have HR := hide hf
    rw [h1]
    clear hf HF h1 kq A C
    obtain ⟨old, ge, rs, rf, r0, r1, r2, r3, r4⟩ := R
    obtain ⟨bs, bf, b0, b1, b2, b3, b4⟩ := B
    have O := hide old
    clear old
    go_wp2
    refine bodyPost_ret (v := .tuple #[r.v, .bool true]) (by simp [results, Try.results47, go_sem, r0, r1, r2, r3, r4]) rfl ⟨by rw [HR.out], ?_⟩
    exact five O.out ge
  · have h1' : (q.n % Pm == x.n % Pm) = false := by simpa using h1
    have hf := HF.out
    rw [if_neg h1] at hf
    have HG := hide hf
    rw [h1']
    clear hf HF h1 h1'
    go_wp2_with fail
    have hne := KW.some w4
    have a0 := A.k0
    have a1 := A.k1
    have a2 := A.k2
    have a3 := A.k3
    have a4 := A.k4
    have c0 := C.k0
    have c1 := C.k1
    have c2 := C.k2
    have c3 := C.k3
    have c4 := C.k4
    refine wp_region_keep (by kernel_rfl) (by kernel_rfl) ?_
    go_big_quiet_step (fail)
    go_big_quiet_step (fail)
    go_big_quiet_step ((exact keep_of (neg_any x _ hx)))
    go_big_quiet_step ((exact keep_of (same_any q (negF x) _ kq (negF_ok hx))))
    go_big_quiet_step (fail)
    refine wpQuiet_nil ?_
    intro s
    clear a0 a1 a2 a3 a4 c0 c1 c2 c3 c4 hne A C
    replace R := R.keep s.keep
    replace B := B.keep s.keep
    generalize s.w = w5 at R B ⊢
    by_cases h2 : (q.n % Pm == (negF x).n % Pm) = true
    · have hf := HG.out
      rw [if_pos h2] at hf
      have HR := hide hf
      rw [h2]
      clear hf HG h2
      go_wp2_with fail
      have hne := KW.some w5
      have b0 := B.k0
      have b1 := B.k1
      have b2 := B.k2
      have b3 := B.k3
      have b4 := B.k4
      refine wp_region_keep_tail 3 (by kernel_rfl) (by kernel_rfl) ?_
      simp only [List.take_succ_cons, List.take_zero, List.drop_succ_cons, List.drop_zero]
      go_big_quiet_step (fail)
      go_big_quiet_step ((exact keep_of (rmo_any _)))
      go_big_quiet_step ((exact keep_of (mul_any r rmo _ kr rmo_ok)))
      refine wpQuiet_nil ?_
      intro s
      clear b0 b1 b2 b3 b4 hne B
      replace R := R.keep s.keep
      generalize s.w = w6 at R ⊢
      generalize mulF r rmo = z at *
      obtain ⟨old, ge, rs, rf, r0, r1, r2, r3, r4⟩ := R
      have O := hide old
      clear old
      go_wp2
      refine bodyPost_ret (v := .tuple #[z.v, .bool true]) (by simp [results, Try.results47, go_sem, r0, r1, r2, r3, r4]) rfl ⟨by rw [HR.out], ?_⟩
      exact five O.out ge
    · have h2' : (q.n % Pm == (negF x).n % Pm) = false := by simpa using h2
      have hf := HG.out
      rw [if_neg h2] at hf
      have HR := hide hf
      rw [h2']
      clear hf HG h2 h2' B
      obtain ⟨old, ge, rs, rf, r0, r1, r2, r3, r4⟩ := R
      have O := hide old
      clear old
      go_wp2
      refine bodyPost_ret (v := .tuple #[zeroE.v, .bool false]) (by simp [results, Try.results47, go_sem, r0, r1, r2, r3, r4, zeroE]) rfl ⟨by rw [HR.out], ?_⟩
      exact five O.out ge

def rootF (x : E5) : E5 × Bool := (if (anyRootF x).1.n % Pm % 2 == 1 then negF (anyRootF x).1 else (anyRootF x).1, (anyRootF x).2)

theorem ite_ok {c : Prop} [Decidable c] {a b : E5} (ha : a.Ok) (hb : b.Ok) : (if c then a else b).Ok := by split <;> assumption
theorem rootF_ok {x : E5} (hx : x.Ok) : (rootF x).1.Ok := by
  have k := anyRootF_ok hx
  have e : (rootF x).1 = if (anyRootF x).1.n % Pm % 2 == 1 then negF (anyRootF x).1 else (anyRootF x).1 := by simp only [rootF]
  rw [e]
  generalize (anyRootF x).1 = r at *
  exact ite_ok (negF_ok k) k

set_option maxRecDepth 100000 in
set_option maxHeartbeats 4000000 in
theorem root_any (x : E5) (w : World) (hx : x.Ok) :
    Calls Try.prog 27 #[x.v] w fun r w' => r = .returned (.tuple #[(rootF x).1.v, .bool (rootF x).2]) ∧ Below w.heap.size w w' := by
  have HF := hide (show rootF x = (if (anyRootF x).1.n % Pm % 2 == 1 then negF (anyRootF x).1 else (anyRootF x).1, (anyRootF x).2) from rfl)
  have kr := anyRootF_ok hx
  go_enter Try.func27, Try.ntmps27
  go_wp2_with fail
  have R := Out.start1 w (.cells #[.int .u64 x.a, .int .u64 x.b, .int .u64 x.c, .int .u64 x.d, .int .u64 x.e] 27)
  refine (anyRoot_any x _ hx).mono ?_
  rintro _ w1 ⟨rfl, hb⟩
  replace R := R.keep hb
  clear hb
  generalize (anyRootF x).2 = is at *
  generalize (anyRootF x).1 = r at *
  have hge := R.lie.size
  have RR := hide (R.keep (new_below w1 (.cells #[.int .u64 r.a, .int .u64 r.b, .int .u64 r.c, .int .u64 r.d, .int .u64 r.e] 27)))
  have BB := hide (EAt.new w1 r 27)
  clear R
  go_wp2_with fail
  refine (odd_any r _ kr).mono ?_
  rintro _ w2 ⟨rfl, hb⟩
  have R := RR.out.keep hb
  have B := BB.out.keep hb
  clear RR BB hb
  generalize w1.heap.size = gr at *
  by_cases ho : (r.n % Pm % 2 == 1) = true
  · have hf := HF.out
    rw [if_pos ho] at hf
    have HR := hide hf
    rw [ho]
    clear hf HF ho
    obtain ⟨bs, bf, b0, b1, b2, b3, b4⟩ := B
    go_wp2_with fail
    refine (neg_any r _ kr).mono ?_
    rintro _ w3 ⟨rfl, hb⟩
    replace R := R.keep hb
    have B := EAt.keep ⟨bs, bf, b0, b1, b2, b3, b4⟩ hb
    clear hb bs bf b0 b1 b2 b3 b4
    generalize negF r = z at *
    have n1 : ¬ w.heap.size + 1 = gr := by omega
    have n2 : ¬ gr = w.heap.size + 1 := by omega
    obtain ⟨old, ge, rs, rf, r0, r1, r2, r3, r4⟩ := R
    obtain ⟨bs, bf, b0, b1, b2, b3, b4⟩ := B
    have O := hide old
    clear old
    go_wp2
    refine bodyPost_ret (v := .tuple #[z.v, .bool is]) (by simp [results, Try.results27, go_sem, r0, r1, r2, r3, r4]) rfl ⟨by rw [HR.out], ?_⟩
    exact five (five O.out (by omega)) ge
  · have ho' : (r.n % Pm % 2 == 1) = false := by simpa using ho
    have hf := HF.out
    rw [if_neg ho] at hf
    have HR := hide hf
    rw [ho']
    clear hf HF ho ho'
    have n1 : ¬ w.heap.size + 1 = gr := by omega
    have n2 : ¬ gr = w.heap.size + 1 := by omega
    obtain ⟨old, ge, rs, rf, r0, r1, r2, r3, r4⟩ := R
    obtain ⟨bs, bf, b0, b1, b2, b3, b4⟩ := B
    have O := hide old
    clear old
    go_wp2
    refine bodyPost_ret (v := .tuple #[r.v, .bool is]) (by simp [results, Try.results27, go_sem, r0, r1, r2, r3, r4]) rfl ⟨by rw [HR.out], ?_⟩
    exact five O.out ge

end Go.Proofs.Ytamokcoobfmogaa
