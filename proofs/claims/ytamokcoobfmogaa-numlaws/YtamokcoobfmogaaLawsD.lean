/- The law NumLaws: what its callees hand back; it answers true for any three strings. -/
import Derived.Test.YtamokcoobfmogaaLawsA
import Derived.Test.YtamokcoobfmogaaLawsB
import Derived.Test.YtamokcoobfmogaaLawsC
import Derived.Test.YtamokcoobfmogaaLawsN
namespace Go.Proofs.Ytamokcoobfmogaa
open Go.RowKit

set_option maxRecDepth 100000 in
set_option maxHeartbeats 1000000 in
theorem laws_no1 {r s t : ByteArray} {x y z : E5} {b2 b3 : Bool} (h1 : ∀ w, Calls Try.prog 18 #[.string r] w fun r w' => r = .returned (.tuple #[x.v, .bool false]) ∧ Below w.heap.size w w') (h2 : ∀ w, Calls Try.prog 18 #[.string s] w fun r w' => r = .returned (.tuple #[y.v, .bool b2]) ∧ Below w.heap.size w w') (h3 : ∀ w, Calls Try.prog 18 #[.string t] w fun r w' => r = .returned (.tuple #[z.v, .bool b3]) ∧ Below w.heap.size w w') (w : World) :
    Calls Try.prog 7 #[.string r, .string s, .string t] w fun r w' => r = .returned (.bool true) ∧ Below w.heap.size w w' := by
  have H := hide (And.intro h1 (And.intro h2 h3))
  clear h1 h2 h3
  go_enter Try.func7, Try.ntmps7
  go_wp2_with fail
  refine (H.out.1 _).mono ?_
  rintro _ w1 ⟨rfl, O⟩
  go_wp2_with fail
  replace O := O.trans ((new_below w1 (.cells #[.int .u64 x.a, .int .u64 x.b, .int .u64 x.c, .int .u64 x.d, .int .u64 x.e] 27)).mono O.size)
  refine (H.out.2.1 _).mono ?_
  rintro _ w2 ⟨rfl, hb⟩
  replace O := O.trans (hb.mono O.size)
  clear hb
  go_wp2_with fail
  replace O := O.trans ((new_below w2 (.cells #[.int .u64 y.a, .int .u64 y.b, .int .u64 y.c, .int .u64 y.d, .int .u64 y.e] 27)).mono O.size)
  refine (H.out.2.2 _).mono ?_
  rintro _ w3 ⟨rfl, hb⟩
  replace O := O.trans (hb.mono O.size)
  clear hb H
  go_wp2_with fail
  replace O := O.trans ((new_below w3 (.cells #[.int .u64 z.a, .int .u64 z.b, .int .u64 z.c, .int .u64 z.d, .int .u64 z.e] 27)).mono O.size)
  refine (alive_any _).mono ?_
  rintro _ w4 ⟨rfl, hb⟩
  replace O := O.trans (hb.mono O.size)
  clear hb
  go_wp2
  go_ret
  exact ⟨rfl, O⟩

set_option maxRecDepth 100000 in
set_option maxHeartbeats 1000000 in
theorem laws_no2 {r s t : ByteArray} {x y z : E5} {b3 : Bool} (h1 : ∀ w, Calls Try.prog 18 #[.string r] w fun r w' => r = .returned (.tuple #[x.v, .bool true]) ∧ Below w.heap.size w w') (h2 : ∀ w, Calls Try.prog 18 #[.string s] w fun r w' => r = .returned (.tuple #[y.v, .bool false]) ∧ Below w.heap.size w w') (h3 : ∀ w, Calls Try.prog 18 #[.string t] w fun r w' => r = .returned (.tuple #[z.v, .bool b3]) ∧ Below w.heap.size w w') (w : World) :
    Calls Try.prog 7 #[.string r, .string s, .string t] w fun r w' => r = .returned (.bool true) ∧ Below w.heap.size w w' := by
  have H := hide (And.intro h1 (And.intro h2 h3))
  clear h1 h2 h3
  go_enter Try.func7, Try.ntmps7
  go_wp2_with fail
  refine (H.out.1 _).mono ?_
  rintro _ w1 ⟨rfl, O⟩
  go_wp2_with fail
  replace O := O.trans ((new_below w1 (.cells #[.int .u64 x.a, .int .u64 x.b, .int .u64 x.c, .int .u64 x.d, .int .u64 x.e] 27)).mono O.size)
  refine (H.out.2.1 _).mono ?_
  rintro _ w2 ⟨rfl, hb⟩
  replace O := O.trans (hb.mono O.size)
  clear hb
  go_wp2_with fail
  replace O := O.trans ((new_below w2 (.cells #[.int .u64 y.a, .int .u64 y.b, .int .u64 y.c, .int .u64 y.d, .int .u64 y.e] 27)).mono O.size)
  refine (H.out.2.2 _).mono ?_
  rintro _ w3 ⟨rfl, hb⟩
  replace O := O.trans (hb.mono O.size)
  clear hb H
  go_wp2_with fail
  replace O := O.trans ((new_below w3 (.cells #[.int .u64 z.a, .int .u64 z.b, .int .u64 z.c, .int .u64 z.d, .int .u64 z.e] 27)).mono O.size)
  refine (alive_any _).mono ?_
  rintro _ w4 ⟨rfl, hb⟩
  replace O := O.trans (hb.mono O.size)
  clear hb
  go_wp2
  go_ret
  exact ⟨rfl, O⟩

set_option maxRecDepth 100000 in
set_option maxHeartbeats 1000000 in
theorem laws_no3 {r s t : ByteArray} {x y z : E5} (h1 : ∀ w, Calls Try.prog 18 #[.string r] w fun r w' => r = .returned (.tuple #[x.v, .bool true]) ∧ Below w.heap.size w w') (h2 : ∀ w, Calls Try.prog 18 #[.string s] w fun r w' => r = .returned (.tuple #[y.v, .bool true]) ∧ Below w.heap.size w w') (h3 : ∀ w, Calls Try.prog 18 #[.string t] w fun r w' => r = .returned (.tuple #[z.v, .bool false]) ∧ Below w.heap.size w w') (w : World) :
    Calls Try.prog 7 #[.string r, .string s, .string t] w fun r w' => r = .returned (.bool true) ∧ Below w.heap.size w w' := by
  have H := hide (And.intro h1 (And.intro h2 h3))
  clear h1 h2 h3
  go_enter Try.func7, Try.ntmps7
  go_wp2_with fail
  refine (H.out.1 _).mono ?_
  rintro _ w1 ⟨rfl, O⟩
  go_wp2_with fail
  replace O := O.trans ((new_below w1 (.cells #[.int .u64 x.a, .int .u64 x.b, .int .u64 x.c, .int .u64 x.d, .int .u64 x.e] 27)).mono O.size)
  refine (H.out.2.1 _).mono ?_
  rintro _ w2 ⟨rfl, hb⟩
  replace O := O.trans (hb.mono O.size)
  clear hb
  go_wp2_with fail
  replace O := O.trans ((new_below w2 (.cells #[.int .u64 y.a, .int .u64 y.b, .int .u64 y.c, .int .u64 y.d, .int .u64 y.e] 27)).mono O.size)
  refine (H.out.2.2 _).mono ?_
  rintro _ w3 ⟨rfl, hb⟩
  replace O := O.trans (hb.mono O.size)
  clear hb H
  go_wp2_with fail
  replace O := O.trans ((new_below w3 (.cells #[.int .u64 z.a, .int .u64 z.b, .int .u64 z.c, .int .u64 z.d, .int .u64 z.e] 27)).mono O.size)
  refine (alive_any _).mono ?_
  rintro _ w4 ⟨rfl, hb⟩
  replace O := O.trans (hb.mono O.size)
  clear hb
  go_wp2
  go_ret
  exact ⟨rfl, O⟩

theorem same_is {x y : E5} {b : Bool} (w : World) (hx : x.Ok) (hy : y.Ok) (h : (x.n % Pm == y.n % Pm) = b) :
    Calls Try.prog 15 #[x.v, y.v] w fun r w' => r = .returned (.bool b) ∧ Below w.heap.size w w' := by
  have := same_any x y w hx hy
  rwa [h] at this
theorem same_yes {x y : E5} (w : World) (hx : x.Ok) (hy : y.Ok) (h : Cg x.n y.n) :
    Calls Try.prog 15 #[x.v, y.v] w fun r w' => r = .returned (.bool true) ∧ Below w.heap.size w w' :=
  same_is w hx hy (by rw [h.emod]; simp)
theorem odd_no {x : E5} (w : World) (hx : x.Ok) (h : x.n % Pm % 2 = 0) :
    Calls Try.prog 17 #[x.v] w fun r w' => r = .returned (.bool false) ∧ Below w.heap.size w w' := by
  have := odd_any x w hx
  rwa [show (x.n % Pm % 2 == 1) = false by rw [h]; rfl] at this
theorem root_is {x : E5} {b : Bool} (w : World) (hx : x.Ok) (h : (rootF x).2 = b) :
    Calls Try.prog 27 #[x.v] w fun r w' => r = .returned (.tuple #[(rootF x).1.v, .bool b]) ∧ Below w.heap.size w w' := by
  have := root_any x w hx
  rwa [h] at this

theorem la1 (x y : E5) : Cg (addF x y).n (addF y x).n := (addF_n x y).trans ((Cg.of_eq (Int.add_comm _ _)).trans (addF_n y x).symm)
theorem la2 (x y : E5) : Cg (mulF x y).n (mulF y x).n := (mulF_n x y).trans ((Cg.of_eq (Int.mul_comm _ _)).trans (mulF_n y x).symm)
theorem la3 (x y z : E5) : Cg (addF (addF x y) z).n (addF x (addF y z)).n :=
  ((addF_n _ _).trans ((addF_n x y).add (Cg.refl _))).trans ((Cg.of_eq (Int.add_assoc _ _ _)).trans ((addF_n _ _).trans ((Cg.refl _).add (addF_n y z))).symm)
theorem la4 (x y z : E5) : Cg (mulF (mulF x y) z).n (mulF x (mulF y z)).n :=
  ((mulF_n _ _).trans ((mulF_n x y).mul (Cg.refl _))).trans ((Cg.of_eq (Int.mul_assoc _ _ _)).trans ((mulF_n _ _).trans ((Cg.refl _).mul (mulF_n y z))).symm)
theorem la5 (x y z : E5) : Cg (mulF x (addF y z)).n (addF (mulF x y) (mulF x z)).n :=
  ((mulF_n _ _).trans ((Cg.refl _).mul (addF_n y z))).trans ((Cg.of_eq (Int.mul_add _ _ _)).trans ((addF_n _ _).trans ((mulF_n x y).add (mulF_n x z))).symm)
theorem la6 (x : E5) : Cg (addF x (negF x)).n zeroE.n :=
  ((addF_n _ _).trans ((Cg.refl _).add (negF_n x))).trans (Cg.of_eq (by rw [zeroE_n]; omega))
theorem la7 (x y : E5) : Cg (addF (subF x y) y).n x.n :=
  ((addF_n _ _).trans ((subF_n x y).add (Cg.refl _))).trans (Cg.of_eq (by omega))

theorem lf_of {r s t : ByteArray} {nil has too : Bool} (hr : r.size = 32) (hs : s.size = 32) (ht : t.size = 32)
    (h8 : ((ofF r).n % Pm == zeroE.n % Pm) = nil) (h9 : ((mulF (ofF r) (invF (ofF r))).n % Pm == (smallF 1).n % Pm) = !nil)
    (h1 : (rootF (ofF r)).2 = has) (h2 : (rootF (mulF (ofF r) (smallF 2))).2 = too)
    (hz1 : nil = true → (rootF (ofF r)).1.n % Pm = 0) (hz2 : nil = true → (rootF (mulF (ofF r) (smallF 2))).1.n % Pm = 0)
    (ho1 : (rootF (ofF r)).1.n % Pm % 2 = 0) (ho2 : (rootF (mulF (ofF r) (smallF 2))).1.n % Pm % 2 = 0)
    (ht1 : has = true → Cg (mulF (rootF (ofF r)).1 (rootF (ofF r)).1).n (ofF r).n) (ht2 : too = true → Cg (mulF (rootF (mulF (ofF r) (smallF 2))).1 (rootF (mulF (ofF r) (smallF 2))).1).n (mulF (ofF r) (smallF 2)).n) :
    LF r s t nil has too (ofF r) (ofF s) (ofF t) (addF (ofF r) (ofF s)) (addF (ofF s) (ofF r)) (mulF (ofF r) (ofF s)) (mulF (ofF s) (ofF r)) (addF (addF (ofF r) (ofF s)) (ofF t)) (addF (ofF s) (ofF t)) (addF (ofF r) (addF (ofF s) (ofF t))) (mulF (mulF (ofF r) (ofF s)) (ofF t)) (mulF (ofF s) (ofF t)) (mulF (ofF r) (mulF (ofF s) (ofF t))) (mulF (ofF r) (addF (ofF s) (ofF t))) (mulF (ofF r) (ofF t)) (addF (mulF (ofF r) (ofF s)) (mulF (ofF r) (ofF t))) (negF (ofF r)) (addF (ofF r) (negF (ofF r))) (subF (ofF r) (ofF s)) (addF (subF (ofF r) (ofF s)) (ofF s)) (invF (ofF r)) (mulF (ofF r) (invF (ofF r))) (smallF 1) (smallF 2) (mulF (ofF r) (smallF 2)) (rootF (ofF r)).1 (rootF (mulF (ofF r) (smallF 2))).1 (mulF (rootF (ofF r)).1 (rootF (ofF r)).1) (mulF (rootF (mulF (ofF r) (smallF 2))).1 (rootF (mulF (ofF r) (smallF 2))).1) := by
  have kx := ofF_ok r
  have ky := ofF_ok s
  have kz := ofF_ok t
  have k1 := smallF_ok (n := 1) (by decide) (by decide)
  have k2 := smallF_ok (n := 2) (by decide) (by decide)
  have kp := rootF_ok kx
  have kx2 := mulF_ok kx k2
  have kq := rootF_ok kx2
  have hof1 := fun w => oft_yes r w hr
  have hof2 := fun w => oft_yes s w hs
  have hof3 := fun w => oft_yes t w ht
  generalize ofF r = x at *
  generalize ofF s = y at *
  generalize ofF t = z at *
  exact {
    of1 := hof1
    of2 := hof2
    of3 := hof3
    one1 := fun w => small_any 1 w (by decide) (by decide)
    two1 := fun w => small_any 2 w (by decide) (by decide)
    add1 := fun w => add_any x y w kx ky
    add2 := fun w => add_any y x w ky kx
    mul1 := fun w => mul_any x y w kx ky
    mul2 := fun w => mul_any y x w ky kx
    add3 := fun w => add_any _ z w (addF_ok kx ky) kz
    add4 := fun w => add_any y z w ky kz
    add5 := fun w => add_any x _ w kx (addF_ok ky kz)
    mul3 := fun w => mul_any _ z w (mulF_ok kx ky) kz
    mul4 := fun w => mul_any y z w ky kz
    mul5 := fun w => mul_any x _ w kx (mulF_ok ky kz)
    mul6 := fun w => mul_any x _ w kx (addF_ok ky kz)
    mul7 := fun w => mul_any x z w kx kz
    add6 := fun w => add_any _ _ w (mulF_ok kx ky) (mulF_ok kx kz)
    neg1 := fun w => neg_any x w kx
    add7 := fun w => add_any x _ w kx (negF_ok kx)
    sub1 := fun w => sub_any x y w kx ky
    add8 := fun w => add_any _ y w (subF_ok kx ky) ky
    inv1 := fun w => inv_any x w kx
    mul8 := fun w => mul_any x _ w kx (invF_ok kx)
    mul9 := fun w => mul_any x _ w kx k2
    mul10 := fun w => mul_any _ _ w kp kp
    mul11 := fun w => mul_any _ _ w kq kq
    s1 := fun w => same_yes w (addF_ok kx ky) (addF_ok ky kx) (la1 x y)
    s2 := fun w => same_yes w (mulF_ok kx ky) (mulF_ok ky kx) (la2 x y)
    s3 := fun w => same_yes w (addF_ok (addF_ok kx ky) kz) (addF_ok kx (addF_ok ky kz)) (la3 x y z)
    s4 := fun w => same_yes w (mulF_ok (mulF_ok kx ky) kz) (mulF_ok kx (mulF_ok ky kz)) (la4 x y z)
    s5 := fun w => same_yes w (mulF_ok kx (addF_ok ky kz)) (addF_ok (mulF_ok kx ky) (mulF_ok kx kz)) (la5 x y z)
    s6 := fun w => same_yes w (addF_ok kx (negF_ok kx)) zeroE_ok (la6 x)
    s7 := fun w => same_yes w (addF_ok (subF_ok kx ky) ky) kx (la7 x y)
    s8 := fun w => same_is w kx zeroE_ok h8
    s9 := fun w => same_is w (mulF_ok kx (invF_ok kx)) k1 h9
    r1 := fun w => root_is w kx h1
    r2 := fun w => root_is w kx2 h2
    z1 := fun h w => same_is w kp zeroE_ok (by rw [hz1 h, zeroE_n]; rfl)
    z2 := fun h w => same_is w kq zeroE_ok (by rw [hz2 h, zeroE_n]; rfl)
    o1 := fun w => odd_no w kp ho1
    o2 := fun w => odd_no w kq ho2
    t1 := fun h w => same_yes w (mulF_ok kp kp) kx (ht1 h)
    t2 := fun h w => same_yes w (mulF_ok kq kq) kx2 (ht2 h) }

theorem root_facts (x : E5) : (rootF x).2 = (rrF (x.n % Pm)).2 ∧ (rootF x).1.n % Pm = (rrF (x.n % Pm)).1 ∧ (rootF x).1.n % Pm % 2 = 0 ∧ ((rootF x).2 = true → Cg (mulF (rootF x).1 (rootF x).1).n x.n) := by
  have hA := em x.n
  obtain ⟨e1, e2⟩ := root_val hA (cg_emod x.n).symm
  refine ⟨e1, e2, by rw [e2]; exact rrF_even _, fun h => ?_⟩
  rw [e1] at h
  have hp : Cg (rootF x).1.n (rrF (x.n % Pm)).1 := Cg.of_emod (by rw [e2, em_self (rrF_bd _)])
  exact (mulF_n _ _).trans ((hp.mul hp).trans ((rrF_root hA.1 hA.2 h).trans (cg_emod _)))

theorem zero_mod : zeroE.n % Pm = 0 := by rw [zeroE_n]; rfl

theorem laws_any (r s t : ByteArray) (w : World) :
    Calls Try.prog 7 #[.string r, .string s, .string t] w fun r w' => r = .returned (.bool true) ∧ Below w.heap.size w w' := by
  have hof : ∀ s : ByteArray, ∃ z b, ∀ w, Calls Try.prog 18 #[.string s] w fun r w' => r = .returned (.tuple #[E5.v z, .bool b]) ∧ Below w.heap.size w w' := fun s => by
    by_cases h : s.size = 32
    · exact ⟨_, _, fun w => oft_yes s w h⟩
    · exact ⟨_, _, fun w => oft_no s w h⟩
  obtain ⟨y, b2, h2⟩ := hof s
  obtain ⟨z, b3, h3⟩ := hof t
  by_cases hr : r.size ≠ 32
  · exact laws_no1 (fun w => oft_no r w hr) h2 h3 w
  replace hr : r.size = 32 := by omega
  by_cases hs : s.size ≠ 32
  · exact laws_no2 (fun w => oft_yes r w hr) (fun w => oft_no s w hs) h3 w
  replace hs : s.size = 32 := by omega
  by_cases ht : t.size ≠ 32
  · exact laws_no3 (fun w => oft_yes r w hr) (fun w => oft_yes s w hs) (fun w => oft_no t w ht) w
  replace ht : t.size = 32 := by omega
  have f1 := root_facts (ofF r)
  have f2 := root_facts (mulF (ofF r) (smallF 2))
  have e2 : Cg (mulF (ofF r) (smallF 2)).n ((ofF r).n * 2) := (mulF_n _ _).trans ((Cg.refl _).mul (smallF_n 2))
  have hA := em (ofF r).n
  have hA2 := em (mulF (ofF r) (smallF 2)).n
  by_cases h0 : (ofF r).n % Pm = 0
  · have c0 : Cg (ofF r).n 0 := Cg.of_emod (by rw [h0]; rfl)
    have h02 : (mulF (ofF r) (smallF 2)).n % Pm = 0 := by
      rw [(e2.trans (c0.mul (Cg.refl 2))).emod]
      rfl
    rw [h0, rrF_zero] at f1
    rw [h02, rrF_zero] at f2
    refine laws_zero (lf_of hr hs ht (by rw [h0, zero_mod]; rfl) ?_ f1.1 f2.1 (fun _ => f1.2.1) (fun _ => f2.2.1) f1.2.2.1 f2.2.2.1 (fun h => f1.2.2.2 f1.1) (fun h => f2.2.2.2 f2.1)) w
    rw [((mulF_n _ _).trans (c0.mul (Cg.refl _))).emod, (smallF_n 1).emod, Int.zero_mul]
    rfl
  · obtain ⟨i, hi⟩ := some_pow (A := (ofF r).n % Pm) (by omega) hA.2
    have hx : Cg (ofF r).n ((2 : Int) ^ i) := (cg_emod _).symm.trans hi
    have hi2 : Cg ((mulF (ofF r) (smallF 2)).n % Pm) ((2 : Int) ^ (i + 1)) := by
      rw [Int.pow_succ]
      exact (cg_emod _).trans (e2.trans (hx.mul (Cg.refl 2)))
    have g1 := f1.1.trans (rrF_has hA.1 hA.2 hi)
    have g2 := f2.1.trans (rrF_has hA2.1 hA2.2 hi2)
    have h9 : ((mulF (ofF r) (invF (ofF r))).n % Pm == (smallF 1).n % Pm) = !false := by
      have e : Cg (mulF (ofF r) (invF (ofF r))).n 1 := by
        refine (mulF_n _ _).trans (((Cg.refl _).mul (invF_pow _)).trans ?_)
        rw [Int.mul_comm, ← Int.pow_succ]
        exact fermat hx
      rw [e.emod, (smallF_n 1).emod]
      rfl
    have h8 : ((ofF r).n % Pm == zeroE.n % Pm) = false := by
      rw [zero_mod]
      simp [h0]
    by_cases he : i % 2 = 0
    · rw [decide_eq_true he] at g1
      rw [decide_eq_false (by omega)] at g2
      exact laws_has (lf_of hr hs ht h8 h9 g1 g2 (fun h => by cases h) (fun h => by cases h) f1.2.2.1 f2.2.2.1 (fun _ => f1.2.2.2 g1) (fun h => by cases h)) w
    · rw [decide_eq_false he] at g1
      rw [decide_eq_true (by omega)] at g2
      exact laws_too (lf_of hr hs ht h8 h9 g1 g2 (fun h => by cases h) (fun h => by cases h) f1.2.2.1 f2.2.2.1 (fun h => by cases h) (fun _ => f2.2.2.2 g2)) w

end Go.Proofs.Ytamokcoobfmogaa
