/- The contract of alive: it answers true. -/
import Derived.Test.YtamokcoobfmogaaPowN
import Derived.Test.YtamokcoobfmogaaOfB
import Derived.Test.YtamokcoobfmogaaText
namespace Go.Proofs.Ytamokcoobfmogaa
open Go.RowKit

theorem small2 : Cg (smallF 2).n ((2 : Nat) : Int) := smallF_n 2
theorem small4 : Cg (smallF 4).n ((4 : Nat) : Int) := smallF_n 4

theorem inv2 : (mulF (smallF 2) (invF (smallF 2))).n % Pm = 1 := by
  have h : Cg (mulF (smallF 2) (invF (smallF 2))).n ((2 * (sqm (onm 2 250) 5 * sqm 2 3 * onm 2 2) : Nat) : Int) := by
    refine (mulF_n _ _).trans ?_
    rw [Int.natCast_mul, Int.natCast_mul, Int.natCast_mul]
    exact small2.mul ((invF_n _).trans (((sqm_cg (onm_cg small2)).mul (sqm_cg small2)).mul (onm_cg small2)))
  rw [emod_of h, show 2 * (sqm (onm 2 250) 5 * sqm 2 3 * onm 2 2) % pN = 1 by decide +kernel]
  rfl

theorem sqr {x : E5} {a : Nat} (h : Cg x.n (a : Int)) : (mulF (rootR x) (rootR x)).n % Pm = ((sqm (onm a 251) 1 * sqm (onm a 251) 1 % pN : Nat) : Int) := by
  refine emod_of ((mulF_n _ _).trans ?_)
  have := (rootR_n x).trans (sqm_cg (onm_cg h))
  rw [Int.natCast_mul]
  exact this.mul this

theorem sq4 : (mulF (rootR (smallF 4)) (rootR (smallF 4))).n % Pm = 57896044618658097711785492504343953926634992332820282019728792003956564819945 := by
  rw [sqr small4, show sqm (onm 4 251) 1 * sqm (onm 4 251) 1 % pN = 57896044618658097711785492504343953926634992332820282019728792003956564819945 by decide +kernel]
  rfl
theorem sq2 : (mulF (rootR (smallF 2)) (rootR (smallF 2))).n % Pm = ((sqm (onm 2 251) 1 * sqm (onm 2 251) 1 % pN : Nat) : Int) := sqr small2
theorem val4 : (smallF 4).n % Pm = 4 := by rw [(smallF_n 4).emod]; decide
theorem val2 : (smallF 2).n % Pm = 2 := by rw [(smallF_n 2).emod]; decide
theorem neg4 : (negF (smallF 4)).n % Pm = 57896044618658097711785492504343953926634992332820282019728792003956564819945 := by rw [((negF_n _).trans (smallF_n 4).neg).emod]; decide
theorem neg2 : (negF (smallF 2)).n % Pm = 57896044618658097711785492504343953926634992332820282019728792003956564819947 := by rw [((negF_n _).trans (smallF_n 2).neg).emod]; decide

theorem any4 : anyRootF (smallF 4) = (mulF (rootR (smallF 4)) rmo, true) := by
  have a : ((mulF (rootR (smallF 4)) (rootR (smallF 4))).n % Pm == (smallF 4).n % Pm) = false := by rw [sq4, val4]; decide
  have b : ((mulF (rootR (smallF 4)) (rootR (smallF 4))).n % Pm == (negF (smallF 4)).n % Pm) = true := by rw [sq4, neg4]; decide
  unfold anyRootF
  rw [if_neg (by rw [a]; exact Bool.false_ne_true), if_pos b]

theorem any2 : anyRootF (smallF 2) = (zeroE, false) := by
  have k : (sqm (onm 2 251) 1 * sqm (onm 2 251) 1 % pN == 2 || sqm (onm 2 251) 1 * sqm (onm 2 251) 1 % pN == 57896044618658097711785492504343953926634992332820282019728792003956564819947) = false := by decide +kernel
  rw [Bool.or_eq_false_iff, beq_eq_false_iff_ne, beq_eq_false_iff_ne] at k
  have a : ((mulF (rootR (smallF 2)) (rootR (smallF 2))).n % Pm == (smallF 2).n % Pm) = false := by
    rw [sq2, val2, beq_eq_false_iff_ne]
    intro h
    exact k.1 (by exact_mod_cast h)
  have b : ((mulF (rootR (smallF 2)) (rootR (smallF 2))).n % Pm == (negF (smallF 2)).n % Pm) = false := by
    rw [sq2, neg2, beq_eq_false_iff_ne]
    intro h
    exact k.2 (Int.ofNat.inj h)
  unfold anyRootF
  rw [if_neg (by rw [a]; exact Bool.false_ne_true), if_neg (by rw [b]; exact Bool.false_ne_true)]

theorem rmo_n : rmo.n = ((19681161376707505956807079304988542015446066515923890162744021073123829784752 : Nat) : Int) := by decide

theorem r4 : (mulF (rootR (smallF 4)) rmo).n % Pm = 57896044618658097711785492504343953926634992332820282019728792003956564819947 := by
  have h : Cg (mulF (rootR (smallF 4)) rmo).n ((sqm (onm 4 251) 1 * 19681161376707505956807079304988542015446066515923890162744021073123829784752 : Nat) : Int) := by
    refine (mulF_n _ _).trans ?_
    rw [Int.natCast_mul, rmo_n]
    exact ((rootR_n _).trans (sqm_cg (onm_cg small4))).mul (Cg.refl _)
  rw [emod_of h, show sqm (onm 4 251) 1 * 19681161376707505956807079304988542015446066515923890162744021073123829784752 % pN = 57896044618658097711785492504343953926634992332820282019728792003956564819947 by decide +kernel]
  rfl

theorem root4 : (rootF (smallF 4)).2 = true ∧ (rootF (smallF 4)).1.n % Pm = 2 := by
  have e : rootF (smallF 4) = (negF (mulF (rootR (smallF 4)) rmo), true) := by
    unfold rootF
    rw [any4]
    have hodd : ((mulF (rootR (smallF 4)) rmo).n % Pm % 2 == 1) = true := by rw [r4]; decide
    simp only [hodd, if_true]
  rw [e]
  refine ⟨rfl, ?_⟩
  show (negF (mulF (rootR (smallF 4)) rmo)).n % Pm = 2
  have h1 : Cg (mulF (rootR (smallF 4)) rmo).n 57896044618658097711785492504343953926634992332820282019728792003956564819947 := (cg_emod _).symm.trans (Cg.of_eq r4)
  rw [((negF_n _).trans h1.neg).emod]
  decide

theorem root2 : (rootF (smallF 2)).2 = false := by
  simp only [rootF, any2]

theorem neg1 : ((negF (smallF 1)).n % Pm % 2 == 1) = false := by rw [((negF_n _).trans (smallF_n 1).neg).emod]; decide
theorem odd3 : ((smallF 3).n % Pm % 2 == 1) = true := by rw [(smallF_n 3).emod]; decide

theorem lebytes1 : lebytes 1 = ⟨#[1, 0, 0, 0, 0, 0, 0, 0, 0, 0, 0, 0, 0, 0, 0, 0, 0, 0, 0, 0, 0, 0, 0, 0, 0, 0, 0, 0, 0, 0, 0, 0]⟩ := by decide +kernel

end Go.Proofs.Ytamokcoobfmogaa
