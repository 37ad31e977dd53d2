/- Part 4 of the walks and facts behind signStrict_holds. -/
import Derived.Test.YtmhfmhmpoobmlaaGreatDoorCs3
import Derived.Deep.Cut
import Derived.Deep.RegionWith
import Derived.Laws.Bits64b
import Derived.Laws.BitsAllLaws
import Derived.Laws.BytesString
import Derived.Laws.Externs
import Derived.Laws.IdiomStrings
import Derived.Laws.Rows
import Derived.Lib.Mul64
import Derived.Test.YtmhfmhmpoobmlaaGreatDoorRows
import Derived.WalkKit
import Derived.WalkLawsBesides
import Derived.WalkSpells
/- The numbers modulo the prime as a field; the curve's points and their sum: a group. -/
namespace Go.Proofs.YtmhfmhmpoobmlaaGreatDoor

abbrev Fq := Fin pN

theorem genQ : Gen pN 2 := genP
theorem primeP : IsP pN := genQ.isP

theorem dvd_or {a b : Nat} (h : pN ∣ a * b) : pN ∣ a ∨ pN ∣ b := by
  by_cases ha : pN ∣ a
  · exact .inl ha
  · right
    have hg : Nat.Coprime pN a := by
      rcases primeP.2 _ (Nat.gcd_dvd_left pN a) with h1 | h1
      · exact h1
      · exact absurd (h1 ▸ Nat.gcd_dvd_right pN a) ha
    exact Nat.Coprime.dvd_of_dvd_mul_left hg h

theorem fq_zero {a : Fq} (h : pN ∣ a.val) : a = 0 := by
  apply Fin.ext
  have h1 := Nat.mod_eq_zero_of_dvd h
  rw [Nat.mod_eq_of_lt a.isLt] at h1
  rw [h1]
  rfl

theorem fq_mul {a b : Fq} (h : a * b = 0) : a = 0 ∨ b = 0 := by
  have h1 : a.val * b.val % pN = 0 := by
    have := congrArg Fin.val h
    rw [Fin.val_mul] at this
    exact this
  rcases dvd_or (Nat.dvd_of_mod_eq_zero h1) with h2 | h2
  · exact .inl (fq_zero h2)
  · exact .inr (fq_zero h2)

theorem fq_ne {a b : Fq} (ha : a ≠ 0) (hb : b ≠ 0) : a * b ≠ 0 := fun h => by
  rcases fq_mul h with h | h
  · exact ha h
  · exact hb h

theorem fermatN {a : Nat} (h0 : 0 < a) (h1 : a < pN) : a ^ (pN - 1) % pN = 1 := by
  obtain ⟨i, hi⟩ := genQ.all a h0 h1
  rw [← hi, ← Nat.pow_mod, ← Nat.pow_mul, Nat.mul_comm, Nat.pow_mul]
  exact one_pow_mod genQ.gt genQ.per i

/-- What a number is to be multiplied by to make 1. -/
def finv (a : Fq) : Fq := ⟨pmf pN 255 a.val (pN - 2) % pN, Nat.mod_lt _ (by decide)⟩

theorem finv_mul {a : Fq} (h : a ≠ 0) : a * finv a = 1 := by
  have h0 : 0 < a.val := by
    refine Nat.pos_of_ne_zero fun e => h ?_
    apply Fin.ext
    rw [e]
    rfl
  apply Fin.ext
  rw [Fin.val_mul]
  show a.val * (pmf pN 255 a.val (pN - 2) % pN) % pN = 1
  rw [pmf_eq pN 255 a.val _ (by decide), Nat.mod_mod, Nat.mul_mod_mod]
  have e : a.val * a.val ^ (pN - 2) = a.val ^ (pN - 1) := by
    rw [show pN - 1 = (pN - 2) + 1 by decide, Nat.pow_succ, Nat.mul_comm]
  rw [e]
  exact fermatN h0 a.isLt

/-- The curve's constant. -/
def dE : Fq := 37095705934669439343138083508754565189542113879843219016388785533085940283555
/-- A root of -1. -/
def iE : Fq := 19681161376707505956807079304988542015446066515923890162744021073123829784752
theorem iE_sq : iE * iE = -1 := by decide +kernel
theorem dE_half : pmf pN 255 dE.val ((pN - 1) / 2) = pN - 1 := by decide +kernel

theorem not_sq (z : Fq) : z * z ≠ dE := by
  intro h
  have h1 : z.val * z.val % pN = dE.val := by
    have := congrArg Fin.val h
    rwa [Fin.val_mul] at this
  have h2 := dE_half
  rw [pmf_eq pN 255 _ _ (by decide), ← h1, ← Nat.pow_mod, ← Nat.pow_two, ← Nat.pow_mul, show 2 * ((pN - 1) / 2) = pN - 1 by decide] at h2
  by_cases hz : z.val = 0
  · rw [hz, Nat.zero_pow (by decide)] at h2
    revert h2
    decide
  · rw [fermatN (Nat.pos_of_ne_zero hz) z.isLt] at h2
    revert h2
    decide

theorem two_ne : (2 : Fq) ≠ 0 := by decide +kernel
theorem one_ne : (1 : Fq) ≠ 0 := by decide +kernel

/-- Is this a point of the curve? -/
def On (x y : Fq) : Prop := y * y - x * x = 1 + dE * (x * x * (y * y))

theorem sq_key {i d x1 y1 x2 y2 e : Fq} (hi : i * i = -1) (he : e * e = 1) (h1 : y1 * y1 - x1 * x1 = 1 + d * (x1 * x1 * (y1 * y1))) (h2 : y2 * y2 - x2 * x2 = 1 + d * (x2 * x2 * (y2 * y2))) (h : d * (x1 * x2 * (y1 * y2)) = e) :
    (i * (i * x1 + e * y1)) * (i * (i * x1 + e * y1)) = d * ((i * x1 * y1 * (i * x2 + y2)) * (i * x1 * y1 * (i * x2 + y2))) := by
  grind

theorem fq_cancel {a b c : Fq} (hc : c ≠ 0) (h : a * c = b * c) : a = b := by
  have h1 : (a - b) * c = 0 := by clear hc; grind
  rcases fq_mul h1 with h2 | h2
  · clear h h1 hc
    grind
  · exact absurd h2 hc

theorem no_root {A B : Fq} (h : A * A = dE * (B * B)) : B = 0 := by
  refine Classical.byContradiction fun hB => ?_
  have hi := finv_mul hB
  refine not_sq (A * finv B) ?_
  generalize finv B = c at hi ⊢
  grind

theorem nn (e : Fq) : -e * -e = e * e := by grind
theorem z4 {d x1 y1 x2 y2 : Fq} (h : x1 = 0) : d * (x1 * x2 * (y1 * y2)) = 0 := by rw [h]; grind
theorem z5 {d x1 y1 x2 y2 : Fq} (h : y1 = 0) : d * (x1 * x2 * (y1 * y2)) = 0 := by rw [h]; grind
theorem z6 {d x1 y1 x2 y2 : Fq} (h : y2 = 0) : d * (x1 * x2 * (y1 * y2)) = 0 := by rw [h]; grind
theorem z7 {i x y : Fq} (h1 : i * x + y = 0) (h2 : i * x + -y = 0) : 2 * y = 0 := by grind
theorem n1 (d x1 y1 x2 y2 : Fq) : d * (x1 * x2 * (y1 * -y2)) = -(d * (x1 * x2 * (y1 * y2))) := by grind
theorem n2 {d x y : Fq} (h : y * y - x * x = 1 + d * (x * x * (y * y))) : -y * -y - x * x = 1 + d * (x * x * (-y * -y)) := by rw [nn]; exact h
theorem n3 {a : Fq} (h : 1 + a = 0) : a = -1 := by grind
theorem n4 {a : Fq} (h : 1 - a = 0) : a = 1 := by grind
theorem n5 : (-1 : Fq) * -1 = 1 := by grind
theorem n6 : (1 : Fq) * 1 = 1 := by grind
theorem zz : (0 : Fq) * 0 = 0 := by grind

theorem den_ne {x1 y1 x2 y2 e : Fq} (h1 : On x1 y1) (h2 : On x2 y2) (he : e * e = 1) : dE * (x1 * x2 * (y1 * y2)) ≠ e := by
  intro h
  unfold On at h1 h2
  have k1 := no_root (sq_key iE_sq he h1 h2 h)
  have k2 := no_root (sq_key (i := iE) (e := -e) (y2 := -y2) iE_sq (by rw [nn]; exact he) h1 (n2 h2) (by rw [n1, h]))
  have he0 : e ≠ 0 := fun e0 => one_ne (by rw [← he, e0]; exact zz)
  have hx1 : x1 ≠ 0 := fun e0 => he0 (by rw [← h]; exact z4 e0)
  have hy1 : y1 ≠ 0 := fun e0 => he0 (by rw [← h]; exact z5 e0)
  have hy2 : y2 ≠ 0 := fun e0 => he0 (by rw [← h]; exact z6 e0)
  have hi : iE ≠ 0 := by decide +kernel
  have hw : iE * x1 * y1 ≠ 0 := fq_ne (fq_ne hi hx1) hy1
  rcases fq_mul k1 with h3 | h3
  · exact hw h3
  · rcases fq_mul k2 with h4 | h4
    · exact hw h4
    · rcases fq_mul (z7 h3 h4) with h5 | h5
      · exact two_ne h5
      · exact hy2 h5

theorem den_plus {x1 y1 x2 y2 : Fq} (h1 : On x1 y1) (h2 : On x2 y2) : 1 + dE * (x1 * x2 * (y1 * y2)) ≠ 0 := fun h => den_ne (e := -1) h1 h2 n5 (n3 h)
theorem den_minus {x1 y1 x2 y2 : Fq} (h1 : On x1 y1) (h2 : On x2 y2) : 1 - dE * (x1 * x2 * (y1 * y2)) ≠ 0 := fun h => den_ne (e := 1) h1 h2 n6 (n4 h)

/-- A point of the curve. -/
structure Pt where
  x : Fq
  y : Fq
  on : On x y

theorem Pt.ext {p q : Pt} (hx : p.x = q.x) (hy : p.y = q.y) : p = q := by
  cases p
  cases q
  simp only at hx hy
  subst hx
  subst hy
  rfl

theorem on_key {d x1 y1 x2 y2 X Y : Fq} (h1 : y1 * y1 - x1 * x1 = 1 + d * (x1 * x1 * (y1 * y1))) (h2 : y2 * y2 - x2 * x2 = 1 + d * (x2 * x2 * (y2 * y2))) (hX : X * (1 + d * (x1 * x2 * (y1 * y2))) = x1 * y2 + y1 * x2) (hY : Y * (1 - d * (x1 * x2 * (y1 * y2))) = y1 * y2 + x1 * x2) :
    (Y * Y - X * X) * ((1 + d * (x1 * x2 * (y1 * y2))) * (1 - d * (x1 * x2 * (y1 * y2))) * ((1 + d * (x1 * x2 * (y1 * y2))) * (1 - d * (x1 * x2 * (y1 * y2))))) = (1 + d * (X * X * (Y * Y))) * ((1 + d * (x1 * x2 * (y1 * y2))) * (1 - d * (x1 * x2 * (y1 * y2))) * ((1 + d * (x1 * x2 * (y1 * y2))) * (1 - d * (x1 * x2 * (y1 * y2))))) := by
  have a : (X * (1 + d * (x1 * x2 * (y1 * y2)))) * (X * (1 + d * (x1 * x2 * (y1 * y2)))) = (x1 * y2 + y1 * x2) * (x1 * y2 + y1 * x2) := by rw [hX]
  have b : (Y * (1 - d * (x1 * x2 * (y1 * y2)))) * (Y * (1 - d * (x1 * x2 * (y1 * y2)))) = (y1 * y2 + x1 * x2) * (y1 * y2 + x1 * x2) := by rw [hY]
  have key : (y1 * y2 + x1 * x2) * (y1 * y2 + x1 * x2) * ((1 + d * (x1 * x2 * (y1 * y2))) * (1 + d * (x1 * x2 * (y1 * y2)))) - (x1 * y2 + y1 * x2) * (x1 * y2 + y1 * x2) * ((1 - d * (x1 * x2 * (y1 * y2))) * (1 - d * (x1 * x2 * (y1 * y2)))) = (1 + d * (x1 * x2 * (y1 * y2))) * (1 - d * (x1 * x2 * (y1 * y2))) * ((1 + d * (x1 * x2 * (y1 * y2))) * (1 - d * (x1 * x2 * (y1 * y2)))) + d * ((x1 * y2 + y1 * x2) * (x1 * y2 + y1 * x2) * ((y1 * y2 + x1 * x2) * (y1 * y2 + x1 * x2))) := by
    clear hX hY a b
    grind
  rw [← a, ← b] at key
  clear hX hY a b h1 h2
  generalize 1 + d * (x1 * x2 * (y1 * y2)) = u at *
  generalize 1 - d * (x1 * x2 * (y1 * y2)) = v at *
  grind

/-- The sum's coordinates. -/
def sx (p q : Pt) : Fq := (p.x * q.y + p.y * q.x) * finv (1 + dE * (p.x * q.x * (p.y * q.y)))
def sy (p q : Pt) : Fq := (p.y * q.y + p.x * q.x) * finv (1 - dE * (p.x * q.x * (p.y * q.y)))
theorem div_mul {a c : Fq} (hc : c ≠ 0) : a * finv c * c = a := by
  have h := finv_mul hc
  generalize finv c = b at *
  clear hc
  grind
theorem sx_mul (p q : Pt) : sx p q * (1 + dE * (p.x * q.x * (p.y * q.y))) = p.x * q.y + p.y * q.x := div_mul (den_plus p.on q.on)
theorem sy_mul (p q : Pt) : sy p q * (1 - dE * (p.x * q.x * (p.y * q.y))) = p.y * q.y + p.x * q.x := div_mul (den_minus p.on q.on)
theorem s_on (p q : Pt) : On (sx p q) (sy p q) := by
  have h := on_key p.on q.on (sx_mul p q) (sy_mul p q)
  have h1 := den_plus p.on q.on
  have h2 := den_minus p.on q.on
  exact fq_cancel (fq_ne (fq_ne h1 h2) (fq_ne h1 h2)) h
/-- The sum of two points. -/
def Pt.add (p q : Pt) : Pt := ⟨sx p q, sy p q, s_on p q⟩
/-- The zero point. -/
def zeroP : Pt := ⟨0, 1, by unfold On; decide +kernel⟩
theorem neg_on {x y : Fq} (h : On x y) : On (-x) y := by
  unfold On at *
  rw [nn]
  exact h
def Pt.neg (p : Pt) : Pt := ⟨-p.x, p.y, neg_on p.on⟩

theorem add_eq {p q r : Pt} (h1 : r.x * (1 + dE * (p.x * q.x * (p.y * q.y))) = p.x * q.y + p.y * q.x) (h2 : r.y * (1 - dE * (p.x * q.x * (p.y * q.y))) = p.y * q.y + p.x * q.x) : p.add q = r :=
  Pt.ext (fq_cancel (den_plus p.on q.on) ((sx_mul p q).trans h1.symm)) (fq_cancel (den_minus p.on q.on) ((sy_mul p q).trans h2.symm))

theorem c1 (d a b c e X : Fq) (h : X * (1 + d * (a * c * (b * e))) = a * e + b * c) : X * (1 + d * (c * a * (e * b))) = c * b + e * a := by grind
theorem c2 (d a b c e X : Fq) (h : X * (1 - d * (a * c * (b * e))) = b * e + a * c) : X * (1 - d * (c * a * (e * b))) = e * b + c * a := by grind
theorem add_comm' (p q : Pt) : p.add q = q.add p := (add_eq (c1 _ _ _ _ _ _ (sx_mul p q)) (c2 _ _ _ _ _ _ (sy_mul p q))).symm

theorem c3 (d a b : Fq) : a * (1 + d * (a * 0 * (b * 1))) = a * 1 + b * 0 := by grind
theorem c4 (d a b : Fq) : b * (1 - d * (a * 0 * (b * 1))) = b * 1 + a * 0 := by grind
theorem add_zero' (p : Pt) : p.add zeroP = p := add_eq (c3 _ _ _) (c4 _ _ _)
theorem c5 (d a b : Fq) : 0 * (1 + d * (a * -a * (b * b))) = a * b + b * -a := by grind
theorem c6 {d a b : Fq} (h : b * b - a * a = 1 + d * (a * a * (b * b))) : 1 * (1 - d * (a * -a * (b * b))) = b * b + a * -a := by grind
theorem add_neg' (p : Pt) : p.add p.neg = zeroP := add_eq (c5 _ _ _) (c6 p.on)

theorem as_x {d x1 y1 x2 y2 x3 y3 : Fq} (e1 : y1 * y1 - x1 * x1 = 1 + d * (x1 * x1 * (y1 * y1))) (e2 : y2 * y2 - x2 * x2 = 1 + d * (x2 * x2 * (y2 * y2))) (e3 : y3 * y3 - x3 * x3 = 1 + d * (x3 * x3 * (y3 * y3))) :
    ((x1 * y2 + y1 * x2) * (1 - d * (x1 * x2 * (y1 * y2))) * y3 + (y1 * y2 + x1 * x2) * (1 + d * (x1 * x2 * (y1 * y2))) * x3) * ((1 + d * (x2 * x3 * (y2 * y3))) * (1 - d * (x2 * x3 * (y2 * y3))) + d * ((x2 * y3 + y2 * x3) * (y2 * y3 + x2 * x3) * (x1 * y1)))
    = ((x2 * y3 + y2 * x3) * (1 - d * (x2 * x3 * (y2 * y3))) * y1 + (y2 * y3 + x2 * x3) * (1 + d * (x2 * x3 * (y2 * y3))) * x1) * ((1 + d * (x1 * x2 * (y1 * y2))) * (1 - d * (x1 * x2 * (y1 * y2))) + d * ((x1 * y2 + y1 * x2) * (y1 * y2 + x1 * x2) * (x3 * y3))) := by
  grind
theorem as_y {d x1 y1 x2 y2 x3 y3 : Fq} (e1 : y1 * y1 - x1 * x1 = 1 + d * (x1 * x1 * (y1 * y1))) (e2 : y2 * y2 - x2 * x2 = 1 + d * (x2 * x2 * (y2 * y2))) (e3 : y3 * y3 - x3 * x3 = 1 + d * (x3 * x3 * (y3 * y3))) :
    ((y1 * y2 + x1 * x2) * (1 + d * (x1 * x2 * (y1 * y2))) * y3 + (x1 * y2 + y1 * x2) * (1 - d * (x1 * x2 * (y1 * y2))) * x3) * ((1 + d * (x2 * x3 * (y2 * y3))) * (1 - d * (x2 * x3 * (y2 * y3))) - d * ((x2 * y3 + y2 * x3) * (y2 * y3 + x2 * x3) * (x1 * y1)))
    = ((y2 * y3 + x2 * x3) * (1 + d * (x2 * x3 * (y2 * y3))) * y1 + (x2 * y3 + y2 * x3) * (1 - d * (x2 * x3 * (y2 * y3))) * x1) * ((1 + d * (x1 * x2 * (y1 * y2))) * (1 - d * (x1 * x2 * (y1 * y2))) - d * ((x1 * y2 + y1 * x2) * (y1 * y2 + x1 * x2) * (x3 * y3))) := by
  grind

/-- What the sum of a sum and a point is, without its parts' denominators. -/
theorem up_x {d A B u v X Y L x3 y3 : Fq} (hX : X * u = A) (hY : Y * v = B) (hL : L * (1 + d * (X * x3 * (Y * y3))) = X * y3 + Y * x3) : L * (u * v + d * (A * B * (x3 * y3))) = A * v * y3 + B * u * x3 := by
  subst hX
  subst hY
  grind
theorem up_y {d A B u v X Y L x3 y3 : Fq} (hX : X * u = A) (hY : Y * v = B) (hL : L * (1 - d * (X * x3 * (Y * y3))) = Y * y3 + X * x3) : L * (u * v - d * (A * B * (x3 * y3))) = B * u * y3 + A * v * x3 := by
  subst hX
  subst hY
  grind
theorem up_d {d A B u v X Y x3 y3 : Fq} (hX : X * u = A) (hY : Y * v = B) : (1 + d * (X * x3 * (Y * y3))) * (u * v) = u * v + d * (A * B * (x3 * y3)) := by
  subst hX
  subst hY
  grind
theorem up_e {d A B u v X Y x3 y3 : Fq} (hX : X * u = A) (hY : Y * v = B) : (1 - d * (X * x3 * (Y * y3))) * (u * v) = u * v - d * (A * B * (x3 * y3)) := by
  subst hX
  subst hY
  grind
theorem cross {L M N K D E : Fq} (h1 : L * D = N) (h2 : M * E = K) (h3 : N * E = K * D) (hD : D ≠ 0) (hE : E ≠ 0) : L = M := by
  refine fq_cancel (fq_ne hD hE) ?_
  subst h1
  subst h2
  clear hD hE
  grind

theorem add_assoc' (p q r : Pt) : (p.add q).add r = p.add (q.add r) := by
  have a1 := sx_mul p q
  have a2 := sy_mul p q
  have b1 := sx_mul q r
  have b2 := sy_mul q r
  have d1 := fq_ne (den_plus (p.add q).on r.on) (fq_ne (den_plus p.on q.on) (den_minus p.on q.on))
  have d2 := fq_ne (den_plus (q.add r).on p.on) (fq_ne (den_plus q.on r.on) (den_minus q.on r.on))
  have f1 := fq_ne (den_minus (p.add q).on r.on) (fq_ne (den_plus p.on q.on) (den_minus p.on q.on))
  have f2 := fq_ne (den_minus (q.add r).on p.on) (fq_ne (den_plus q.on r.on) (den_minus q.on r.on))
  rw [show (p.add q).x = sx p q from rfl, show (p.add q).y = sy p q from rfl, up_d a1 a2] at d1
  rw [show (q.add r).x = sx q r from rfl, show (q.add r).y = sy q r from rfl, up_d b1 b2] at d2
  rw [show (p.add q).x = sx p q from rfl, show (p.add q).y = sy p q from rfl, up_e a1 a2] at f1
  rw [show (q.add r).x = sx q r from rfl, show (q.add r).y = sy q r from rfl, up_e b1 b2] at f2
  rw [add_comm' p (q.add r)]
  refine Pt.ext ?_ ?_
  · exact cross (up_x a1 a2 (sx_mul (p.add q) r)) (up_x b1 b2 (sx_mul (q.add r) p)) (as_x p.on q.on r.on) d1 d2
  · exact cross (up_y a1 a2 (sy_mul (p.add q) r)) (up_y b1 b2 (sy_mul (q.add r) p)) (as_y p.on q.on r.on) f1 f2

/-- A point n times. -/
def Pt.mul (p : Pt) : Nat → Pt
  | 0 => zeroP
  | n + 1 => (p.mul n).add p
theorem mul_add' (p : Pt) (m : Nat) : ∀ n, p.mul (m + n) = (p.mul m).add (p.mul n)
  | 0 => (add_zero' _).symm
  | n + 1 => by
    show (p.mul (m + n)).add p = (p.mul m).add ((p.mul n).add p)
    rw [mul_add' p m n, add_assoc']
theorem zero_mul' : ∀ n, zeroP.mul n = zeroP
  | 0 => rfl
  | n + 1 => by
    show (zeroP.mul n).add zeroP = zeroP
    rw [add_zero', zero_mul' n]
theorem mul_mul' (p : Pt) (m : Nat) : ∀ n, p.mul (m * n) = (p.mul m).mul n
  | 0 => rfl
  | n + 1 => by
    show p.mul (m * n + m) = ((p.mul m).mul n).add (p.mul m)
    rw [mul_add', mul_mul' p m n]
theorem mul_swap (p : Pt) (m n : Nat) : (p.mul m).mul n = (p.mul n).mul m := by rw [← mul_mul', ← mul_mul', Nat.mul_comm]

end Go.Proofs.YtmhfmhmpoobmlaaGreatDoor

/- Numbers modulo the prime; when four numbers tell a point; the sums of the program and of the document. -/
namespace Go.Proofs.YtmhfmhmpoobmlaaGreatDoor
open Go.RowKit

theorem pmod (M : Int) : 0 ≤ M % Pm ∧ M % Pm < Pm := em M
def toF (a : Int) : Fq := ⟨(a % Pm).toNat, by have := pmod a; have := pN_P; omega⟩
theorem toF_val (a : Int) : (((toF a).val : Nat) : Int) = a % Pm := by
  show (((a % Pm).toNat : Nat) : Int) = a % Pm
  have := pmod a
  omega
theorem fq_int {a b : Fq} (h : ((a.val : Nat) : Int) = ((b.val : Nat) : Int)) : a = b := Fin.ext (by omega)
theorem toF_mod (a : Int) : toF (a % Pm) = toF a := by
  refine fq_int ?_
  rw [toF_val, toF_val, Int.emod_emod_of_dvd _ (Int.dvd_refl _)]
theorem toF_add (a b : Int) : toF (a + b) = toF a + toF b := by
  refine fq_int ?_
  rw [toF_val, Fin.val_add, Int.natCast_emod, Int.natCast_add, toF_val, toF_val, pN_P, ← Int.add_emod]
theorem toF_mul (a b : Int) : toF (a * b) = toF a * toF b := by
  refine fq_int ?_
  rw [toF_val, Fin.val_mul, Int.natCast_emod, Int.natCast_mul, toF_val, toF_val, pN_P, ← Int.mul_emod]
theorem toF_sub (a b : Int) : toF (a - b) = toF a - toF b := by
  have h := toF_add (a - b) b
  rw [show a - b + b = a by omega] at h
  rw [h]
  generalize toF (a - b) = u
  generalize toF b = v
  grind
theorem toF_inj {a b : Int} (ha : 0 ≤ a ∧ a < Pm) (hb : 0 ≤ b ∧ b < Pm) (h : toF a = toF b) : a = b := by
  have h2 := congrArg (fun x : Fq => ((x.val : Nat) : Int)) h
  simp only [toF_val] at h2
  rwa [Int.emod_eq_of_lt ha.1 ha.2, Int.emod_eq_of_lt hb.1 hb.2] at h2
theorem toF_zero : toF 0 = 0 := by decide +kernel
theorem toF_one : toF 1 = 1 := by decide +kernel
theorem toF_cg {a b : Int} (h : Cg a b) : toF a = toF b := by
  rw [← toF_mod a, ← toF_mod b, h.emod]
theorem toF_neg (a : Int) : toF (-a) = - toF a := by
  have h := toF_sub 0 a
  rw [toF_zero, Int.zero_sub] at h
  rw [h]
  generalize toF a = u
  grind
theorem toF_nz {a : Int} : toF a = 0 ↔ a % Pm = 0 := by
  constructor
  · intro h
    have h2 := congrArg (fun x : Fq => ((x.val : Nat) : Int)) h
    simp only [toF_val] at h2
    exact h2
  · intro h
    rw [← toF_mod, h, toF_zero]
theorem toF_eq {a b : Int} : toF a = toF b ↔ a % Pm = b % Pm := by
  constructor
  · intro h
    have h2 := congrArg (fun x : Fq => ((x.val : Nat) : Int)) h
    simpa only [toF_val] using h2
  · intro h
    rw [← toF_mod, h, toF_mod]
theorem tm (x y : E5) : toF (mulF x y).n = toF x.n * toF y.n := by rw [toF_cg (mulF_n x y), toF_mul]
theorem ta (x y : E5) : toF (addF x y).n = toF x.n + toF y.n := by rw [toF_cg (addF_n x y), toF_add]
theorem ts (x y : E5) : toF (subF x y).n = toF x.n - toF y.n := by rw [toF_cg (subF_n x y), toF_sub]
theorem t1 : toF (smallF 1).n = 1 := by rw [toF_cg (smallF_n 1), toF_one]
theorem pow_up (z : Int) (n m : Nat) (h : m = n + 1) : toF z * toF (z ^ n) = toF (z ^ m) := by
  subst h
  rw [← toF_mul, Int.pow_succ, Int.mul_comm]
theorem inv_pow {z : Int} (h : toF z ≠ 0) : toF z * toF (z ^ (2 ^ 255 - 21)) = 1 := by
  have hv : 0 < (toF z).val := Nat.pos_of_ne_zero fun e => h (Fin.ext (by rw [e]; rfl))
  have hf := fermatN hv (toF z).isLt
  have e1 : toF z * toF (z ^ (2 ^ 255 - 21)) = toF (z ^ (2 ^ 255 - 20)) := pow_up z (2 ^ 255 - 21) (2 ^ 255 - 20) (by decide)
  rw [e1]
  refine fq_int ?_
  rw [toF_val]
  have hz : Cg z (((toF z).val : Nat) : Int) := by
    rw [toF_val]
    exact (cg_emod z).symm
  rw [(hz.pow _).emod, ← Int.natCast_pow, ← pN_P, ← Int.natCast_emod, show (2 ^ 255 - 20 : Nat) = pN - 1 by decide, hf]
  rfl
theorem ti {x : E5} (h : toF x.n ≠ 0) : toF x.n * toF (invF x).n = 1 := by
  rw [toF_cg (invF_pow x)]
  exact inv_pow h
theorem tp {z : Int} (h : toF z ≠ 0) : toF z * toF (pwm z (xbit 255 21) 255) = 1 := by
  rw [toF_cg (pwm_pow z (xbit 255 21) 255), ex255]
  exact inv_pow h

/-- Four numbers tell a point. -/
structure RepF (X Y Z T : Fq) (P : Pt) : Prop where
  z : Z ≠ 0
  x : X = P.x * Z
  y : Y = P.y * Z
  t : T = P.x * P.y * Z

theorem al1 {D sx Z1 Z2 x1 y1 x2 y2 : Fq} (h : sx * (1 + D) = x1 * y2 + y1 * x2) : (y1 * Z1 + x1 * Z1) * (y2 * Z2 + x2 * Z2) - (y1 * Z1 - x1 * Z1) * (y2 * Z2 - x2 * Z2) = sx * (Z1 * (Z2 + Z2) + D * (Z1 * (Z2 + Z2))) := by
  grind
theorem al2 {D sy Z1 Z2 x1 y1 x2 y2 : Fq} (h : sy * (1 - D) = y1 * y2 + x1 * x2) : (y1 * Z1 + x1 * Z1) * (y2 * Z2 + x2 * Z2) + (y1 * Z1 - x1 * Z1) * (y2 * Z2 - x2 * Z2) = sy * (Z1 * (Z2 + Z2) - D * (Z1 * (Z2 + Z2))) := by
  grind
theorem al3 (d Z1 Z2 x1 y1 x2 y2 : Fq) : d * (x1 * y1 * Z1) * (x2 * y2 * Z2 + x2 * y2 * Z2) = d * (x1 * x2 * (y1 * y2)) * (Z1 * (Z2 + Z2)) := by
  grind
theorem al4 (D c : Fq) : c - D * c = (1 - D) * c := by grind
theorem al5 (D c : Fq) : c + D * c = (1 + D) * c := by grind
theorem al6 {e f g h sx sy : Fq} (he : e = sx * g) (hh : h = sy * f) : e * f = sx * (f * g) ∧ g * h = sy * (f * g) ∧ e * h = sx * sy * (f * g) := by
  subst he
  subst hh
  refine ⟨?_, ?_, ?_⟩ <;> grind
theorem dbl_ne {Z1 Z2 : Fq} (h1 : Z1 ≠ 0) (h2 : Z2 ≠ 0) : Z1 * (Z2 + Z2) ≠ 0 := by
  have e : Z2 + Z2 = 2 * Z2 := by clear h1 h2; grind
  rw [e]
  exact fq_ne h1 (fq_ne two_ne h2)
/-- The program's sum. -/
theorem RepF.plus {X1 Y1 Z1 T1 X2 Y2 Z2 T2 : Fq} {P Q : Pt} (p : RepF X1 Y1 Z1 T1 P) (q : RepF X2 Y2 Z2 T2 Q) :
    RepF (((Y1 + X1) * (Y2 + X2) - (Y1 - X1) * (Y2 - X2)) * (Z1 * (Z2 + Z2) - dE * T1 * (T2 + T2))) ((Z1 * (Z2 + Z2) + dE * T1 * (T2 + T2)) * ((Y1 + X1) * (Y2 + X2) + (Y1 - X1) * (Y2 - X2)))
      ((Z1 * (Z2 + Z2) - dE * T1 * (T2 + T2)) * (Z1 * (Z2 + Z2) + dE * T1 * (T2 + T2))) (((Y1 + X1) * (Y2 + X2) - (Y1 - X1) * (Y2 - X2)) * ((Y1 + X1) * (Y2 + X2) + (Y1 - X1) * (Y2 - X2))) (P.add Q) := by
  obtain ⟨pz, rfl, rfl, rfl⟩ := p
  obtain ⟨qz, rfl, rfl, rfl⟩ := q
  rw [al3 dE Z1 Z2 P.x P.y Q.x Q.y]
  have he := al1 (Z1 := Z1) (Z2 := Z2) (sx_mul P Q)
  have hh := al2 (Z1 := Z1) (Z2 := Z2) (sy_mul P Q)
  have hf := fq_ne (den_minus P.on Q.on) (dbl_ne pz qz)
  have hg := fq_ne (den_plus P.on Q.on) (dbl_ne pz qz)
  rw [← al4] at hf
  rw [← al5] at hg
  obtain ⟨e1, e2, e3⟩ := al6 he hh
  exact ⟨fq_ne hf hg, e1, e2, e3⟩
theorem bl1 {d x y Z : Fq} (h : y * y - x * x = 1 + d * (x * x * (y * y))) : x * Z * (x * Z) - y * Z * (y * Z) = -((1 + d * (x * x * (y * y))) * (Z * Z)) := by grind
theorem bl2 {d x y Z : Fq} (h : y * y - x * x = 1 + d * (x * x * (y * y))) : Z * (Z + Z) + (x * Z * (x * Z) - y * Z * (y * Z)) = (1 - d * (x * x * (y * y))) * (Z * Z) := by grind
theorem bl3 (x y Z : Fq) : x * Z * (x * Z) + y * Z * (y * Z) - (x * Z + y * Z) * (x * Z + y * Z) = -((x * y + y * x) * (Z * Z)) := by grind
theorem bl4 (x y Z : Fq) : x * Z * (x * Z) + y * Z * (y * Z) = (y * y + x * x) * (Z * Z) := by grind
theorem neg_ne {a : Fq} (h : a ≠ 0) : -a ≠ 0 := fun e => h (by clear h; grind)
theorem bl6 (s u c : Fq) : -(s * u * c) = s * -(u * c) := by grind
theorem bl7 (s u c : Fq) : s * u * c = s * (u * c) := by grind
theorem RepF.dbl {X Y Z T : Fq} {P : Pt} (p : RepF X Y Z T P) :
    RepF ((X * X + Y * Y - (X + Y) * (X + Y)) * (Z * (Z + Z) + (X * X - Y * Y))) ((X * X - Y * Y) * (X * X + Y * Y)) ((Z * (Z + Z) + (X * X - Y * Y)) * (X * X - Y * Y)) ((X * X + Y * Y - (X + Y) * (X + Y)) * (X * X + Y * Y)) (P.add P) := by
  obtain ⟨pz, rfl, rfl, rfl⟩ := p
  have hon := P.on
  unfold On at hon
  have hg := bl1 (Z := Z) hon
  have hf := bl2 (Z := Z) hon
  have he : P.x * Z * (P.x * Z) + P.y * Z * (P.y * Z) - (P.x * Z + P.y * Z) * (P.x * Z + P.y * Z) = sx P P * (P.x * Z * (P.x * Z) - P.y * Z * (P.y * Z)) := by
    rw [bl3, hg, ← sx_mul P P, bl6]
  have hh : P.x * Z * (P.x * Z) + P.y * Z * (P.y * Z) = sy P P * (Z * (Z + Z) + (P.x * Z * (P.x * Z) - P.y * Z * (P.y * Z))) := by
    rw [bl4, hf, ← sy_mul P P, bl7]
  obtain ⟨e1, e2, e3⟩ := al6 he hh
  have zz := fq_ne pz pz
  have nf := fq_ne (den_minus P.on P.on) zz
  have ng := neg_ne (fq_ne (den_plus P.on P.on) zz)
  rw [← hf] at nf
  rw [← hg] at ng
  exact ⟨fq_ne nf ng, e1, e2, e3⟩
theorem cl1 {D sx Z1 Z2 x1 y1 x2 y2 : Fq} (h : sx * (1 + D) = x1 * y2 + y1 * x2) : x1 * Z1 * (y2 * Z2) + y1 * Z1 * (x2 * Z2) = sx * (Z1 * Z2 + D * (Z1 * Z2)) := by grind
theorem cl2 {D sy Z1 Z2 x1 y1 x2 y2 : Fq} (h : sy * (1 - D) = y1 * y2 + x1 * x2) : y1 * Z1 * (y2 * Z2) + x1 * Z1 * (x2 * Z2) = sy * (Z1 * Z2 - D * (Z1 * Z2)) := by grind
theorem cl3 (d Z1 Z2 x1 y1 x2 y2 : Fq) : d * (x1 * y1 * Z1) * (x2 * y2 * Z2) = d * (x1 * x2 * (y1 * y2)) * (Z1 * Z2) := by grind
/-- The document's sum. -/
theorem RepF.rplus {X1 Y1 Z1 T1 X2 Y2 Z2 T2 : Fq} {P Q : Pt} (p : RepF X1 Y1 Z1 T1 P) (q : RepF X2 Y2 Z2 T2 Q) :
    RepF ((X1 * Y2 + Y1 * X2) * (Z1 * Z2 - dE * T1 * T2)) ((Z1 * Z2 + dE * T1 * T2) * (Y1 * Y2 + X1 * X2)) ((Z1 * Z2 - dE * T1 * T2) * (Z1 * Z2 + dE * T1 * T2)) ((X1 * Y2 + Y1 * X2) * (Y1 * Y2 + X1 * X2)) (P.add Q) := by
  obtain ⟨pz, rfl, rfl, rfl⟩ := p
  obtain ⟨qz, rfl, rfl, rfl⟩ := q
  rw [cl3 dE Z1 Z2 P.x P.y Q.x Q.y]
  have he := cl1 (Z1 := Z1) (Z2 := Z2) (sx_mul P Q)
  have hh := cl2 (Z1 := Z1) (Z2 := Z2) (sy_mul P Q)
  have hf := fq_ne (den_minus P.on Q.on) (fq_ne pz qz)
  have hg := fq_ne (den_plus P.on Q.on) (fq_ne pz qz)
  rw [← al4] at hf
  rw [← al5] at hg
  obtain ⟨e1, e2, e3⟩ := al6 he hh
  exact ⟨fq_ne hf hg, e1, e2, e3⟩
theorem el1 {x u Z1 Z2 : Fq} (h : x * Z1 * Z2 = u * Z2 * Z1) : x * (Z1 * Z2) = u * (Z1 * Z2) := by grind
theorem RepF.eq {X1 Y1 Z1 T1 X2 Y2 Z2 T2 : Fq} {P Q : Pt} (p : RepF X1 Y1 Z1 T1 P) (q : RepF X2 Y2 Z2 T2 Q) : (X1 * Z2 = X2 * Z1 ↔ P.x = Q.x) ∧ (Y1 * Z2 = Y2 * Z1 ↔ P.y = Q.y) := by
  obtain ⟨pz, rfl, rfl, rfl⟩ := p
  obtain ⟨qz, rfl, rfl, rfl⟩ := q
  have hz := fq_ne pz qz
  refine ⟨⟨fun h => fq_cancel hz (el1 h), fun h => ?_⟩, ⟨fun h => fq_cancel hz (el1 h), fun h => ?_⟩⟩
  · rw [h]
    clear h
    grind
  · rw [h]
    clear h
    grind
theorem fl1 {x Z I : Fq} (h : Z * I = 1) : x * Z * I = x := by grind

end Go.Proofs.YtmhfmhmpoobmlaaGreatDoor

/- Which points the program's and the document's numbers tell; that both read bytes alike. -/
namespace Go.Proofs.YtmhfmhmpoobmlaaGreatDoor
open Go.RowKit

structure Rep (p : P5) (P : Pt) : Prop where
  ok : p.Ok
  r : RepF (toF p.x.n) (toF p.y.n) (toF p.z.n) (toF p.t.n) P
structure RRep (q : RQ) (P : Pt) : Prop where
  ok : q.Ok
  r : RepF (toF q.x) (toF q.y) (toF q.z) (toF q.t) P

theorem dF_t : toF dF.n = dE := by
  unfold dF
  rw [toF_cg (ofF_n dBy), ← toF_mod, dBy_val]
  decide +kernel
theorem DI_t : toF DI = dE := by decide +kernel
theorem Rep.sum {p q : P5} {P Q : Pt} (hp : Rep p P) (hq : Rep q Q) : Rep (sumF p q) (P.add Q) := by
  refine ⟨sumF_ok hp.ok hq.ok, ?_⟩
  unfold sumF
  simp only [tm, ta, ts, dF_t]
  exact hp.r.plus hq.r
theorem Rep.dbl {p : P5} {P : Pt} (hp : Rep p P) : Rep (dblF p) (P.add P) := by
  refine ⟨dblF_ok hp.ok, ?_⟩
  unfold dblF
  simp only [tm, ta, ts]
  exact hp.r.dbl
theorem Rep.none {p : P5} {P : Pt} (hp : Rep p P) : noneB p = false := by
  unfold noneB
  have := mt toF_nz.2 hp.r.z
  simpa using this
theorem Rep.add {p q : P5} {P Q : Pt} (hp : Rep p P) (hq : Rep q Q) : Rep (addV p q) (P.add Q) := by
  unfold addV
  rw [hp.none, hq.none]
  simp only [Bool.false_eq_true, if_false]
  exact hp.sum hq
theorem eqE_iff (x y : E5) : eqE x y = true ↔ toF x.n = toF y.n := by
  unfold eqE
  rw [beq_iff_eq, toF_eq]
theorem Rep.same {p q : P5} {P Q : Pt} (hp : Rep p P) (hq : Rep q Q) : sameV p q = true ↔ P = Q := by
  unfold sameV
  rw [hp.none, hq.none]
  simp only [Bool.not_false, Bool.true_and, Bool.and_eq_true, eqE_iff, tm]
  rw [(hp.r.eq hq.r).1, (hp.r.eq hq.r).2]
  exact ⟨fun h => Pt.ext h.1 h.2, fun h => by rw [h]; exact ⟨rfl, rfl⟩⟩
theorem zero_t : toF zeroE.n = 0 := by rw [zeroE_n, toF_zero]
theorem zero5_rep : Rep zero5 zeroP := by
  refine ⟨zero5_ok, ?_⟩
  unfold zero5 pointF
  simp only [tm, t1, zero_t]
  refine ⟨one_ne, ?_, ?_, ?_⟩ <;> decide +kernel
theorem Rep.oct {p : P5} {P : Pt} (hp : Rep p P) : Rep (oct p) (((P.add P).add (P.add P)).add ((P.add P).add (P.add P))) := hp.dbl.dbl.dbl
theorem Rep.small {p : P5} {P : Pt} (hp : Rep p P) : smallV p = true ↔ ((P.add P).add (P.add P)).add ((P.add P).add (P.add P)) = zeroP := by
  unfold smallV
  rw [hp.none]
  simp only [Bool.not_false, Bool.true_and]
  exact hp.oct.same zero5_rep

theorem tmI (a b : Int) : toF (mI a b) = toF a * toF b := by unfold mI; rw [toF_mod, toF_mul]
theorem tpI (a b : Int) : toF (pI a b) = toF a + toF b := by unfold pI; rw [toF_mod, toF_add]
theorem tsI (a b : Int) : toF (sI a b) = toF a - toF b := by unfold sI; rw [toF_mod, toF_sub]
theorem tnI (a : Int) : toF (nI a) = - toF a := by unfold nI; rw [toF_mod, toF_neg]
theorem tvI {a : Int} (h : toF a ≠ 0) : toF a * toF (vI a) = 1 := tp h
theorem RRep.add {p q : RQ} {P Q : Pt} (hp : RRep p P) (hq : RRep q Q) : RRep (raddV p q) (P.add Q) := by
  refine ⟨raddV_ok _ _, ?_⟩
  unfold raddV rteesV
  simp only [tmI, tpI, tsI, DI_t]
  exact hp.r.rplus hq.r
theorem mI_eq (a b c d : Int) : (mI a b == mI c d) = true ↔ toF a * toF b = toF c * toF d := by
  rw [beq_iff_eq, ← toF_mul, ← toF_mul, toF_eq]
  exact Iff.rfl
theorem RRep.same {p q : RQ} {P Q : Pt} (hp : RRep p P) (hq : RRep q Q) : rsameV p q = true ↔ P = Q := by
  unfold rsameV
  rw [Bool.and_eq_true, mI_eq, mI_eq, (hp.r.eq hq.r).1, (hp.r.eq hq.r).2]
  exact ⟨fun h => Pt.ext h.1 h.2, fun h => by rw [h]; exact ⟨rfl, rfl⟩⟩
theorem rzero_rep : RRep rzeroV zeroP := by
  refine ⟨rzeroV_ok, ?_⟩
  unfold rzeroV
  simp only [toF_zero, toF_one]
  refine ⟨one_ne, ?_, ?_, ?_⟩ <;> decide +kernel
theorem RRep.small {p : RQ} {P : Pt} (hp : RRep p P) : rsmallV p = true ↔ ((P.add P).add (P.add P)).add ((P.add P).add (P.add P)) = zeroP := by
  unfold rsmallV roct
  exact ((hp.add hp).add (hp.add hp) |>.add ((hp.add hp).add (hp.add hp))).same rzero_rep
/-- The bytes of a point. -/
def ptS (P : Pt) : ByteArray := encS (((P.x.val : Nat) : Int) % 2 == 1) (lebytes ((P.y.val : Nat) : Int))
theorem Rep.bytes {p : P5} {P : Pt} (hp : Rep p P) : bytesV p = ptS P := by
  have hi := ti hp.r.z
  have ex : (mulF p.x (invF p.z)).n % Pm = ((P.x.val : Nat) : Int) := by
    rw [← toF_val, tm, hp.r.x, fl1 hi]
  have ey : (mulF p.y (invF p.z)).n % Pm = ((P.y.val : Nat) : Int) := by
    rw [← toF_val, tm, hp.r.y, fl1 hi]
  unfold bytesV ptS oddE
  rw [hp.none, ex, ey]
  exact if_neg Bool.false_ne_true
theorem RRep.bytes {p : RQ} {P : Pt} (hp : RRep p P) : rbytesV p = ptS P := by
  have hi := tvI hp.r.z
  have ex : mI p.x (vI p.z) = ((P.x.val : Nat) : Int) := by
    rw [← em_self (mI_bd p.x (vI p.z)), ← toF_val, tmI, hp.r.x, fl1 hi]
  have ey : mI p.y (vI p.z) = ((P.y.val : Nat) : Int) := by
    rw [← em_self (mI_bd p.y (vI p.z)), ← toF_val, tmI, hp.r.y, fl1 hi]
  unfold rbytesV ptS
  rw [ex, ey]

/- Decode: both sides agree. -/
theorem besE_cg (s : ByteArray) : Cg (besE (decY s)).n (aI (rY s)) := by
  have hy : Cg (decY s).n (rY s) := by
    unfold decY rY
    exact (ofF_n (cutS s)).trans (cg_emod _).symm
  have m : ∀ {x : Int} {A : Int}, Cg x A → Cg x (A % Pm) := fun h => h.trans (cg_emod _).symm
  have yy := m ((mulF_n (decY s) (decY s)).trans (hy.mul hy))
  have one := smallF_n 1
  have u := m ((subF_n _ _).trans (yy.sub one))
  have d : Cg dF.n DI := by
    unfold dF
    have h := m (ofF_n dBy)
    rwa [dBy_val] at h
  have dy := m ((mulF_n dF _).trans (d.mul yy))
  have v := m ((addF_n _ _).trans (dy.add one))
  exact m ((mulF_n _ _).trans (u.mul (rinv_val v)))
theorem root_rr (s : ByteArray) : (rootF (besE (decY s))).2 = (rr (aI (rY s))).2 ∧ (rootF (besE (decY s))).1.n % Pm = rX s := by
  have h := root_val (aI_bd (rY s)) (besE_cg s)
  unfold rX
  rw [rr_eq]
  exact h
theorem rr_even (A : Int) : (rr A).1 % 2 = 0 := by
  rw [rr_eq]
  have hP : Pm % 2 = 1 := by decide
  have key : ∀ {U : Int}, 0 ≤ U ∧ U < Pm → (if U % 2 = 1 then (- U) % Pm else U) % 2 = 0 := fun {U} hU => by
    split
    · rename_i h
      have e : (-U) % Pm = Pm - U := by
        have := Int.add_emod_right (-U) Pm
        rw [← this, show -U + Pm = Pm - U by omega]
        exact Int.emod_eq_of_lt (by omega) (by omega)
      rw [e]
      omega
    · omega
  unfold rrF
  have h1 := pwm_bd A (xbit 252 2) 252
  have h2 := em (pwm A (xbit 252 2) 252 * rmo.n)
  simp only
  generalize pwm A (xbit 252 2) 252 = U at h1 h2 ⊢
  generalize U * rmo.n % Pm = V at h2 ⊢
  by_cases e : U * U % Pm = A
  · rw [if_pos e]
    exact key h1
  · rw [if_neg e]
    by_cases e2 : V * V % Pm = A
    · rw [if_pos e2]
      exact key h2
    · rw [if_neg e2]
      rfl
theorem rr_sq {A : Int} (h : (rr A).2 = true) : toF (rr A).1 * toF (rr A).1 = toF A := by
  rw [rr_eq] at h ⊢
  have key : ∀ {U : Int}, toF (if U % 2 = 1 then (- U) % Pm else U) * toF (if U % 2 = 1 then (- U) % Pm else U) = toF (U * U % Pm) := fun {U} => by
    rw [toF_mod, toF_mul]
    split
    · rw [toF_mod, toF_neg, nn]
    · rfl
  revert h
  unfold rrF
  simp only
  generalize pwm A (xbit 252 2) 252 = U
  generalize U * rmo.n % Pm = V
  by_cases e : U * U % Pm = A
  · rw [if_pos e]
    intro _
    exact key.trans (by rw [e])
  · rw [if_neg e]
    by_cases e2 : V * V % Pm = A
    · rw [if_pos e2]
      intro _
      exact key.trans (by rw [e2])
    · rw [if_neg e2]
      intro h
      cases h
theorem decX_n (s : ByteArray) : (decX s).n % Pm = rdecX s := by
  have h := (root_rr s).2
  unfold decX rdecX
  cases oddB s
  · simp only [Bool.false_eq_true, if_false]
    exact h
  · simp only [if_true]
    unfold nI
    rw [(negF_n _).emod, ← h]
    exact (Cg.neg (cg_emod _)).symm.emod
theorem dec_eq (s : ByteArray) : decB s = rdecB s := by
  unfold decB rdecB oddE
  rw [decX_n, (root_rr s).1]
  have hX := rX_bd s
  have he : rX s % 2 = 0 := rr_even _
  have hP : Pm % 2 = 1 := by decide
  have hq : ((rdecX s % 2 == 1) == oddB s) = !((rX s == 0) && oddB s) := by
    unfold rdecX
    cases oddB s
    · simp [he]
    · simp only [if_true, Bool.and_true]
      unfold nI
      by_cases h0 : rX s = 0
      · rw [h0]
        decide
      · have e : (-rX s) % Pm = Pm - rX s := by
          have := Int.add_emod_right (-rX s) Pm
          rw [← this, show -rX s + Pm = Pm - rX s by omega]
          exact Int.emod_eq_of_lt (by omega) (by omega)
        rw [e]
        have h1 : (Pm - rX s) % 2 = 1 := by omega
        simp [h1, h0]
  rw [hq]
theorem on_ex {d x y v : Fq} (hv : (d * (y * y) + 1) * v = 1) (hx : x * x = (y * y - 1) * v) : y * y - x * x = 1 + d * (x * x * (y * y)) := by grind
theorem den0 (y : Fq) : dE * (y * y) + 1 ≠ 0 := fun h => by
  have h1 : iE * iE = dE * (y * y) := by
    rw [iE_sq]
    generalize dE = d at *
    grind
  have h2 := no_root h1
  rw [h2] at h
  revert h
  decide +kernel
theorem dec_on (s : ByteArray) (h : rdecB s = true) : On (toF (rdecX s)) (toF (rY s)) := by
  unfold rdecB at h
  simp only [Bool.and_eq_true] at h
  have hq := rr_sq h.2.1
  have hx : toF (rdecX s) * toF (rdecX s) = toF (aI (rY s)) := by
    rw [← hq]
    unfold rdecX rX
    split
    · rw [tnI, nn]
    · rfl
  have ea : toF (aI (rY s)) = (toF (rY s) * toF (rY s) - 1) * toF (vI (pI (mI DI (mI (rY s) (rY s))) 1)) := by
    unfold aI
    rw [tmI, tsI, tmI, toF_one]
  rw [ea] at hx
  have eb : toF (pI (mI DI (mI (rY s) (rY s))) 1) = dE * (toF (rY s) * toF (rY s)) + 1 := by
    rw [tpI, tmI, tmI, DI_t, toF_one]
  have hv := tvI (a := pI (mI DI (mI (rY s) (rY s))) 1) (by rw [eb]; exact den0 _)
  rw [eb] at hv
  unfold On
  exact on_ex hv hx
/-- The point that bytes are. -/
def decPt (s : ByteArray) (h : rdecB s = true) : Pt := ⟨toF (rdecX s), toF (rY s), dec_on s h⟩
theorem mul_one' (a : Fq) : a = a * 1 := by grind
theorem dec_rep {s : ByteArray} (hs : s.size = 32) (h : rdecB s = true) : Rep (decP s) (decPt s h) := by
  have e : decP s = pointF (decX s) (decY s) := by
    unfold decP
    rw [if_pos hs, dec_eq, h]
    exact if_pos rfl
  rw [e]
  have ex : toF (decX s).n = toF (rdecX s) := by rw [← toF_mod, decX_n]
  have ey : toF (decY s).n = toF (rY s) := by
    unfold decY rY
    rw [toF_cg (ofF_n (cutS s)), toF_mod]
  refine ⟨pointF_ok (decX_ok s) (decY_ok s), ?_⟩
  unfold pointF
  simp only [tm, t1, ex, ey]
  exact ⟨one_ne, mul_one' _, mul_one' _, mul_one' _⟩
theorem rdec_rep {s : ByteArray} (hs : s.size = 32) (h : rdecB s = true) : RRep (rdecP s) (decPt s h) := by
  have e : rdecP s = rofV (rdecX s) (rY s) := by
    unfold rdecP
    rw [if_pos hs, h]
    exact if_pos rfl
  rw [e]
  refine ⟨rofV_ok (rdecX_bd s) (rY_bd s), ?_⟩
  unfold rofV
  simp only [tmI, toF_one]
  exact ⟨one_ne, mul_one' _, mul_one' _, mul_one' _⟩
end Go.Proofs.YtmhfmhmpoobmlaaGreatDoor

/- What alive answers; EdwReads. -/
namespace Go.Proofs.YtmhfmhmpoobmlaaGreatDoor
open Go.RowKit

theorem bs_bt (s : ByteArray) (hs : s.size = 32) (f : Nat → Int) (hf : ∀ i, i < 32 → f i = bt s i) : bs ((List.range 32).map f) = s := by
  have hm : (List.range 32).map f = (List.range 32).map (bt s) := List.map_congr_left fun i hi => hf i (List.mem_range.1 hi)
  rw [hm]
  have hd : (bs ((List.range 32).map (bt s))).data = s.data := by
    apply Array.ext_getElem?
    intro i
    have hs' : s.data.size = 32 := hs
    by_cases hi : i < 32
    · simp only [bs, List.getElem?_toArray, List.getElem?_map, List.getElem?_range hi, Option.map_some, bt]
      rw [Array.getElem?_eq_getElem (by omega)]
      simp
    · simp only [bs, List.getElem?_toArray]
      rw [List.getElem?_eq_none (by simp; omega), Array.getElem?_eq_none (by omega)]
  cases s
  unfold bs at *
  simp only at hd
  rw [hd]
/- Some answers. -/
theorem baseS_size : baseS.size = 32 := by decide
theorem base_b : rdecB baseS = true := by
  unfold rdecB rX
  rw [rr_eq]
  decide +kernel
def baseQ : Pt := decPt baseS base_b
theorem base_rep : Rep base5 baseQ := dec_rep baseS_size base_b
theorem rbase_rep : RRep (rdecP baseS) baseQ := rdec_rep baseS_size base_b
theorem base_c : decC baseS = 0 := by
  unfold decC
  rw [if_pos baseS_size, dec_eq, base_b]
  exact if_pos rfl
theorem c_base (w : World) : Calls Tryz.prog 25 #[] w fun r w' => r = .returned (.agg (arr 20 base5.f)) ∧ Below w.heap.size w w' := c_base_of base_c w
def BX : Int := 15112221349535400772501151409588531511454012693041857206046113283949847762202
def BY : Int := 46316835694926478169428394003475163141307993866256225615783033603165251855960
theorem base_x : rdecX baseS = BX := by
  unfold rdecX rX
  rw [rr_eq]
  decide +kernel
theorem base_y : rY baseS = BY := by decide +kernel
theorem base_q : rdecP baseS = rofV BX BY := by
  unfold rdecP
  rw [if_pos baseS_size, base_b, base_x, base_y]
  exact if_pos rfl
theorem base_big : rsmallV (rofV BX BY) = false := by decide +kernel
theorem base_nsmall : smallV base5 = false := by
  have h1 := base_rep.small
  have h2 := rbase_rep.small
  rw [base_q, base_big] at h2
  cases h : smallV base5
  · rfl
  · exact absurd (h2.2 (h1.1 h)) Bool.false_ne_true
end Go.Proofs.YtmhfmhmpoobmlaaGreatDoor

/- doubled, four times; few: the multiples of a point by half a byte. -/
namespace Go.Proofs.YtmhfmhmpoobmlaaGreatDoor
open Go.RowKit

structure dbl4F (p r1 r2 r3 r4 : Nat → Int) : Prop where
  h1 : ∀ w, Calls Tryz.prog 110 #[.agg (arr 20 p)] w fun r w' => r = .returned (.agg (arr 20 r1)) ∧ Below w.heap.size w w'
  h2 : ∀ w, Calls Tryz.prog 110 #[.agg (arr 20 r1)] w fun r w' => r = .returned (.agg (arr 20 r2)) ∧ Below w.heap.size w w'
  h3 : ∀ w, Calls Tryz.prog 110 #[.agg (arr 20 r2)] w fun r w' => r = .returned (.agg (arr 20 r3)) ∧ Below w.heap.size w w'
  h4 : ∀ w, Calls Tryz.prog 110 #[.agg (arr 20 r3)] w fun r w' => r = .returned (.agg (arr 20 r4)) ∧ Below w.heap.size w w'

set_option maxRecDepth 100000 in
set_option maxHeartbeats 4000000 in
theorem dbl4_gen (p r1 r2 r3 r4 : Nat → Int) (w : World) (F : dbl4F p r1 r2 r3 r4)  :
    Calls Tryz.prog 61 #[.agg (arr 20 p), .int .i64 4] w fun r w' => r = .returned (.agg (arr 20 r4)) ∧ Below w.heap.size w w' := by
  go_enter Tryz.func61, Tryz.ntmps61
  have M := Mem.start w
  refine wp_seq ?_
  refine rg_lit ?_
  refine zN M 2 (.cells (arr 20 p) 60) fun g1 w1 M => ?_
  refine zN M 4 (.cells (arr 20 (fun _ => 0)) 60) fun g2 w2 M => ?_
  refine pl_nil ?_
  refine au_then ?_
  refine wp_seq ?_
  refine wp_seq ?_
  refine rg_lit ?_
  refine pl_val (want_no rfl) (some 5) rfl (.int .i64 4) (fun _ => by kernel_rfl) ?_
  refine pl_val (want_no rfl) (some 6) rfl (.int .i64 0) (fun _ => by kernel_rfl) ?_
  refine pl_nil ?_
  refine au_then ?_
  refine wp_block ?_
  refine wp_loop_rounds 5 ?_
  refine rounds_go ?_
  refine wp_seq ?_
  refine rg_lit ?_
  refine pl_val (want_no rfl) (some 7) rfl (.bool true) (fun _ => by kernel_rfl) ?_
  refine pl_nil ?_
  refine au_then ?_
  refine wp_seq ?_
  refine wp_cond_true (by kernel_rfl) ?_
  refine wp_skip ?_
  refine au_then ?_
  refine wp_seq ?_
  refine wp_block ?_
  refine rg_lit ?_
  refine zA M 8 0 rfl ?_
  refine zC M 9 F.h1 fun w3 M => ?_
  refine zW M 0 rfl r1 fun w4 M => ?_
  refine pl_nil ?_
  refine au_block ?_
  refine au_then ?_
  refine rg_lit ?_
  refine pl_val (want_no rfl) (some 10) rfl (.int .i64 1) (fun _ => by kernel_rfl) ?_
  refine pl_val (want_no rfl) (some 6) rfl (.int .i64 1) (fun _ => by kernel_rfl) ?_
  refine pl_nil ?_
  refine au_then ?_
  refine rounds_go ?_
  refine wp_seq ?_
  refine rg_lit ?_
  refine pl_val (want_no rfl) (some 7) rfl (.bool true) (fun _ => by kernel_rfl) ?_
  refine pl_nil ?_
  refine au_then ?_
  refine wp_seq ?_
  refine wp_cond_true (by kernel_rfl) ?_
  refine wp_skip ?_
  refine au_then ?_
  refine wp_seq ?_
  refine wp_block ?_
  refine rg_lit ?_
  refine zA M 8 0 rfl ?_
  refine zC M 9 F.h2 fun w5 M => ?_
  refine zW M 0 rfl r2 fun w6 M => ?_
  refine pl_nil ?_
  refine au_block ?_
  refine au_then ?_
  refine rg_lit ?_
  refine pl_val (want_no rfl) (some 10) rfl (.int .i64 2) (fun _ => by kernel_rfl) ?_
  refine pl_val (want_no rfl) (some 6) rfl (.int .i64 2) (fun _ => by kernel_rfl) ?_
  refine pl_nil ?_
  refine au_then ?_
  refine rounds_go ?_
  refine wp_seq ?_
  refine rg_lit ?_
  refine pl_val (want_no rfl) (some 7) rfl (.bool true) (fun _ => by kernel_rfl) ?_
  refine pl_nil ?_
  refine au_then ?_
  refine wp_seq ?_
  refine wp_cond_true (by kernel_rfl) ?_
  refine wp_skip ?_
  refine au_then ?_
  refine wp_seq ?_
  refine wp_block ?_
  refine rg_lit ?_
  refine zA M 8 0 rfl ?_
  refine zC M 9 F.h3 fun w7 M => ?_
  refine zW M 0 rfl r3 fun w8 M => ?_
  refine pl_nil ?_
  refine au_block ?_
  refine au_then ?_
  refine rg_lit ?_
  refine pl_val (want_no rfl) (some 10) rfl (.int .i64 3) (fun _ => by kernel_rfl) ?_
  refine pl_val (want_no rfl) (some 6) rfl (.int .i64 3) (fun _ => by kernel_rfl) ?_
  refine pl_nil ?_
  refine au_then ?_
  refine rounds_go ?_
  refine wp_seq ?_
  refine rg_lit ?_
  refine pl_val (want_no rfl) (some 7) rfl (.bool true) (fun _ => by kernel_rfl) ?_
  refine pl_nil ?_
  refine au_then ?_
  refine wp_seq ?_
  refine wp_cond_true (by kernel_rfl) ?_
  refine wp_skip ?_
  refine au_then ?_
  refine wp_seq ?_
  refine wp_block ?_
  refine rg_lit ?_
  refine zA M 8 0 rfl ?_
  refine zC M 9 F.h4 fun w9 M => ?_
  refine zW M 0 rfl r4 fun w10 M => ?_
  refine pl_nil ?_
  refine au_block ?_
  refine au_then ?_
  refine rg_lit ?_
  refine pl_val (want_no rfl) (some 10) rfl (.int .i64 4) (fun _ => by kernel_rfl) ?_
  refine pl_val (want_no rfl) (some 6) rfl (.int .i64 4) (fun _ => by kernel_rfl) ?_
  refine pl_nil ?_
  refine au_then ?_
  refine rounds_go ?_
  refine wp_seq ?_
  refine rg_lit ?_
  refine pl_val (want_no rfl) (some 7) rfl (.bool false) (fun _ => by kernel_rfl) ?_
  refine pl_nil ?_
  refine au_then ?_
  refine wp_seq ?_
  refine wp_cond_false (by kernel_rfl) ?_
  refine wp_exit ?_
  refine au_then_exit ?_
  refine au_then_exit ?_
  refine au_block_exit ?_
  refine au_then ?_
  refine wp_seq ?_
  refine rg_lit ?_
  refine zA M 11 0 rfl ?_
  refine zW M 1 rfl r4 fun w11 M => ?_
  refine pl_nil ?_
  refine au_then ?_
  refine wp_ret ?_
  exact bodyPost_ret (v := .agg (arr 20 r4)) (results_cell_row Tryz.results61 _ _ g2 60 (arr 20 r4) (0, 0) _ (by kernel_rfl) (M.get 1 rfl) Tryz.underlying60 rfl (by rw [arr_size]; exact inz60)) (by kernel_rfl) ⟨rfl, M.old⟩

def d4 (p : P5) : P5 := dblF (dblF (dblF (dblF p)))
theorem d4_ok {p : P5} (hp : p.Ok) : (d4 p).Ok := dblF_ok (dblF_ok (dblF_ok (dblF_ok hp)))
theorem c_dbl4 (p : P5) (w : World) (hp : p.Ok) : Calls Tryz.prog 61 #[.agg (arr 20 p.f), .int .i64 4] w fun r w' => r = .returned (.agg (arr 20 (d4 p).f)) ∧ Below w.heap.size w w' :=
  dbl4_gen p.f (dblF p).f (dblF (dblF p)).f (dblF (dblF (dblF p))).f (d4 p).f w { h1 := fun w => c_double p w hp, h2 := fun w => c_double _ w (dblF_ok hp), h3 := fun w => c_double _ w (dblF_ok (dblF_ok hp)), h4 := fun w => c_double _ w (dblF_ok (dblF_ok (dblF_ok hp))) }
/-- The point as often as k tells, one by one. -/
def mulT (p : P5) : Nat → P5
  | 0 => zero5
  | k + 1 => sumF (mulT p k) p
theorem mulT_ok {p : P5} (hp : p.Ok) : ∀ k, (mulT p k).Ok
  | 0 => zero5_ok
  | k + 1 => sumF_ok (mulT_ok hp k) hp
/-- The first n of them, one behind the other. -/
def fw (p : P5) (n : Nat) : Nat → Int := fun i => if i / 20 < n then (mulT p (i / 20)).f (i % 20) else 0
theorem fw_part (p : P5) {n k : Nat} (h : k < n) : Part (fw p n) (k * 20) 20 (mulT p k).f := fun i hi => by
  unfold fw
  rw [show (k * 20 + i) / 20 = k by omega, show (k * 20 + i) % 20 = i by omega, if_pos h]
theorem fw_one (p : P5) : arr 320 (fw p 1) = arr 320 (fun i => if i < 20 then zero5.f i else 0) := by
  apply Array.ext_getElem?
  intro i
  by_cases hi : i < 320
  · rw [arr_get _ _ _ hi, arr_get _ _ _ hi]
    unfold fw
    by_cases h : i < 20
    · rw [if_pos (by omega), if_pos h, show i / 20 = 0 by omega, show i % 20 = i by omega]
      rfl
    · rw [if_neg (by omega), if_neg h]
  · rw [Array.getElem?_eq_none (by rw [arr_size]; omega), Array.getElem?_eq_none (by rw [arr_size]; omega)]
theorem fw_next (p : P5) (k : Nat) : ∀ j, j < 320 → (if k * 20 ≤ j ∧ j < k * 20 + 20 then (mulT p k).f (j - k * 20) else fw p k j) = fw p (k + 1) j := fun j _ => by
  unfold fw
  by_cases h : k * 20 ≤ j ∧ j < k * 20 + 20
  · rw [if_pos h, show j / 20 = k by omega, if_pos (by omega), show j - k * 20 = j % 20 by omega]
  · rw [if_neg h]
    by_cases h2 : j / 20 < k
    · rw [if_pos h2, if_pos (by omega)]
    · rw [if_neg h2, if_neg (by omega)]

structure fewF (p : P5)  : Prop where
  h0 : True

set_option maxRecDepth 100000 in
set_option maxHeartbeats 4000000 in
theorem few_gen (p : P5)  (w : World) (_F : fewF p ) (hp : p.Ok) :
    Calls Tryz.prog 59 #[.agg (arr 20 p.f)] w fun r w' => r = .returned (.agg (arr 320 (fw p (15 + 1)))) ∧ Below w.heap.size w w' := by
  go_enter Tryz.func59, Tryz.ntmps59
  have M := Mem.start w
  refine wp_seq ?_
  refine rg_lit ?_
  refine zN M 1 (.cells (arr 20 p.f) 60) fun g1 w1 M => ?_
  refine zN M 2 (.cells (arr 320 (fun _ => 0)) 85) fun g2 w2 M => ?_
  refine pl_nil ?_
  refine au_then ?_
  refine wp_seq ?_
  refine rg_lit ?_
  refine zC M 5 c_zero fun w3 M => ?_
  refine pl_val (want_no rfl) (some 6) rfl (.agg (arr 320 (fw p 1))) (fun w => Eq.trans (b := .ok (.value (.agg (arr 320 (fun i => if i < 20 then zero5.f i else 0)))) w) (by kernel_rfl) (by rw [fw_one])) ?_
  refine zN M 3 (.cells (arr 320 (fun _ => 0)) 85) fun g3 w4 M => ?_
  refine zW M 2 rfl (fw p 1) fun w5 M => ?_
  refine pl_nil ?_
  refine au_then ?_
  refine wp_seq ?_
  refine wp_seq ?_
  refine rg_lit ?_
  refine pl_val (want_no rfl) (some 4) rfl (.int .i64 1) (fun _ => by kernel_rfl) ?_
  refine pl_nil ?_
  refine au_then ?_
  refine wp_block ?_
  refine au_loop (fun j a w' => ∃ (v : Nat → Value), a = ⟨#[.agg (arr 20 p.f), .pointer (some ⟨g1, 0, none⟩), .pointer (some ⟨g2, 0, none⟩), .pointer (some ⟨g3, 0, none⟩), .int .i64 ((j + 1 : Nat) : Int), .agg (arr 20 zero5.f), .agg (arr 320 (fw p 1)), v 7, v 8, v 9, v 10, v 11, v 12, v 13, v 14, v 15, v 16, v 17, v 18, undef], []⟩ ∧ Mem w [⟨g1, .cells (arr 20 p.f) 60⟩, ⟨g2, .cells (arr 320 (fun _ => 0)) 85⟩, ⟨g3, .cells (arr 320 (fw p (j + 1))) 85⟩] w') 15 ⟨fun _ => undef, by kernel_rfl, M⟩ ?_ ?_
  · intro j a w1 hj hI
    obtain ⟨v, rfl, M⟩ := hI
    refine wp_seq ?_
    refine wp_seq ?_
    refine rg_lit ?_
    refine pl_val (want_no rfl) (some 7) rfl (.int .i64 ((j + 1 : Nat) : Int)) (fun _ => by kernel_rfl) ?_
    refine pl_val (want_no rfl) (some 8) rfl (.bool true) (fun w => Eq.trans (b := .ok (.value (.bool (decide (((j + 1 : Nat) : Int) < 16)))) w) (by kernel_rfl) (by rw [decide_eq_true (by omega)])) ?_
    refine pl_nil ?_
    refine au_then ?_
    refine wp_cond_true (by kernel_rfl) ?_
    refine wp_skip ?_
    refine au_then ?_
    refine wp_seq ?_
    refine wp_block ?_
    refine rg_tail M 8 (by kernel_rfl) (by kernel_rfl) ?_
    simp only [List.take_succ_cons, List.take_zero]
    refine k_val (want_no rfl) (some 11) rfl (.int .i64 ((j + 1 : Nat) : Int)) (fun _ => by kernel_rfl) ?_
    refine k_val (want_no rfl) (some 12) rfl (.int .i64 ((j + 1 : Nat) : Int)) (fun _ => by kernel_rfl) ?_
    refine k_val (want_no rfl) (some 13) rfl (.int .i64 (j : Int)) (fun w => Eq.trans (b := .ok (.value (.int .i64 (IntKind.wrap .i64 (((j + 1 : Nat) : Int) - 1)))) w) (by kernel_rfl) (by rw [wrap64 (by omega) (by omega)]; rw [show ((j + 1 : Nat) : Int) - 1 = (j : Int) by omega])) ?_
    refine k_val (want_no rfl) (some 14) rfl (.pointer (some ⟨g3, j * 20, none⟩)) (fun w => run_ix 85 16 20 60 Tryz.underlying85 inz60 _ _ rfl g3 (by kernel_rfl) .i64 j (by kernel_rfl) (by omega) w) ?_
    refine k_load M (want_no rfl) (some 15) rfl 60 _ rfl 2 g3 (j * 20) (by kernel_rfl) 320 85 (fw p (j + 1)) rfl 20 (mulT p j).f (fw_part p (by omega)) (by omega) _ Tryz.underlying60 rfl inz60 ?_
    refine wA M 16 0 rfl ?_
    refine k_call (want_no rfl) (some 17) rfl 62 #[.agg (arr 20 (mulT p j).f), .agg (arr 20 p.f)] (.agg (arr 20 (mulT p (j + 1)).f)) (fun _ => by kernel_rfl) (fun w => c_plus (mulT p j) p w (mulT_ok hp j) hp) ?_
    refine k_val (want_no rfl) (some 18) rfl (.pointer (some ⟨g3, (j + 1) * 20, none⟩)) (fun w => run_ix 85 16 20 60 Tryz.underlying85 inz60 _ _ rfl g3 (by kernel_rfl) .i64 (j + 1) (by kernel_rfl) (by omega) w) ?_
    refine kl_nil fun w6 M => ?_
    refine pl_putm M (want_no rfl) rfl 60 _ _ rfl 2 g3 ((j + 1) * 20) (by kernel_rfl) 320 85 (fw p (j + 1)) rfl 20 (mulT p (j + 1)).f (fw p (j + 1 + 1)) (by kernel_rfl) inz60 (by omega) (fw_next p (j + 1)) fun w7 M => ?_
    refine pl_nil ?_
    refine au_block ?_
    refine au_then ?_
    refine rg_lit ?_
    refine pl_val (want_no rfl) (some 9) rfl (.int .i64 ((j + 1 : Nat) : Int)) (fun _ => by kernel_rfl) ?_
    refine pl_val (want_no rfl) (some 10) rfl (.int .i64 ((j + 1 + 1 : Nat) : Int)) (fun w => Eq.trans (b := .ok (.value (.int .i64 (IntKind.wrap .i64 (((j + 1 : Nat) : Int) + 1)))) w) (by kernel_rfl) (by rw [wrap64 (by omega) (by omega)]; rfl)) ?_
    refine pl_val (want_no rfl) (some 4) rfl (.int .i64 ((j + 1 + 1 : Nat) : Int)) (fun _ => by kernel_rfl) ?_
    refine pl_nil ?_
    refine au_then ?_
    exact ⟨fun k => ([.int .i64 ((j + 1 : Nat) : Int), .bool true, .int .i64 ((j + 1 : Nat) : Int), .int .i64 ((j + 1 + 1 : Nat) : Int), .int .i64 ((j + 1 : Nat) : Int), .int .i64 ((j + 1 : Nat) : Int), .int .i64 (j : Int), .pointer (some ⟨g3, j * 20, none⟩), .agg (arr 20 (mulT p j).f), .agg (arr 20 p.f), .agg (arr 20 (mulT p (j + 1)).f), .pointer (some ⟨g3, (j + 1) * 20, none⟩)] : List Value).getD (k - 7) undef, by kernel_rfl, M⟩
  · intro a w1 hI
    obtain ⟨v, rfl, M⟩ := hI
    refine wp_seq ?_
    refine wp_seq ?_
    refine rg_lit ?_
    refine pl_val (want_no rfl) (some 7) rfl (.int .i64 ((15 + 1 : Nat) : Int)) (fun _ => by kernel_rfl) ?_
    refine pl_val (want_no rfl) (some 8) rfl (.bool false) (fun w => Eq.trans (b := .ok (.value (.bool (decide (((15 + 1 : Nat) : Int) < 16)))) w) (by kernel_rfl) (by rw [decide_eq_false (by omega)])) ?_
    refine pl_nil ?_
    refine au_then ?_
    refine wp_cond_false (by kernel_rfl) ?_
    refine wp_exit ?_
    refine au_then_exit ?_
    refine au_then_exit ?_
    refine au_block_exit ?_
    refine au_then ?_
    refine wp_seq ?_
    refine rg_lit ?_
    refine zA M 19 2 rfl ?_
    refine zW M 1 rfl (fw p (15 + 1)) fun w8 M => ?_
    refine pl_nil ?_
    refine au_then ?_
    refine wp_ret ?_
    exact bodyPost_ret (v := .agg (arr 320 (fw p (15 + 1)))) (results_cell_row Tryz.results59 _ _ g2 85 (arr 320 (fw p (15 + 1))) (0, 0) _ (by kernel_rfl) (M.get 1 rfl) Tryz.underlying85 rfl (by rw [arr_size]; exact inz85)) (by kernel_rfl) ⟨rfl, M.old⟩
theorem c_few (p : P5) (w : World) (hp : p.Ok) : Calls Tryz.prog 59 #[.agg (arr 20 p.f)] w fun r w' => r = .returned (.agg (arr 320 (fw p 16))) ∧ Below w.heap.size w w' := few_gen p w ⟨trivial⟩ hp

end Go.Proofs.YtmhfmhmpoobmlaaGreatDoor

/- Mul: a point, added as often as a scalar tells. -/
namespace Go.Proofs.YtmhfmhmpoobmlaaGreatDoor
open Go.RowKit

/-- The point, doubled and added to as the first j bytes from the highest on tell. -/
def acc (p : P5) (s : ByteArray) : Nat → P5
  | 0 => zero5
  | j + 1 => sumF (d4 (sumF (d4 (acc p s j)) (mulT p (bt s (31 - j) / 16).toNat))) (mulT p (bt s (31 - j) % 16).toNat)
theorem acc_ok {p : P5} (hp : p.Ok) (s : ByteArray) : ∀ j, (acc p s j).Ok
  | 0 => zero5_ok
  | j + 1 => sumF_ok (d4_ok (sumF_ok (d4_ok (acc_ok hp s j)) (mulT_ok hp _))) (mulT_ok hp _)
theorem bits_lo {x : Int} (h0 : 0 ≤ x) (h1 : x < 256) : bits .and .u8 x 15 = x % 16 := by
  obtain ⟨n, rfl⟩ : ∃ n : Nat, x = n := ⟨x.toNat, by omega⟩
  have h : ∀ n : Fin 256, bits .and .u8 ((n.val : Nat) : Int) 15 = ((n.val : Nat) : Int) % 16 := by decide +kernel
  exact h ⟨n, by omega⟩

structure mulYF (p : P5) (k : Nat → Int) (s : ByteArray)  : Prop where
  h0 : True

set_option maxRecDepth 100000 in
set_option maxHeartbeats 4000000 in
theorem mulY_gen (p : P5) (k : Nat → Int) (s : ByteArray)  (w : World) (_F : mulYF p k s ) (hp : p.Ok) (hn : noneB p = false) (hs : s.size = 32) (hB : ∀ w, Calls Tryz.prog 30 #[.agg (arr 4 k)] w fun r w' => r = .returned (.string s) ∧ Below w.heap.size w w') :
    Calls Tryz.prog 26 #[.agg (arr 20 p.f), .agg (arr 4 k)] w fun r w' => r = .returned (.agg (arr 20 (acc p s 32).f)) ∧ Below w.heap.size w w' := by
  go_enter Tryz.func26, Tryz.ntmps26
  have M := Mem.start w
  refine wp_seq ?_
  refine rg_lit ?_
  refine zN M 2 (.cells (arr 20 p.f) 60) fun g1 w1 M => ?_
  refine zN M 3 (.cells (arr 4 k) 44) fun g2 w2 M => ?_
  refine zN M 4 (.cells (arr 20 (fun _ => 0)) 60) fun g3 w3 M => ?_
  refine pl_nil ?_
  refine au_then ?_
  refine wp_seq ?_
  refine wp_seq ?_
  refine rg_lit ?_
  refine zA M 9 0 rfl ?_
  refine pl_call M (want_no rfl) (some 10) rfl 58 #[.agg (arr 20 p.f)] (.bool false) (fun _ => by kernel_rfl) (none_b hp hn) fun w4 M => ?_
  refine pl_nil ?_
  refine au_then ?_
  refine wp_cond_false (by kernel_rfl) ?_
  refine wp_skip ?_
  refine au_then ?_
  refine wp_seq ?_
  refine rg_lit ?_
  refine zA M 12 0 rfl ?_
  refine pl_call M (want_no rfl) (some 13) rfl 59 #[.agg (arr 20 p.f)] (.agg (arr 320 (fw p 16))) (fun _ => by kernel_rfl) (fun w => c_few p w hp) fun w5 M => ?_
  refine zN M 5 (.cells (arr 320 (fun _ => 0)) 85) fun g4 w6 M => ?_
  refine zW M 3 rfl (fw p 16) fun w7 M => ?_
  refine pl_nil ?_
  refine au_then ?_
  refine wp_seq ?_
  refine rg_lit ?_
  refine zA M 14 1 rfl ?_
  refine pl_call M (want_no rfl) (some 15) rfl 30 #[.agg (arr 4 k)] (.string s) (fun _ => by kernel_rfl) hB fun w8 M => ?_
  refine pl_val (want_no rfl) (some 6) rfl (.string s) (fun _ => by kernel_rfl) ?_
  refine pl_nil ?_
  refine au_then ?_
  refine wp_seq ?_
  refine rg_lit ?_
  refine zC M 16 c_zero fun w9 M => ?_
  refine zN M 7 (.cells (arr 20 (fun _ => 0)) 60) fun g5 w10 M => ?_
  refine zW M 4 rfl zero5.f fun w11 M => ?_
  refine pl_nil ?_
  refine au_then ?_
  refine wp_seq ?_
  refine wp_seq ?_
  refine rg_lit ?_
  refine pl_val (want_no rfl) (some 8) rfl (.int .i64 31) (fun _ => by kernel_rfl) ?_
  refine pl_nil ?_
  refine au_then ?_
  refine wp_block ?_
  refine au_loop (fun j a w' => ∃ (m : Int) (v : Nat → Value), m = 31 - (j : Int) ∧ a = ⟨#[.agg (arr 20 p.f), .agg (arr 4 k), .pointer (some ⟨g1, 0, none⟩), .pointer (some ⟨g2, 0, none⟩), .pointer (some ⟨g3, 0, none⟩), .pointer (some ⟨g4, 0, none⟩), .string s, .pointer (some ⟨g5, 0, none⟩), .int .i64 m, .agg (arr 20 p.f), .bool false, undef, .agg (arr 20 p.f), .agg (arr 320 (fw p 16)), .agg (arr 4 k), .string s, .agg (arr 20 zero5.f), v 17, v 18, v 19, v 20, v 21, v 22, v 23, v 24, v 25, v 26, v 27, v 28, v 29, v 30, v 31, v 32, v 33, v 34, v 35, v 36, v 37, v 38, undef], []⟩ ∧ Mem w [⟨g1, .cells (arr 20 p.f) 60⟩, ⟨g2, .cells (arr 4 k) 44⟩, ⟨g3, .cells (arr 20 (fun _ => 0)) 60⟩, ⟨g4, .cells (arr 320 (fw p 16)) 85⟩, ⟨g5, .cells (arr 20 (acc p s j).f) 60⟩] w') 32 ⟨31, fun _ => undef, rfl, by kernel_rfl, M⟩ ?_ ?_
  · intro j a w1 hj hI
    obtain ⟨m0, v, hm, rfl, M⟩ := hI
    obtain ⟨m, rfl⟩ : ∃ m : Nat, m0 = m := ⟨31 - j, by omega⟩
    have hb := bt_bd s m
    obtain ⟨h, hh⟩ : ∃ h : Nat, bt s m / 16 = h := ⟨(bt s m / 16).toNat, by omega⟩
    obtain ⟨l, hl⟩ : ∃ l : Nat, bt s m % 16 = l := ⟨(bt s m % 16).toNat, by omega⟩
    have hA : acc p s (j + 1) = sumF (d4 (sumF (d4 (acc p s j)) (mulT p h))) (mulT p l) := by
      show sumF (d4 (sumF (d4 (acc p s j)) (mulT p (bt s (31 - j) / 16).toNat))) (mulT p (bt s (31 - j) % 16).toNat) = _
      rw [show 31 - j = m by omega, hh, hl, Int.toNat_natCast, Int.toNat_natCast]
    refine wp_seq ?_
    refine wp_seq ?_
    refine rg_lit ?_
    refine pl_val (want_no rfl) (some 17) rfl (.int .i64 (m : Int)) (fun _ => by kernel_rfl) ?_
    refine pl_val (want_no rfl) (some 18) rfl (.bool true) (fun w => Eq.trans (b := .ok (.value (.bool (decide (0 ≤ (m : Int))))) w) (by kernel_rfl) (by rw [decide_eq_true (by omega)])) ?_
    refine pl_nil ?_
    refine au_then ?_
    refine wp_cond_true (by kernel_rfl) ?_
    refine wp_skip ?_
    refine au_then ?_
    refine wp_seq ?_
    refine wp_block ?_
    refine wp_seq ?_
    refine rg_tail M 9 (by kernel_rfl) (by kernel_rfl) ?_
    simp only [List.take_succ_cons, List.take_zero]
    refine k_load M (want_no rfl) (some 21) rfl 60 _ rfl 4 g5 0 (by kernel_rfl) 20 60 (acc p s j).f rfl 20 (acc p s j).f (Part.all _ _) (by decide) _ Tryz.underlying60 rfl inz60 ?_
    refine k_call (want_no rfl) (some 22) rfl 61 #[.agg (arr 20 (acc p s j).f), .int .i64 4] (.agg (arr 20 (d4 (acc p s j)).f)) (fun _ => by kernel_rfl) (fun w => c_dbl4 (acc p s j) w (acc_ok hp s j)) ?_
    refine k_val (want_no rfl) (some 23) rfl (.string s) (fun _ => by kernel_rfl) ?_
    refine k_val (want_no rfl) (some 24) rfl (.int .i64 (m : Int)) (fun _ => by kernel_rfl) ?_
    refine k_val (want_no rfl) (some 25) rfl (.int .u8 (bt s m)) (fun w => run_ixS 9 Tryz.underlying9 _ _ rfl s (by kernel_rfl) .i64 m (by kernel_rfl) (by omega) w) ?_
    refine k_val (want_no rfl) (some 26) rfl (.int .u8 (h : Int)) (fun w => run_bin .shr 5 _ _ rfl (by kernel_rfl) (by kernel_rfl) (fun _ => by kernel_rfl) (fun w => by rw [← hh]; exact run_shr4 _ w) w) ?_
    refine k_val (want_no rfl) (some 27) rfl (.pointer (some ⟨g4, h * 20, none⟩)) (fun w => run_ix 85 16 20 60 Tryz.underlying85 inz60 _ _ rfl g4 (by kernel_rfl) .u8 h (by kernel_rfl) (by omega) w) ?_
    refine k_load M (want_no rfl) (some 28) rfl 60 _ rfl 3 g4 (h * 20) (by kernel_rfl) 320 85 (fw p 16) rfl 20 (mulT p h).f (fw_part p (by omega)) (by omega) _ Tryz.underlying60 rfl inz60 ?_
    refine k_call (want_no rfl) (some 29) rfl 62 #[.agg (arr 20 (d4 (acc p s j)).f), .agg (arr 20 (mulT p h).f)] (.agg (arr 20 (sumF (d4 (acc p s j)) (mulT p h)).f)) (fun _ => by kernel_rfl) (fun w => c_plus (d4 (acc p s j)) (mulT p h) w (d4_ok (acc_ok hp s j)) (mulT_ok hp _)) ?_
    refine kl_nil fun w12 M => ?_
    refine pl_put M (want_no rfl) rfl 60 _ _ rfl 4 g5 (by kernel_rfl) 20 60 (acc p s j).f (sumF (d4 (acc p s j)) (mulT p h)).f rfl (by kernel_rfl) inz60 fun w13 M => ?_
    refine pl_nil ?_
    refine au_then ?_
    refine rg_tail M 9 (by kernel_rfl) (by kernel_rfl) ?_
    simp only [List.take_succ_cons, List.take_zero]
    refine k_load M (want_no rfl) (some 30) rfl 60 _ rfl 4 g5 0 (by kernel_rfl) 20 60 (sumF (d4 (acc p s j)) (mulT p h)).f rfl 20 (sumF (d4 (acc p s j)) (mulT p h)).f (Part.all _ _) (by decide) _ Tryz.underlying60 rfl inz60 ?_
    refine k_call (want_no rfl) (some 31) rfl 61 #[.agg (arr 20 (sumF (d4 (acc p s j)) (mulT p h)).f), .int .i64 4] (.agg (arr 20 (d4 (sumF (d4 (acc p s j)) (mulT p h))).f)) (fun _ => by kernel_rfl) (fun w => c_dbl4 (sumF (d4 (acc p s j)) (mulT p h)) w (sumF_ok (d4_ok (acc_ok hp s j)) (mulT_ok hp _))) ?_
    refine k_val (want_no rfl) (some 32) rfl (.string s) (fun _ => by kernel_rfl) ?_
    refine k_val (want_no rfl) (some 33) rfl (.int .i64 (m : Int)) (fun _ => by kernel_rfl) ?_
    refine k_val (want_no rfl) (some 34) rfl (.int .u8 (bt s m)) (fun w => run_ixS 9 Tryz.underlying9 _ _ rfl s (by kernel_rfl) .i64 m (by kernel_rfl) (by omega) w) ?_
    refine k_val (want_no rfl) (some 35) rfl (.int .u8 (l : Int)) (fun w => Eq.trans (b := .ok (.value (.int .u8 (bits .and .u8 (bt s m) 15))) w) (by kernel_rfl) (by rw [bits_lo hb.1 hb.2, hl])) ?_
    refine k_val (want_no rfl) (some 36) rfl (.pointer (some ⟨g4, l * 20, none⟩)) (fun w => run_ix 85 16 20 60 Tryz.underlying85 inz60 _ _ rfl g4 (by kernel_rfl) .u8 l (by kernel_rfl) (by omega) w) ?_
    refine k_load M (want_no rfl) (some 37) rfl 60 _ rfl 3 g4 (l * 20) (by kernel_rfl) 320 85 (fw p 16) rfl 20 (mulT p l).f (fw_part p (by omega)) (by omega) _ Tryz.underlying60 rfl inz60 ?_
    refine k_call (want_no rfl) (some 38) rfl 62 #[.agg (arr 20 (d4 (sumF (d4 (acc p s j)) (mulT p h))).f), .agg (arr 20 (mulT p l).f)] (.agg (arr 20 (sumF (d4 (sumF (d4 (acc p s j)) (mulT p h))) (mulT p l)).f)) (fun _ => by kernel_rfl) (fun w => c_plus (d4 (sumF (d4 (acc p s j)) (mulT p h))) (mulT p l) w (d4_ok (sumF_ok (d4_ok (acc_ok hp s j)) (mulT_ok hp _))) (mulT_ok hp _)) ?_
    refine kl_nil fun w14 M => ?_
    refine pl_put M (want_no rfl) rfl 60 _ _ rfl 4 g5 (by kernel_rfl) 20 60 (sumF (d4 (acc p s j)) (mulT p h)).f (sumF (d4 (sumF (d4 (acc p s j)) (mulT p h))) (mulT p l)).f rfl (by kernel_rfl) inz60 fun w15 M => ?_
    refine pl_nil ?_
    refine au_block ?_
    refine au_then ?_
    refine rg_lit ?_
    refine pl_val (want_no rfl) (some 19) rfl (.int .i64 (m : Int)) (fun _ => by kernel_rfl) ?_
    refine pl_val (want_no rfl) (some 20) rfl (.int .i64 ((m : Int) - 1)) (fun w => Eq.trans (b := .ok (.value (.int .i64 (IntKind.wrap .i64 ((m : Int) - 1)))) w) (by kernel_rfl) (by rw [wrap64 (by omega) (by omega)])) ?_
    refine pl_val (want_no rfl) (some 8) rfl (.int .i64 ((m : Int) - 1)) (fun _ => by kernel_rfl) ?_
    refine pl_nil ?_
    refine au_then ?_
    refine ⟨(m : Int) - 1, fun k => ([.int .i64 (m : Int), .bool true, .int .i64 (m : Int), .int .i64 ((m : Int) - 1), .agg (arr 20 (acc p s j).f), .agg (arr 20 (d4 (acc p s j)).f), .string s, .int .i64 (m : Int), .int .u8 (bt s m), .int .u8 (h : Int), .pointer (some ⟨g4, h * 20, none⟩), .agg (arr 20 (mulT p h).f), .agg (arr 20 (sumF (d4 (acc p s j)) (mulT p h)).f), .agg (arr 20 (sumF (d4 (acc p s j)) (mulT p h)).f), .agg (arr 20 (d4 (sumF (d4 (acc p s j)) (mulT p h))).f), .string s, .int .i64 (m : Int), .int .u8 (bt s m), .int .u8 (l : Int), .pointer (some ⟨g4, l * 20, none⟩), .agg (arr 20 (mulT p l).f), .agg (arr 20 (sumF (d4 (sumF (d4 (acc p s j)) (mulT p h))) (mulT p l)).f)] : List Value).getD (k - 17) undef, by omega, by kernel_rfl, ?_⟩
    rw [hA]
    exact M
  · intro a w1 hI
    obtain ⟨m, v, hm, rfl, M⟩ := hI
    refine wp_seq ?_
    refine wp_seq ?_
    refine rg_lit ?_
    refine pl_val (want_no rfl) (some 17) rfl (.int .i64 m) (fun _ => by kernel_rfl) ?_
    refine pl_val (want_no rfl) (some 18) rfl (.bool false) (fun w => Eq.trans (b := .ok (.value (.bool (decide (0 ≤ m)))) w) (by kernel_rfl) (by rw [decide_eq_false (by omega)])) ?_
    refine pl_nil ?_
    refine au_then ?_
    refine wp_cond_false (by kernel_rfl) ?_
    refine wp_exit ?_
    refine au_then_exit ?_
    refine au_then_exit ?_
    refine au_block_exit ?_
    refine au_then ?_
    refine wp_seq ?_
    refine rg_lit ?_
    refine pl_load M (want_no rfl) (some 39) rfl 60 _ rfl 4 g5 0 (by kernel_rfl) 20 60 (acc p s 32).f rfl 20 (acc p s 32).f (Part.all _ _) (by decide) _ Tryz.underlying60 rfl inz60 ?_
    refine pl_put M (want_no rfl) rfl 60 _ _ rfl 2 g3 (by kernel_rfl) 20 60 (fun _ => 0) (acc p s 32).f rfl (by kernel_rfl) inz60 fun w16 M => ?_
    refine pl_nil ?_
    refine au_then ?_
    refine wp_ret ?_
    exact bodyPost_ret (v := .agg (arr 20 (acc p s 32).f)) (results_cell_row Tryz.results26 _ _ g3 60 (arr 20 (acc p s 32).f) (0, 0) _ (by kernel_rfl) (M.get 2 rfl) Tryz.underlying60 rfl (by rw [arr_size]; exact inz60)) (by kernel_rfl) ⟨rfl, M.old⟩

end Go.Proofs.YtmhfmhmpoobmlaaGreatDoor

/- Contracts of Mul64, Add64, Sub64 and productAnd. -/
namespace Go.Proofs.YtmhfmhmpoobmlaaGreatDoor.Ord
open Go.RowKit

theorem maskN (a : Nat) (ha : a < 18446744073709551616) : bits .and .u64 (a : Int) 4294967295 = ((a % 4294967296 : Nat) : Int) := by
  have h := bits_and_u64_nat a 4294967295 ha (by omega)
  have e : a &&& 4294967295 = a % 4294967296 := Nat.and_two_pow_sub_one_eq_mod a 32
  rw [e] at h
  exact h
theorem divN (a : Nat) : (a : Int) / 4294967296 = ((a / 4294967296 : Nat) : Int) := by omega
theorem mulN (a b : Nat) : (a : Int) * (b : Int) = ((a * b : Nat) : Int) := (Int.natCast_mul a b).symm
theorem addN (a b : Nat) : (a : Int) + (b : Int) = ((a + b : Nat) : Int) := (Int.natCast_add a b).symm
theorem wrapN (a : Nat) (ha : a < 18446744073709551616) : IntKind.u64.wrap (a : Int) = (a : Int) := by rw [IntKind.wrap_u64]; omega
theorem wrapM (a : Nat) : IntKind.u64.wrap (a : Int) = ((a % 18446744073709551616 : Nat) : Int) := by rw [IntKind.wrap_u64]; omega

set_option maxHeartbeats 1000000 in
theorem mul64_nat (x y : Nat) (hx : x < 18446744073709551616) (hy : y < 18446744073709551616) (w : World) :
    Calls Tryz.prog 140 #[.int .u64 x, .int .u64 y] w fun e w' => e = .returned (.tuple #[.int .u64 ((x * y / 18446744073709551616 : Nat) : Int), .int .u64 ((x * y % 18446744073709551616 : Nat) : Int)]) ∧ w' = w := by
  obtain ⟨bd, bt, bw, hhi⟩ := Lib.mul64_hi x y hx hy
  have ba := Lib.half_mul_le (a := x / 4294967296) (b := y / 4294967296) (by omega) (by omega)
  have bb := Lib.half_mul_le (a := x / 4294967296) (b := y % 4294967296) (by omega) (by omega)
  have bc := Lib.half_mul_le (a := x % 4294967296) (b := y / 4294967296) (by omega) (by omega)
  have ba' : x / 4294967296 * (y / 4294967296) < 18446744073709551616 := by omega
  have bb' : x / 4294967296 * (y % 4294967296) < 18446744073709551616 := by omega
  have bc' : x % 4294967296 * (y / 4294967296) < 18446744073709551616 := by omega
  have bh1 : x / 4294967296 * (y / 4294967296) + (x / 4294967296 * (y % 4294967296) + x % 4294967296 * (y % 4294967296) / 4294967296) / 4294967296 < 18446744073709551616 := by omega
  have bh : x / 4294967296 * (y / 4294967296) + (x / 4294967296 * (y % 4294967296) + x % 4294967296 * (y % 4294967296) / 4294967296) / 4294967296 + ((x / 4294967296 * (y % 4294967296) + x % 4294967296 * (y % 4294967296) / 4294967296) % 4294967296 + x % 4294967296 * (y / 4294967296)) / 4294967296 < 18446744073709551616 := by omega
  go_enter Tryz.func140, Tryz.ntmps140
  go_wp2
  simp only [maskN x hx, maskN y hy, divN, mulN, addN, wrapN _ bd, wrapN _ bb', wrapN _ bt, maskN _ bt, wrapN _ bc', wrapN _ bw, wrapN _ ba', wrapN _ bh1, wrapN _ bh, wrapM (x * y)]
  rw [hhi]
  go_ret2
  exact ⟨rfl, rfl⟩

theorem add64_run (x y c : Int) (hx : 0 ≤ x) (hy : 0 ≤ y) (hc0 : 0 ≤ c) (hc : c ≤ 1) (w : World) :
    (callFunc 124 #[.int .u64 x, .int .u64 y, .int .u64 c]).run Tryz.prog w =
      .ok (.value (.tuple #[.int .u64 ((x + y + c) % 18446744073709551616), .int .u64 ((x + y + c) / 18446744073709551616)])) w := by
  rw [run_callFunc_extern Tryz.func124 (by kernel_rfl) (by kernel_rfl) (by kernel_rfl) (e := add64Entry) (by kernel_rfl), run_add64 x y c hx hy hc0 hc]
  simp only [Result.andThen]

/-- The model's own row of Sub64. -/
abbrev sub64Row : Array Value → Sem Value := (Extern.MathBitsCarry.rows.getD 1 default).2

theorem run_sub64 (x y c : Int) (hx : W64 x) (hy : W64 y) (hc0 : 0 ≤ c) (hc : c ≤ 1) (w : World) :
    (sub64Row #[.int .u64 x, .int .u64 y, .int .u64 c]).run Tryz.prog w = .ok (.tuple #[.int .u64 ((x - y - c) % 18446744073709551616), .int .u64 (if x < y + c then 1 else 0)]) w := by
  have key : ∀ k : Nat, k ≤ 1 → (sub64Row #[.int .u64 x, .int .u64 y, .int .u64 (k : Int)]).run Tryz.prog w =
      .ok (Extern.MathBitsCarry.pair ((x.toNat + Extern.MathBitsCarry.m64 - y.toNat - k) % Extern.MathBitsCarry.m64) (if x.toNat < y.toNat + k then 1 else 0)) w := by
    intro k hk
    have : k = 0 ∨ k = 1 := by omega
    rcases this with rfl | rfl <;> rfl
  obtain ⟨k, rfl⟩ := Int.eq_ofNat_of_zero_le hc0
  rw [key k (by omega)]
  obtain ⟨X, rfl⟩ := Int.eq_ofNat_of_zero_le hx.1
  obtain ⟨Y, rfl⟩ := Int.eq_ofNat_of_zero_le hy.1
  have hX := hx.2
  have hY := hy.2
  simp only [Extern.MathBitsCarry.pair, Extern.MathBitsCarry.m64, Int.toNat_natCast]
  have e1 : Int.ofNat ((X + 2 ^ 64 - Y - k) % 2 ^ 64) = ((X : Int) - (Y : Int) - (k : Int)) % 18446744073709551616 := by
    show (((X + 2 ^ 64 - Y - k) % 2 ^ 64 : Nat) : Int) = _
    omega
  have e2 : Int.ofNat (if X < Y + k then 1 else 0) = if (X : Int) < (Y : Int) + (k : Int) then 1 else 0 := by
    by_cases h : X < Y + k
    · rw [if_pos h, if_pos (by omega)]; rfl
    · rw [if_neg h, if_neg (by omega)]; rfl
  rw [e1, e2]

theorem sub64_run (x y c : Int) (hx : W64 x) (hy : W64 y) (hc0 : 0 ≤ c) (hc : c ≤ 1) (w : World) :
    (callFunc 133 #[.int .u64 x, .int .u64 y, .int .u64 c]).run Tryz.prog w =
      .ok (.value (.tuple #[.int .u64 ((x - y - c) % 18446744073709551616), .int .u64 (if x < y + c then 1 else 0)])) w := by
  rw [run_callFunc_extern Tryz.func133 (by kernel_rfl) (by kernel_rfl) (by kernel_rfl) (e := sub64Row) (by kernel_rfl), run_sub64 x y c hx hy hc0 hc]
  simp only [Result.andThen]

set_option maxHeartbeats 1000000 in
theorem productAnd_any (x y a b : Int) (w : World) (hx : W64 x) (hy : W64 y) (ha : W64 a) (hb : W64 b) :
    Calls Tryz.prog 126 #[.int .u64 x, .int .u64 y, .int .u64 a, .int .u64 b] w fun r w' => r = .returned (.tuple #[.int .u64 ((x * y + a + b) % 18446744073709551616), .int .u64 ((x * y + a + b) / 18446744073709551616)]) ∧ w' = w := by
  obtain ⟨X, rfl⟩ := Int.eq_ofNat_of_zero_le hx.1
  obtain ⟨Y, rfl⟩ := Int.eq_ofNat_of_zero_le hy.1
  have hX : X < 18446744073709551616 := by have := hx.2; omega
  have hY : Y < 18446744073709551616 := by have := hy.2; omega
  have hXY : X * Y ≤ 18446744073709551615 * 18446744073709551615 := Nat.mul_le_mul (by omega) (by omega)
  have e : ((X : Int) * (Y : Int)) = ((X * Y : Nat) : Int) := (Int.natCast_mul X Y).symm
  rw [e]
  have HC := hide fun w => mul64_nat X Y hX hY w
  clear hx hy hX hY e
  generalize X * Y = P at *
  obtain ⟨a0, a1⟩ := ha
  obtain ⟨b0, b1⟩ := hb
  have r1 := add64_run ((P : Int) % 18446744073709551616) a 0 (by omega) a0 (by decide) (by decide)
  have r2 := add64_run (((P : Int) + a) % 18446744073709551616) b 0 (by omega) b0 (by decide) (by decide)
  rw [Int.add_zero] at r1 r2
  have hP : (P : Int) ≤ 340282366920938463426481119284349108225 := by omega
  have q2 : (P : Int) / 18446744073709551616 + ((P : Int) % 18446744073709551616 + a) / 18446744073709551616 + (((P : Int) + a) % 18446744073709551616 + b) / 18446744073709551616 = ((P : Int) + a + b) / 18446744073709551616 := by omega
  have HQ := hide q2
  clear q2 hXY
  go_enter Tryz.func126, Tryz.ntmps126
  go_wp2_with fail
  refine (HC.out _).mono ?_
  rintro _ w1 ⟨rfl, rfl⟩
  clear HC
  go_wp2
  go_ret2
  refine ⟨?_, rfl⟩
  rw [← HQ.out]
  rfl

end Go.Proofs.YtmhfmhmpoobmlaaGreatDoor.Ord

/- Numbers of five parts that lie in memory, and that they stay there. -/
namespace Go.Proofs.YtmhfmhmpoobmlaaGreatDoor.Ord
open Go.RowKit

theorem new_below (W : World) (o : Obj) : Below W.heap.size W (W.alloc o) := (Below.refl _ _).alloc (Nat.le_refl _) _

end Go.Proofs.YtmhfmhmpoobmlaaGreatDoor.Ord

/- Numbers of words of 64 bits: sums with carries, differences with borrows. -/
namespace Go.Proofs.YtmhfmhmpoobmlaaGreatDoor.Ord
open Go.RowKit

/-- The number of the first n words. -/
def Q (f : Nat → Int) : Nat → Int
  | 0 => 0
  | n + 1 => Q f n + f n * 18446744073709551616 ^ n
/-- Each of the first n words is one. -/
def Wds (f : Nat → Int) (n : Nat) : Prop := ∀ i, i < n → W64 (f i)
theorem Wds.le {f : Nat → Int} {n m : Nat} (h : Wds f n) (hm : m ≤ n) : Wds f m := fun i hi => h i (by omega)
theorem p64 (n : Nat) : (0 : Int) < 18446744073709551616 ^ n := Int.pow_pos (by decide)
theorem p64s (n : Nat) : (18446744073709551616 : Int) ^ (n + 1) = 18446744073709551616 * 18446744073709551616 ^ n := by rw [Int.pow_succ, Int.mul_comm]
theorem Q_congr {f g : Nat → Int} : ∀ {n : Nat}, (∀ i, i < n → f i = g i) → Q f n = Q g n
  | 0, _ => rfl
  | n + 1, h => by
    simp only [Q]
    rw [Q_congr (n := n) fun i hi => h i (by omega), h n (by omega)]
theorem Q_bd {f : Nat → Int} : ∀ {n : Nat}, Wds f n → 0 ≤ Q f n ∧ Q f n < 18446744073709551616 ^ n
  | 0, _ => by simp [Q]
  | n + 1, h => by
    have ih := Q_bd (n := n) (h.le (by omega))
    have hd := h n (by omega)
    have hp := p64 n
    have h1 : f n * 18446744073709551616 ^ n ≤ 18446744073709551615 * 18446744073709551616 ^ n := Int.mul_le_mul_of_nonneg_right (by have := hd.2; omega) (by omega)
    have h2 : 0 ≤ f n * 18446744073709551616 ^ n := Int.mul_nonneg hd.1 (by omega)
    rw [p64s]
    simp only [Q]
    omega

/-- The carry into word k. -/
def pc (f g : Nat → Int) : Nat → Int
  | 0 => 0
  | k + 1 => (f k + g k + pc f g k) / 18446744073709551616
def ps (f g : Nat → Int) : Nat → Int := fun k => (f k + g k + pc f g k) % 18446744073709551616
theorem pc_bd {f g : Nat → Int} (hf : Wds f 4) (hg : Wds g 4) : ∀ k, k ≤ 4 → 0 ≤ pc f g k ∧ pc f g k ≤ 1
  | 0, _ => by simp [pc]
  | k + 1, h => by
    have ih := pc_bd hf hg k (by omega)
    have h1 := hf k (by omega)
    have h2 := hg k (by omega)
    unfold W64 at h1 h2
    simp only [pc]
    omega
theorem ps_wds (f g : Nat → Int) (n : Nat) : Wds (ps f g) n := fun i _ => by unfold ps W64; omega
theorem ps_Q (f g : Nat → Int) : ∀ k, Q (ps f g) k + pc f g k * 18446744073709551616 ^ k = Q f k + Q g k
  | 0 => by simp [Q, pc]
  | k + 1 => by
    have ih := ps_Q f g k
    have e : pc f g (k + 1) * 18446744073709551616 ^ (k + 1) = 18446744073709551616 * pc f g (k + 1) * 18446744073709551616 ^ k := by rw [p64s, ← Int.mul_assoc, Int.mul_comm (pc f g (k + 1)) 18446744073709551616]
    have e2 : ps f g k = f k + g k + pc f g k - 18446744073709551616 * pc f g (k + 1) := by
      simp only [ps, pc]
      omega
    simp only [Q]
    rw [e, e2, Int.sub_mul, Int.add_mul, Int.add_mul]
    omega

/-- The borrow from word k. -/
def br (f g : Nat → Int) : Nat → Int
  | 0 => 0
  | k + 1 => if f k < g k + br f g k then 1 else 0
def ms (f g : Nat → Int) : Nat → Int := fun k => (f k - g k - br f g k) % 18446744073709551616
theorem br_bd (f g : Nat → Int) : ∀ k, 0 ≤ br f g k ∧ br f g k ≤ 1
  | 0 => by simp [br]
  | k + 1 => by
    simp only [br]
    split <;> omega
theorem ms_wds (f g : Nat → Int) (n : Nat) : Wds (ms f g) n := fun i _ => by unfold ms W64; omega
theorem ms_Q {f g : Nat → Int} (hf : Wds f 4) (hg : Wds g 4) : ∀ k, k ≤ 4 → Q (ms f g) k - br f g k * 18446744073709551616 ^ k = Q f k - Q g k
  | 0, _ => by simp [Q, br]
  | k + 1, h => by
    have ih := ms_Q hf hg k (by omega)
    have h1 := hf k (by omega)
    have h2 := hg k (by omega)
    have h3 := br_bd f g k
    unfold W64 at h1 h2
    have e : br f g (k + 1) * 18446744073709551616 ^ (k + 1) = 18446744073709551616 * br f g (k + 1) * 18446744073709551616 ^ k := by rw [p64s, ← Int.mul_assoc, Int.mul_comm (br f g (k + 1)) 18446744073709551616]
    have e2 : ms f g k = f k - g k - br f g k + 18446744073709551616 * br f g (k + 1) := by
      simp only [ms, br]
      split <;> omega
    simp only [Q]
    rw [e, e2, Int.add_mul, Int.sub_mul, Int.sub_mul]
    omega

/-- The words of a number. -/
def d64 (N : Int) : Nat → Int := fun i => N / 18446744073709551616 ^ i % 18446744073709551616
theorem d64_wds (N : Int) (n : Nat) : Wds (d64 N) n := fun i _ => by unfold d64 W64; omega
theorem d64_Q (N : Int) (h0 : 0 ≤ N) : ∀ n, Q (d64 N) n = N % 18446744073709551616 ^ n
  | 0 => by simp [Q, Int.emod_one]
  | n + 1 => by
    simp only [Q]
    rw [d64_Q N h0 n, d64, Int.pow_succ]
    have hp := p64 n
    have e1 := Int.emod_add_mul_ediv N (18446744073709551616 ^ n)
    have e2 := Int.emod_add_mul_ediv (N / 18446744073709551616 ^ n) 18446744073709551616
    rw [Int.emod_def N (18446744073709551616 ^ n * 18446744073709551616), ← Int.ediv_ediv_of_nonneg (by omega)]
    generalize N / 18446744073709551616 ^ n = A at *
    have e3 : A % 18446744073709551616 * 18446744073709551616 ^ n = A * 18446744073709551616 ^ n - 18446744073709551616 * (A / 18446744073709551616) * 18446744073709551616 ^ n := by
      rw [← Int.sub_mul]
      congr 1
      omega
    rw [e3]
    generalize A / 18446744073709551616 = B at *
    generalize (18446744073709551616 : Int) ^ n = X at *
    rw [Int.mul_comm A X, show 18446744073709551616 * B * X = X * 18446744073709551616 * B by rw [Int.mul_comm (18446744073709551616 * B) X, ← Int.mul_assoc]]
    omega
theorem Q_inj {f g : Nat → Int} : ∀ {n : Nat}, Wds f n → Wds g n → Q f n = Q g n → ∀ i, i < n → f i = g i
  | 0, _, _, _, i, hi => by omega
  | n + 1, hf, hg, h, i, hi => by
    have b1 := Q_bd (hf.le (m := n) (by omega))
    have b2 := Q_bd (hg.le (m := n) (by omega))
    have hp := p64 n
    simp only [Q] at h
    have hn : f n = g n := by
      generalize Q f n = a at *
      generalize Q g n = b at *
      generalize (18446744073709551616 : Int) ^ n = X at *
      have h2 : (f n - g n) * X = b - a := by rw [Int.sub_mul]; omega
      by_cases e : f n - g n = 0
      · omega
      · exfalso
        by_cases hl : 1 ≤ f n - g n
        · have : 1 * X ≤ (f n - g n) * X := Int.mul_le_mul_of_nonneg_right hl (by omega)
          omega
        · have : (f n - g n) * X ≤ (-1) * X := Int.mul_le_mul_of_nonneg_right (by omega) (by omega)
          omega
    by_cases hi2 : i = n
    · rw [hi2]; exact hn
    · exact Q_inj (n := n) (hf.le (by omega)) (hg.le (by omega)) (by rw [hn] at h; omega) i (by omega)

/-- Of the words f the first k have become those of r. -/
def upto (k : Nat) (r f : Nat → Int) : Nat → Int := fun i => if i < k then r i else f i
theorem upto_zero (r f : Nat → Int) (i : Nat) : f i = upto 0 r f i := by unfold upto; rw [if_neg (by omega)]
theorem upto_at (k : Nat) (r f : Nat → Int) : upto k r f k = f k := by unfold upto; rw [if_neg (by omega)]
theorem upto_end {n : Nat} (r f : Nat → Int) (i : Nat) (hi : i < n) : upto n r f i = r i := by unfold upto; rw [if_pos hi]
theorem upto_next (k : Nat) (r f : Nat → Int) {v : Int} (hv : r k = v) (i : Nat) : upd (upto k r f) k v i = upto (k + 1) r f i := by
  unfold upd upto
  by_cases h : i = k
  · subst h
    rw [if_pos rfl, if_pos (by omega), hv]
  · rw [if_neg h]
    by_cases h2 : i < k
    · rw [if_pos h2, if_pos (by omega)]
    · rw [if_neg h2, if_neg (by omega)]
theorem rowD {w : World} {g : Nat} {T : TypeId} {n : Nat} {f : Nat → Int} (h : Row w g T n f) : Row w.drew g T n f := h

theorem info42 (f : Nat → Int) : (Tryz.prog.info? 42).map (·.size) = some (arr 4 f).size := by rw [arr_size]; kernel_rfl
theorem info44 (f : Nat → Int) : (Tryz.prog.info? 44).map (·.size) = some (arr 4 f).size := by rw [arr_size]; kernel_rfl
theorem info96 (f : Nat → Int) : (Tryz.prog.info? 96).map (·.size) = some (arr 8 f).size := by rw [arr_size]; kernel_rfl

end Go.Proofs.YtmhfmhmpoobmlaaGreatDoor.Ord

/- The contracts of plus and minus. -/
namespace Go.Proofs.YtmhfmhmpoobmlaaGreatDoor.Ord
open Go.RowKit


set_option maxRecDepth 100000 in
set_option maxHeartbeats 1000000 in
theorem plus_any (f g : Nat → Int) (w : World) (hf : Wds f 4) (hg : Wds g 4) :
    Calls Tryz.prog 67 #[.agg (arr 4 f), .agg (arr 4 g)] w fun r w' => r = .returned (.tuple #[.agg (arr 4 (ps f g)), .int .u64 (pc f g 4)]) ∧ Below w.heap.size w w' := by
  go_enter Tryz.func67, Tryz.ntmps67
  go_wp2
  rw [show #[Value.int IntKind.u64 0, Value.int IntKind.u64 0, Value.int IntKind.u64 0, Value.int IntKind.u64 0] = arr 4 (fun _ => 0) from rfl]
  have R1 : Row (((w.alloc (.cells (arr 4 f) 42)).alloc (.cells (arr 4 g) 42)).alloc (.cells (arr 4 fun _ => 0) 42)) w.heap.size 42 4 f := ((Row.new w 42 4 f).alloc _).alloc _
  have R2 : Row (((w.alloc (.cells (arr 4 f) 42)).alloc (.cells (arr 4 g) 42)).alloc (.cells (arr 4 fun _ => 0) 42)) (w.heap.size + 1) 42 4 g := (Row.new' _ 42 4 _ (by simp)).alloc _
  have R3 : Row (((w.alloc (.cells (arr 4 f) 42)).alloc (.cells (arr 4 g) 42)).alloc (.cells (arr 4 fun _ => 0) 42)) (w.heap.size + 1 + 1) 42 4 (fun _ => 0) := Row.new' _ 42 4 _ (by simp)
  have O : Below w.heap.size w (((w.alloc (.cells (arr 4 f) 42)).alloc (.cells (arr 4 g) 42)).alloc (.cells (arr 4 fun _ => 0) 42)) := (((Below.refl _ _).alloc (Nat.le_refl _) _).alloc (by simp) _).alloc (by simp; omega) _
  generalize (((w.alloc (.cells (arr 4 f) 42)).alloc (.cells (arr 4 g) 42)).alloc (.cells (arr 4 fun _ => 0) 42)) = W at R1 R2 R3 O ⊢
  go_loopw [6, 8] (fun c i wr => ∃ k : Nat, k ≤ 4 ∧ c = .int .u64 (pc f g k) ∧ i = .int .i64 k ∧ Row wr w.heap.size 42 4 (upto k (ps f g) f) ∧ Row wr (w.heap.size + 1) 42 4 g ∧ Row wr (w.heap.size + 1 + 1) 42 4 (fun _ => 0) ∧ Below w.heap.size w wr) (fun _ i _ => 4 - (intOf i).toNat)
  case atStart => exact ⟨0, by omega, rfl, rfl, R1.congr (fun i _ => upto_zero _ _ i), R2, R3, O⟩
  case round =>
    clear R1 R2 R3 O
    obtain ⟨k, hk, rfl, rfl, R1, R2, R3, O⟩ := hrel
    by_cases hlt : k < 4
    · have c := R1.cell (i := k) hlt
      rw [upto_at] at c
      have d := R2.cell hlt
      have e := R1.free
      have i1 : (0 : Int) ≤ (k : Int) := by omega
      have i2 : (k : Int) < 4 := by omega
      have hb := pc_bd hf hg k hk
      have hr := add64_run (f k) (g k) (pc f g k) (hf k hlt).1 (hg k hlt).1 hb.1 hb.2
      have HN := hide (show pc f g (k + 1) = (f k + g k + pc f g k) / 18446744073709551616 from rfl)
      have HM := hide (show ps f g k = (f k + g k + pc f g k) % 18446744073709551616 from rfl)
      go_wp2_with fail
      go_region_with fail
      all_goals
        go_wp2
        exact ⟨⟨k + 1, by omega, by rw [HN.out], by go_num, rowD ((R1.set k ((f k + g k + pc f g k) % 18446744073709551616)).congr (fun i _ => upto_next k _ _ HM.out i)), rowD (R2.other (a := ⟨w.heap.size, k, none⟩) (by simp) _), rowD (R3.other (a := ⟨w.heap.size, k, none⟩) (by simp <;> omega) _), (O.setCell (p := ⟨w.heap.size, k, none⟩) (Nat.le_refl _) _).drew⟩, by simp [intOf]; omega⟩
    · have hk' : k = 4 := by omega
      subst hk'
      replace R1 := R1.congr (f' := ps f g) (fun i hi => upto_end _ _ i hi)
      have RR := hide (R3.setAll (ps f g))
      have OO := hide (below_setCells (g := w.heap.size + 1 + 1) (by omega) (arr 4 (ps f g)).toList 0 O)
      have HX := hide R1
      clear R1 R2 O
      go_wp2_with (first | (refine wpList_load_row rfl 42 _ rfl w.heap.size rfl 42 (arr 4 (ps f g)) (0, 0) _ ?hgplus Tryz.underlying42 rfl (info42 _) ?_) | (refine wpList_store_mid rfl 42 _ _ rfl (w.heap.size + 1 + 1) 0 (arr 4 (ps f g)) rfl rfl ?thplus (info42 _) (arr_one _ _) ?_))
      case hgplus => exact HX.out
      case thplus => rw [arr_size]; exact R3.there
      exact bodyPost_ret (v := .tuple #[.agg (arr 4 (ps f g)), .int .u64 (pc f g 4)]) (results_cell_tmp Tryz.results67 _ _ (w.heap.size + 1 + 1) 42 (arr 4 (ps f g)) (0, 0) _ (.int .u64 (pc f g 4)) rfl rfl RR.out Tryz.underlying42 rfl (info42 _)) rfl ⟨rfl, OO.out⟩

set_option maxRecDepth 100000 in
set_option maxHeartbeats 1000000 in
theorem minus_any (f g : Nat → Int) (w : World) (hf : Wds f 4) (hg : Wds g 4) :
    Calls Tryz.prog 84 #[.agg (arr 4 f), .agg (arr 4 g)] w fun r w' => r = .returned (.tuple #[.agg (arr 4 (ms f g)), .int .u64 (br f g 4)]) ∧ Below w.heap.size w w' := by
  go_enter Tryz.func84, Tryz.ntmps84
  go_wp2
  rw [show #[Value.int IntKind.u64 0, Value.int IntKind.u64 0, Value.int IntKind.u64 0, Value.int IntKind.u64 0] = arr 4 (fun _ => 0) from rfl]
  have R1 : Row (((w.alloc (.cells (arr 4 f) 42)).alloc (.cells (arr 4 g) 42)).alloc (.cells (arr 4 fun _ => 0) 42)) w.heap.size 42 4 f := ((Row.new w 42 4 f).alloc _).alloc _
  have R2 : Row (((w.alloc (.cells (arr 4 f) 42)).alloc (.cells (arr 4 g) 42)).alloc (.cells (arr 4 fun _ => 0) 42)) (w.heap.size + 1) 42 4 g := (Row.new' _ 42 4 _ (by simp)).alloc _
  have R3 : Row (((w.alloc (.cells (arr 4 f) 42)).alloc (.cells (arr 4 g) 42)).alloc (.cells (arr 4 fun _ => 0) 42)) (w.heap.size + 1 + 1) 42 4 (fun _ => 0) := Row.new' _ 42 4 _ (by simp)
  have O : Below w.heap.size w (((w.alloc (.cells (arr 4 f) 42)).alloc (.cells (arr 4 g) 42)).alloc (.cells (arr 4 fun _ => 0) 42)) := (((Below.refl _ _).alloc (Nat.le_refl _) _).alloc (by simp) _).alloc (by simp; omega) _
  generalize (((w.alloc (.cells (arr 4 f) 42)).alloc (.cells (arr 4 g) 42)).alloc (.cells (arr 4 fun _ => 0) 42)) = W at R1 R2 R3 O ⊢
  go_loopw [6, 8] (fun c i wr => ∃ k : Nat, k ≤ 4 ∧ c = .int .u64 (br f g k) ∧ i = .int .i64 k ∧ Row wr w.heap.size 42 4 (upto k (ms f g) f) ∧ Row wr (w.heap.size + 1) 42 4 g ∧ Row wr (w.heap.size + 1 + 1) 42 4 (fun _ => 0) ∧ Below w.heap.size w wr) (fun _ i _ => 4 - (intOf i).toNat)
  case atStart => exact ⟨0, by omega, rfl, rfl, R1.congr (fun i _ => upto_zero _ _ i), R2, R3, O⟩
  case round =>
    clear R1 R2 R3 O
    obtain ⟨k, hk, rfl, rfl, R1, R2, R3, O⟩ := hrel
    by_cases hlt : k < 4
    · have c := R1.cell (i := k) hlt
      rw [upto_at] at c
      have d := R2.cell hlt
      have e := R1.free
      have i1 : (0 : Int) ≤ (k : Int) := by omega
      have i2 : (k : Int) < 4 := by omega
      have hb := br_bd f g k
      have hr := sub64_run (f k) (g k) (br f g k) (hf k hlt) (hg k hlt) hb.1 hb.2
      have HN := hide (show br f g (k + 1) = if f k < g k + br f g k then 1 else 0 from rfl)
      have HM := hide (show ms f g k = (f k - g k - br f g k) % 18446744073709551616 from rfl)
      go_wp2_with fail
      go_region_with fail
      all_goals
        go_wp2
        exact ⟨⟨k + 1, by omega, by rw [HN.out], by go_num, rowD ((R1.set k ((f k - g k - br f g k) % 18446744073709551616)).congr (fun i _ => upto_next k _ _ HM.out i)), rowD (R2.other (a := ⟨w.heap.size, k, none⟩) (by simp) _), rowD (R3.other (a := ⟨w.heap.size, k, none⟩) (by simp <;> omega) _), (O.setCell (p := ⟨w.heap.size, k, none⟩) (Nat.le_refl _) _).drew⟩, by simp [intOf]; omega⟩
    · have hk' : k = 4 := by omega
      subst hk'
      replace R1 := R1.congr (f' := ms f g) (fun i hi => upto_end _ _ i hi)
      have RR := hide (R3.setAll (ms f g))
      have OO := hide (below_setCells (g := w.heap.size + 1 + 1) (by omega) (arr 4 (ms f g)).toList 0 O)
      have HX := hide R1
      clear R1 R2 O
      go_wp2_with (first | (refine wpList_load_row rfl 42 _ rfl w.heap.size rfl 42 (arr 4 (ms f g)) (0, 0) _ ?hgminus Tryz.underlying42 rfl (info42 _) ?_) | (refine wpList_store_mid rfl 42 _ _ rfl (w.heap.size + 1 + 1) 0 (arr 4 (ms f g)) rfl rfl ?thminus (info42 _) (arr_one _ _) ?_))
      case hgminus => exact HX.out
      case thminus => rw [arr_size]; exact R3.there
      exact bodyPost_ret (v := .tuple #[.agg (arr 4 (ms f g)), .int .u64 (br f g 4)]) (results_cell_tmp Tryz.results84 _ _ (w.heap.size + 1 + 1) 42 (arr 4 (ms f g)) (0, 0) _ (.int .u64 (br f g 4)) rfl rfl RR.out Tryz.underlying42 rfl (info42 _)) rfl ⟨rfl, OO.out⟩

end Go.Proofs.YtmhfmhmpoobmlaaGreatDoor.Ord

/- The contracts of modulus, once and without: one number without another one, modulo the order. -/
namespace Go.Proofs.YtmhfmhmpoobmlaaGreatDoor.Ord
open Go.RowKit

/-- The order of the base point. -/
def Lm : Int := 7237005577332262213973186563042994240857116359379907606001950938285454250989
def Lf : Nat → Int := fun i => [6346243789798364141, 1503914060200516822, 0, 1152921504606846976].getD i 0
theorem Lf_Q : Q Lf 4 = Lm := by decide +kernel
theorem Lf_wds : Wds Lf 4 := fun i hi => by
  rcases (show i = 0 ∨ i = 1 ∨ i = 2 ∨ i = 3 by omega) with rfl | rfl | rfl | rfl <;> exact ⟨by decide, by decide⟩

set_option maxHeartbeats 400000 in
theorem modulus_any (w : World) : Calls Tryz.prog 69 #[] w fun r w' => r = .returned (.agg (arr 4 Lf)) ∧ Below w.heap.size w w' := by
  go_enter Tryz.func69, Tryz.ntmps69
  go_wp2
  exact bodyPost_ret (v := .agg (arr 4 Lf)) (by simp [results, Tryz.results69, go_sem]; rfl) rfl ⟨rfl, (Below.refl _ _).alloc (Nat.le_refl _) _⟩

set_option maxRecDepth 100000 in
set_option maxHeartbeats 1000000 in
theorem once_any (f : Nat → Int) (c : Int) (w : World) (hf : Wds f 4) (hc : c = 0 ∨ c = 1) :
    Calls Tryz.prog 125 #[.agg (arr 4 f), .int .u64 c] w fun r w' => r = .returned (.agg (arr 4 fun i => f i * c)) ∧ Below w.heap.size w w' := by
  go_enter Tryz.func125, Tryz.ntmps125
  go_wp2
  rw [show #[Value.int IntKind.u64 0, Value.int IntKind.u64 0, Value.int IntKind.u64 0, Value.int IntKind.u64 0] = arr 4 (fun _ => 0) from rfl]
  have R1 : Row ((w.alloc (.cells (arr 4 f) 42)).alloc (.cells (arr 4 fun _ => 0) 42)) w.heap.size 42 4 f := (Row.new w 42 4 f).alloc _
  have R3 : Row ((w.alloc (.cells (arr 4 f) 42)).alloc (.cells (arr 4 fun _ => 0) 42)) (w.heap.size + 1) 42 4 (fun _ => 0) := Row.new' _ 42 4 _ (by simp)
  have O : Below w.heap.size w ((w.alloc (.cells (arr 4 f) 42)).alloc (.cells (arr 4 fun _ => 0) 42)) := ((Below.refl _ _).alloc (Nat.le_refl _) _).alloc (by simp) _
  generalize ((w.alloc (.cells (arr 4 f) 42)).alloc (.cells (arr 4 fun _ => 0) 42)) = W at R1 R3 O ⊢
  go_loopw [6] (fun i wr => ∃ k : Nat, k ≤ 4 ∧ i = .int .i64 k ∧ Row wr w.heap.size 42 4 (upto k (fun i => f i * c) f) ∧ Row wr (w.heap.size + 1) 42 4 (fun _ => 0) ∧ Below w.heap.size w wr) (fun i _ => 4 - (intOf i).toNat)
  case atStart => exact ⟨0, by omega, rfl, R1.congr (fun i _ => upto_zero _ _ i), R3, O⟩
  case round =>
    clear R1 R3 O
    obtain ⟨k, hk, rfl, R1, R3, O⟩ := hrel
    by_cases hlt : k < 4
    · have cc := R1.cell (i := k) hlt
      rw [upto_at] at cc
      have e := R1.free k
      have i1 : (0 : Int) ≤ (k : Int) := by omega
      have i2 : (k : Int) < 4 := by omega
      obtain ⟨f0, f1⟩ := hf k hlt
      have hw : IntKind.u64.wrap (f k * c) = f k * c := by
        rcases hc with rfl | rfl
        · rw [Int.mul_zero]; decide
        · rw [Int.mul_one]; exact wrap64u ⟨f0, f1⟩
      have m0 : 0 ≤ f k * c := by rcases hc with rfl | rfl <;> omega
      have m1 : f k * c < 18446744073709551616 := by rcases hc with rfl | rfl <;> omega
      have RR := hide ((R1.set k (f k * c)).congr (fun i _ => upto_next k (fun i => f i * c) f rfl i))
      have R3' := hide (R3.other (a := ⟨w.heap.size, k, none⟩) (by simp) (.int .u64 (f k * c)))
      have O' := hide (O.setCell (p := ⟨w.heap.size, k, none⟩) (Nat.le_refl _) (.int .u64 (f k * c)))
      clear R1 R3 O
      go_wp2
      go_roundw
      case rel => exact ⟨k + 1, by omega, by go_num, RR.out, R3'.out, O'.out⟩
      case measure => simp [intOf]; omega
    · have hk' : k = 4 := by omega
      subst hk'
      replace R1 := R1.congr (f' := fun i => f i * c) (fun i hi => upto_end _ _ i hi)
      have RR := hide (R3.setAll (fun i => f i * c))
      have OO := hide (below_setCells (g := w.heap.size + 1) (by omega) (arr 4 (fun i => f i * c)).toList 0 O)
      have HX := hide R1
      clear R1 O
      go_wp2_with (first | (refine wpList_load_row rfl 42 _ rfl w.heap.size rfl 42 (arr 4 (fun i => f i * c)) (0, 0) _ ?hgo Tryz.underlying42 rfl (info42 _) ?_) | (refine wpList_store_mid rfl 42 _ _ rfl (w.heap.size + 1) 0 (arr 4 (fun i => f i * c)) rfl rfl ?tho (info42 _) (arr_one _ _) ?_))
      case hgo => exact HX.out
      case tho => rw [arr_size]; exact R3.there
      exact bodyPost_ret (v := .agg (arr 4 fun i => f i * c)) (results_cell_row Tryz.results125 _ _ (w.heap.size + 1) 42 (arr 4 (fun i => f i * c)) (0, 0) _ rfl RR.out Tryz.underlying42 rfl (info42 _)) rfl ⟨rfl, OO.out⟩

theorem Q_mul (f : Nat → Int) (c : Int) : ∀ n, Q (fun i => f i * c) n = Q f n * c
  | 0 => by simp [Q]
  | n + 1 => by
    simp only [Q]
    rw [Q_mul f c n, Int.add_mul, Int.mul_assoc, Int.mul_assoc, Int.mul_comm c]

theorem P256 : (18446744073709551616 : Int) ^ 4 = 115792089237316195423570985008687907853269984665640564039457584007913129639936 := by decide

theorem wval {X Y R T b c P L : Int} (hb : b = 0 ∨ b = 1) (hc : c = 0 ∨ c = 1) (hL : L < P) (e1 : R - b * P = X - Y) (e2 : T + c * P = R + L * b) (_r0 : 0 ≤ R) (r1 : R < P) (t0 : 0 ≤ T) (t1 : T < P) (h0 : - L ≤ X - Y) (h1 : X - Y < L) : T = (X - Y) % L := by
  rcases hb with rfl | rfl
  · rcases hc with rfl | rfl
    · simp only [Int.zero_mul, Int.mul_zero] at e1 e2
      rw [Int.emod_eq_of_lt (by omega) h1]
      omega
    · simp only [Int.zero_mul, Int.mul_zero, Int.one_mul] at e1 e2
      omega
  · rcases hc with rfl | rfl
    · simp only [Int.zero_mul, Int.mul_one, Int.one_mul] at e1 e2
      omega
    · simp only [Int.mul_one, Int.one_mul] at e1 e2
      have e : (X - Y) % L = (X - Y + L) % L := by rw [Int.add_emod_right]
      rw [e, Int.emod_eq_of_lt (by omega) (by omega)]
      omega

theorem Lm_P : Lm < 18446744073709551616 ^ 4 := by decide
theorem Lm_pos : 0 < Lm := by decide
theorem lmod (X : Int) : 0 ≤ X % Lm ∧ X % Lm < Lm := ⟨Int.emod_nonneg _ (by decide), Int.emod_lt_of_pos _ Lm_pos⟩
theorem dQ {X : Int} (h : 0 ≤ X ∧ X < Lm) : Q (d64 X) 4 = X := by
  have := Lm_P
  rw [d64_Q _ h.1, Int.emod_eq_of_lt h.1 (by omega)]

theorem without_val {f g : Nat → Int} (hf : Wds f 4) (hg : Wds g 4) (h0 : - Lm ≤ Q f 4 - Q g 4) (h1 : Q f 4 - Q g 4 < Lm) :
    arr 4 (ps (ms f g) (fun i => Lf i * br f g 4)) = arr 4 (d64 ((Q f 4 - Q g 4) % Lm)) := by
  have hb := br_bd f g 4
  have hb2 : br f g 4 = 0 ∨ br f g 4 = 1 := by omega
  have wl : Wds (fun i => Lf i * br f g 4) 4 := fun i hi => by
    have h := Lf_wds i hi
    show W64 (Lf i * br f g 4)
    rcases hb2 with e | e
    · rw [e, Int.mul_zero]; exact ⟨by decide, by decide⟩
    · rw [e, Int.mul_one]; exact h
  have e1 := ms_Q hf hg 4 (by omega)
  have e2 := ps_Q (ms f g) (fun i => Lf i * br f g 4) 4
  have e3 := pc_bd (ms_wds f g 4) wl 4 (by omega)
  have b1 := Q_bd (ms_wds f g 4)
  have b2 := Q_bd (ps_wds (ms f g) (fun i => Lf i * br f g 4) 4)
  rw [Q_mul, Lf_Q] at e2
  refine arr_congr (Q_inj (ps_wds _ _ 4) (d64_wds _ 4) ?_)
  rw [dQ (lmod _)]
  exact wval hb2 (by omega) Lm_P e1 e2 b1.1 b1.2 b2.1 b2.2 h0 h1

end Go.Proofs.YtmhfmhmpoobmlaaGreatDoor.Ord

/- The contract of without. -/
namespace Go.Proofs.YtmhfmhmpoobmlaaGreatDoor.Ord
open Go.RowKit

theorem wpList_build {P : Program} {ops : Array Oper} {rest : List Oper} {o : Oper} {a : Act} {w : World} {Q : Exit → Act → World → Prop} (hg : o.guard = none) (ty : TypeId) (parts : Array (Nat × Operand)) (_ho : o.op = .build ty parts) (cs : Array Value)
    (hrun : (execOp a.eval o).run P w = .ok (.value (.agg cs)) w) (h : wpList P ops Q rest (a.put o.dst (.agg cs)) w) : wpList P ops Q (o :: rest) a w :=
  wpList_plain hg fun K hK => by
    unfold Oper.wp
    rw [hrun]
    exact hK _ _ h

set_option maxRecDepth 100000 in
set_option maxHeartbeats 2000000 in
theorem without_gen (f g r l t : Nat → Int) (b c : Int) (w : World)
    (H0 : ∀ w, Calls Tryz.prog 84 #[.agg (arr 4 f), .agg (arr 4 g)] w fun x w' => x = .returned (.tuple #[.agg (arr 4 r), .int .u64 b]) ∧ Below w.heap.size w w')
    (H2 : ∀ w, Calls Tryz.prog 125 #[.agg (arr 4 Lf), .int .u64 b] w fun x w' => x = .returned (.agg (arr 4 l)) ∧ Below w.heap.size w w')
    (H3 : ∀ w, Calls Tryz.prog 67 #[.agg (arr 4 r), .agg (arr 4 l)] w fun x w' => x = .returned (.tuple #[.agg (arr 4 t), .int .u64 c]) ∧ Below w.heap.size w w') :
    Calls Tryz.prog 68 #[.agg (arr 4 f), .agg (arr 4 g)] w fun x w' => x = .returned (.agg (arr 4 t)) ∧ Below w.heap.size w w' := by
  have C0 := hide H0
  have C1 := hide modulus_any
  have C2 := hide H2
  have C3 := hide H3
  clear H0 H2 H3
  have R1 : Row (((w.alloc (.cells (arr 4 f) 42)).alloc (.cells (arr 4 g) 42)).alloc (.cells (arr 4 fun _ => 0) 44)) w.heap.size 42 4 f := ((Row.new w 42 4 f).alloc _).alloc _
  have R2 : Row (((w.alloc (.cells (arr 4 f) 42)).alloc (.cells (arr 4 g) 42)).alloc (.cells (arr 4 fun _ => 0) 44)) (w.heap.size + 1) 42 4 g := (Row.new' _ 42 4 _ (by simp)).alloc _
  have R3 : Row (((w.alloc (.cells (arr 4 f) 42)).alloc (.cells (arr 4 g) 42)).alloc (.cells (arr 4 fun _ => 0) 44)) (w.heap.size + 1 + 1) 44 4 (fun _ => 0) := Row.new' _ 44 4 _ (by simp)
  have O : Below w.heap.size w (((w.alloc (.cells (arr 4 f) 42)).alloc (.cells (arr 4 g) 42)).alloc (.cells (arr 4 fun _ => 0) 44)) := (((Below.refl _ _).alloc (Nat.le_refl _) _).alloc (by simp) _).alloc (by simp; omega) _
  have HR := hide (And.intro R1 (And.intro R2 (And.intro R3 O)))
  clear R1 R2 R3 O
  go_enter Tryz.func68, Tryz.ntmps68
  go_wp2_with (first | (refine wpList_load_row rfl 42 _ rfl w.heap.size rfl 42 (arr 4 f) (0, 0) _ HR.out.1 Tryz.underlying42 rfl (info42 _) ?_) | (refine wpList_load_row rfl 42 _ rfl (w.heap.size + 1) rfl 42 (arr 4 g) (0, 0) _ HR.out.2.1 Tryz.underlying42 rfl (info42 _) ?_))
  rw [show #[Value.int IntKind.u64 0, Value.int IntKind.u64 0, Value.int IntKind.u64 0, Value.int IntKind.u64 0] = arr 4 (fun _ => 0) from rfl]
  obtain ⟨R1, R2, R3, O⟩ := HR.out
  clear HR R1 R2
  generalize (((w.alloc (.cells (arr 4 f) 42)).alloc (.cells (arr 4 g) 42)).alloc (.cells (arr 4 fun _ => 0) 44)) = W at R3 O ⊢
  refine (C0.out _).mono ?_
  rintro _ w1 ⟨rfl, hb1⟩
  replace R3 := R3.keep hb1
  replace O := O.trans (hb1.mono O.size)
  clear hb1
  have RC : Row (w1.alloc (.cells #[Value.int IntKind.u64 0, Value.int IntKind.u64 0, Value.int IntKind.u64 0, Value.int IntKind.u64 0] 42)) w1.heap.size 42 4 (fun _ => 0) := Row.new w1 42 4 (fun _ => 0)
  have gl := R3.lt
  have RR := hide (RC.setAll r)
  have BB := below_setCells (g := w1.heap.size) (Nat.le_refl _) (arr 4 r).toList 0 (new_below w1 (.cells #[Value.int IntKind.u64 0, Value.int IntKind.u64 0, Value.int IntKind.u64 0, Value.int IntKind.u64 0] 42))
  have R3' := hide (R3.keep BB)
  have O' := hide (O.trans (BB.mono O.size))
  clear R3 O BB
  go_wp2_with (refine wpList_store_mid rfl 42 _ _ rfl w1.heap.size 0 (arr 4 r) rfl rfl ?thr (info42 _) (arr_one _ _) ?_)
  case thr => rw [arr_size]; exact RC.there
  have R3 := R3'.out
  have O := O'.out
  replace RC := RR.out
  clear R3' O' RR
  generalize w1.heap.size = gc at *
  generalize (w1.alloc (.cells #[Value.int IntKind.u64 0, Value.int IntKind.u64 0, Value.int IntKind.u64 0, Value.int IntKind.u64 0] 42)).setCells gc 0 (arr 4 r).toList = W2 at *
  refine region_cut (fun a0 a' w' => a' = (((((((a0.put (some 14) (.agg (arr 4 r))).put (some 15) (.agg (arr 4 Lf))).put (some 16) (.int .u64 b)).put (some 17) (.agg (arr 4 l))).put (some 18) (.tuple #[.agg (arr 4 t), .int .u64 c])).put (some 13) (.tuple #[.agg (arr 4 t), .int .u64 c])).put (some 19) (.agg (arr 4 t))).put (some 20) (.int .u64 c) ∧ Row w' gc 42 4 t ∧ Row w' (w.heap.size + 1 + 1) 44 4 (fun _ => 0) ∧ Below w.heap.size w w') (by kernel_rfl) ?_ ?_
  · clear RC R3 O
    rintro _ w8 ⟨rfl, RC, R3, O⟩
    have RR := hide (R3.setAll t)
    have OO := hide (below_setCells (g := w.heap.size + 1 + 1) (by omega) (arr 4 t).toList 0 O)
    have HX := hide RC
    clear RC O
    go_simp
    go_wp2_with (first | (refine wpList_load_row rfl 42 _ rfl gc rfl 42 (arr 4 t) (0, 0) _ ?hgt Tryz.underlying42 rfl (info42 _) ?_) | (refine wpList_build rfl 44 _ rfl (arr 4 t) (by kernel_rfl) ?_) | (refine wpList_store_mid rfl 44 _ _ rfl (w.heap.size + 1 + 1) 0 (arr 4 t) rfl rfl ?tht (info44 _) (arr_one _ _) ?_))
    case hgt => exact HX.out
    case tht => rw [arr_size]; exact R3.there
    exact bodyPost_ret (v := .agg (arr 4 t)) (results_cell_row Tryz.results68 _ _ (w.heap.size + 1 + 1) 44 (arr 4 t) (0, 0) _ rfl RR.out Tryz.underlying44 rfl (info44 _)) rfl ⟨rfl, OO.out⟩
  · intro hrest
    replace RC := rowD RC
    replace R3 := rowD R3
    replace O := O.drew
    generalize W2.drew = W0 at *
    refine wpAny_take (i := 2) (v := .int .u64 b) rfl (by kernel_rfl) (by kernel_rfl) (by kernel_rfl) (fun _ _ _ h => h) (Or.inl ⟨by rfl, fun _ => by kernel_rfl⟩) ?_
    refine wpAny_ready (rs := [0, 1]) (by kernel_rfl) (by simp) ?_
    refine ready_load rfl rfl 42 _ rfl gc (by kernel_rfl) 42 (arr 4 r) (0, 0) _ RC Tryz.underlying42 rfl (info42 _) ?_ ?_
    · skip
      refine wpAny_ready (rs := [1]) (by kernel_rfl) (by simp) ?_
      refine ready_call 69 #[] rfl rfl (by kernel_rfl) ?_ ?_
      · refine (C1.out _).mono ?_
        rintro _ w102 ⟨rfl, hb102⟩
        refine ⟨_, rfl, ?_⟩
        replace R3 := R3.keep hb102
        replace RC := RC.keep hb102
        replace O := O.trans (hb102.mono O.size)
        clear hb102
        refine wpAny_ready (rs := [3]) (by kernel_rfl) (by simp) ?_
        refine ready_call 125 #[.agg (arr 4 Lf), .int .u64 b] rfl rfl (by kernel_rfl) ?_ ?_
        · refine (C2.out _).mono ?_
          rintro _ w103 ⟨rfl, hb103⟩
          refine ⟨_, rfl, ?_⟩
          replace R3 := R3.keep hb103
          replace RC := RC.keep hb103
          replace O := O.trans (hb103.mono O.size)
          clear hb103
          refine wpAny_ready (rs := [4]) (by kernel_rfl) (by simp) ?_
          refine ready_call 67 #[.agg (arr 4 r), .agg (arr 4 l)] rfl rfl (by kernel_rfl) ?_ ?_
          · refine (C3.out _).mono ?_
            rintro _ w104 ⟨rfl, hb104⟩
            refine ⟨_, rfl, ?_⟩
            replace R3 := R3.keep hb104
            replace RC := RC.keep hb104
            replace O := O.trans (hb104.mono O.size)
            clear hb104
            refine wpAny_take (i := 5) (v := .tuple #[.agg (arr 4 t), .int .u64 c]) rfl (by kernel_rfl) (by kernel_rfl) (by kernel_rfl) (fun _ _ _ h => h) (Or.inl ⟨by rfl, fun _ => by kernel_rfl⟩) ?_
            refine wpAny_take (i := 6) (v := .agg (arr 4 t)) rfl (by kernel_rfl) (by kernel_rfl) (by kernel_rfl) (fun _ _ _ h => h) (Or.inl ⟨by rfl, fun _ => by kernel_rfl⟩) ?_
            refine wpAny_take (i := 7) (v := .int .u64 c) rfl (by kernel_rfl) (by kernel_rfl) (by kernel_rfl) (fun _ _ _ h => h) (Or.inl ⟨by rfl, fun _ => by kernel_rfl⟩) ?_
            refine wpAny_ready (rs := [8]) (by kernel_rfl) (by simp) ?_
            refine ready_store rfl rfl 42 _ _ rfl gc 0 (arr 4 t) (by kernel_rfl) (by kernel_rfl) (by rw [arr_size]; exact RC.there) (info42 _) (arr_one _ _) ?_ ?_
            · skip
              exact wpAny_done (by kernel_rfl) (hrest _ _ ⟨by kernel_rfl, RC.setAll _, R3.setOther (by omega) _ _, below_setCells (by omega) _ _ O⟩) _
            exact AllReady.nil
          exact AllReady.nil
        exact AllReady.nil
      exact AllReady.nil
    refine ready_call 69 #[] rfl rfl (by kernel_rfl) ?_ ?_
    · refine (C1.out _).mono ?_
      rintro _ w106 ⟨rfl, hb106⟩
      refine ⟨_, rfl, ?_⟩
      replace R3 := R3.keep hb106
      replace RC := RC.keep hb106
      replace O := O.trans (hb106.mono O.size)
      clear hb106
      refine wpAny_ready (rs := [0, 3]) (by kernel_rfl) (by simp) ?_
      refine ready_load rfl rfl 42 _ rfl gc (by kernel_rfl) 42 (arr 4 r) (0, 0) _ RC Tryz.underlying42 rfl (info42 _) ?_ ?_
      · skip
        refine wpAny_ready (rs := [3]) (by kernel_rfl) (by simp) ?_
        refine ready_call 125 #[.agg (arr 4 Lf), .int .u64 b] rfl rfl (by kernel_rfl) ?_ ?_
        · refine (C2.out _).mono ?_
          rintro _ w108 ⟨rfl, hb108⟩
          refine ⟨_, rfl, ?_⟩
          replace R3 := R3.keep hb108
          replace RC := RC.keep hb108
          replace O := O.trans (hb108.mono O.size)
          clear hb108
          refine wpAny_ready (rs := [4]) (by kernel_rfl) (by simp) ?_
          refine ready_call 67 #[.agg (arr 4 r), .agg (arr 4 l)] rfl rfl (by kernel_rfl) ?_ ?_
          · refine (C3.out _).mono ?_
            rintro _ w109 ⟨rfl, hb109⟩
            refine ⟨_, rfl, ?_⟩
            replace R3 := R3.keep hb109
            replace RC := RC.keep hb109
            replace O := O.trans (hb109.mono O.size)
            clear hb109
            refine wpAny_take (i := 5) (v := .tuple #[.agg (arr 4 t), .int .u64 c]) rfl (by kernel_rfl) (by kernel_rfl) (by kernel_rfl) (fun _ _ _ h => h) (Or.inl ⟨by rfl, fun _ => by kernel_rfl⟩) ?_
            refine wpAny_take (i := 6) (v := .agg (arr 4 t)) rfl (by kernel_rfl) (by kernel_rfl) (by kernel_rfl) (fun _ _ _ h => h) (Or.inl ⟨by rfl, fun _ => by kernel_rfl⟩) ?_
            refine wpAny_take (i := 7) (v := .int .u64 c) rfl (by kernel_rfl) (by kernel_rfl) (by kernel_rfl) (fun _ _ _ h => h) (Or.inl ⟨by rfl, fun _ => by kernel_rfl⟩) ?_
            refine wpAny_ready (rs := [8]) (by kernel_rfl) (by simp) ?_
            refine ready_store rfl rfl 42 _ _ rfl gc 0 (arr 4 t) (by kernel_rfl) (by kernel_rfl) (by rw [arr_size]; exact RC.there) (info42 _) (arr_one _ _) ?_ ?_
            · skip
              exact wpAny_done (by kernel_rfl) (hrest _ _ ⟨by kernel_rfl, RC.setAll _, R3.setOther (by omega) _ _, below_setCells (by omega) _ _ O⟩) _
            exact AllReady.nil
          exact AllReady.nil
        exact AllReady.nil
      refine ready_call 125 #[.agg (arr 4 Lf), .int .u64 b] rfl rfl (by kernel_rfl) ?_ ?_
      · refine (C2.out _).mono ?_
        rintro _ w111 ⟨rfl, hb111⟩
        refine ⟨_, rfl, ?_⟩
        replace R3 := R3.keep hb111
        replace RC := RC.keep hb111
        replace O := O.trans (hb111.mono O.size)
        clear hb111
        refine wpAny_ready (rs := [0]) (by kernel_rfl) (by simp) ?_
        refine ready_load rfl rfl 42 _ rfl gc (by kernel_rfl) 42 (arr 4 r) (0, 0) _ RC Tryz.underlying42 rfl (info42 _) ?_ ?_
        · skip
          refine wpAny_ready (rs := [4]) (by kernel_rfl) (by simp) ?_
          refine ready_call 67 #[.agg (arr 4 r), .agg (arr 4 l)] rfl rfl (by kernel_rfl) ?_ ?_
          · refine (C3.out _).mono ?_
            rintro _ w113 ⟨rfl, hb113⟩
            refine ⟨_, rfl, ?_⟩
            replace R3 := R3.keep hb113
            replace RC := RC.keep hb113
            replace O := O.trans (hb113.mono O.size)
            clear hb113
            refine wpAny_take (i := 5) (v := .tuple #[.agg (arr 4 t), .int .u64 c]) rfl (by kernel_rfl) (by kernel_rfl) (by kernel_rfl) (fun _ _ _ h => h) (Or.inl ⟨by rfl, fun _ => by kernel_rfl⟩) ?_
            refine wpAny_take (i := 6) (v := .agg (arr 4 t)) rfl (by kernel_rfl) (by kernel_rfl) (by kernel_rfl) (fun _ _ _ h => h) (Or.inl ⟨by rfl, fun _ => by kernel_rfl⟩) ?_
            refine wpAny_take (i := 7) (v := .int .u64 c) rfl (by kernel_rfl) (by kernel_rfl) (by kernel_rfl) (fun _ _ _ h => h) (Or.inl ⟨by rfl, fun _ => by kernel_rfl⟩) ?_
            refine wpAny_ready (rs := [8]) (by kernel_rfl) (by simp) ?_
            refine ready_store rfl rfl 42 _ _ rfl gc 0 (arr 4 t) (by kernel_rfl) (by kernel_rfl) (by rw [arr_size]; exact RC.there) (info42 _) (arr_one _ _) ?_ ?_
            · skip
              exact wpAny_done (by kernel_rfl) (hrest _ _ ⟨by kernel_rfl, RC.setAll _, R3.setOther (by omega) _ _, below_setCells (by omega) _ _ O⟩) _
            exact AllReady.nil
          exact AllReady.nil
        exact AllReady.nil
      exact AllReady.nil
    exact AllReady.nil

end Go.Proofs.YtmhfmhmpoobmlaaGreatDoor.Ord

/- The contracts of the scalars' Add and Neg. -/
namespace Go.Proofs.YtmhfmhmpoobmlaaGreatDoor.Ord
open Go.RowKit

theorem without_any (f g : Nat → Int) (w : World) (hf : Wds f 4) (hg : Wds g 4) (h0 : - Lm ≤ Q f 4 - Q g 4) (h1 : Q f 4 - Q g 4 < Lm) :
    Calls Tryz.prog 68 #[.agg (arr 4 f), .agg (arr 4 g)] w fun x w' => x = .returned (.agg (arr 4 (d64 ((Q f 4 - Q g 4) % Lm)))) ∧ Below w.heap.size w w' := by
  have hb := br_bd f g 4
  have hb2 : br f g 4 = 0 ∨ br f g 4 = 1 := by omega
  have wl : Wds (fun i => Lf i * br f g 4) 4 := fun i hi => by
    have h := Lf_wds i hi
    show W64 (Lf i * br f g 4)
    rcases hb2 with e | e
    · rw [e, Int.mul_zero]; exact ⟨by decide, by decide⟩
    · rw [e, Int.mul_one]; exact h
  have := without_gen f g (ms f g) (fun i => Lf i * br f g 4) (ps (ms f g) (fun i => Lf i * br f g 4)) (br f g 4) (pc (ms f g) (fun i => Lf i * br f g 4) 4) w
    (fun w => minus_any f g w hf hg) (fun w => once_any Lf _ w Lf_wds hb2) (fun w => plus_any _ _ w (ms_wds f g 4) wl)
  rwa [without_val hf hg h0 h1] at this

set_option maxRecDepth 100000 in
set_option maxHeartbeats 2000000 in
theorem add_gen (M N V c : Int) (r : Nat → Int) (w : World)
    (H0 : ∀ w, Calls Tryz.prog 67 #[.agg (arr 4 (d64 M)), .agg (arr 4 (d64 N))] w fun x w' => x = .returned (.tuple #[.agg (arr 4 r), .int .u64 c]) ∧ Below w.heap.size w w')
    (H2 : ∀ w, Calls Tryz.prog 68 #[.agg (arr 4 r), .agg (arr 4 Lf)] w fun x w' => x = .returned (.agg (arr 4 (d64 V))) ∧ Below w.heap.size w w') :
    Calls Tryz.prog 28 #[.agg (arr 4 (d64 M)), .agg (arr 4 (d64 N))] w fun x w' => x = .returned (.agg (arr 4 (d64 V))) ∧ Below w.heap.size w w' := by
  have C0 := hide H0
  have C1 := hide modulus_any
  have C2 := hide H2
  clear H0 H2
  have R1 : Row (((w.alloc (.cells (arr 4 (d64 M)) 44)).alloc (.cells (arr 4 (d64 N)) 44)).alloc (.cells (arr 4 fun _ => 0) 44)) w.heap.size 44 4 (d64 M) := ((Row.new w 44 4 _).alloc _).alloc _
  have R2 : Row (((w.alloc (.cells (arr 4 (d64 M)) 44)).alloc (.cells (arr 4 (d64 N)) 44)).alloc (.cells (arr 4 fun _ => 0) 44)) (w.heap.size + 1) 44 4 (d64 N) := (Row.new' _ 44 4 _ (by simp)).alloc _
  have R3 : Row (((w.alloc (.cells (arr 4 (d64 M)) 44)).alloc (.cells (arr 4 (d64 N)) 44)).alloc (.cells (arr 4 fun _ => 0) 44)) (w.heap.size + 1 + 1) 44 4 (fun _ => 0) := Row.new' _ 44 4 _ (by simp)
  have O : Below w.heap.size w (((w.alloc (.cells (arr 4 (d64 M)) 44)).alloc (.cells (arr 4 (d64 N)) 44)).alloc (.cells (arr 4 fun _ => 0) 44)) := (((Below.refl _ _).alloc (Nat.le_refl _) _).alloc (by simp) _).alloc (by simp; omega) _
  have HR := hide (And.intro R1 (And.intro R2 (And.intro R3 O)))
  clear R1 R2 R3 O
  go_enter Tryz.func28, Tryz.ntmps28
  go_wp2_with (first | (refine wpList_load_row rfl 42 _ rfl w.heap.size rfl 44 (arr 4 (d64 M)) (0, 0) _ HR.out.1 Tryz.underlying42 rfl (info42 _) ?_) | (refine wpList_load_row rfl 42 _ rfl (w.heap.size + 1) rfl 44 (arr 4 (d64 N)) (0, 0) _ HR.out.2.1 Tryz.underlying42 rfl (info42 _) ?_))
  rw [show #[Value.int IntKind.u64 0, Value.int IntKind.u64 0, Value.int IntKind.u64 0, Value.int IntKind.u64 0] = arr 4 (fun _ => 0) from rfl]
  obtain ⟨R1, R2, R3, O⟩ := HR.out
  clear HR R1 R2
  generalize (((w.alloc (.cells (arr 4 (d64 M)) 44)).alloc (.cells (arr 4 (d64 N)) 44)).alloc (.cells (arr 4 fun _ => 0) 44)) = W at R3 O ⊢
  refine (C0.out _).mono ?_
  rintro _ w1 ⟨rfl, hb1⟩
  replace R3 := R3.keep hb1
  replace O := O.trans (hb1.mono O.size)
  clear hb1
  have RC : Row (w1.alloc (.cells #[Value.int IntKind.u64 0, Value.int IntKind.u64 0, Value.int IntKind.u64 0, Value.int IntKind.u64 0] 42)) w1.heap.size 42 4 (fun _ => 0) := Row.new w1 42 4 (fun _ => 0)
  have gl := R3.lt
  have RR := hide (RC.setAll r)
  have BB := below_setCells (g := w1.heap.size) (Nat.le_refl _) (arr 4 r).toList 0 (new_below w1 (.cells #[Value.int IntKind.u64 0, Value.int IntKind.u64 0, Value.int IntKind.u64 0, Value.int IntKind.u64 0] 42))
  have R3' := hide (R3.keep BB)
  have O' := hide (O.trans (BB.mono O.size))
  clear R3 O BB
  go_wp2_with (refine wpList_store_mid rfl 42 _ _ rfl w1.heap.size 0 (arr 4 r) rfl rfl ?thr (info42 _) (arr_one _ _) ?_)
  case thr => rw [arr_size]; exact RC.there
  have R3 := R3'.out
  have O := O'.out
  replace RC := RR.out
  clear R3' O' RR
  generalize w1.heap.size = gc at *
  generalize (w1.alloc (.cells #[Value.int IntKind.u64 0, Value.int IntKind.u64 0, Value.int IntKind.u64 0, Value.int IntKind.u64 0] 42)).setCells gc 0 (arr 4 r).toList = W2 at *
  refine region_cut (fun a0 a' w' => a' = ((a0.put (some 15) (.agg (arr 4 r))).put (some 16) (.agg (arr 4 Lf))).put (some 17) (.agg (arr 4 (d64 V))) ∧ Row w' (w.heap.size + 1 + 1) 44 4 (d64 V) ∧ Below w.heap.size w w') (by kernel_rfl) ?_ ?_
  · clear RC R3 O
    rintro _ w8 ⟨rfl, R3, O⟩
    go_simp
    go_wp2
    exact bodyPost_ret (v := .agg (arr 4 (d64 V))) (results_cell_row Tryz.results28 _ _ (w.heap.size + 1 + 1) 44 (arr 4 (d64 V)) (0, 0) _ rfl R3 Tryz.underlying44 rfl (info44 _)) rfl ⟨rfl, O⟩
  · intro hrest
    replace RC := rowD RC
    replace R3 := rowD R3
    replace O := O.drew
    generalize W2.drew = W0 at *
    refine wpAny_ready (rs := [0, 1]) (by kernel_rfl) (by simp) ?_
    refine ready_load rfl rfl 42 _ rfl gc (by kernel_rfl) 42 (arr 4 r) (0, 0) _ RC Tryz.underlying42 rfl (info42 _) ?_ ?_
    · skip
      refine wpAny_ready (rs := [1]) (by kernel_rfl) (by simp) ?_
      refine ready_call 69 #[] rfl rfl (by kernel_rfl) ?_ ?_
      · refine (C1.out _).mono ?_
        rintro _ w102 ⟨rfl, hb102⟩
        refine ⟨_, rfl, ?_⟩
        replace R3 := R3.keep hb102
        replace RC := RC.keep hb102
        replace O := O.trans (hb102.mono O.size)
        clear hb102
        refine wpAny_ready (rs := [2]) (by kernel_rfl) (by simp) ?_
        refine ready_call 68 #[.agg (arr 4 r), .agg (arr 4 Lf)] rfl rfl (by kernel_rfl) ?_ ?_
        · refine (C2.out _).mono ?_
          rintro _ w103 ⟨rfl, hb103⟩
          refine ⟨_, rfl, ?_⟩
          replace R3 := R3.keep hb103
          replace RC := RC.keep hb103
          replace O := O.trans (hb103.mono O.size)
          clear hb103
          refine wpAny_ready (rs := [3]) (by kernel_rfl) (by simp) ?_
          refine ready_store rfl rfl 44 _ _ rfl (w.heap.size + 1 + 1) 0 (arr 4 (d64 V)) (by kernel_rfl) (by kernel_rfl) (by rw [arr_size]; exact R3.there) (info44 _) (arr_one _ _) ?_ ?_
          · skip
            exact wpAny_done (by kernel_rfl) (hrest _ _ ⟨by kernel_rfl, R3.setAll _, below_setCells (by omega) _ _ O⟩) _
          exact AllReady.nil
        exact AllReady.nil
      exact AllReady.nil
    refine ready_call 69 #[] rfl rfl (by kernel_rfl) ?_ ?_
    · refine (C1.out _).mono ?_
      rintro _ w105 ⟨rfl, hb105⟩
      refine ⟨_, rfl, ?_⟩
      replace R3 := R3.keep hb105
      replace RC := RC.keep hb105
      replace O := O.trans (hb105.mono O.size)
      clear hb105
      refine wpAny_ready (rs := [0]) (by kernel_rfl) (by simp) ?_
      refine ready_load rfl rfl 42 _ rfl gc (by kernel_rfl) 42 (arr 4 r) (0, 0) _ RC Tryz.underlying42 rfl (info42 _) ?_ ?_
      · skip
        refine wpAny_ready (rs := [2]) (by kernel_rfl) (by simp) ?_
        refine ready_call 68 #[.agg (arr 4 r), .agg (arr 4 Lf)] rfl rfl (by kernel_rfl) ?_ ?_
        · refine (C2.out _).mono ?_
          rintro _ w107 ⟨rfl, hb107⟩
          refine ⟨_, rfl, ?_⟩
          replace R3 := R3.keep hb107
          replace RC := RC.keep hb107
          replace O := O.trans (hb107.mono O.size)
          clear hb107
          refine wpAny_ready (rs := [3]) (by kernel_rfl) (by simp) ?_
          refine ready_store rfl rfl 44 _ _ rfl (w.heap.size + 1 + 1) 0 (arr 4 (d64 V)) (by kernel_rfl) (by kernel_rfl) (by rw [arr_size]; exact R3.there) (info44 _) (arr_one _ _) ?_ ?_
          · skip
            exact wpAny_done (by kernel_rfl) (hrest _ _ ⟨by kernel_rfl, R3.setAll _, below_setCells (by omega) _ _ O⟩) _
          exact AllReady.nil
        exact AllReady.nil
      exact AllReady.nil
    exact AllReady.nil

theorem add_any (M N : Int) (w : World) (hM : 0 ≤ M ∧ M < Lm) (hN : 0 ≤ N ∧ N < Lm) :
    Calls Tryz.prog 28 #[.agg (arr 4 (d64 M)), .agg (arr 4 (d64 N))] w fun x w' => x = .returned (.agg (arr 4 (d64 ((M + N) % Lm)))) ∧ Below w.heap.size w w' := by
  have e := ps_Q (d64 M) (d64 N) 4
  have hc := pc_bd (d64_wds M 4) (d64_wds N 4) 4 (by omega)
  have hb := Q_bd (ps_wds (d64 M) (d64 N) 4)
  rw [dQ hM, dQ hN] at e
  rw [P256] at e hb
  have hs : Q (ps (d64 M) (d64 N)) 4 = M + N := by
    unfold Lm at *
    omega
  have hv : (Q (ps (d64 M) (d64 N)) 4 - Q Lf 4) % Lm = (M + N) % Lm := by rw [hs, Lf_Q, Int.sub_emod_right]
  refine add_gen M N _ _ _ w (fun w => plus_any _ _ w (d64_wds M 4) (d64_wds N 4)) (fun w => ?_)
  have := without_any (ps (d64 M) (d64 N)) Lf w (ps_wds _ _ 4) Lf_wds (by rw [hs, Lf_Q]; omega) (by rw [hs, Lf_Q]; omega)
  rwa [hv] at this

end Go.Proofs.YtmhfmhmpoobmlaaGreatDoor.Ord

/- The contract of next: a number with a further half word below it, modulo the order. -/
namespace Go.Proofs.YtmhfmhmpoobmlaaGreatDoor.Ord
open Go.RowKit

theorem nx_or {x y : Int} (_hx : W64 x) (hy : 0 ≤ y) (hy1 : y < 4294967296) : bits BinOp.or IntKind.u64 (IntKind.u64.wrap (x * 4294967296)) y = x * 4294967296 % 18446744073709551616 + y := by
  rw [IntKind.wrap_u64, or_join 32 4294967296 (by decide) ⟨by omega, by omega⟩ ⟨by omega, by omega⟩ (by omega) (by omega)]
theorem nx_and {x : Int} (hx : W64 x) : bits BinOp.and IntKind.u64 x 268435455 = x % 268435456 := by
  obtain ⟨h0, h1⟩ := hx
  rw [u64_and x _ h0 (by omega) (by decide) (by decide)]
  have e : (268435455 : Int).toNat = 268435455 := by decide
  have e2 : x.toNat &&& 268435455 = x.toNat % 268435456 := Nat.and_two_pow_sub_one_eq_mod _ 28
  rw [e, e2]
  omega

set_option maxRecDepth 100000 in
set_option maxHeartbeats 1000000 in
theorem next_gen (x0 x1 x2 x3 H : Int) (t : Nat → Int) (w : World) (k0 : W64 x0) (k1 : W64 x1) (k2 : W64 x2) (k3 : W64 x3) (h0 : 0 ≤ H) (h1 : H < 4294967296)
    (HC : ∀ w, Calls Tryz.prog 68 #[.agg #[.int .u64 (x0 * 4294967296 % 18446744073709551616 + H), .int .u64 (x1 * 4294967296 % 18446744073709551616 + x0 / 4294967296), .int .u64 (x2 * 4294967296 % 18446744073709551616 + x1 / 4294967296), .int .u64 (x3 % 268435456 * 4294967296 + x2 / 4294967296)], .agg #[.int .u64 (x3 / 268435456 * 6346243789798364141 % 18446744073709551616), .int .u64 ((x3 / 268435456 * 1503914060200516822 + x3 / 268435456 * 6346243789798364141 / 18446744073709551616) % 18446744073709551616), .int .u64 ((x3 / 268435456 * 1503914060200516822 + x3 / 268435456 * 6346243789798364141 / 18446744073709551616) / 18446744073709551616), .int .u64 0]] w fun x w' => x = .returned (.agg (arr 4 t)) ∧ Below w.heap.size w w') :
    Calls Tryz.prog 127 #[.agg #[.int .u64 x0, .int .u64 x1, .int .u64 x2, .int .u64 x3], .int .u64 H] w fun x w' => x = .returned (.agg (arr 4 t)) ∧ Below w.heap.size w w' := by
  have e0 := nx_or k0 h0 h1
  have e1 := nx_or k1 (y := x0 / 4294967296) (by unfold W64 at *; omega) (by unfold W64 at *; omega)
  have e2 := nx_or k2 (y := x1 / 4294967296) (by unfold W64 at *; omega) (by unfold W64 at *; omega)
  have e3 := nx_and k3
  have e4 : bits BinOp.or IntKind.u64 (x3 % 268435456 * 4294967296) (x2 / 4294967296) = x3 % 268435456 * 4294967296 + x2 / 4294967296 := by
    unfold W64 at *
    rw [or_join 32 4294967296 (by decide) ⟨by omega, by omega⟩ ⟨by omega, by omega⟩ (by omega) (by omega)]
  have q0 : W64 (x3 / 268435456) := by unfold W64 at *; omega
  have C := hide HC
  have c1 : W64 (x3 / 268435456 * 6346243789798364141 / 18446744073709551616) := by unfold W64 at *; omega
  have p1 := fun w => productAnd_any (x3 / 268435456) 6346243789798364141 0 0 w q0 ⟨by decide, by decide⟩ ⟨by decide, by decide⟩ ⟨by decide, by decide⟩
  have p2 := fun w => productAnd_any (x3 / 268435456) 1503914060200516822 (x3 / 268435456 * 6346243789798364141 / 18446744073709551616) 0 w q0 ⟨by decide, by decide⟩ c1 ⟨by decide, by decide⟩
  simp only [Int.add_zero] at p1 p2
  have P1 := hide p1
  have P2 := hide p2
  clear HC p1 p2 c1
  have O : Below w.heap.size w ((((w.alloc (.cells #[.int .u64 x0, .int .u64 x1, .int .u64 x2, .int .u64 x3] 44)).alloc (.cells #[.int .u64 0, .int .u64 0, .int .u64 0, .int .u64 0] 44)).alloc (.cells #[.int .u64 x0, .int .u64 x1, .int .u64 x2, .int .u64 x3] 42)).alloc (.cells #[.int .u64 (x0 * 4294967296 % 18446744073709551616 + H), .int .u64 (x1 * 4294967296 % 18446744073709551616 + x0 / 4294967296), .int .u64 (x2 * 4294967296 % 18446744073709551616 + x1 / 4294967296), .int .u64 (x3 % 268435456 * 4294967296 + x2 / 4294967296)] 42)) := ((((Below.refl _ _).alloc (Nat.le_refl _) _).alloc (by simp) _).alloc (by simp; omega) _).alloc (by simp; omega) _
  have R3 : Row ((((w.alloc (.cells #[.int .u64 x0, .int .u64 x1, .int .u64 x2, .int .u64 x3] 44)).alloc (.cells #[.int .u64 0, .int .u64 0, .int .u64 0, .int .u64 0] 44)).alloc (.cells #[.int .u64 x0, .int .u64 x1, .int .u64 x2, .int .u64 x3] 42)).alloc (.cells #[.int .u64 (x0 * 4294967296 % 18446744073709551616 + H), .int .u64 (x1 * 4294967296 % 18446744073709551616 + x0 / 4294967296), .int .u64 (x2 * 4294967296 % 18446744073709551616 + x1 / 4294967296), .int .u64 (x3 % 268435456 * 4294967296 + x2 / 4294967296)] 42)) (w.heap.size + 1) 44 4 (fun _ => 0) := ((Row.new' _ 44 4 (fun _ => 0) (by simp)).alloc _).alloc _
  have HO := hide (And.intro O R3)
  clear O R3
  go_enter Tryz.func127, Tryz.ntmps127
  go_wp2_with fail
  refine (P1.out _).mono ?_
  rintro _ w1 ⟨rfl, rfl⟩
  go_wp2_with fail
  refine (P2.out _).mono ?_
  rintro _ w2 ⟨rfl, rfl⟩
  go_wp2_with fail
  refine (C.out _).mono ?_
  rintro _ w3 ⟨rfl, hb⟩
  have R3 := HO.out.2.keep hb
  have O := HO.out.1.trans (hb.mono HO.out.1.size)
  clear hb HO C P1 P2 e0 e1 e2 e3 e4
  have RR := hide (R3.setAll t)
  have OO := hide (below_setCells (g := w.heap.size + 1) (by omega) (arr 4 t).toList 0 O)
  clear O
  go_wp2_with (refine wpList_store_mid rfl 44 _ _ rfl (w.heap.size + 1) 0 (arr 4 t) rfl rfl ?thn (info44 _) (arr_one _ _) ?_)
  case thn => rw [arr_size]; exact R3.there
  exact bodyPost_ret (v := .agg (arr 4 t)) (results_cell_row Tryz.results127 _ _ (w.heap.size + 1) 44 (arr 4 t) (0, 0) _ rfl RR.out Tryz.underlying44 rfl (info44 _)) rfl ⟨rfl, OO.out⟩

theorem Q4 (f : Nat → Int) : Q f 4 = f 0 + f 1 * 18446744073709551616 + f 2 * 340282366920938463463374607431768211456 + f 3 * 6277101735386680763835789423207666416102355444464034512896 := by
  simp [Q]

/-- What rest is. -/
def nf (x0 x1 x2 x3 H : Int) : Nat → Int := fun i => [x0 * 4294967296 % 18446744073709551616 + H, x1 * 4294967296 % 18446744073709551616 + x0 / 4294967296, x2 * 4294967296 % 18446744073709551616 + x1 / 4294967296, x3 % 268435456 * 4294967296 + x2 / 4294967296].getD i 0
def ng (o : Int) : Nat → Int := fun i => [o * 6346243789798364141 % 18446744073709551616, (o * 1503914060200516822 + o * 6346243789798364141 / 18446744073709551616) % 18446744073709551616, (o * 1503914060200516822 + o * 6346243789798364141 / 18446744073709551616) / 18446744073709551616, 0].getD i 0

theorem nf_Q (x0 x1 x2 x3 H : Int) : Q (nf x0 x1 x2 x3 H) 4 = (x0 + x1 * 18446744073709551616 + x2 * 340282366920938463463374607431768211456 + x3 % 268435456 * 6277101735386680763835789423207666416102355444464034512896) * 4294967296 + H := by
  rw [Q4]
  show (x0 * 4294967296 % 18446744073709551616 + H) + (x1 * 4294967296 % 18446744073709551616 + x0 / 4294967296) * 18446744073709551616 + (x2 * 4294967296 % 18446744073709551616 + x1 / 4294967296) * 340282366920938463463374607431768211456 + (x3 % 268435456 * 4294967296 + x2 / 4294967296) * 6277101735386680763835789423207666416102355444464034512896 = _
  omega
theorem ng_Q (o : Int) : Q (ng o) 4 = o * 27742317777372353535851937790883648493 := by
  rw [Q4]
  show o * 6346243789798364141 % 18446744073709551616 + ((o * 1503914060200516822 + o * 6346243789798364141 / 18446744073709551616) % 18446744073709551616) * 18446744073709551616 + ((o * 1503914060200516822 + o * 6346243789798364141 / 18446744073709551616) / 18446744073709551616) * 340282366920938463463374607431768211456 + 0 * 6277101735386680763835789423207666416102355444464034512896 = _
  omega

theorem next_any (N H : Int) (w : World) (hN : 0 ≤ N ∧ N < Lm) (h0 : 0 ≤ H) (h1 : H < 4294967296) :
    Calls Tryz.prog 127 #[.agg (arr 4 (d64 N)), .int .u64 H] w fun x w' => x = .returned (.agg (arr 4 (d64 ((N * 4294967296 + H) % Lm)))) ∧ Below w.heap.size w w' := by
  have k0 := d64_wds N 4 0 (by omega)
  have k1 := d64_wds N 4 1 (by omega)
  have k2 := d64_wds N 4 2 (by omega)
  have k3 := d64_wds N 4 3 (by omega)
  have hq := dQ hN
  rw [Q4] at hq
  show Calls Tryz.prog 127 #[.agg #[.int .u64 (d64 N 0), .int .u64 (d64 N 1), .int .u64 (d64 N 2), .int .u64 (d64 N 3)], .int .u64 H] w _
  generalize d64 N 0 = x0 at *
  generalize d64 N 1 = x1 at *
  generalize d64 N 2 = x2 at *
  generalize d64 N 3 = x3 at *
  refine next_gen x0 x1 x2 x3 H _ w k0 k1 k2 k3 h0 h1 (fun w => ?_)
  unfold W64 at k0 k1 k2 k3
  have wf : Wds (nf x0 x1 x2 x3 H) 4 := fun i hi => by
    rcases (show i = 0 ∨ i = 1 ∨ i = 2 ∨ i = 3 by omega) with rfl | rfl | rfl | rfl
    · show W64 (x0 * 4294967296 % 18446744073709551616 + H); exact ⟨by omega, by omega⟩
    · show W64 (x1 * 4294967296 % 18446744073709551616 + x0 / 4294967296); exact ⟨by omega, by omega⟩
    · show W64 (x2 * 4294967296 % 18446744073709551616 + x1 / 4294967296); exact ⟨by omega, by omega⟩
    · show W64 (x3 % 268435456 * 4294967296 + x2 / 4294967296); exact ⟨by omega, by omega⟩
  have wg : Wds (ng (x3 / 268435456)) 4 := fun i hi => by
    rcases (show i = 0 ∨ i = 1 ∨ i = 2 ∨ i = 3 by omega) with rfl | rfl | rfl | rfl
    · show W64 (x3 / 268435456 * 6346243789798364141 % 18446744073709551616); exact ⟨by omega, by omega⟩
    · show W64 ((x3 / 268435456 * 1503914060200516822 + x3 / 268435456 * 6346243789798364141 / 18446744073709551616) % 18446744073709551616); exact ⟨by omega, by omega⟩
    · show W64 ((x3 / 268435456 * 1503914060200516822 + x3 / 268435456 * 6346243789798364141 / 18446744073709551616) / 18446744073709551616); exact ⟨by omega, by omega⟩
    · show W64 0; exact ⟨by decide, by decide⟩
  have ef := nf_Q x0 x1 x2 x3 H
  have eg := ng_Q (x3 / 268435456)
  have ed : Q (nf x0 x1 x2 x3 H) 4 - Q (ng (x3 / 268435456)) 4 = N * 4294967296 + H - x3 / 268435456 * Lm := by
    rw [ef, eg, ← hq]
    unfold Lm
    omega
  have := without_any (nf x0 x1 x2 x3 H) (ng (x3 / 268435456)) w wf wg (by rw [ef, eg]; unfold Lm; omega) (by rw [ef, eg]; unfold Lm; omega)
  rw [ed, Int.sub_mul_emod_self_right] at this
  exact this

end Go.Proofs.YtmhfmhmpoobmlaaGreatDoor.Ord

/- The contract of modulo: 512 bits modulo the order. -/
namespace Go.Proofs.YtmhfmhmpoobmlaaGreatDoor.Ord
open Go.RowKit

/-- What a is after k rounds. -/
def md (f : Nat → Int) : Nat → Int
  | 0 => f 5 + f 6 * 18446744073709551616 + f 7 * 340282366920938463463374607431768211456
  | k + 1 => (md f k * 18446744073709551616 + f (4 - k)) % Lm
theorem md_bd {f : Nat → Int} (hf : Wds f 8) : ∀ k, 0 ≤ md f k ∧ md f k < Lm
  | 0 => by
    have h5 := hf 5 (by omega)
    have h6 := hf 6 (by omega)
    have h7 := hf 7 (by omega)
    unfold W64 at *
    unfold md Lm
    omega
  | k + 1 => lmod _
theorem md_step (a b : Int) : (a % Lm * 18446744073709551616 + b) % Lm = (a * 18446744073709551616 + b) % Lm := by
  rw [Int.add_emod, Int.mul_emod, Int.emod_emod_of_dvd a (Int.dvd_refl _), ← Int.mul_emod, ← Int.add_emod]
theorem md_half (N h : Int) : ((N * 4294967296 + h / 4294967296) % Lm * 4294967296 + h % 4294967296) % Lm = (N * 18446744073709551616 + h) % Lm := by
  rw [Int.add_emod, Int.mul_emod, Int.emod_emod_of_dvd _ (Int.dvd_refl Lm), ← Int.mul_emod, ← Int.add_emod]
  congr 1
  omega
theorem Q8 (f : Nat → Int) : Q f 8 = (((((f 5 + f 6 * 18446744073709551616 + f 7 * 340282366920938463463374607431768211456) * 18446744073709551616 + f 4) * 18446744073709551616 + f 3) * 18446744073709551616 + f 2) * 18446744073709551616 + f 1) * 18446744073709551616 + f 0 := by
  simp [Q]
  omega
theorem md_all (f : Nat → Int) : md f 5 = Q f 8 % Lm := by
  rw [Q8]
  have s1 : md f 1 = ((f 5 + f 6 * 18446744073709551616 + f 7 * 340282366920938463463374607431768211456) * 18446744073709551616 + f 4) % Lm := rfl
  have s2 : md f 2 = (((f 5 + f 6 * 18446744073709551616 + f 7 * 340282366920938463463374607431768211456) * 18446744073709551616 + f 4) * 18446744073709551616 + f 3) % Lm := by
    show (md f 1 * 18446744073709551616 + f 3) % Lm = _
    rw [s1, md_step]
  have s3 : md f 3 = ((((f 5 + f 6 * 18446744073709551616 + f 7 * 340282366920938463463374607431768211456) * 18446744073709551616 + f 4) * 18446744073709551616 + f 3) * 18446744073709551616 + f 2) % Lm := by
    show (md f 2 * 18446744073709551616 + f 2) % Lm = _
    rw [s2, md_step]
  have s4 : md f 4 = (((((f 5 + f 6 * 18446744073709551616 + f 7 * 340282366920938463463374607431768211456) * 18446744073709551616 + f 4) * 18446744073709551616 + f 3) * 18446744073709551616 + f 2) * 18446744073709551616 + f 1) % Lm := by
    show (md f 3 * 18446744073709551616 + f 1) % Lm = _
    rw [s3, md_step]
  show (md f 4 * 18446744073709551616 + f 0) % Lm = _
  rw [s4, md_step]

theorem and32 {x : Int} (h : W64 x) : bits BinOp.and IntKind.u64 x 4294967295 = x % 4294967296 := by
  obtain ⟨X, rfl⟩ := Int.eq_ofNat_of_zero_le h.1
  have := h.2
  rw [maskN X (by omega)]
  omega

set_option maxRecDepth 100000 in
set_option maxHeartbeats 2000000 in
theorem modulo_any (f : Nat → Int) (w : World) (hf : Wds f 8) :
    Calls Tryz.prog 71 #[.agg (arr 8 f)] w fun x w' => x = .returned (.agg (arr 4 (d64 (Q f 8 % Lm)))) ∧ Below w.heap.size w w' := by
  rw [← md_all]
  have hm := md_bd hf
  have R1 : Row ((w.alloc (.cells (arr 8 f) 96)).alloc (.cells (arr 4 fun _ => 0) 44)) w.heap.size 96 8 f := (Row.new w 96 8 f).alloc _
  have R2 : Row ((w.alloc (.cells (arr 8 f) 96)).alloc (.cells (arr 4 fun _ => 0) 44)) (w.heap.size + 1) 44 4 (fun _ => 0) := Row.new' _ 44 4 _ (by simp)
  have O : Below w.heap.size w ((w.alloc (.cells (arr 8 f) 96)).alloc (.cells (arr 4 fun _ => 0) 44)) := ((Below.refl _ _).alloc (Nat.le_refl _) _).alloc (by simp) _
  have c5 : ((w.alloc (.cells (arr 8 f) 96)).alloc (.cells #[Value.int IntKind.u64 0, Value.int IntKind.u64 0, Value.int IntKind.u64 0, Value.int IntKind.u64 0] 44)).cell? ⟨w.heap.size, 5, none⟩ = some (.int .u64 (f 5)) := R1.cell (i := 5) (by omega)
  have c6 : ((w.alloc (.cells (arr 8 f) 96)).alloc (.cells #[Value.int IntKind.u64 0, Value.int IntKind.u64 0, Value.int IntKind.u64 0, Value.int IntKind.u64 0] 44)).cell? ⟨w.heap.size, 6, none⟩ = some (.int .u64 (f 6)) := R1.cell (i := 6) (by omega)
  have c7 : ((w.alloc (.cells (arr 8 f) 96)).alloc (.cells #[Value.int IntKind.u64 0, Value.int IntKind.u64 0, Value.int IntKind.u64 0, Value.int IntKind.u64 0] 44)).cell? ⟨w.heap.size, 7, none⟩ = some (.int .u64 (f 7)) := R1.cell (i := 7) (by omega)
  replace R1 := R1.alloc (.cells #[.int .u64 (f 5), .int .u64 (f 6), .int .u64 (f 7), .int .u64 0] 44)
  replace R2 := R2.alloc (.cells #[.int .u64 (f 5), .int .u64 (f 6), .int .u64 (f 7), .int .u64 0] 44)
  have RA : Row (((w.alloc (.cells (arr 8 f) 96)).alloc (.cells (arr 4 fun _ => 0) 44)).alloc (.cells #[.int .u64 (f 5), .int .u64 (f 6), .int .u64 (f 7), .int .u64 0] 44)) (w.heap.size + 1 + 1) 44 4 (fun i => [f 5, f 6, f 7, 0].getD i 0) := Row.new' _ 44 4 (fun i => [f 5, f 6, f 7, 0].getD i 0) (by simp)
  replace O := O.alloc (by simp; omega) (.cells #[.int .u64 (f 5), .int .u64 (f 6), .int .u64 (f 7), .int .u64 0] 44)
  replace RA := RA.congr (f' := d64 (md f 0)) (Q_inj (fun i hi => by
    rcases (show i = 0 ∨ i = 1 ∨ i = 2 ∨ i = 3 by omega) with rfl | rfl | rfl | rfl
    · exact hf 5 (by omega)
    · exact hf 6 (by omega)
    · exact hf 7 (by omega)
    · show W64 (0 : Int); exact ⟨by decide, by decide⟩) (d64_wds _ 4) (by
    rw [dQ (hm 0), Q4]
    show f 5 + f 6 * 18446744073709551616 + f 7 * 340282366920938463463374607431768211456 + 0 * 6277101735386680763835789423207666416102355444464034512896 = f 5 + f 6 * 18446744073709551616 + f 7 * 340282366920938463463374607431768211456
    omega))
  have HR := hide (And.intro R1 (And.intro R2 (And.intro RA O)))
  clear R1 R2 RA O
  go_enter Tryz.func71, Tryz.ntmps71
  go_wp2_with (refine wpList_build rfl 44 _ rfl #[.int .u64 (f 5), .int .u64 (f 6), .int .u64 (f 7), .int .u64 0] (by kernel_rfl) ?_)
  rw [show #[Value.int IntKind.u64 0, Value.int IntKind.u64 0, Value.int IntKind.u64 0, Value.int IntKind.u64 0] = arr 4 (fun _ => 0) from rfl]
  clear c5 c6 c7
  obtain ⟨R1, R2, RA, O⟩ := HR.out
  clear HR
  generalize (((w.alloc (.cells (arr 8 f) 96)).alloc (.cells (arr 4 fun _ => 0) 44)).alloc (.cells #[.int .u64 (f 5), .int .u64 (f 6), .int .u64 (f 7), .int .u64 0] 44)) = W at *
  go_loopw [14] (fun v wr => ∃ k : Nat, k ≤ 5 ∧ v = .int .i64 k ∧ Row wr w.heap.size 96 8 f ∧ Row wr (w.heap.size + 1) 44 4 (fun _ => 0) ∧ Row wr (w.heap.size + 1 + 1) 44 4 (d64 (md f k)) ∧ Below w.heap.size w wr) (fun v _ => 5 - (intOf v).toNat)
  case atStart => exact ⟨0, by omega, rfl, R1, R2, RA, O⟩
  case round =>
    clear R1 R2 RA O
    obtain ⟨k, hk, rfl, R1, R2, RA, O⟩ := hrel
    by_cases hlt : k < 5
    · rcases (show k = 0 ∨ k = 1 ∨ k = 2 ∨ k = 3 ∨ k = 4 by omega) with rfl | rfl | rfl | rfl | rfl
      · have c := R1.cell (i := 4) (by omega)
        obtain ⟨b0, b1⟩ := hf 4 (by omega)
        have ea := and32 (hf 4 (by omega))
        have HN := hide (hm 0)
        have HE := hide (show md f (0 + 1) = ((md f 0 * 4294967296 + f 4 / 4294967296) % Lm * 4294967296 + f 4 % 4294967296) % Lm from (md_half (md f 0) (f 4)).symm)
        have HA := hide RA
        have H1 := hide R1
        have HO := hide (And.intro R2 O)
        clear RA R1 R2 O
        generalize f 4 = v at *
        generalize md f 0 = N at *
        go_wp2_with (refine wpList_load_row rfl 44 _ rfl (w.heap.size + 1 + 1) rfl 44 (arr 4 (d64 N)) (0, 0) _ HA.out Tryz.underlying44 rfl (info44 _) ?_)
        refine (next_any N (v / 4294967296) _ HN.out (by omega) (by omega)).mono ?_
        rintro _ w1 ⟨rfl, hb1⟩
        have RA := HA.out.keep hb1
        have R1 := H1.out.keep hb1
        have R2 := HO.out.1.keep hb1
        have O := HO.out.2.trans (hb1.mono HO.out.2.size)
        clear hb1 HA H1 HO HN
        have HN := hide (lmod (N * 4294967296 + v / 4294967296))
        generalize (N * 4294967296 + v / 4294967296) % Lm = N2 at *
        go_wp2_with fail
        refine (next_any N2 (v % 4294967296) _ HN.out (by omega) (by omega)).mono ?_
        rintro _ w2 ⟨rfl, hb2⟩
        replace RA := RA.keep hb2
        replace R1 := R1.keep hb2
        replace R2 := R2.keep hb2
        replace O := O.trans (hb2.mono O.size)
        clear hb2 HN
        rw [← HE.out]
        generalize hN3 : md f (0 + 1) = N3 at *
        have HM0 := hide hN3
        clear hN3
        have RB := hide (RA.setAll (d64 N3))
        have R1' := hide (R1.setOther (k := w.heap.size + 1 + 1) (by omega) 0 (arr 4 (d64 N3)).toList)
        have R2' := hide (R2.setOther (k := w.heap.size + 1 + 1) (by omega) 0 (arr 4 (d64 N3)).toList)
        have O' := hide (below_setCells (g := w.heap.size + 1 + 1) (by omega) (arr 4 (d64 N3)).toList 0 O)
        clear R1 R2 O
        go_wp2_with (refine wpList_store_mid rfl 44 _ _ rfl (w.heap.size + 1 + 1) 0 (arr 4 (d64 N3)) rfl rfl ?thm0 (info44 _) (arr_one _ _) ?_)
        case thm0 => rw [arr_size]; exact RA.there
        go_roundw
        case rel => exact ⟨0 + 1, by omega, rfl, R1'.out, R2'.out, (by rw [HM0.out]; exact RB.out), O'.out⟩
        case measure => simp [intOf]
      · have c := R1.cell (i := 3) (by omega)
        obtain ⟨b0, b1⟩ := hf 3 (by omega)
        have ea := and32 (hf 3 (by omega))
        have HN := hide (hm 1)
        have HE := hide (show md f (1 + 1) = ((md f 1 * 4294967296 + f 3 / 4294967296) % Lm * 4294967296 + f 3 % 4294967296) % Lm from (md_half (md f 1) (f 3)).symm)
        have HA := hide RA
        have H1 := hide R1
        have HO := hide (And.intro R2 O)
        clear RA R1 R2 O
        generalize f 3 = v at *
        generalize md f 1 = N at *
        go_wp2_with (refine wpList_load_row rfl 44 _ rfl (w.heap.size + 1 + 1) rfl 44 (arr 4 (d64 N)) (0, 0) _ HA.out Tryz.underlying44 rfl (info44 _) ?_)
        refine (next_any N (v / 4294967296) _ HN.out (by omega) (by omega)).mono ?_
        rintro _ w1 ⟨rfl, hb1⟩
        have RA := HA.out.keep hb1
        have R1 := H1.out.keep hb1
        have R2 := HO.out.1.keep hb1
        have O := HO.out.2.trans (hb1.mono HO.out.2.size)
        clear hb1 HA H1 HO HN
        have HN := hide (lmod (N * 4294967296 + v / 4294967296))
        generalize (N * 4294967296 + v / 4294967296) % Lm = N2 at *
        go_wp2_with fail
        refine (next_any N2 (v % 4294967296) _ HN.out (by omega) (by omega)).mono ?_
        rintro _ w2 ⟨rfl, hb2⟩
        replace RA := RA.keep hb2
        replace R1 := R1.keep hb2
        replace R2 := R2.keep hb2
        replace O := O.trans (hb2.mono O.size)
        clear hb2 HN
        rw [← HE.out]
        generalize hN3 : md f (1 + 1) = N3 at *
        have HM1 := hide hN3
        clear hN3
        have RB := hide (RA.setAll (d64 N3))
        have R1' := hide (R1.setOther (k := w.heap.size + 1 + 1) (by omega) 0 (arr 4 (d64 N3)).toList)
        have R2' := hide (R2.setOther (k := w.heap.size + 1 + 1) (by omega) 0 (arr 4 (d64 N3)).toList)
        have O' := hide (below_setCells (g := w.heap.size + 1 + 1) (by omega) (arr 4 (d64 N3)).toList 0 O)
        clear R1 R2 O
        go_wp2_with (refine wpList_store_mid rfl 44 _ _ rfl (w.heap.size + 1 + 1) 0 (arr 4 (d64 N3)) rfl rfl ?thm1 (info44 _) (arr_one _ _) ?_)
        case thm1 => rw [arr_size]; exact RA.there
        go_roundw
        case rel => exact ⟨1 + 1, by omega, rfl, R1'.out, R2'.out, (by rw [HM1.out]; exact RB.out), O'.out⟩
        case measure => simp [intOf]
      · have c := R1.cell (i := 2) (by omega)
        obtain ⟨b0, b1⟩ := hf 2 (by omega)
        have ea := and32 (hf 2 (by omega))
        have HN := hide (hm 2)
        have HE := hide (show md f (2 + 1) = ((md f 2 * 4294967296 + f 2 / 4294967296) % Lm * 4294967296 + f 2 % 4294967296) % Lm from (md_half (md f 2) (f 2)).symm)
        have HA := hide RA
        have H1 := hide R1
        have HO := hide (And.intro R2 O)
        clear RA R1 R2 O
        generalize f 2 = v at *
        generalize md f 2 = N at *
        go_wp2_with (refine wpList_load_row rfl 44 _ rfl (w.heap.size + 1 + 1) rfl 44 (arr 4 (d64 N)) (0, 0) _ HA.out Tryz.underlying44 rfl (info44 _) ?_)
        refine (next_any N (v / 4294967296) _ HN.out (by omega) (by omega)).mono ?_
        rintro _ w1 ⟨rfl, hb1⟩
        have RA := HA.out.keep hb1
        have R1 := H1.out.keep hb1
        have R2 := HO.out.1.keep hb1
        have O := HO.out.2.trans (hb1.mono HO.out.2.size)
        clear hb1 HA H1 HO HN
        have HN := hide (lmod (N * 4294967296 + v / 4294967296))
        generalize (N * 4294967296 + v / 4294967296) % Lm = N2 at *
        go_wp2_with fail
        refine (next_any N2 (v % 4294967296) _ HN.out (by omega) (by omega)).mono ?_
        rintro _ w2 ⟨rfl, hb2⟩
        replace RA := RA.keep hb2
        replace R1 := R1.keep hb2
        replace R2 := R2.keep hb2
        replace O := O.trans (hb2.mono O.size)
        clear hb2 HN
        rw [← HE.out]
        generalize hN3 : md f (2 + 1) = N3 at *
        have HM2 := hide hN3
        clear hN3
        have RB := hide (RA.setAll (d64 N3))
        have R1' := hide (R1.setOther (k := w.heap.size + 1 + 1) (by omega) 0 (arr 4 (d64 N3)).toList)
        have R2' := hide (R2.setOther (k := w.heap.size + 1 + 1) (by omega) 0 (arr 4 (d64 N3)).toList)
        have O' := hide (below_setCells (g := w.heap.size + 1 + 1) (by omega) (arr 4 (d64 N3)).toList 0 O)
        clear R1 R2 O
        go_wp2_with (refine wpList_store_mid rfl 44 _ _ rfl (w.heap.size + 1 + 1) 0 (arr 4 (d64 N3)) rfl rfl ?thm2 (info44 _) (arr_one _ _) ?_)
        case thm2 => rw [arr_size]; exact RA.there
        go_roundw
        case rel => exact ⟨2 + 1, by omega, rfl, R1'.out, R2'.out, (by rw [HM2.out]; exact RB.out), O'.out⟩
        case measure => simp [intOf]
      · have c := R1.cell (i := 1) (by omega)
        obtain ⟨b0, b1⟩ := hf 1 (by omega)
        have ea := and32 (hf 1 (by omega))
        have HN := hide (hm 3)
        have HE := hide (show md f (3 + 1) = ((md f 3 * 4294967296 + f 1 / 4294967296) % Lm * 4294967296 + f 1 % 4294967296) % Lm from (md_half (md f 3) (f 1)).symm)
        have HA := hide RA
        have H1 := hide R1
        have HO := hide (And.intro R2 O)
        clear RA R1 R2 O
        generalize f 1 = v at *
        generalize md f 3 = N at *
        go_wp2_with (refine wpList_load_row rfl 44 _ rfl (w.heap.size + 1 + 1) rfl 44 (arr 4 (d64 N)) (0, 0) _ HA.out Tryz.underlying44 rfl (info44 _) ?_)
        refine (next_any N (v / 4294967296) _ HN.out (by omega) (by omega)).mono ?_
        rintro _ w1 ⟨rfl, hb1⟩
        have RA := HA.out.keep hb1
        have R1 := H1.out.keep hb1
        have R2 := HO.out.1.keep hb1
        have O := HO.out.2.trans (hb1.mono HO.out.2.size)
        clear hb1 HA H1 HO HN
        have HN := hide (lmod (N * 4294967296 + v / 4294967296))
        generalize (N * 4294967296 + v / 4294967296) % Lm = N2 at *
        go_wp2_with fail
        refine (next_any N2 (v % 4294967296) _ HN.out (by omega) (by omega)).mono ?_
        rintro _ w2 ⟨rfl, hb2⟩
        replace RA := RA.keep hb2
        replace R1 := R1.keep hb2
        replace R2 := R2.keep hb2
        replace O := O.trans (hb2.mono O.size)
        clear hb2 HN
        rw [← HE.out]
        generalize hN3 : md f (3 + 1) = N3 at *
        have HM3 := hide hN3
        clear hN3
        have RB := hide (RA.setAll (d64 N3))
        have R1' := hide (R1.setOther (k := w.heap.size + 1 + 1) (by omega) 0 (arr 4 (d64 N3)).toList)
        have R2' := hide (R2.setOther (k := w.heap.size + 1 + 1) (by omega) 0 (arr 4 (d64 N3)).toList)
        have O' := hide (below_setCells (g := w.heap.size + 1 + 1) (by omega) (arr 4 (d64 N3)).toList 0 O)
        clear R1 R2 O
        go_wp2_with (refine wpList_store_mid rfl 44 _ _ rfl (w.heap.size + 1 + 1) 0 (arr 4 (d64 N3)) rfl rfl ?thm3 (info44 _) (arr_one _ _) ?_)
        case thm3 => rw [arr_size]; exact RA.there
        go_roundw
        case rel => exact ⟨3 + 1, by omega, rfl, R1'.out, R2'.out, (by rw [HM3.out]; exact RB.out), O'.out⟩
        case measure => simp [intOf]
      · have c := R1.cell (i := 0) (by omega)
        obtain ⟨b0, b1⟩ := hf 0 (by omega)
        have ea := and32 (hf 0 (by omega))
        have HN := hide (hm 4)
        have HE := hide (show md f (4 + 1) = ((md f 4 * 4294967296 + f 0 / 4294967296) % Lm * 4294967296 + f 0 % 4294967296) % Lm from (md_half (md f 4) (f 0)).symm)
        have HA := hide RA
        have H1 := hide R1
        have HO := hide (And.intro R2 O)
        clear RA R1 R2 O
        generalize f 0 = v at *
        generalize md f 4 = N at *
        go_wp2_with (refine wpList_load_row rfl 44 _ rfl (w.heap.size + 1 + 1) rfl 44 (arr 4 (d64 N)) (0, 0) _ HA.out Tryz.underlying44 rfl (info44 _) ?_)
        refine (next_any N (v / 4294967296) _ HN.out (by omega) (by omega)).mono ?_
        rintro _ w1 ⟨rfl, hb1⟩
        have RA := HA.out.keep hb1
        have R1 := H1.out.keep hb1
        have R2 := HO.out.1.keep hb1
        have O := HO.out.2.trans (hb1.mono HO.out.2.size)
        clear hb1 HA H1 HO HN
        have HN := hide (lmod (N * 4294967296 + v / 4294967296))
        generalize (N * 4294967296 + v / 4294967296) % Lm = N2 at *
        go_wp2_with fail
        refine (next_any N2 (v % 4294967296) _ HN.out (by omega) (by omega)).mono ?_
        rintro _ w2 ⟨rfl, hb2⟩
        replace RA := RA.keep hb2
        replace R1 := R1.keep hb2
        replace R2 := R2.keep hb2
        replace O := O.trans (hb2.mono O.size)
        clear hb2 HN
        rw [← HE.out]
        generalize hN3 : md f (4 + 1) = N3 at *
        have HM4 := hide hN3
        clear hN3
        have RB := hide (RA.setAll (d64 N3))
        have R1' := hide (R1.setOther (k := w.heap.size + 1 + 1) (by omega) 0 (arr 4 (d64 N3)).toList)
        have R2' := hide (R2.setOther (k := w.heap.size + 1 + 1) (by omega) 0 (arr 4 (d64 N3)).toList)
        have O' := hide (below_setCells (g := w.heap.size + 1 + 1) (by omega) (arr 4 (d64 N3)).toList 0 O)
        clear R1 R2 O
        go_wp2_with (refine wpList_store_mid rfl 44 _ _ rfl (w.heap.size + 1 + 1) 0 (arr 4 (d64 N3)) rfl rfl ?thm4 (info44 _) (arr_one _ _) ?_)
        case thm4 => rw [arr_size]; exact RA.there
        go_roundw
        case rel => exact ⟨4 + 1, by omega, rfl, R1'.out, R2'.out, (by rw [HM4.out]; exact RB.out), O'.out⟩
        case measure => simp [intOf]
    · have hk' : k = 5 := by omega
      subst hk'
      have RR := hide (R2.setAll (d64 (md f 5)))
      have OO := hide (below_setCells (g := w.heap.size + 1) (by omega) (arr 4 (d64 (md f 5))).toList 0 O)
      have HX := hide RA
      clear RA O R1
      generalize hN5 : md f 5 = N at *
      have H5 := hide hN5
      clear hN5
      go_wp2_with (first | (refine wpList_load_row rfl 44 _ rfl (w.heap.size + 1 + 1) rfl 44 (arr 4 (d64 N)) (0, 0) _ HX.out Tryz.underlying44 rfl (info44 _) ?_) | (refine wpList_store_mid rfl 44 _ _ rfl (w.heap.size + 1) 0 (arr 4 (d64 N)) rfl rfl ?the (info44 _) (arr_one _ _) ?_))
      case the => rw [arr_size]; exact R2.there
      exact bodyPost_ret (v := .agg (arr 4 (d64 N))) (results_cell_row Tryz.results71 _ _ (w.heap.size + 1) 44 (arr 4 (d64 N)) (0, 0) _ rfl RR.out Tryz.underlying44 rfl (info44 _)) rfl ⟨by rw [H5.out], OO.out⟩

end Go.Proofs.YtmhfmhmpoobmlaaGreatDoor.Ord

/- The contract of times: the product, in eight words. -/
namespace Go.Proofs.YtmhfmhmpoobmlaaGreatDoor.Ord
open Go.RowKit

theorem Q_upd (o : Nat → Int) (k : Nat) (v : Int) : ∀ n, k < n → Q (upd o k v) n = Q o n + (v - o k) * 18446744073709551616 ^ k
  | 0, h => by omega
  | n + 1, h => by
    simp only [Q]
    by_cases e : k = n
    · subst e
      rw [Q_congr (f := upd o k v) (g := o) (n := k) (fun i hi => by unfold upd; rw [if_neg (by omega)]), show upd o k v k = v by unfold upd; rw [if_pos rfl], Int.sub_mul]
      omega
    · rw [Q_upd o k v n (by omega), show upd o k v n = o n by unfold upd; rw [if_neg (by omega)]]
      omega

/-- i rows are in, and of the next one j words; c is carried. -/
structure TI (f g : Nat → Int) (i j : Nat) (o : Nat → Int) (c : Int) : Prop where
  w : Wds o 8
  cw : W64 c
  z : ∀ k, i + 4 ≤ k → k < 8 → o k = 0
  e : Q o 8 + c * 18446744073709551616 ^ (i + j) = Q f i * Q g 4 + f i * Q g j * 18446744073709551616 ^ i

theorem TI.step {f g : Nat → Int} {i j : Nat} {o : Nat → Int} {c : Int} (h : TI f g i j o c) (hf : Wds f 4) (hg : Wds g 4) (hi : i < 4) (hj : j < 4) :
    TI f g i (j + 1) (upd o (i + j) ((f i * g j + o (i + j) + c) % 18446744073709551616)) ((f i * g j + o (i + j) + c) / 18446744073709551616) := by
  have hfi := hf i hi
  have hgj := hg j hj
  have ho := h.w (i + j) (by omega)
  have hc := h.cw
  unfold W64 at hfi hgj ho hc
  have p0 : 0 ≤ f i * g j := Int.mul_nonneg hfi.1 hgj.1
  have p1 : f i * g j ≤ 18446744073709551615 * 18446744073709551615 := Int.mul_le_mul (by omega) (by omega) hgj.1 (by omega)
  refine ⟨fun k hk => ?_, ⟨by omega, by omega⟩, fun k h1 h2 => ?_, ?_⟩
  · unfold upd
    by_cases e : k = i + j
    · rw [if_pos e]; exact ⟨by omega, by omega⟩
    · rw [if_neg e]; exact h.w k hk
  · unfold upd
    rw [if_neg (by omega)]
    exact h.z k h1 h2
  · rw [Q_upd o (i + j) _ 8 (by omega)]
    have he := h.e
    have hp : (18446744073709551616 : Int) ^ (i + (j + 1)) = 18446744073709551616 * 18446744073709551616 ^ (i + j) := p64s (i + j)
    rw [hp]
    have hq : Q g (j + 1) = Q g j + g j * 18446744073709551616 ^ j := rfl
    rw [hq]
    have hx : (18446744073709551616 : Int) ^ (i + j) = 18446744073709551616 ^ i * 18446744073709551616 ^ j := Int.pow_add _ _ _
    have e1 : f i * (Q g j + g j * 18446744073709551616 ^ j) * 18446744073709551616 ^ i = f i * Q g j * 18446744073709551616 ^ i + f i * g j * 18446744073709551616 ^ (i + j) := by
      rw [hx, Int.mul_add, Int.add_mul]
      congr 1
      rw [← Int.mul_assoc, Int.mul_assoc, Int.mul_comm (18446744073709551616 ^ j)]
    rw [e1]
    generalize f i * g j = P at *
    generalize (18446744073709551616 : Int) ^ (i + j) = X at *
    have e2 : (P + o (i + j) + c) % 18446744073709551616 = P + o (i + j) + c - 18446744073709551616 * ((P + o (i + j) + c) / 18446744073709551616) := by omega
    rw [e2]
    generalize (P + o (i + j) + c) / 18446744073709551616 = D
    have e3 : (P + o (i + j) + c - 18446744073709551616 * D - o (i + j)) * X = P * X + c * X - D * (18446744073709551616 * X) := by
      rw [show P + o (i + j) + c - 18446744073709551616 * D - o (i + j) = P + c - 18446744073709551616 * D by omega, Int.sub_mul, Int.add_mul, Int.mul_comm 18446744073709551616 D, Int.mul_assoc]
    rw [e3]
    omega

theorem TI.row {f g : Nat → Int} {i : Nat} {o : Nat → Int} {c : Int} (h : TI f g i 4 o c) (hi : i < 4) : TI f g (i + 1) 0 (upd o (i + 4) c) 0 := by
  refine ⟨fun k hk => ?_, ⟨by decide, by decide⟩, fun k h1 h2 => ?_, ?_⟩
  · unfold upd
    by_cases e : k = i + 4
    · rw [if_pos e]; exact h.cw
    · rw [if_neg e]; exact h.w k hk
  · unfold upd
    rw [if_neg (by omega)]
    exact h.z k (by omega) h2
  · rw [Q_upd o (i + 4) _ 8 (by omega), h.z (i + 4) (by omega) (by omega)]
    have he := h.e
    have hq : Q f (i + 1) = Q f i + f i * 18446744073709551616 ^ i := rfl
    have h0 : Q g 0 = 0 := rfl
    rw [hq, h0, Int.mul_zero, Int.zero_mul, Int.add_mul, Int.sub_zero, Int.mul_assoc (f i), Int.mul_comm (18446744073709551616 ^ i) (Q g 4), ← Int.mul_assoc]
    omega

theorem TI.start (f g : Nat → Int) : TI f g 0 0 (fun _ => 0) 0 := by
  refine ⟨fun k _ => ⟨Int.le_refl 0, (by decide : (0 : Int) < 18446744073709551616)⟩, ⟨by decide, by decide⟩, fun _ _ _ => rfl, ?_⟩
  have h0 : Q f 0 = 0 := rfl
  have h1 : Q g 0 = 0 := rfl
  have h2 : Q (fun _ => 0) 8 = 0 := by decide
  rw [h0, h1, h2]
  simp

theorem TI.done {f g : Nat → Int} {o : Nat → Int} {c : Int} (h : TI f g 4 0 o c) (hc : c = 0) : arr 8 o = arr 8 (d64 (Q f 4 * Q g 4)) := by
  have he := h.e
  have h1 : Q g 0 = 0 := rfl
  rw [hc, h1, Int.zero_mul, Int.mul_zero, Int.zero_mul, Int.add_zero, Int.add_zero] at he
  have hb := Q_bd h.w
  refine arr_congr (Q_inj h.w (d64_wds _ 8) ?_)
  rw [← he, d64_Q _ hb.1, Int.emod_eq_of_lt hb.1 hb.2]

set_option maxRecDepth 100000 in
set_option maxHeartbeats 2000000 in
theorem times_any (f g : Nat → Int) (w : World) (hf : Wds f 4) (hg : Wds g 4) :
    Calls Tryz.prog 70 #[.agg (arr 4 f), .agg (arr 4 g)] w fun x w' => x = .returned (.agg (arr 8 (d64 (Q f 4 * Q g 4)))) ∧ Below w.heap.size w w' := by
  go_enter Tryz.func70, Tryz.ntmps70
  go_wp2
  rw [show #[Value.int IntKind.u64 0, Value.int IntKind.u64 0, Value.int IntKind.u64 0, Value.int IntKind.u64 0, Value.int IntKind.u64 0, Value.int IntKind.u64 0, Value.int IntKind.u64 0, Value.int IntKind.u64 0] = arr 8 (fun _ => 0) from rfl]
  have R1 : Row ((((w.alloc (.cells (arr 4 f) 42)).alloc (.cells (arr 4 g) 42)).alloc (.cells (arr 8 fun _ => 0) 96)).alloc (.cells (arr 8 fun _ => 0) 96)) w.heap.size 42 4 f := (((Row.new w 42 4 f).alloc _).alloc _).alloc _
  have R2 : Row ((((w.alloc (.cells (arr 4 f) 42)).alloc (.cells (arr 4 g) 42)).alloc (.cells (arr 8 fun _ => 0) 96)).alloc (.cells (arr 8 fun _ => 0) 96)) (w.heap.size + 1) 42 4 g := ((Row.new' _ 42 4 _ (by simp)).alloc _).alloc _
  have R3 : Row ((((w.alloc (.cells (arr 4 f) 42)).alloc (.cells (arr 4 g) 42)).alloc (.cells (arr 8 fun _ => 0) 96)).alloc (.cells (arr 8 fun _ => 0) 96)) (w.heap.size + 1 + 1) 96 8 (fun _ => 0) := (Row.new' _ 96 8 _ (by simp)).alloc _
  have R4 : Row ((((w.alloc (.cells (arr 4 f) 42)).alloc (.cells (arr 4 g) 42)).alloc (.cells (arr 8 fun _ => 0) 96)).alloc (.cells (arr 8 fun _ => 0) 96)) (w.heap.size + 1 + 1 + 1) 96 8 (fun _ => 0) := Row.new' _ 96 8 _ (by simp)
  have O : Below w.heap.size w ((((w.alloc (.cells (arr 4 f) 42)).alloc (.cells (arr 4 g) 42)).alloc (.cells (arr 8 fun _ => 0) 96)).alloc (.cells (arr 8 fun _ => 0) 96)) := ((((Below.refl _ _).alloc (Nat.le_refl _) _).alloc (by simp) _).alloc (by simp; omega) _).alloc (by simp; omega) _
  generalize ((((w.alloc (.cells (arr 4 f) 42)).alloc (.cells (arr 4 g) 42)).alloc (.cells (arr 8 fun _ => 0) 96)).alloc (.cells (arr 8 fun _ => 0) 96)) = W at R1 R2 R3 R4 O ⊢
  go_loopw [9] (fun x wr => ∃ i : Nat, i ≤ 4 ∧ x = .int .i64 i ∧ Row wr w.heap.size 42 4 f ∧ Row wr (w.heap.size + 1) 42 4 g ∧ Row wr (w.heap.size + 1 + 1) 96 8 (fun _ => 0) ∧ (∃ o, TI f g i 0 o 0 ∧ Row wr (w.heap.size + 1 + 1 + 1) 96 8 o) ∧ Below w.heap.size w wr) (fun x _ => 4 - (intOf x).toNat)
  case atStart => exact ⟨0, by omega, rfl, R1, R2, R3, ⟨_, TI.start f g, R4⟩, O⟩
  case round =>
    clear R1 R2 R3 R4 O
    obtain ⟨i, hi, rfl, R1, R2, R3, ⟨o, T, R4⟩, O⟩ := hrel
    by_cases hlt : i < 4
    · have HT := hide T
      clear T
      have i2 : (i : Int) < 4 := by omega
      go_wp2
      go_loopw [7, 12] (fun z y wq => ∃ j : Nat, j ≤ 4 ∧ y = .int .i64 j ∧ Row wq w.heap.size 42 4 f ∧ Row wq (w.heap.size + 1) 42 4 g ∧ Row wq (w.heap.size + 1 + 1) 96 8 (fun _ => 0) ∧ (∃ o c, TI f g i j o c ∧ z = .int .u64 c ∧ Row wq (w.heap.size + 1 + 1 + 1) 96 8 o) ∧ Below w.heap.size w wq) (fun _ y _ => 4 - (intOf y).toNat)
      case atStart => exact ⟨0, by omega, rfl, R1, R2, R3, ⟨o, 0, HT.out, rfl, R4⟩, O⟩
      case round =>
        clear R1 R2 R3 R4 O HT
        clear o
        obtain ⟨j, hj, rfl, R1, R2, R3, ⟨o, c, T, rfl, R4⟩, O⟩ := hrel
        by_cases hjl : j < 4
        · have d1 := R1.cell hlt
          have d2 := R2.cell hjl
          have d3 := R4.cell (i := i + j) (by omega)
          have fr := R4.free
          have i1 : (0 : Int) ≤ (i : Int) := by omega
          have j1 : (0 : Int) ≤ (j : Int) := by omega
          have j2 : (j : Int) < 4 := by omega
          have s1 : (0 : Int) ≤ (i : Int) + (j : Int) := by omega
          have s2 : (i : Int) + (j : Int) < 8 := by omega
          have s3 : IntKind.i64.wrap ((i : Int) + (j : Int)) = (i : Int) + (j : Int) := by rw [IntKind.wrap_i64]; omega
          have s4 : ((i : Int) + (j : Int)).toNat = i + j := by omega
          have HP := hide fun w => productAnd_any (f i) (g j) (o (i + j)) c w (hf i hlt) (hg j hjl) (T.w (i + j) (by omega)) T.cw
          have HT := hide (T.step hf hg hlt hjl)
          clear T
          go_wp2_with fail
          go_region_with (go_at_call 126; refine (HP.out _).mono ?_; rintro _ w9 ⟨rfl, rfl⟩)
          all_goals
            go_wp2
            go_roundw
            case rel => first | exact ⟨j + 1, by omega, by go_num, rowD (R1.other (a := ⟨w.heap.size + 1 + 1 + 1, i + j, none⟩) (by simp <;> omega) _), rowD (R2.other (a := ⟨w.heap.size + 1 + 1 + 1, i + j, none⟩) (by simp <;> omega) _), rowD (R3.other (a := ⟨w.heap.size + 1 + 1 + 1, i + j, none⟩) (by simp) _), ⟨_, _, HT.out, rfl, rowD (R4.set (i + j) _)⟩, (O.setCell (p := ⟨w.heap.size + 1 + 1 + 1, i + j, none⟩) (by simp <;> omega) _).drew⟩ | exact ⟨_, _, _, _, _, _, _, _, _, _, _, _, _, _, _, _, _, _, _, _, _, _, _, _, _, _, ⟨j + 1, by omega, by go_num, rowD (R1.other (a := ⟨w.heap.size + 1 + 1 + 1, i + j, none⟩) (by simp <;> omega) _), rowD (R2.other (a := ⟨w.heap.size + 1 + 1 + 1, i + j, none⟩) (by simp <;> omega) _), rowD (R3.other (a := ⟨w.heap.size + 1 + 1 + 1, i + j, none⟩) (by simp) _), ⟨_, _, HT.out, rfl, rowD (R4.set (i + j) _)⟩, (O.setCell (p := ⟨w.heap.size + 1 + 1 + 1, i + j, none⟩) (by simp <;> omega) _).drew⟩, rfl⟩
            case measure => simp [intOf]; omega
        · have hj' : j = 4 := by omega
          subst hj'
          have HT := hide (T.row hlt)
          have d3 := R4.cell (i := i + 4) (by omega)
          have fr := R4.free
          have i1 : (0 : Int) ≤ (i : Int) := by omega
          have R1' := hide (R1.other (a := ⟨w.heap.size + 1 + 1 + 1, i + 4, none⟩) (by simp <;> omega) (.int .u64 c))
          have R2' := hide (R2.other (a := ⟨w.heap.size + 1 + 1 + 1, i + 4, none⟩) (by simp <;> omega) (.int .u64 c))
          have R3' := hide (R3.other (a := ⟨w.heap.size + 1 + 1 + 1, i + 4, none⟩) (by simp) (.int .u64 c))
          have R4' := hide (R4.set (i + 4) c)
          have O' := hide (O.setCell (p := ⟨w.heap.size + 1 + 1 + 1, i + 4, none⟩) (by simp <;> omega) (.int .u64 c))
          clear R1 R2 R3 R4 O T
          go_wp2
          exact ⟨⟨i + 1, by omega, by go_num, R1'.out, R2'.out, R3'.out, ⟨_, HT.out, R4'.out⟩, O'.out⟩, by simp [intOf]; omega⟩
    · have hi' : i = 4 := by omega
      subst hi'
      have HE := hide (T.done rfl)
      have RR := hide (R3.setAll o)
      have OO := hide (below_setCells (g := w.heap.size + 1 + 1) (by omega) (arr 8 o).toList 0 O)
      have HX := hide R4
      clear R4 O R1 R2 T
      go_wp2_with (first | (refine wpList_load_row rfl 96 _ rfl (w.heap.size + 1 + 1 + 1) rfl 96 (arr 8 o) (0, 0) _ HX.out Tryz.underlying96 rfl (info96 _) ?_) | (refine wpList_store_mid rfl 96 _ _ rfl (w.heap.size + 1 + 1) 0 (arr 8 o) rfl rfl ?tht (info96 _) (arr_one _ _) ?_))
      case tht => rw [arr_size]; exact R3.there
      exact bodyPost_ret (v := .agg (arr 8 o)) (results_cell_row Tryz.results70 _ _ (w.heap.size + 1 + 1) 96 (arr 8 o) (0, 0) _ rfl RR.out Tryz.underlying96 rfl (info96 _)) rfl ⟨by rw [HE.out], OO.out⟩

end Go.Proofs.YtmhfmhmpoobmlaaGreatDoor.Ord

/- The contracts of text, words, Bytes: the 32 bytes of a number, the lowest first. -/
namespace Go.Proofs.YtmhfmhmpoobmlaaGreatDoor.Ord
open Go.RowKit

/-- Bytes as a string. -/
def bs (ns : List Int) : ByteArray := ⟨(ns.map fun n => UInt8.ofNat n.toNat).toArray⟩

theorem bs_fold (ns : List Int) : ∀ s : ByteArray, ns.foldl (fun r n => r.push (UInt8.ofNat n.toNat)) s = ⟨s.data ++ (ns.map fun n => UInt8.ofNat n.toNat).toArray⟩ := by
  induction ns with
  | nil => intro s; simp
  | cons n ns ih =>
    intro s
    rw [List.foldl_cons, ih]
    simp [ByteArray.push]

theorem conv_bytes (W : World) (g : Nat) (T : TypeId) (ns : List Int) (l cap : Nat) (fr : Nat × Nat) (hg : W.heap[g]? = some (.cells (ns.map (Value.int .u8)).toArray T fr)) (hl : ns.length = l) :
    (convert 32 9 (.slice (some ⟨g, 0, none⟩) l cap)).run Tryz.prog W = .ok (.string (bs ns)) W := by
  subst hl
  rw [run_convert_bytes_string W 32 9 5 (some ⟨g, 0, none⟩) ns.length cap Tryz.underlying32 Tryz.underlying5 Tryz.underlying9]
  have h := run_loadCells_list (P := Tryz.prog) W ⟨g, 0, none⟩ (ns.map (Value.int .u8)) (fun j v hv => by
    have hadd : (⟨g, 0, none⟩ : Addr).add j = ⟨g, j, none⟩ := by unfold Addr.add; split <;> simp_all
    rw [hadd, cell_of_row W g j _ T fr hg]
    simpa using hv)
  rw [List.length_map] at h
  have he : ByteArray.empty.data = #[] := rfl
  rw [run_bytesToString W _ ns.length cap ns h, bs_fold, he]
  simp [bs]

/-- The eight bytes of a word. -/
def digs (a : Int) : List Int := [a % 256, a / 256 % 256, a / 65536 % 256, a / 16777216 % 256, a / 4294967296 % 256, a / 1099511627776 % 256, a / 281474976710656 % 256, a / 72057594037927936 % 256]

/-- The 32 bytes of a number. -/
def lebytes (n : Int) : ByteArray := bs (digs (n % 18446744073709551616) ++ digs (n / 18446744073709551616 % 18446744073709551616) ++ digs (n / 340282366920938463463374607431768211456 % 18446744073709551616) ++ digs (n / 6277101735386680763835789423207666416102355444464034512896 % 18446744073709551616))

set_option maxRecDepth 100000 in
set_option maxHeartbeats 4000000 in
theorem text_any (a b c d : Int) (w : World) :
    Calls Tryz.prog 72 #[.agg #[.int .u64 a, .int .u64 b, .int .u64 c, .int .u64 d]] w fun r w' => r = .returned (.string (bs (digs a ++ digs b ++ digs c ++ digs d))) ∧ Below w.heap.size w w' := by
  go_enter Tryz.func72, Tryz.ntmps72
  go_wp2
  refine wp_loop_rounds 33 ?_
  iterate 33 (rw [rounds_succ]; go_wp2)
  have hcv : (convert 32 9 (.slice (some ⟨w.heap.size + 1, 0, none⟩) 32 32)).run Tryz.prog ((w.alloc (.cells #[.int .u64 a, .int .u64 b, .int .u64 c, .int .u64 d] 42)).alloc (.cells #[.int .u8 (a % 256), .int .u8 (a / 256 % 256), .int .u8 (a / 65536 % 256), .int .u8 (a / 16777216 % 256), .int .u8 (a / 4294967296 % 256), .int .u8 (a / 1099511627776 % 256), .int .u8 (a / 281474976710656 % 256), .int .u8 (a / 72057594037927936 % 256), .int .u8 (b % 256), .int .u8 (b / 256 % 256), .int .u8 (b / 65536 % 256), .int .u8 (b / 16777216 % 256), .int .u8 (b / 4294967296 % 256), .int .u8 (b / 1099511627776 % 256), .int .u8 (b / 281474976710656 % 256), .int .u8 (b / 72057594037927936 % 256), .int .u8 (c % 256), .int .u8 (c / 256 % 256), .int .u8 (c / 65536 % 256), .int .u8 (c / 16777216 % 256), .int .u8 (c / 4294967296 % 256), .int .u8 (c / 1099511627776 % 256), .int .u8 (c / 281474976710656 % 256), .int .u8 (c / 72057594037927936 % 256), .int .u8 (d % 256), .int .u8 (d / 256 % 256), .int .u8 (d / 65536 % 256), .int .u8 (d / 16777216 % 256), .int .u8 (d / 4294967296 % 256), .int .u8 (d / 1099511627776 % 256), .int .u8 (d / 281474976710656 % 256), .int .u8 (d / 72057594037927936 % 256)] 89)) = .ok (.string (bs (digs a ++ digs b ++ digs c ++ digs d))) _ := conv_bytes _ (w.heap.size + 1) 89 (digs a ++ digs b ++ digs c ++ digs d) 32 32 (0, 0) (heap_alloc2_new w _ _) rfl
  rw [hcv]
  clear hcv
  generalize hB : bs (digs a ++ digs b ++ digs c ++ digs d) = B
  have HB := hide hB
  clear hB
  go_wp2
  go_ret
  exact ⟨by rw [HB.out]; rfl, ((Below.refl _ _).alloc (Nat.le_refl _) _).alloc (by simp) _⟩

end Go.Proofs.YtmhfmhmpoobmlaaGreatDoor.Ord

/- The contracts of the scalars' Mul, Same and Bytes. -/
namespace Go.Proofs.YtmhfmhmpoobmlaaGreatDoor.Ord
open Go.RowKit

theorem prod_Q {M N : Int} (hM : 0 ≤ M ∧ M < Lm) (hN : 0 ≤ N ∧ N < Lm) : Q (d64 (M * N)) 8 = M * N := by
  have h0 : 0 ≤ M * N := Int.mul_nonneg hM.1 hN.1
  have h1 : M * N ≤ Lm * Lm := Int.mul_le_mul (by omega) (by omega) hN.1 (by decide)
  have h2 : Lm * Lm < 18446744073709551616 ^ 8 := by decide
  rw [d64_Q _ h0, Int.emod_eq_of_lt h0 (by omega)]

set_option maxRecDepth 100000 in
set_option maxHeartbeats 1000000 in
theorem mul_any (M N : Int) (w : World) (hM : 0 ≤ M ∧ M < Lm) (hN : 0 ≤ N ∧ N < Lm) :
    Calls Tryz.prog 29 #[.agg (arr 4 (d64 M)), .agg (arr 4 (d64 N))] w fun x w' => x = .returned (.agg (arr 4 (d64 (M * N % Lm)))) ∧ Below w.heap.size w w' := by
  have C1 : Hid (∀ w, Calls Tryz.prog 70 #[.agg (arr 4 (d64 M)), .agg (arr 4 (d64 N))] w fun x w' => x = .returned (.agg (arr 8 (d64 (M * N)))) ∧ Below w.heap.size w w') := hide fun w => by
    have := times_any (d64 M) (d64 N) w (d64_wds _ 4) (d64_wds _ 4)
    rwa [dQ hM, dQ hN] at this
  have C2 : Hid (∀ w, Calls Tryz.prog 71 #[.agg (arr 8 (d64 (M * N)))] w fun x w' => x = .returned (.agg (arr 4 (d64 (M * N % Lm)))) ∧ Below w.heap.size w w') := hide fun w => by
    have := modulo_any (d64 (M * N)) w (d64_wds _ 8)
    rwa [prod_Q hM hN] at this
  have R1 : Row (((w.alloc (.cells (arr 4 (d64 M)) 44)).alloc (.cells (arr 4 (d64 N)) 44)).alloc (.cells (arr 4 fun _ => 0) 44)) w.heap.size 44 4 (d64 M) := ((Row.new w 44 4 _).alloc _).alloc _
  have R2 : Row (((w.alloc (.cells (arr 4 (d64 M)) 44)).alloc (.cells (arr 4 (d64 N)) 44)).alloc (.cells (arr 4 fun _ => 0) 44)) (w.heap.size + 1) 44 4 (d64 N) := (Row.new' _ 44 4 _ (by simp)).alloc _
  have R3 : Row (((w.alloc (.cells (arr 4 (d64 M)) 44)).alloc (.cells (arr 4 (d64 N)) 44)).alloc (.cells (arr 4 fun _ => 0) 44)) (w.heap.size + 1 + 1) 44 4 (fun _ => 0) := Row.new' _ 44 4 _ (by simp)
  have O : Below w.heap.size w (((w.alloc (.cells (arr 4 (d64 M)) 44)).alloc (.cells (arr 4 (d64 N)) 44)).alloc (.cells (arr 4 fun _ => 0) 44)) := (((Below.refl _ _).alloc (Nat.le_refl _) _).alloc (by simp) _).alloc (by simp; omega) _
  have HR := hide (And.intro R1 (And.intro R2 (And.intro R3 O)))
  clear R1 R2 R3 O
  generalize d64 (M * N) = p at *
  generalize M * N % Lm = V at *
  go_enter Tryz.func29, Tryz.ntmps29
  go_wp2_with (first | (refine wpList_load_row rfl 42 _ rfl w.heap.size rfl 44 (arr 4 (d64 M)) (0, 0) _ HR.out.1 Tryz.underlying42 rfl (info42 _) ?_) | (refine wpList_load_row rfl 42 _ rfl (w.heap.size + 1) rfl 44 (arr 4 (d64 N)) (0, 0) _ HR.out.2.1 Tryz.underlying42 rfl (info42 _) ?_))
  refine (C1.out _).mono ?_
  rintro _ w1 ⟨rfl, hb1⟩
  have R3 := HR.out.2.2.1.keep hb1
  have O := HR.out.2.2.2.trans (hb1.mono HR.out.2.2.2.size)
  clear hb1 HR
  go_wp2_with fail
  refine (C2.out _).mono ?_
  rintro _ w2 ⟨rfl, hb2⟩
  replace R3 := R3.keep hb2
  replace O := O.trans (hb2.mono O.size)
  clear hb2
  have RR := hide (R3.setAll (d64 V))
  have OO := hide (below_setCells (g := w.heap.size + 1 + 1) (by omega) (arr 4 (d64 V)).toList 0 O)
  clear O
  go_wp2_with (refine wpList_store_mid rfl 44 _ _ rfl (w.heap.size + 1 + 1) 0 (arr 4 (d64 V)) rfl rfl ?thn (info44 _) (arr_one _ _) ?_)
  case thn => rw [arr_size]; exact R3.there
  exact bodyPost_ret (v := .agg (arr 4 (d64 V))) (results_cell_row Tryz.results29 _ _ (w.heap.size + 1 + 1) 44 (arr 4 (d64 V)) (0, 0) _ rfl RR.out Tryz.underlying44 rfl (info44 _)) rfl ⟨rfl, OO.out⟩

theorem leb_d64 (N : Int) : lebytes N = bs (digs (d64 N 0) ++ digs (d64 N 1) ++ digs (d64 N 2) ++ digs (d64 N 3)) := by
  have e0 : d64 N 0 = N % 18446744073709551616 := by simp [d64]
  have e1 : d64 N 1 = N / 18446744073709551616 % 18446744073709551616 := by simp [d64]
  have e2 : d64 N 2 = N / 340282366920938463463374607431768211456 % 18446744073709551616 := by simp [d64]
  have e3 : d64 N 3 = N / 6277101735386680763835789423207666416102355444464034512896 % 18446744073709551616 := by simp [d64]
  rw [e0, e1, e2, e3]
  rfl

set_option maxRecDepth 100000 in
set_option maxHeartbeats 1000000 in
theorem bytes_any (N : Int) (w : World) :
    Calls Tryz.prog 30 #[.agg (arr 4 (d64 N))] w fun x w' => x = .returned (.string (lebytes N)) ∧ Below w.heap.size w w' := by
  have C1 : Hid (∀ w, Calls Tryz.prog 72 #[.agg (arr 4 (d64 N))] w fun x w' => x = .returned (.string (lebytes N)) ∧ Below w.heap.size w w') := hide fun w => by
    rw [leb_d64]
    exact text_any (d64 N 0) (d64 N 1) (d64 N 2) (d64 N 3) w
  have HR := hide (And.intro (Row.new w 44 4 (d64 N)) (new_below w (.cells (arr 4 (d64 N)) 44)))
  generalize lebytes N = B at *
  go_enter Tryz.func30, Tryz.ntmps30
  go_wp2_with (refine wpList_load_row rfl 42 _ rfl w.heap.size rfl 44 (arr 4 (d64 N)) (0, 0) _ HR.out.1 Tryz.underlying42 rfl (info42 _) ?_)
  refine (C1.out _).mono ?_
  rintro _ w1 ⟨rfl, hb1⟩
  have O := HR.out.2.trans (hb1.mono HR.out.2.size)
  clear hb1 HR
  go_wp2
  go_ret
  exact ⟨rfl, O⟩

end Go.Proofs.YtmhfmhmpoobmlaaGreatDoor.Ord

/- Numbers of 16 digits of 16 bits, as the document's answer has them: wide, Less, minus. -/
namespace Go.Proofs.YtmhfmhmpoobmlaaGreatDoor.Ord
open Go.RowKit

/-- The number of the first n digits. -/
def S (f : Nat → Int) : Nat → Int
  | 0 => 0
  | n + 1 => S f n + f n * 65536 ^ n

theorem p16 (n : Nat) : (0 : Int) < 65536 ^ n := Int.pow_pos (by decide)
theorem p16s (n : Nat) : (65536 : Int) ^ (n + 1) = 65536 * 65536 ^ n := by rw [Int.pow_succ, Int.mul_comm]

/-- Each of the first n digits is one. -/
def Dig (f : Nat → Int) (n : Nat) : Prop := ∀ i, i < n → 0 ≤ f i ∧ f i < 65536

theorem Dig.le {f : Nat → Int} {n m : Nat} (h : Dig f n) (hm : m ≤ n) : Dig f m := fun i hi => h i (by omega)

theorem S_bd {f : Nat → Int} : ∀ {n : Nat}, Dig f n → 0 ≤ S f n ∧ S f n < 65536 ^ n
  | 0, _ => by simp [S]
  | n + 1, h => by
    have ih := S_bd (n := n) (h.le (by omega))
    have hd := h n (by omega)
    have hp := p16 n
    have h1 : f n * 65536 ^ n ≤ 65535 * 65536 ^ n := Int.mul_le_mul_of_nonneg_right (by omega) (by omega)
    have h2 : 0 ≤ f n * 65536 ^ n := Int.mul_nonneg hd.1 (by omega)
    rw [p16s]
    simp only [S]
    omega

end Go.Proofs.YtmhfmhmpoobmlaaGreatDoor.Ord

/- The arithmetic of the document's reduce: carries, and what stands at 2^256 or above comes round by 38. -/
namespace Go.Proofs.YtmhfmhmpoobmlaaGreatDoor.Ord
open Go.RowKit

/-- The digits of a number. -/
def d16 (N : Int) : Nat → Int := fun i => N / 65536 ^ i % 65536

theorem S_inj {f g : Nat → Int} : ∀ {n : Nat}, Dig f n → Dig g n → S f n = S g n → ∀ i, i < n → f i = g i
  | 0, _, _, _, i, hi => by omega
  | n + 1, hf, hg, h, i, hi => by
    have bf := S_bd (hf.le (m := n) (by omega))
    have bg := S_bd (hg.le (m := n) (by omega))
    have hp := p16 n
    simp only [S] at h
    have hn : f n = g n := by
      apply Classical.byContradiction
      intro hne
      have : f n < g n ∨ g n < f n := by omega
      rcases this with hl | hl
      · have : (g n - f n) * 65536 ^ n ≥ 1 * 65536 ^ n := Int.mul_le_mul_of_nonneg_right (by omega) (by omega)
        rw [Int.sub_mul] at this
        omega
      · have : (f n - g n) * 65536 ^ n ≥ 1 * 65536 ^ n := Int.mul_le_mul_of_nonneg_right (by omega) (by omega)
        rw [Int.sub_mul] at this
        omega
    by_cases hin : i = n
    · rw [hin]; exact hn
    · refine S_inj (n := n) (hf.le (by omega)) (hg.le (by omega)) ?_ i (by omega)
      rw [hn] at h
      omega

theorem d16_dig (N : Int) (n : Nat) : Dig (d16 N) n := fun i _ => by unfold d16; omega

theorem d16_S (N : Int) (h0 : 0 ≤ N) : ∀ n, S (d16 N) n = N % 65536 ^ n
  | 0 => by simp [S]
  | n + 1 => by
    simp only [S]
    rw [d16_S N h0 n, d16, Int.pow_succ]
    have hp := p16 n
    generalize (65536 : Int) ^ n = X at *
    have a := Int.mul_ediv_add_emod N X
    have b := Int.mul_ediv_add_emod (N / X) 65536
    have r0 := Int.emod_nonneg N (by omega : X ≠ 0)
    have r1 := Int.emod_lt_of_pos N hp
    have hN : N = (N % X + N / X % 65536 * X) + X * 65536 * (N / X / 65536) := by
      have e : X * (N / X) = X * (65536 * (N / X / 65536) + N / X % 65536) := by rw [b]
      rw [Int.mul_add] at e
      rw [Int.mul_comm (N / X % 65536) X, Int.mul_assoc]
      omega
    have q : N / X % 65536 * X ≤ 65535 * X := Int.mul_le_mul_of_nonneg_right (by omega) (by omega)
    have q0 : 0 ≤ N / X % 65536 * X := Int.mul_nonneg (by omega) (by omega)
    have hM : N % (X * 65536) = (N % X + N / X % 65536 * X + X * 65536 * (N / X / 65536)) % (X * 65536) := by rw [← hN]
    rw [hM, Int.add_mul_emod_self_left]
    exact (Int.emod_eq_of_lt (by omega) (by omega)).symm

end Go.Proofs.YtmhfmhmpoobmlaaGreatDoor.Ord

/- The contracts of the document's Bytes and Small. -/
namespace Go.Proofs.YtmhfmhmpoobmlaaGreatDoor.Ord
open Go.RowKit

/-- Byte i of the digits. -/
def by16 (f : Nat → Int) (i : Nat) : Int := f (i / 2) / 256 ^ (i % 2) % 256
/-- The first k bytes, then none. -/
def rb (f : Nat → Int) (k : Nat) : List Int := (List.range 32).map fun i => if i < k then by16 f i else 0

theorem rbytes_any (f : Nat → Int) (w : World) (hf : Dig f 16) :
    Calls Tryz.prog 16 #[.agg (arr 16 f)] w fun r w' => r = .returned (.string (bs (rb f 32))) ∧ Below w.heap.size w w' := _root_.Go.Proofs.YtmhfmhmpoobmlaaGreatDoor.rbytes_any f w hf

end Go.Proofs.YtmhfmhmpoobmlaaGreatDoor.Ord

/- When an answer is the document's; the document's order and twice. -/
namespace Go.Proofs.YtmhfmhmpoobmlaaGreatDoor.Ord
open Go.RowKit

set_option maxHeartbeats 2000000 in
theorem digs4 {a b c d : Int} (ha : 0 ≤ a ∧ a < 65536) (hb : 0 ≤ b ∧ b < 65536) (hc : 0 ≤ c ∧ c < 65536) (_hd : 0 ≤ d ∧ d < 65536) :
    digs (a + 65536 * b + 4294967296 * c + 281474976710656 * d) = [a % 256, a / 256 % 256, b % 256, b / 256 % 256, c % 256, c / 256 % 256, d % 256, d / 256 % 256] := by
  unfold digs
  have h1 : (a + 65536 * b + 4294967296 * c + 281474976710656 * d) % 256 = a % 256 := by omega
  have h2 : (a + 65536 * b + 4294967296 * c + 281474976710656 * d) / 256 % 256 = a / 256 % 256 := by omega
  have h3 : (a + 65536 * b + 4294967296 * c + 281474976710656 * d) / 65536 % 256 = b % 256 := by omega
  have h4 : (a + 65536 * b + 4294967296 * c + 281474976710656 * d) / 16777216 % 256 = b / 256 % 256 := by omega
  have h5 : (a + 65536 * b + 4294967296 * c + 281474976710656 * d) / 4294967296 % 256 = c % 256 := by omega
  have h6 : (a + 65536 * b + 4294967296 * c + 281474976710656 * d) / 1099511627776 % 256 = c / 256 % 256 := by omega
  have h7 : (a + 65536 * b + 4294967296 * c + 281474976710656 * d) / 281474976710656 % 256 = d % 256 := by omega
  have h8 : (a + 65536 * b + 4294967296 * c + 281474976710656 * d) / 72057594037927936 % 256 = d / 256 % 256 := by omega
  rw [h1, h2, h3, h4, h5, h6, h7, h8]

theorem S16 (f : Nat → Int) : S f 16 = f 0 + f 1 * 65536 + f 2 * 4294967296 + f 3 * 281474976710656 + f 4 * 18446744073709551616 + f 5 * 1208925819614629174706176 + f 6 * 79228162514264337593543950336 + f 7 * 5192296858534827628530496329220096 + f 8 * 340282366920938463463374607431768211456 + f 9 * 22300745198530623141535718272648361505980416 + f 10 * 1461501637330902918203684832716283019655932542976 + f 11 * 95780971304118053647396689196894323976171195136475136 + f 12 * 6277101735386680763835789423207666416102355444464034512896 + f 13 * 411376139330301510538742295639337626245683966408394965837152256 + f 14 * 26959946667150639794667015087019630673637144422540572481103610249216 + f 15 * 1766847064778384329583297500742918515827483896875618958121606201292619776 := by
  simp [S]

set_option maxHeartbeats 2000000 in
theorem lebytes_S {f : Nat → Int} (hf : Dig f 16) : lebytes (S f 16) = bs (rb f 32) := by
  have h0 := hf 0 (by omega)
  have h1 := hf 1 (by omega)
  have h2 := hf 2 (by omega)
  have h3 := hf 3 (by omega)
  have h4 := hf 4 (by omega)
  have h5 := hf 5 (by omega)
  have h6 := hf 6 (by omega)
  have h7 := hf 7 (by omega)
  have h8 := hf 8 (by omega)
  have h9 := hf 9 (by omega)
  have h10 := hf 10 (by omega)
  have h11 := hf 11 (by omega)
  have h12 := hf 12 (by omega)
  have h13 := hf 13 (by omega)
  have h14 := hf 14 (by omega)
  have h15 := hf 15 (by omega)
  have e := S16 f
  have w0 : S f 16 % 18446744073709551616 = f 0 + 65536 * f 1 + 4294967296 * f 2 + 281474976710656 * f 3 := by rw [e]; omega
  have w1 : S f 16 / 18446744073709551616 % 18446744073709551616 = f 4 + 65536 * f 5 + 4294967296 * f 6 + 281474976710656 * f 7 := by rw [e]; omega
  have w2 : S f 16 / 340282366920938463463374607431768211456 % 18446744073709551616 = f 8 + 65536 * f 9 + 4294967296 * f 10 + 281474976710656 * f 11 := by rw [e]; omega
  have w3 : S f 16 / 6277101735386680763835789423207666416102355444464034512896 % 18446744073709551616 = f 12 + 65536 * f 13 + 4294967296 * f 14 + 281474976710656 * f 15 := by rw [e]; omega
  unfold lebytes
  rw [w0, w1, w2, w3, digs4 h0 h1 h2 h3, digs4 h4 h5 h6 h7, digs4 h8 h9 h10 h11, digs4 h12 h13 h14 h15]
  congr 1
  simp [rb, by16, List.range, List.range.loop]

/-- The digits of the order. -/
def oF : Nat → Int := fun i => [54253, 23797, 25370, 22546, 40150, 41719, 63966, 5342, 0, 0, 0, 0, 0, 0, 0, 4096].getD i 0
theorem oF_S : S oF 16 = Lm := by decide +kernel
theorem oF_dig : Dig oF 16 := by
  have h : ∀ i : Fin 16, 0 ≤ oF i ∧ oF i < 65536 := by decide
  exact fun i hi => h ⟨i, hi⟩

set_option maxRecDepth 100000 in
set_option maxHeartbeats 1000000 in
theorem order_any (w : World) : Calls Tryz.prog 15 #[] w fun r w' => r = .returned (.agg (arr 16 oF)) ∧ Below w.heap.size w w' := by
  go_enter Tryz.func15, Tryz.ntmps15
  go_wp2
  exact bodyPost_ret (v := .agg (arr 16 oF)) (by simp [results, Tryz.results15, go_sem]; rfl) rfl ⟨rfl, (Below.refl _ _).alloc (Nat.le_refl _) _⟩

end Go.Proofs.YtmhfmhmpoobmlaaGreatDoor.Ord

/- The contract of the document's twice. -/
namespace Go.Proofs.YtmhfmhmpoobmlaaGreatDoor.Ord
open Go.RowKit

theorem dSL {N : Int} (h0 : 0 ≤ N) (h1 : N < 65536 ^ 16) : S (d16 N) 16 = N := by rw [d16_S _ h0, Int.emod_eq_of_lt h0 h1]

end Go.Proofs.YtmhfmhmpoobmlaaGreatDoor.Ord

/- The contract of low. -/
namespace Go.Proofs.YtmhfmhmpoobmlaaGreatDoor.Ord
open Go.RowKit
set_option maxRecDepth 100000 in
set_option maxHeartbeats 1000000 in
theorem low_any (f : Nat → Int) (w : World) :
    Calls Tryz.prog 83 #[.agg (arr 8 f)] w fun x w' => x = .returned (.agg (arr 4 f)) ∧ Below w.heap.size w w' := by
  have R1 : Row ((w.alloc (.cells (arr 8 f) 96)).alloc (.cells #[Value.int IntKind.u64 0, Value.int IntKind.u64 0, Value.int IntKind.u64 0, Value.int IntKind.u64 0] 42)) w.heap.size 96 8 f := (Row.new w 96 8 f).alloc _
  have c0 := R1.cell (i := 0) (by omega)
  have c1 := R1.cell (i := 1) (by omega)
  have c2 := R1.cell (i := 2) (by omega)
  have c3 := R1.cell (i := 3) (by omega)
  clear R1
  have har : ∀ w', (Instr.arrayAt 42 (.slice (some ⟨w.heap.size, 0, none⟩) 4 8)).run Tryz.prog w' = .ok (.pointer (some ⟨w.heap.size, 0, none⟩)) w' := fun _ => by kernel_rfl
  go_enter Tryz.func83, Tryz.ntmps83
  go_wp2
  exact bodyPost_ret (v := .agg (arr 4 f)) (by simp [results, Tryz.results83, go_sem]; rfl) rfl ⟨rfl, ((Below.refl _ _).alloc (Nat.le_refl _) _).alloc (by simp) _⟩
end Go.Proofs.YtmhfmhmpoobmlaaGreatDoor.Ord

/- The contracts of wordsOf, number and Of: which number 32 bytes are. -/
namespace Go.Proofs.YtmhfmhmpoobmlaaGreatDoor.Ord
open Go.RowKit

/-- Byte i of a string, as a number. -/
def bt (s : ByteArray) (i : Nat) : Int := ((s.data[i]?.getD 0).toNat : Int)

theorem bt_bd (s : ByteArray) (i : Nat) : 0 ≤ bt s i ∧ bt s i < 256 := by
  unfold bt
  have := (s.data[i]?.getD 0).toNat_lt
  omega

/-- The first r bytes of word j. -/
def sw (s : ByteArray) (j : Nat) : Nat → Int
  | 0 => 0
  | r + 1 => sw s j r + bt s (8 * j + r) * 256 ^ r

theorem sw_bd (s : ByteArray) (j r : Nat) : 0 ≤ sw s j r ∧ sw s j r < 256 ^ r := by
  induction r with
  | zero => simp [sw]
  | succ r ih =>
    have hb := bt_bd s (8 * j + r)
    have hp : (0 : Int) < 256 ^ r := Int.pow_pos (by decide)
    have h1 : bt s (8 * j + r) * 256 ^ r ≤ 255 * 256 ^ r := Int.mul_le_mul_of_nonneg_right (by omega) (by omega)
    have h2 : 0 ≤ bt s (8 * j + r) * 256 ^ r := Int.mul_nonneg hb.1 (by omega)
    have h3 : (256 : Int) ^ (r + 1) = 256 * 256 ^ r := by rw [Int.pow_succ, Int.mul_comm]
    simp only [sw]
    omega

theorem swor0 (s : ByteArray) (j i : Nat) (hi : i = 8 * j + 0) : bits BinOp.or IntKind.u64 0 (bt s i) = sw s j 1 := by
  have hb := bt_bd s i
  rw [or_join 8 256 (by decide) ⟨by decide, by decide⟩ ⟨hb.1, by omega⟩ (by decide) (by omega)]
  simp [sw, hi]

theorem swor1 (s : ByteArray) (j i : Nat) (hi : i = 8 * j + 1) : bits BinOp.or IntKind.u64 (sw s j 1) (bt s i * 256) = sw s j 2 := by
  have hb := bt_bd s i
  have hs := sw_bd s j 1
  have e : (256 : Int) ^ 1 = 256 := by decide
  rw [e] at hs
  rw [or_join' 8 256 (by decide) ⟨hs.1, by omega⟩ ⟨by omega, by omega⟩ (by omega) (by omega)]
  show _ = sw s j 1 + bt s (8 * j + 1) * 256 ^ 1
  rw [e, hi]

theorem swor2 (s : ByteArray) (j i : Nat) (hi : i = 8 * j + 2) : bits BinOp.or IntKind.u64 (sw s j 2) (bt s i * 65536) = sw s j 3 := by
  have hb := bt_bd s i
  have hs := sw_bd s j 2
  have e : (256 : Int) ^ 2 = 65536 := by decide
  rw [e] at hs
  rw [or_join' 16 65536 (by decide) ⟨hs.1, by omega⟩ ⟨by omega, by omega⟩ (by omega) (by omega)]
  show _ = sw s j 2 + bt s (8 * j + 2) * 256 ^ 2
  rw [e, hi]

theorem swor3 (s : ByteArray) (j i : Nat) (hi : i = 8 * j + 3) : bits BinOp.or IntKind.u64 (sw s j 3) (bt s i * 16777216) = sw s j 4 := by
  have hb := bt_bd s i
  have hs := sw_bd s j 3
  have e : (256 : Int) ^ 3 = 16777216 := by decide
  rw [e] at hs
  rw [or_join' 24 16777216 (by decide) ⟨hs.1, by omega⟩ ⟨by omega, by omega⟩ (by omega) (by omega)]
  show _ = sw s j 3 + bt s (8 * j + 3) * 256 ^ 3
  rw [e, hi]

theorem swor4 (s : ByteArray) (j i : Nat) (hi : i = 8 * j + 4) : bits BinOp.or IntKind.u64 (sw s j 4) (bt s i * 4294967296) = sw s j 5 := by
  have hb := bt_bd s i
  have hs := sw_bd s j 4
  have e : (256 : Int) ^ 4 = 4294967296 := by decide
  rw [e] at hs
  rw [or_join' 32 4294967296 (by decide) ⟨hs.1, by omega⟩ ⟨by omega, by omega⟩ (by omega) (by omega)]
  show _ = sw s j 4 + bt s (8 * j + 4) * 256 ^ 4
  rw [e, hi]

theorem swor5 (s : ByteArray) (j i : Nat) (hi : i = 8 * j + 5) : bits BinOp.or IntKind.u64 (sw s j 5) (bt s i * 1099511627776) = sw s j 6 := by
  have hb := bt_bd s i
  have hs := sw_bd s j 5
  have e : (256 : Int) ^ 5 = 1099511627776 := by decide
  rw [e] at hs
  rw [or_join' 40 1099511627776 (by decide) ⟨hs.1, by omega⟩ ⟨by omega, by omega⟩ (by omega) (by omega)]
  show _ = sw s j 5 + bt s (8 * j + 5) * 256 ^ 5
  rw [e, hi]

theorem swor6 (s : ByteArray) (j i : Nat) (hi : i = 8 * j + 6) : bits BinOp.or IntKind.u64 (sw s j 6) (bt s i * 281474976710656) = sw s j 7 := by
  have hb := bt_bd s i
  have hs := sw_bd s j 6
  have e : (256 : Int) ^ 6 = 281474976710656 := by decide
  rw [e] at hs
  rw [or_join' 48 281474976710656 (by decide) ⟨hs.1, by omega⟩ ⟨by omega, by omega⟩ (by omega) (by omega)]
  show _ = sw s j 6 + bt s (8 * j + 6) * 256 ^ 6
  rw [e, hi]

theorem swor7 (s : ByteArray) (j i : Nat) (hi : i = 8 * j + 7) : bits BinOp.or IntKind.u64 (sw s j 7) (bt s i * 72057594037927936) = sw s j 8 := by
  have hb := bt_bd s i
  have hs := sw_bd s j 7
  have e : (256 : Int) ^ 7 = 72057594037927936 := by decide
  rw [e] at hs
  rw [or_join' 56 72057594037927936 (by decide) ⟨hs.1, by omega⟩ ⟨by omega, by omega⟩ (by omega) (by omega)]
  show _ = sw s j 7 + bt s (8 * j + 7) * 256 ^ 7
  rw [e, hi]

/-- The number that 32 bytes are. -/
def val (s : ByteArray) : Int := sw s 0 8 + 18446744073709551616 * sw s 1 8 + 340282366920938463463374607431768211456 * sw s 2 8 + 6277101735386680763835789423207666416102355444464034512896 * sw s 3 8

end Go.Proofs.YtmhfmhmpoobmlaaGreatDoor.Ord

/- Bytes and their number: what the document's Of makes of them is that number modulo the order. -/
namespace Go.Proofs.YtmhfmhmpoobmlaaGreatDoor.Ord
open Go.RowKit

/-- The number of the first k bytes. -/
def bv (s : ByteArray) : Nat → Int
  | 0 => 0
  | k + 1 => bv s k + bt s k * 256 ^ k

theorem p8 (n : Nat) : (0 : Int) < 256 ^ n := Int.pow_pos (by decide)
theorem p8s (n : Nat) : (256 : Int) ^ (n + 1) = 256 * 256 ^ n := by rw [Int.pow_succ, Int.mul_comm]

theorem bv_bd (s : ByteArray) : ∀ k, 0 ≤ bv s k ∧ bv s k < 256 ^ k
  | 0 => by simp [bv]
  | k + 1 => by
    have ih := bv_bd s k
    have hb := bt_bd s k
    have hp := p8 k
    have h1 : bt s k * 256 ^ k ≤ 255 * 256 ^ k := Int.mul_le_mul_of_nonneg_right (by omega) (by omega)
    have h2 : 0 ≤ bt s k * 256 ^ k := Int.mul_nonneg hb.1 (by omega)
    rw [p8s]
    simp only [bv]
    omega

theorem bv_split (s : ByteArray) (j : Nat) : ∀ k, ∃ q : Int, bv s (j + 1 + k) = bv s j + 256 ^ j * (bt s j + 256 * q)
  | 0 => ⟨0, by show bv s j + bt s j * 256 ^ j = _; rw [Int.mul_zero, Int.add_zero, Int.mul_comm]⟩
  | k + 1 => by
    obtain ⟨q, hq⟩ := bv_split s j k
    refine ⟨q + bt s (j + 1 + k) * 256 ^ k, ?_⟩
    show bv s (j + 1 + k) + bt s (j + 1 + k) * 256 ^ (j + 1 + k) = _
    rw [hq, Int.pow_add, Int.pow_succ, Int.mul_add 256 q, ← Int.add_assoc (bt s j), Int.mul_add (256 ^ j) (bt s j + 256 * q), ← Int.add_assoc]
    congr 1
    generalize (256 : Int) ^ j = X
    generalize (256 : Int) ^ k = Y
    rw [Int.mul_comm (bt s (j + 1 + k)), Int.mul_assoc X 256 Y, Int.mul_assoc X, Int.mul_assoc 256 Y, Int.mul_comm Y]

theorem bv_at (s : ByteArray) {j m : Nat} (h : j < m) : bv s m / 256 ^ j % 256 = bt s j := by
  obtain ⟨q, hq⟩ := bv_split s j (m - (j + 1))
  rw [show j + 1 + (m - (j + 1)) = m by omega] at hq
  have hp := p8 j
  have hb := bv_bd s j
  have ht := bt_bd s j
  rw [hq, Int.add_mul_ediv_left _ _ (by omega), Int.ediv_eq_zero_of_lt hb.1 hb.2]
  omega

theorem bt_out (s : ByteArray) (i : Nat) (h : s.size ≤ i) : bt s i = 0 := by
  unfold bt
  have h' : s.data.size ≤ i := h
  rw [Array.getElem?_eq_none h']
  rfl

theorem bv_out (s : ByteArray) : ∀ k, bv s (s.size + k) = bv s s.size
  | 0 => rfl
  | k + 1 => by
    show bv s (s.size + k) + bt s (s.size + k) * 256 ^ (s.size + k) = _
    rw [bt_out s _ (by omega), bv_out s k]
    omega

theorem bv_64 (s : ByteArray) (h : s.size ≤ 64) : bv s 64 = bv s s.size := by
  have := bv_out s (64 - s.size)
  rwa [show s.size + (64 - s.size) = 64 by omega] at this

theorem sw_bv (s : ByteArray) (j : Nat) : ∀ r, bv s (8 * j + r) = bv s (8 * j) + 256 ^ (8 * j) * sw s j r
  | 0 => by simp [sw]
  | r + 1 => by
    have ih := sw_bv s j r
    show bv s (8 * j + r) + bt s (8 * j + r) * 256 ^ (8 * j + r) = bv s (8 * j) + 256 ^ (8 * j) * (sw s j r + bt s (8 * j + r) * 256 ^ r)
    rw [ih, Int.pow_add, Int.mul_add, ← Int.add_assoc]
    congr 1
    rw [Int.mul_left_comm]

theorem Q_bv (s : ByteArray) : ∀ n, Q (fun j => sw s j 8) n = bv s (8 * n)
  | 0 => rfl
  | n + 1 => by
    have ih := Q_bv s n
    have e := sw_bv s n 8
    have e2 : (256 : Int) ^ (8 * n) = 18446744073709551616 ^ n := by rw [Int.pow_mul]; rfl
    rw [show 8 * (n + 1) = 8 * n + 8 by omega, e, e2]
    simp only [Q]
    rw [ih, Int.mul_comm]

theorem sw_wds (s : ByteArray) (n : Nat) : Wds (fun j => sw s j 8) n := fun j _ => by
  have := sw_bd s j 8
  have e : (256 : Int) ^ 8 = 18446744073709551616 := by decide
  rw [e] at this
  exact this

theorem val_bv (s : ByteArray) : val s = bv s 32 := by
  have e := Q_bv s 4
  rw [Q4] at e
  rw [show 32 = 8 * 4 from rfl, ← e]
  unfold val
  omega

/-- The n bytes of a number. -/
def le (N : Int) (n : Nat) : List Int := (List.range n).map fun i => N / 256 ^ i % 256

theorem le_get (N : Int) {n i : Nat} (h : i < n) : (le N n)[i]? = some (N / 256 ^ i % 256) := by simp [le, h]

theorem bs_size (l : List Int) : (bs l).size = l.length := by simp [bs, ByteArray.size]
theorem bt_bs (l : List Int) (i : Nat) (x : Int) (hl : l[i]? = some x) (h0 : 0 ≤ x) (h1 : x < 256) : bt (bs l) i = x := by
  unfold bt bs
  simp only [List.getElem?_toArray, List.getElem?_map, hl, Option.map_some, Option.getD_some]
  simp only [UInt8.toNat_ofNat']
  omega

theorem bt_le (N : Int) {n i : Nat} (h : i < n) : bt (bs (le N n)) i = N / 256 ^ i % 256 := bt_bs _ _ _ (le_get N h) (by omega) (by omega)

theorem bv_le (N : Int) (h0 : 0 ≤ N) (n : Nat) : ∀ k, k ≤ n → bv (bs (le N n)) k = N % 256 ^ k
  | 0, _ => by simp [bv, Int.emod_one]
  | k + 1, h => by
    have ih := bv_le N h0 n k (by omega)
    have hp := p8 k
    show bv (bs (le N n)) k + bt (bs (le N n)) k * 256 ^ k = _
    rw [ih, bt_le N (by omega), Int.pow_succ]
    have e1 := Int.emod_add_mul_ediv N (256 ^ k)
    rw [Int.emod_def N (256 ^ k * 256), ← Int.ediv_ediv_of_nonneg (by omega)]
    generalize N / 256 ^ k = A at *
    have e3 : A % 256 * 256 ^ k = A * 256 ^ k - 256 * (A / 256) * 256 ^ k := by
      rw [← Int.sub_mul]
      congr 1
      omega
    rw [e3]
    generalize A / 256 = B at *
    generalize (256 : Int) ^ k = X at *
    rw [Int.mul_comm A X, show 256 * B * X = X * 256 * B by rw [Int.mul_comm (256 * B) X, ← Int.mul_assoc]]
    omega

end Go.Proofs.YtmhfmhmpoobmlaaGreatDoor.Ord

/- Bytes of a string in memory of their own; the contract of doubleOf. -/
namespace Go.Proofs.YtmhfmhmpoobmlaaGreatDoor.Ord
open Go.RowKit

/-- Block g holds the bytes f 0 .. f (n - 1), and may be written. -/
structure BC (W : World) (g : Nat) (f : Nat → Int) (n : Nat) : Prop where
  lt : g < W.heap.size
  c : ∀ i, i < n → W.cell? ⟨g, i, none⟩ = some (.int .u8 (f i))
  fz : ∀ i, i < n → W.frozen? ⟨g, i, none⟩ = false

theorem BC.keep {W W' : World} {g n : Nat} {f : Nat → Int} (h : BC W g f n) (hb : Below W.heap.size W W') : BC W' g f n where
  lt := Nat.lt_of_lt_of_le h.lt hb.size
  c := fun i hi => by
    rw [← h.c i hi]
    unfold World.cell?
    rw [hb.block g h.lt]
  fz := fun i hi => by
    rw [← h.fz i hi]
    unfold World.frozen?
    rw [hb.block g h.lt]

theorem BC.alloc {W : World} {g n : Nat} {f : Nat → Int} (h : BC W g f n) (o : Obj) : BC (W.alloc o) g f n := h.keep (new_below W o)

theorem heap_setCell_size (W : World) (a : Addr) (v : Value) : (W.setCell a v).heap.size = W.heap.size := by
  simp

theorem BC.set {W : World} {g n : Nat} {f : Nat → Int} (h : BC W g f n) {k : Nat} (hk : k < n) (v : Int) : BC (W.setCell ⟨g, k, none⟩ (.int .u8 v)) g (upd f k v) n where
  lt := by rw [heap_setCell_size]; exact h.lt
  c := fun i hi => by
    by_cases e : i = k
    · subst e
      rw [World.cell?_setCell_same _ _ _ (h.c i hk)]
      simp [upd]
    · rw [World.cell?_setCell_other _ _ _ _ (by simp <;> omega), h.c i hi]
      simp [upd, e]
  fz := fun i hi => by
    rw [World.frozen?_setCell]
    exact h.fz i hi

theorem BC.other {W : World} {g n : Nat} {f : Nat → Int} (h : BC W g f n) {a : Addr} (ha : g ≠ a.block) (v : Value) : BC (W.setCell a v) g f n where
  lt := by rw [heap_setCell_size]; exact h.lt
  c := fun i hi => by
    rw [World.cell?_setCell_other _ _ _ _ (by intro e; rw [e] at ha; exact ha rfl), h.c i hi]
  fz := fun i hi => by
    rw [World.frozen?_setCell]
    exact h.fz i hi

theorem BC.drew {W : World} {g n : Nat} {f : Nat → Int} (h : BC W g f n) : BC W.drew g f n := ⟨h.lt, h.c, h.fz⟩
theorem row_frozen (w : World) (g j : Nat) (cs : Array Value) (t : TypeId) (hg : w.heap[g]? = some (.cells cs t (cs.size, cs.size + 1))) (hj : j < cs.size) : w.frozen? ⟨g, j, none⟩ = false := by
  unfold World.frozen?
  rw [hg]
  simp
  omega

/-- A string's bytes in memory of their own. -/
theorem conv_str (W : World) (s : ByteArray) : ∃ (cap : Nat) (W1 : World), (convert 9 32 (.string s)).run Tryz.prog W = .ok (.slice (some ⟨W.heap.size, 0, none⟩) s.size cap) W1 ∧ BC W1 W.heap.size (bt s) s.size ∧ Below W.heap.size W W1 := by
  have h := run_bytes_of_string (P := Tryz.prog) W 9 32 5 s Tryz.underlying9 Tryz.underlying32 Tryz.underlying5
  generalize grownCap W s.size 0 5 = cap at h
  refine ⟨cap, _, h, ?_, ((Below.refl _ _).drew).alloc (Nat.le_refl _) _⟩
  have hg : (W.drew.alloc (.cells (bytesRow s cap) 5 ((bytesRow s cap).size, (bytesRow s cap).size + 1))).heap[W.heap.size]? = some (.cells (bytesRow s cap) 5 ((bytesRow s cap).size, (bytesRow s cap).size + 1)) := heap_alloc_new W.drew _
  have hsz : s.size ≤ (bytesRow s cap).size := by
    simp [bytesRow]
  refine ⟨by simp, fun i hi => ?_, fun i hi => row_frozen _ _ _ _ _ hg (by omega)⟩
  rw [cell_of_row _ _ _ _ _ _ hg]
  have hi' : i < s.data.size := hi
  unfold bytesRow bt
  rw [Array.getElem?_append_left (by simpa using hi'), Array.getElem?_map, Array.getElem?_eq_getElem hi']
  rfl

set_option maxRecDepth 100000 in
/-- Bytes in memory as a string. -/
theorem conv_back {W : World} {g n : Nat} {f : Nat → Int} (h : BC W g f n) (cap : Nat) (hf : ∀ i, i < n → 0 ≤ f i ∧ f i < 256) :
    (convert 32 9 (.slice (some ⟨g, 0, none⟩) n cap)).run Tryz.prog W = .ok (.string (bs ((List.range n).map f))) W := by
  have hl : ((List.range n).map fun i => UInt8.ofNat (f i).toNat).length = n := by simp
  have h2 := run_convert_bytes_back (P := Tryz.prog) W 32 9 5 ⟨g, 0, none⟩ cap ((List.range n).map fun i => UInt8.ofNat (f i).toNat) Tryz.underlying32 Tryz.underlying5 Tryz.underlying9 (fun j hj => by
    rw [hl] at hj
    have hadd : (⟨g, 0, none⟩ : Addr).add j = ⟨g, j, none⟩ := by unfold Addr.add; split <;> simp_all
    rw [hadd, h.c j hj]
    have := hf j hj
    simp
    omega)
  rw [hl] at h2
  rw [h2]
  unfold bs
  congr 3
  simp [List.map_map]

/-- Of the words the first k bytes. -/
def swk (s : ByteArray) (k : Nat) : Nat → Int := fun j => sw s j (min (k - 8 * j) 8)

theorem swk_at (s : ByteArray) (k : Nat) : swk s k (k / 8) = sw s (k / 8) (k % 8) := by
  unfold swk
  congr 1
  omega

theorem swk_next (s : ByteArray) (k : Nat) (i : Nat) : upd (swk s k) (k / 8) (sw s (k / 8) (k % 8 + 1)) i = swk s (k + 1) i := by
  unfold upd swk
  by_cases h : i = k / 8
  · subst h
    rw [if_pos rfl]
    congr 1
    omega
  · rw [if_neg h]
    congr 1
    omega

theorem sw_stop (s : ByteArray) (j r : Nat) (h : s.size ≤ 8 * j + r) : ∀ d, sw s j (r + d) = sw s j r
  | 0 => rfl
  | d + 1 => by
    show sw s j (r + d) + bt s (8 * j + (r + d)) * 256 ^ (r + d) = _
    rw [bt_out s _ (by omega), sw_stop s j r h d]
    omega

theorem swk_end (s : ByteArray) (j : Nat) : swk s s.size j = sw s j 8 := by
  unfold swk
  by_cases h : s.size ≤ 8 * j + 8
  · have e := sw_stop s j (min (s.size - 8 * j) 8) (by omega) (8 - min (s.size - 8 * j) 8)
    rw [← e]
    congr 1
    omega
  · congr 1
    omega

set_option maxRecDepth 100000 in
set_option maxHeartbeats 4000000 in
theorem dbl_any (s : ByteArray) (g cap : Nat) (w : World) (hs : s.size ≤ 64) (hB : BC w g (bt s) s.size) :
    Calls Tryz.prog 82 #[.slice (some ⟨g, 0, none⟩) s.size cap] w fun r w' => r = .returned (.agg (arr 8 fun j => sw s j 8)) ∧ Below w.heap.size w w' := by
  have hgl := hB.lt
  go_enter Tryz.func82, Tryz.ntmps82
  go_wp2
  rw [show #[Value.int IntKind.u64 0, Value.int IntKind.u64 0, Value.int IntKind.u64 0, Value.int IntKind.u64 0, Value.int IntKind.u64 0, Value.int IntKind.u64 0, Value.int IntKind.u64 0, Value.int IntKind.u64 0] = arr 8 (fun _ => 0) from rfl]
  have R1 : Row ((w.alloc (.cells (arr 8 fun _ => 0) 96)).alloc (.cells (arr 8 fun _ => 0) 96)) w.heap.size 96 8 (fun _ => 0) := (Row.new w 96 8 _).alloc _
  have R2 : Row ((w.alloc (.cells (arr 8 fun _ => 0) 96)).alloc (.cells (arr 8 fun _ => 0) 96)) (w.heap.size + 1) 96 8 (fun _ => 0) := Row.new' _ 96 8 _ (by simp)
  have B : BC ((w.alloc (.cells (arr 8 fun _ => 0) 96)).alloc (.cells (arr 8 fun _ => 0) 96)) g (bt s) s.size := (hB.alloc _).alloc _
  have O : Below w.heap.size w ((w.alloc (.cells (arr 8 fun _ => 0) 96)).alloc (.cells (arr 8 fun _ => 0) 96)) := ((Below.refl _ _).alloc (Nat.le_refl _) _).alloc (by simp) _
  generalize (w.alloc (.cells (arr 8 fun _ => 0) 96)).alloc (.cells (arr 8 fun _ => 0) 96) = W at R1 R2 B O ⊢
  clear hB
  go_loopw [8] (fun x wr => ∃ k : Nat, k ≤ s.size ∧ x = .int .i64 k ∧ Row wr w.heap.size 96 8 (fun _ => 0) ∧ Row wr (w.heap.size + 1) 96 8 (swk s k) ∧ BC wr g (bt s) s.size ∧ Below w.heap.size w wr) (fun x _ => s.size - (intOf x).toNat)
  case atStart => exact ⟨0, by omega, rfl, R1, R2.congr (fun i _ => by unfold swk; rw [show min (0 - 8 * i) 8 = 0 by omega]; rfl), B, O⟩
  case round =>
    clear R1 R2 B O
    obtain ⟨k, hk, rfl, R1, R2, B, O⟩ := hrel
    by_cases hlt : k < s.size
    · have c := B.c k hlt
      have d := R2.cell (i := k / 8) (by omega)
      have e := R2.free (k / 8)
      have b0 := bt_bd s k
      obtain ⟨b0, b1⟩ := b0
      have i1 : (0 : Int) ≤ (k : Int) := by omega
      have i2 : (k : Int) < (s.size : Int) := by omega
      have i3 : (0 : Int) ≤ (k : Int) / 8 := by omega
      have i4 : (k : Int) / 8 < 8 := by omega
      have i5 : ((k : Int) / 8).toNat = k / 8 := by omega
      rcases (show k % 8 = 0 ∨ k % 8 = 1 ∨ k % 8 = 2 ∨ k % 8 = 3 ∨ k % 8 = 4 ∨ k % 8 = 5 ∨ k % 8 = 6 ∨ k % 8 = 7 by omega) with h8 | h8 | h8 | h8 | h8 | h8 | h8 | h8
      · have a3 : (k : Int) % 8 = 0 := by omega
        have hor : bits BinOp.or IntKind.u64 (swk s k (k / 8)) (bt s k * 1) = sw s (k / 8) 1 := by
          rw [swk_at, h8]
          simp only [Int.mul_one]
          exact swor0 s (k / 8) k (by omega)
        rw [Int.mul_one] at hor
        have RR := hide (R2.set (k / 8) (sw s (k / 8) 1))
        have R1' := hide (R1.other (a := ⟨w.heap.size + 1, k / 8, none⟩) (by simp) (.int .u64 (sw s (k / 8) 1)))
        have B' := hide (B.other (a := ⟨w.heap.size + 1, k / 8, none⟩) (by simp; omega) (.int .u64 (sw s (k / 8) 1)))
        have O' := hide (O.setCell (p := ⟨w.heap.size + 1, k / 8, none⟩) (by simp) (.int .u64 (sw s (k / 8) 1)))
        have HN := hide (fun i => swk_next s k i)
        rw [h8] at HN
        clear R1 R2 B O
        go_wp2_with fail
        go_region
        go_wp2
        exact ⟨⟨k + 1, by omega, by go_num, rowD R1'.out, rowD (RR.out.congr (fun i _ => HN.out i)), B'.out.drew, O'.out.drew⟩, by simp [intOf]; omega⟩
      · have a3 : (k : Int) % 8 = 1 := by omega
        have hor : bits BinOp.or IntKind.u64 (swk s k (k / 8)) (bt s k * 256) = sw s (k / 8) 2 := by
          rw [swk_at, h8]
          exact swor1 s (k / 8) k (by omega)
        have RR := hide (R2.set (k / 8) (sw s (k / 8) 2))
        have R1' := hide (R1.other (a := ⟨w.heap.size + 1, k / 8, none⟩) (by simp) (.int .u64 (sw s (k / 8) 2)))
        have B' := hide (B.other (a := ⟨w.heap.size + 1, k / 8, none⟩) (by simp; omega) (.int .u64 (sw s (k / 8) 2)))
        have O' := hide (O.setCell (p := ⟨w.heap.size + 1, k / 8, none⟩) (by simp) (.int .u64 (sw s (k / 8) 2)))
        have HN := hide (fun i => swk_next s k i)
        rw [h8] at HN
        clear R1 R2 B O
        go_wp2_with fail
        go_region
        go_wp2
        exact ⟨⟨k + 1, by omega, by go_num, rowD R1'.out, rowD (RR.out.congr (fun i _ => HN.out i)), B'.out.drew, O'.out.drew⟩, by simp [intOf]; omega⟩
      · have a3 : (k : Int) % 8 = 2 := by omega
        have hor : bits BinOp.or IntKind.u64 (swk s k (k / 8)) (bt s k * 65536) = sw s (k / 8) 3 := by
          rw [swk_at, h8]
          exact swor2 s (k / 8) k (by omega)
        have RR := hide (R2.set (k / 8) (sw s (k / 8) 3))
        have R1' := hide (R1.other (a := ⟨w.heap.size + 1, k / 8, none⟩) (by simp) (.int .u64 (sw s (k / 8) 3)))
        have B' := hide (B.other (a := ⟨w.heap.size + 1, k / 8, none⟩) (by simp; omega) (.int .u64 (sw s (k / 8) 3)))
        have O' := hide (O.setCell (p := ⟨w.heap.size + 1, k / 8, none⟩) (by simp) (.int .u64 (sw s (k / 8) 3)))
        have HN := hide (fun i => swk_next s k i)
        rw [h8] at HN
        clear R1 R2 B O
        go_wp2_with fail
        go_region
        go_wp2
        exact ⟨⟨k + 1, by omega, by go_num, rowD R1'.out, rowD (RR.out.congr (fun i _ => HN.out i)), B'.out.drew, O'.out.drew⟩, by simp [intOf]; omega⟩
      · have a3 : (k : Int) % 8 = 3 := by omega
        have hor : bits BinOp.or IntKind.u64 (swk s k (k / 8)) (bt s k * 16777216) = sw s (k / 8) 4 := by
          rw [swk_at, h8]
          exact swor3 s (k / 8) k (by omega)
        have RR := hide (R2.set (k / 8) (sw s (k / 8) 4))
        have R1' := hide (R1.other (a := ⟨w.heap.size + 1, k / 8, none⟩) (by simp) (.int .u64 (sw s (k / 8) 4)))
        have B' := hide (B.other (a := ⟨w.heap.size + 1, k / 8, none⟩) (by simp; omega) (.int .u64 (sw s (k / 8) 4)))
        have O' := hide (O.setCell (p := ⟨w.heap.size + 1, k / 8, none⟩) (by simp) (.int .u64 (sw s (k / 8) 4)))
        have HN := hide (fun i => swk_next s k i)
        rw [h8] at HN
        clear R1 R2 B O
        go_wp2_with fail
        go_region
        go_wp2
        exact ⟨⟨k + 1, by omega, by go_num, rowD R1'.out, rowD (RR.out.congr (fun i _ => HN.out i)), B'.out.drew, O'.out.drew⟩, by simp [intOf]; omega⟩
      · have a3 : (k : Int) % 8 = 4 := by omega
        have hor : bits BinOp.or IntKind.u64 (swk s k (k / 8)) (bt s k * 4294967296) = sw s (k / 8) 5 := by
          rw [swk_at, h8]
          exact swor4 s (k / 8) k (by omega)
        have RR := hide (R2.set (k / 8) (sw s (k / 8) 5))
        have R1' := hide (R1.other (a := ⟨w.heap.size + 1, k / 8, none⟩) (by simp) (.int .u64 (sw s (k / 8) 5)))
        have B' := hide (B.other (a := ⟨w.heap.size + 1, k / 8, none⟩) (by simp; omega) (.int .u64 (sw s (k / 8) 5)))
        have O' := hide (O.setCell (p := ⟨w.heap.size + 1, k / 8, none⟩) (by simp) (.int .u64 (sw s (k / 8) 5)))
        have HN := hide (fun i => swk_next s k i)
        rw [h8] at HN
        clear R1 R2 B O
        go_wp2_with fail
        go_region
        go_wp2
        exact ⟨⟨k + 1, by omega, by go_num, rowD R1'.out, rowD (RR.out.congr (fun i _ => HN.out i)), B'.out.drew, O'.out.drew⟩, by simp [intOf]; omega⟩
      · have a3 : (k : Int) % 8 = 5 := by omega
        have hor : bits BinOp.or IntKind.u64 (swk s k (k / 8)) (bt s k * 1099511627776) = sw s (k / 8) 6 := by
          rw [swk_at, h8]
          exact swor5 s (k / 8) k (by omega)
        have RR := hide (R2.set (k / 8) (sw s (k / 8) 6))
        have R1' := hide (R1.other (a := ⟨w.heap.size + 1, k / 8, none⟩) (by simp) (.int .u64 (sw s (k / 8) 6)))
        have B' := hide (B.other (a := ⟨w.heap.size + 1, k / 8, none⟩) (by simp; omega) (.int .u64 (sw s (k / 8) 6)))
        have O' := hide (O.setCell (p := ⟨w.heap.size + 1, k / 8, none⟩) (by simp) (.int .u64 (sw s (k / 8) 6)))
        have HN := hide (fun i => swk_next s k i)
        rw [h8] at HN
        clear R1 R2 B O
        go_wp2_with fail
        go_region
        go_wp2
        exact ⟨⟨k + 1, by omega, by go_num, rowD R1'.out, rowD (RR.out.congr (fun i _ => HN.out i)), B'.out.drew, O'.out.drew⟩, by simp [intOf]; omega⟩
      · have a3 : (k : Int) % 8 = 6 := by omega
        have hor : bits BinOp.or IntKind.u64 (swk s k (k / 8)) (bt s k * 281474976710656) = sw s (k / 8) 7 := by
          rw [swk_at, h8]
          exact swor6 s (k / 8) k (by omega)
        have RR := hide (R2.set (k / 8) (sw s (k / 8) 7))
        have R1' := hide (R1.other (a := ⟨w.heap.size + 1, k / 8, none⟩) (by simp) (.int .u64 (sw s (k / 8) 7)))
        have B' := hide (B.other (a := ⟨w.heap.size + 1, k / 8, none⟩) (by simp; omega) (.int .u64 (sw s (k / 8) 7)))
        have O' := hide (O.setCell (p := ⟨w.heap.size + 1, k / 8, none⟩) (by simp) (.int .u64 (sw s (k / 8) 7)))
        have HN := hide (fun i => swk_next s k i)
        rw [h8] at HN
        clear R1 R2 B O
        go_wp2_with fail
        go_region
        go_wp2
        exact ⟨⟨k + 1, by omega, by go_num, rowD R1'.out, rowD (RR.out.congr (fun i _ => HN.out i)), B'.out.drew, O'.out.drew⟩, by simp [intOf]; omega⟩
      · have a3 : (k : Int) % 8 = 7 := by omega
        have hor : bits BinOp.or IntKind.u64 (swk s k (k / 8)) (bt s k * 72057594037927936) = sw s (k / 8) 8 := by
          rw [swk_at, h8]
          exact swor7 s (k / 8) k (by omega)
        have RR := hide (R2.set (k / 8) (sw s (k / 8) 8))
        have R1' := hide (R1.other (a := ⟨w.heap.size + 1, k / 8, none⟩) (by simp) (.int .u64 (sw s (k / 8) 8)))
        have B' := hide (B.other (a := ⟨w.heap.size + 1, k / 8, none⟩) (by simp; omega) (.int .u64 (sw s (k / 8) 8)))
        have O' := hide (O.setCell (p := ⟨w.heap.size + 1, k / 8, none⟩) (by simp) (.int .u64 (sw s (k / 8) 8)))
        have HN := hide (fun i => swk_next s k i)
        rw [h8] at HN
        clear R1 R2 B O
        go_wp2_with fail
        go_region
        go_wp2
        exact ⟨⟨k + 1, by omega, by go_num, rowD R1'.out, rowD (RR.out.congr (fun i _ => HN.out i)), B'.out.drew, O'.out.drew⟩, by simp [intOf]; omega⟩

    · have hk' : k = s.size := by omega
      subst hk'
      have HR := hide (R2.congr (f' := fun j => sw s j 8) (fun i _ => swk_end s i))
      have RR := hide (R1.setAll (fun j => sw s j 8))
      have OO := hide (below_setCells (g := w.heap.size) (Nat.le_refl _) (arr 8 fun j => sw s j 8).toList 0 O)
      clear R2 O B
      generalize hff : (fun j => sw s j 8) = f at HR RR OO
      have HF := hide hff
      clear hff
      go_wp2_with (first | (refine wpList_load_row rfl 96 _ rfl (w.heap.size + 1) rfl 96 (arr 8 f) (0, 0) _ HR.out Tryz.underlying96 rfl (info96 _) ?_) | (refine wpList_store_mid rfl 96 _ _ rfl w.heap.size 0 (arr 8 f) rfl rfl ?tho (info96 _) (arr_one _ _) ?_))
      case tho => rw [arr_size]; exact R1.there
      exact bodyPost_ret (v := .agg (arr 8 f)) (results_cell_row Tryz.results82 _ _ w.heap.size 96 (arr 8 f) (0, 0) _ rfl RR.out Tryz.underlying96 rfl (info96 _)) rfl ⟨by rw [HF.out], OO.out⟩

end Go.Proofs.YtmhfmhmpoobmlaaGreatDoor.Ord

/- The contract of the document's Parts: 32 bytes as 16 digits. -/
namespace Go.Proofs.YtmhfmhmpoobmlaaGreatDoor.Ord
open Go.RowKit

/-- Digit i when k bytes have been read. -/
def pt (s : ByteArray) (k : Nat) : Nat → Int := fun i => (if 2 * i < k then bt s (2 * i) else 0) + (if 2 * i + 1 < k then bt s (2 * i + 1) * 256 else 0)

theorem pt_dig (s : ByteArray) (k : Nat) : Dig (pt s k) 16 := fun i _ => by
  have hb := bt_bd s (2 * i)
  have hc := bt_bd s (2 * i + 1)
  unfold pt
  split <;> split <;> omega

theorem pt_S (s : ByteArray) : S (pt s 32) 16 = val s := by
  simp [S, pt, val, sw]
  omega

theorem parts_any (s : ByteArray) (w : World) (hs : s.size = 32) :
    Calls Tryz.prog 14 #[.string s] w fun r w' => r = .returned (.agg (arr 16 (pt s 32))) ∧ Below w.heap.size w w' := _root_.Go.Proofs.YtmhfmhmpoobmlaaGreatDoor.parts_any s w hs

end Go.Proofs.YtmhfmhmpoobmlaaGreatDoor.Ord

/- The contracts of Of, Canonical and Clamp, of the law's of, and of the document's. -/
namespace Go.Proofs.YtmhfmhmpoobmlaaGreatDoor.Ord
open Go.RowKit

/-- The number of a string's bytes modulo the order. -/
def ofN (s : ByteArray) : Int := bv s s.size % Lm
theorem ofN_bd (s : ByteArray) : 0 ≤ ofN s ∧ ofN s < Lm := lmod _

theorem mod_bytes (s : ByteArray) (w : World) (hs : s.size ≤ 64) :
    Calls Tryz.prog 71 #[.agg (arr 8 fun j => sw s j 8)] w fun x w' => x = .returned (.agg (arr 4 (d64 (ofN s)))) ∧ Below w.heap.size w w' := by
  have h := modulo_any (fun j => sw s j 8) w (sw_wds s 8)
  rw [Q_bv s 8, bv_64 s hs] at h
  exact h

set_option maxRecDepth 100000 in
set_option maxHeartbeats 1000000 in
theorem of_any (s : ByteArray) (w : World) (hs : s.size ≤ 64) (hp : s.size = 32 ∨ s.size = 64) :
    Calls Tryz.prog 37 #[.string s] w fun r w' => r = .returned (.tuple #[.agg (arr 4 (d64 (ofN s))), .int .i64 0]) ∧ Below w.heap.size w w' := by
  have HM := hide fun w => mod_bytes s w hs
  have R : Row (w.alloc (.cells #[Value.int IntKind.u64 0, Value.int IntKind.u64 0, Value.int IntKind.u64 0, Value.int IntKind.u64 0] 44)) w.heap.size 44 4 (fun _ => 0) := Row.new w 44 4 (fun _ => 0)
  have O : Below w.heap.size w (w.alloc (.cells #[Value.int IntKind.u64 0, Value.int IntKind.u64 0, Value.int IntKind.u64 0, Value.int IntKind.u64 0] 44)) := new_below w _
  obtain ⟨cap, W1, hcv, B, hb⟩ := conv_str (w.alloc (.cells #[Value.int IntKind.u64 0, Value.int IntKind.u64 0, Value.int IntKind.u64 0, Value.int IntKind.u64 0] 44)) s
  rw [show (w.alloc (.cells #[Value.int IntKind.u64 0, Value.int IntKind.u64 0, Value.int IntKind.u64 0, Value.int IntKind.u64 0] 44)).heap.size = w.heap.size + 1 by simp] at hcv B
  have HB := hide B
  replace R := R.keep hb
  replace O := O.trans (hb.mono O.size)
  clear B hb
  generalize ofN s = V at *
  have fin : ∀ w', Row w' w.heap.size 44 4 (fun _ => 0) → Below w.heap.size w w' → True := fun _ _ _ => trivial
  clear fin
  rcases hp with hp | hp
  · have n0 : ((s.size : Int) != 32) = false := by simp [hp]
    go_enter Tryz.func37, Tryz.ntmps37
    go_wp2_with fail
    have HC := dbl_any s _ cap W1 hs HB.out
    rw [hp] at HC
    refine HC.mono ?_
    clear HC
    rintro _ w1 ⟨rfl, hb1⟩
    replace R := R.keep hb1
    replace O := O.trans (hb1.mono O.size)
    clear hb1 HB hcv n0
    go_wp2_with fail
    refine (HM.out _).mono ?_
    rintro _ w2 ⟨rfl, hb1⟩
    replace R := R.keep hb1
    replace O := O.trans (hb1.mono O.size)
    clear hb1 HM
    have RR := hide (R.setAll (d64 V))
    have OO := hide (below_setCells (g := w.heap.size) (Nat.le_refl _) (arr 4 (d64 V)).toList 0 O)
    clear O
    go_wp2_with (refine wpList_store_mid rfl 44 _ _ rfl w.heap.size 0 (arr 4 (d64 V)) rfl rfl ?thn (info44 _) (arr_one _ _) ?_)
    case thn => rw [arr_size]; exact R.there
    exact bodyPost_ret (v := .tuple #[.agg (arr 4 (d64 V)), .int .i64 0]) (results_cell_tmp Tryz.results37 _ _ w.heap.size 44 (arr 4 (d64 V)) (0, 0) _ _ rfl rfl RR.out Tryz.underlying44 rfl (info44 _)) rfl ⟨rfl, OO.out⟩
  · have n0 : ((s.size : Int) != 32) = true := by simp [hp]
    have n1 : ((s.size : Int) != 64) = false := by simp [hp]
    go_enter Tryz.func37, Tryz.ntmps37
    go_wp2_with fail
    have HC := dbl_any s _ cap W1 hs HB.out
    rw [hp] at HC
    refine HC.mono ?_
    clear HC
    rintro _ w1 ⟨rfl, hb1⟩
    replace R := R.keep hb1
    replace O := O.trans (hb1.mono O.size)
    clear hb1 HB hcv n0 n1
    go_wp2_with fail
    refine (HM.out _).mono ?_
    rintro _ w2 ⟨rfl, hb1⟩
    replace R := R.keep hb1
    replace O := O.trans (hb1.mono O.size)
    clear hb1 HM
    have RR := hide (R.setAll (d64 V))
    have OO := hide (below_setCells (g := w.heap.size) (Nat.le_refl _) (arr 4 (d64 V)).toList 0 O)
    clear O
    go_wp2_with (refine wpList_store_mid rfl 44 _ _ rfl w.heap.size 0 (arr 4 (d64 V)) rfl rfl ?thm (info44 _) (arr_one _ _) ?_)
    case thm => rw [arr_size]; exact R.there
    exact bodyPost_ret (v := .tuple #[.agg (arr 4 (d64 V)), .int .i64 0]) (results_cell_tmp Tryz.results37 _ _ w.heap.size 44 (arr 4 (d64 V)) (0, 0) _ _ rfl rfl RR.out Tryz.underlying44 rfl (info44 _)) rfl ⟨rfl, OO.out⟩

set_option maxHeartbeats 400000 in
theorem of_no (s : ByteArray) (w : World) (h1 : s.size ≠ 32) (h2 : s.size ≠ 64) :
    Calls Tryz.prog 37 #[.string s] w fun r w' => r = .returned (.tuple #[.agg (arr 4 (d64 0)), .int .i64 2]) ∧ Below w.heap.size w w' := by
  have n0 : ((s.size : Int) != 32) = true := by simp; omega
  have n1 : ((s.size : Int) != 64) = true := by simp; omega
  go_enter Tryz.func37, Tryz.ntmps37
  go_wp2
  exact bodyPost_ret (v := .tuple #[.agg (arr 4 (d64 0)), .int .i64 2]) (by simp [results, Tryz.results37, go_sem]; rfl) rfl ⟨rfl, (Below.refl _ _).alloc (Nat.le_refl _) _⟩

theorem canon_val (s : ByteArray) : ((br (fun j => sw s j 8) Lf 4 : Int) == 1) = decide (bv s 32 < Lm) := by
  have e := ms_Q (sw_wds s 4) Lf_wds 4 (by omega)
  have b := Q_bd (ms_wds (fun j => sw s j 8) Lf 4)
  have hb := br_bd (fun j => sw s j 8) Lf 4
  have q := Q_bv s 4
  have q2 := Q_bd (sw_wds s 4)
  have lp := Lm_P
  rw [q, Lf_Q] at e
  rw [q] at q2
  generalize Q (ms (fun j => sw s j 8) Lf) 4 = A at *
  generalize br (fun j => sw s j 8) Lf 4 = c at *
  rw [show 8 * 4 = 32 from rfl] at *
  generalize bv s 32 = V at *
  generalize (18446744073709551616 : Int) ^ 4 = X at *
  have l0 := Lm_pos
  generalize Lm = L at *
  rcases (show c = 0 ∨ c = 1 by omega) with rfl | rfl
  · rw [show ((0 : Int) == 1) = false from rfl]
    symm
    rw [decide_eq_false_iff_not]
    omega
  · rw [show ((1 : Int) == 1) = true from rfl]
    symm
    rw [decide_eq_true_eq]
    omega

set_option maxRecDepth 100000 in
set_option maxHeartbeats 1000000 in
theorem canon_yes (s : ByteArray) (w : World) (hs : s.size = 32) :
    Calls Tryz.prog 36 #[.string s] w fun r w' => r = .returned (.bool (decide (bv s 32 < Lm))) ∧ Below w.heap.size w w' := by
  have n0 : ((s.size : Int) != 32) = false := by simp [hs]
  obtain ⟨cap, W1, hcv, B, hb⟩ := conv_str w s
  have HB := hide B
  have O := hb
  have HV := hide (canon_val s)
  clear B hb
  go_enter Tryz.func36, Tryz.ntmps36
  go_wp2_with fail
  have HC := dbl_any s _ cap W1 (by omega) HB.out
  rw [hs] at HC
  refine HC.mono ?_
  clear HC
  rintro _ w1 ⟨rfl, hb1⟩
  replace O := O.trans (hb1.mono O.size)
  clear hb1 HB hcv n0
  go_wp2_with fail
  refine (low_any _ _).mono ?_
  rintro _ w2 ⟨rfl, hb1⟩
  replace O := O.trans (hb1.mono O.size)
  clear hb1
  go_wp2_with fail
  refine (modulus_any _).mono ?_
  rintro _ w3 ⟨rfl, hb1⟩
  replace O := O.trans (hb1.mono O.size)
  clear hb1
  go_wp2_with fail
  refine (minus_any _ _ _ (sw_wds s 4) Lf_wds).mono ?_
  rintro _ w4 ⟨rfl, hb1⟩
  replace O := O.trans (hb1.mono O.size)
  clear hb1
  generalize ms (fun j => sw s j 8) Lf = r
  have hbr := br_bd (fun j => sw s j 8) Lf 4
  generalize br (fun j => sw s j 8) Lf 4 = c at *
  have RC : Row (w4.alloc (.cells #[Value.int IntKind.u64 0, Value.int IntKind.u64 0, Value.int IntKind.u64 0, Value.int IntKind.u64 0] 42)) w4.heap.size 42 4 (fun _ => 0) := Row.new w4 42 4 (fun _ => 0)
  have BB := hide (O.trans ((below_setCells (g := w4.heap.size) (Nat.le_refl _) (arr 4 r).toList 0 (new_below w4 (.cells #[Value.int IntKind.u64 0, Value.int IntKind.u64 0, Value.int IntKind.u64 0, Value.int IntKind.u64 0] 42))).mono O.size))
  generalize hd : decide (bv s 32 < Lm) = d at *
  have HD := hide hd
  clear hd O
  go_wp2_with (refine wpList_store_mid rfl 42 _ _ rfl w4.heap.size 0 (arr 4 r) rfl rfl ?thr (info42 _) (arr_one _ _) ?_)
  case thr => rw [arr_size]; exact RC.there
  go_ret
  exact ⟨by rw [HD.out, ← HV.out]; rfl, BB.out⟩

end Go.Proofs.YtmhfmhmpoobmlaaGreatDoor.Ord

/- What the multiples are: the program's and the document's are those of one point; the base point's order. -/
namespace Go.Proofs.YtmhfmhmpoobmlaaGreatDoor
open Go.RowKit

namespace Ord
theorem leb_le (N : Int) : lebytes N = bs (le N 32) := by
  unfold lebytes le digs
  have e : ∀ (i j : Nat), (N / 18446744073709551616 ^ i % 18446744073709551616) / 256 ^ j % 256 = N / 256 ^ (8 * i + j) % 256 ∨ 8 ≤ j := by
    intro i j
    by_cases hj : 8 ≤ j
    · exact .inr hj
    · left
      have e1 : (256 : Int) ^ (8 * i + j) = 18446744073709551616 ^ i * 256 ^ j := by
        rw [Int.pow_add, Int.pow_mul]
        rfl
      have hp := p64 i
      rw [e1, ← Int.ediv_ediv_of_nonneg (by omega)]
      generalize N / 18446744073709551616 ^ i = A
      rcases (show j = 0 ∨ j = 1 ∨ j = 2 ∨ j = 3 ∨ j = 4 ∨ j = 5 ∨ j = 6 ∨ j = 7 by omega) with rfl | rfl | rfl | rfl | rfl | rfl | rfl | rfl
      · simp only [Int.pow_zero]; omega
      · simp only [show (256 : Int) ^ 1 = 256 from by decide]; omega
      · simp only [show (256 : Int) ^ 2 = 65536 from by decide]; omega
      · simp only [show (256 : Int) ^ 3 = 16777216 from by decide]; omega
      · simp only [show (256 : Int) ^ 4 = 4294967296 from by decide]; omega
      · simp only [show (256 : Int) ^ 5 = 1099511627776 from by decide]; omega
      · simp only [show (256 : Int) ^ 6 = 281474976710656 from by decide]; omega
      · simp only [show (256 : Int) ^ 7 = 72057594037927936 from by decide]; omega
  congr 1
  have e' : ∀ (i j : Nat), j < 8 → N / 256 ^ (8 * i + j) % 256 = (N / 18446744073709551616 ^ i % 18446744073709551616) / 256 ^ j % 256 := fun i j hj => by
    rcases e i j with h | h
    · exact h.symm
    · omega
  have hl : List.range 32 = [8 * 0 + 0, 8 * 0 + 1, 8 * 0 + 2, 8 * 0 + 3, 8 * 0 + 4, 8 * 0 + 5, 8 * 0 + 6, 8 * 0 + 7, 8 * 1 + 0, 8 * 1 + 1, 8 * 1 + 2, 8 * 1 + 3, 8 * 1 + 4, 8 * 1 + 5, 8 * 1 + 6, 8 * 1 + 7, 8 * 2 + 0, 8 * 2 + 1, 8 * 2 + 2, 8 * 2 + 3, 8 * 2 + 4, 8 * 2 + 5, 8 * 2 + 6, 8 * 2 + 7, 8 * 3 + 0, 8 * 3 + 1, 8 * 3 + 2, 8 * 3 + 3, 8 * 3 + 4, 8 * 3 + 5, 8 * 3 + 6, 8 * 3 + 7] := by decide
  rw [hl]
  simp only [List.map_cons, List.map_nil]
  rw [e' 0 0 (by omega), e' 0 1 (by omega), e' 0 2 (by omega), e' 0 3 (by omega), e' 0 4 (by omega), e' 0 5 (by omega), e' 0 6 (by omega), e' 0 7 (by omega), e' 1 0 (by omega), e' 1 1 (by omega), e' 1 2 (by omega), e' 1 3 (by omega), e' 1 4 (by omega), e' 1 5 (by omega), e' 1 6 (by omega), e' 1 7 (by omega), e' 2 0 (by omega), e' 2 1 (by omega), e' 2 2 (by omega), e' 2 3 (by omega), e' 2 4 (by omega), e' 2 5 (by omega), e' 2 6 (by omega), e' 2 7 (by omega), e' 3 0 (by omega), e' 3 1 (by omega), e' 3 2 (by omega), e' 3 3 (by omega), e' 3 4 (by omega), e' 3 5 (by omega), e' 3 6 (by omega), e' 3 7 (by omega)]
  simp

theorem leb_size (N : Int) : (lebytes N).size = 32 := by
  unfold lebytes
  rw [bs_size]
  rfl

theorem leb_bv {N : Int} (hN : 0 ≤ N ∧ N < Lm) : bv (lebytes N) 32 = N := by
  have hP := Lm_P
  rw [leb_le N, bv_le N hN.1 32 32 (by omega)]
  have e : (256 : Int) ^ 32 = 18446744073709551616 ^ 4 := by decide
  rw [e, Int.emod_eq_of_lt hN.1 (by omega)]

end Ord

theorem add_self (P : Pt) : P.add P = P.mul 2 := by
  show _ = (zeroP.add P).add P
  rw [add_comm' zeroP, add_zero']
theorem Rep.dbl2 {p : P5} {P : Pt} (h : Rep p P) : Rep (dblF p) (P.mul 2) := by
  rw [← add_self]
  exact h.dbl
theorem Rep.d4 {p : P5} {P : Pt} {n : Nat} (h : Rep p (P.mul n)) : Rep (d4 p) (P.mul (n * 16)) := by
  have e : P.mul (n * 16) = ((((P.mul n).mul 2).mul 2).mul 2).mul 2 := by
    rw [← mul_mul', ← mul_mul', ← mul_mul', ← mul_mul']
  rw [e]
  exact h.dbl2.dbl2.dbl2.dbl2
theorem Rep.mulT {p : P5} {P : Pt} (h : Rep p P) : ∀ k, Rep (mulT p k) (P.mul k)
  | 0 => zero5_rep
  | k + 1 => (Rep.mulT h k).sum h
theorem Rep.sumN {p q : P5} {P : Pt} {m n : Nat} (hp : Rep p (P.mul m)) (hq : Rep q (P.mul n)) : Rep (sumF p q) (P.mul (m + n)) := by
  rw [mul_add']
  exact hp.sum hq
theorem div_step {A : Int} {B b : Nat} (h0 : 0 ≤ A) (h1 : (A / B).toNat = b) (hB : 0 < B) : A.toNat = b * B + (A % B).toNat := by
  have h2 := Int.emod_nonneg A (show (B : Int) ≠ 0 by omega)
  have h3 : 0 ≤ A / B := Int.ediv_nonneg h0 (by omega)
  have h4 := Int.mul_ediv_add_emod A B
  apply Int.ofNat.inj
  show (A.toNat : Int) = ((b * B + (A % B).toNat : Nat) : Int)
  rw [Int.natCast_add, Int.natCast_mul, ← h1, Int.toNat_of_nonneg h0, Int.toNat_of_nonneg h3, Int.toNat_of_nonneg h2, Int.mul_comm]
  exact h4.symm
theorem Rep.acc {p : P5} {P : Pt} (h : Rep p P) (s : ByteArray) : ∀ j, j ≤ 32 → Rep (acc p s j) (P.mul (Ord.bv s 32 / 256 ^ (32 - j)).toNat)
  | 0, _ => by
    have hb := Ord.bv_bd s 32
    rw [Int.ediv_eq_zero_of_lt hb.1 hb.2]
    exact zero5_rep
  | j + 1, hj => by
    have ih := Rep.acc h s j (by omega)
    have hb := Ord.bv_bd s 32
    have ha := Ord.bv_at s (j := 31 - j) (m := 32) (by omega)
    have hp := Ord.p8 (31 - j)
    rw [show 32 - j = 31 - j + 1 by omega, Int.pow_succ, ← Int.ediv_ediv_of_nonneg (by omega)] at ih
    rw [show 32 - (j + 1) = 31 - j by omega]
    have hA : 0 ≤ Ord.bv s 32 / 256 ^ (31 - j) := Int.ediv_nonneg hb.1 (by omega)
    generalize Ord.bv s 32 / 256 ^ (31 - j) = A at *
    have hd := div_step (B := 256) hA rfl (by omega)
    rw [hd, show (A % ((256 : Nat) : Int)) = A % 256 from rfl, ha]
    have ht := bt_bd s (31 - j)
    show Rep (sumF (_root_.Go.Proofs.YtmhfmhmpoobmlaaGreatDoor.d4 (sumF (_root_.Go.Proofs.YtmhfmhmpoobmlaaGreatDoor.d4 (_root_.Go.Proofs.YtmhfmhmpoobmlaaGreatDoor.acc p s j)) (_root_.Go.Proofs.YtmhfmhmpoobmlaaGreatDoor.mulT p (bt s (31 - j) / 16).toNat))) (_root_.Go.Proofs.YtmhfmhmpoobmlaaGreatDoor.mulT p (bt s (31 - j) % 16).toNat)) _
    have h2 := ((ih.d4.sumN (h.mulT (bt s (31 - j) / 16).toNat)).d4).sumN (h.mulT (bt s (31 - j) % 16).toNat)
    have e : ((A / 256).toNat * 16 + (bt s (31 - j) / 16).toNat) * 16 + (bt s (31 - j) % 16).toNat = (A / ((256 : Nat) : Int)).toNat * 256 + (bt s (31 - j)).toNat := by
      rw [show (A / ((256 : Nat) : Int)) = A / 256 from rfl]
      omega
    rw [e] at h2
    exact h2

/-- Mul by a scalar. -/
def mulV (p : P5) (N : Int) : P5 := acc p (Ord.lebytes N) 32
theorem Rep.mul {p : P5} {P : Pt} (h : Rep p P) {N : Int} (hN : 0 ≤ N ∧ N < Ord.Lm) : Rep (mulV p N) (P.mul N.toNat) := by
  have h2 := h.acc (Ord.lebytes N) 32 (Nat.le_refl _)
  rw [Ord.leb_bv hN, Nat.sub_self, Int.pow_zero, Int.ediv_one] at h2
  exact h2
theorem c_mul {p : P5} {P : Pt} (h : Rep p P) (N : Int) (w : World) : Calls Tryz.prog 26 #[.agg (arr 20 p.f), .agg (arr 4 (Ord.d64 N))] w fun r w' => r = .returned (.agg (arr 20 (mulV p N).f)) ∧ Below w.heap.size w w' :=
  mulY_gen p (Ord.d64 N) (Ord.lebytes N) w ⟨trivial⟩ h.ok h.none (Ord.leb_size N) (fun w => Ord.bytes_any N w)

theorem RRep.dblN {q : RQ} {P : Pt} {n : Nat} (h : RRep q (P.mul n)) : RRep (raddV q q) (P.mul (n * 2)) := by
  rw [mul_mul', ← add_self]
  exact h.add h
end Go.Proofs.YtmhfmhmpoobmlaaGreatDoor

/- The base point, as often as its order tells, is the zero point. -/
namespace Go.Proofs.YtmhfmhmpoobmlaaGreatDoor
open Go.RowKit

def rst (q : RQ) : List Bool → RQ → RQ
  | [], r => r
  | true :: l, r => rst q l (raddV (raddV r r) q)
  | false :: l, r => rst q l (raddV r r)
def nst : List Bool → Nat → Nat
  | [], n => n
  | true :: l, n => nst l (n * 2 + 1)
  | false :: l, n => nst l (n * 2)
theorem RRep.rst {q : RQ} {P : Pt} (hq : RRep q P) : ∀ (l : List Bool) (r : RQ) (n : Nat), RRep r (P.mul n) → RRep (rst q l r) (P.mul (nst l n))
  | [], _, _, h => h
  | true :: l, _, _, h => RRep.rst hq l _ _ ((h.dblN).add hq)
  | false :: l, _, _, h => RRep.rst hq l _ _ h.dblN
theorem RQ.ext {p q : RQ} (h : p.x = q.x ∧ p.y = q.y ∧ p.z = q.z ∧ p.t = q.t) : p = q := by
  cases p
  cases q
  obtain ⟨rfl, rfl, rfl, rfl⟩ := h
  rfl
def bQ : RQ := rofV BX BY
theorem RRep.step {P : Pt} {r r' : RQ} {n n' : Nat} {q : RQ} (h : RRep r (P.mul n)) (hq : RRep q P) (l : List Bool) (h1 : (Go.Proofs.YtmhfmhmpoobmlaaGreatDoor.rst q l r).x = r'.x ∧ (Go.Proofs.YtmhfmhmpoobmlaaGreatDoor.rst q l r).y = r'.y ∧ (Go.Proofs.YtmhfmhmpoobmlaaGreatDoor.rst q l r).z = r'.z ∧ (Go.Proofs.YtmhfmhmpoobmlaaGreatDoor.rst q l r).t = r'.t) (h2 : nst l n = n') : RRep r' (P.mul n') := by
  have h3 := hq.rst l r n h
  rw [RQ.ext h1, h2] at h3
  exact h3
def o0 : RQ := rzeroV
/-- A ladder by its stops. -/
def bl : Nat → Nat → List Bool → List Bool
  | 0, _, l => l
  | k + 1, n, l => bl k (n / 2) ((n % 2 == 1) :: l)
def chkR (q : RQ) : List (Nat × Nat × RQ) → RQ → Bool
  | [], _ => true
  | (k, n, r') :: l, r => (rst q (bl k n []) r).x == r'.x && (rst q (bl k n []) r).y == r'.y && (rst q (bl k n []) r).z == r'.z && (rst q (bl k n []) r).t == r'.t && chkR q l r'
def endR : List (Nat × Nat × RQ) → RQ → RQ
  | [], r => r
  | (_, _, r') :: l, _ => endR l r'
def endN : List (Nat × Nat × RQ) → Nat → Nat
  | [], n => n
  | (k, m, _) :: l, n => endN l (nst (bl k m []) n)
theorem chkR_rep {q : RQ} {P : Pt} (hq : RRep q P) : ∀ (l : List (Nat × Nat × RQ)) (r : RQ) (n : Nat), chkR q l r = true → RRep r (P.mul n) → RRep (endR l r) (P.mul (endN l n))
  | [], _, _, _, h => h
  | (k, m, r') :: l, r, n, hc, h => by
    unfold chkR at hc
    simp only [Bool.and_eq_true, beq_iff_eq] at hc
    exact chkR_rep hq l r' _ hc.2 (h.step hq (bl k m []) ⟨hc.1.1.1.1, hc.1.1.1.2, hc.1.1.2, hc.1.2⟩ rfl)
theorem bq_rep : RRep bQ baseQ := by
  unfold bQ
  rw [← base_q]
  exact rbase_rep
def lO : List (Nat × Nat × RQ) := [(16, 32768, ⟨28395401623189904592402220376056608767286906469681911141736293996965798587502, 39551095695588853852379006563980990449178671813393243361538106395492117339030, 13195407553963494886988266688278850522809838004392335738274838344469044685139, 5998313819499033592004301560146126542607977991985566157281743382373950066103⟩), (16, 0, ⟨3736255692963323852157080816719051928015231286185418755506407306915993899308, 17983798907073456331824429511468081546160187313990958684116939890165973385368, 33785251562200620272591655105578257675791047440203960497896472325457266014387, 45039970419153914913233916472718629475295562274195907195989696614576481271418⟩), (16, 0, ⟨32052919422593390400337661247495038476529181208675066921379485888298719544837, 28429070914396697255495341828562990241969202408203355349348710724900185533588, 10588827755536999659864071860885663282680288609784572110374386994466660820476, 43013930901032196104395741888172690439877794597309416145526463712315394175116⟩), (16, 0, ⟨4776277093813094955447743187417552572016585737685742536869622802835626899788, 30356025824548741949173045342494487507276562520522040179358715903492292688926, 29323326198710578740964923425401914765723760484569174664957710697561699375900, 13956212776148083255775091524001131953413201558734147707505118271509020383196⟩), (16, 0, ⟨806028773641219405862066059792010227355644258226013237337961789056367360821, 13645183299928035859404353138110674523321692145028244430183708252202950528286, 25740815768117163713671634973563184703771474299857880066918189357958302116656, 52976027652120056614879305678715301146658099535885801916867846385800325449149⟩), (16, 0, ⟨53202340910804720089923126557762210560763707178748913619495571538216751118793, 5994992531545989339101713789415225570399832354646093006770512998245129148230, 49169377775103921856242158605049669300247942084372411297801676540811558102635, 17654134180440362703753347632903727523010676403024084488303834421225956520400⟩), (16, 0, ⟨34437211082591628754963963332413600883643232053922453139678842744603559047493, 54680333614222602184519653312904971056685970828137662068838011254234276717307, 57588523901183987980859279241235023185009676028267405362722392578218847616269, 41914822620010476767204697037032211561614625667705488896940774529961006791822⟩), (16, 0, ⟨24938624142880780344185953651372311870993717010437796377091996921811638714354, 16474457591788104045688778599773579319323806555755566182177038192546166075924, 57524396202905988941658100797691401348601525856126991861405551356077940318813, 26224548346873096615053983777140347907859092712892604855457609964493929522927⟩), (16, 42743, ⟨25168124459283634048685004133356609610721974039013091971913029540572414504877, 27987968856047954817657214997378746610764352260470400266540909667165894558128, 14768179893708287219721532596338883635357869270426009452434214877506987587763, 6326508007159339918357099038779855480739308633279098373600916981610574437171⟩), (16, 52981, ⟨27747334574616394001671544972397522701443406515410373621549800952286789188031, 8199122845177527114994708208354772536036717138860348540088995815280918949742, 5134118114367787481165291208904372290085401719766489595368751140561486979321, 54909114419988028932990657036010681893848110131280402308041711995246989110530⟩), (16, 6076, ⟨47916525168426179058218639806050604838489673677967769462188175335800095451463, 30617327695503016912621504384003028789359232859295326909963525387337587687837, 15147999521824012262492808253667687103168467042379860254812284001570090082820, 29164916684187026905245983522567931035026027657278887173783286103699229397309⟩), (16, 59058, ⟨55586458315084942508444723505078300992367419188555001130362602504126887477078, 42426833684895173971395463425312672006402497661541248970032229337861445966265, 30730388071930233499358459694661362762964327783092890224499688175283802616403, 8039619322643508031468223705383141458266607702281554665860735995537490650637⟩), (16, 49299, ⟨51419250150038731644333251568919273144715778504851121824800562544659421298484, 28903739427090395221708848164697410114564063746263677860320303608050639344901, 15017484878533359343056733774260568446294757705876846707190123253873000062853, 6663089723473616439001129195948032937660877275257366086977936812382531236983⟩), (16, 6354, ⟨10254399784315766716610494235702531705911148126970686655270206883261708408098, 11469908055901212768965127832624076734961441843657061447519809181412902932642, 30131591433583498236796704419554815994011702757874957746806098848784234914440, 16582165256344878604191661744201309794514361187147972527423185449348709391635⟩), (16, 59310, ⟨32761083542642319082911891549565013916355666803021809017442293094877123159423, 43260193632724267928556799731591429809763670677086712837872571686988731236319, 52079969498321735438166242631188276138841292434150570293186434401445865030891, 50690132427915236889963139383109278049152775223873666246053827620230532825267⟩), (13, 5101, ⟨0, 31463696881198654800294338934949973004785003180365891933753696501213649936932, 31463696881198654800294338934949973004785003180365891933753696501213649936932, 0⟩)]
def oN : Nat := 7237005577332262213973186563042994240857116359379907606001950938285454250989
theorem oN_Lm : (oN : Int) = Ord.Lm := by decide +kernel
theorem ord_zero : baseQ.mul oN = zeroP := by
  have h := chkR_rep bq_rep lO o0 0 (by decide +kernel) rzero_rep
  rw [show endN lO 0 = oN from by decide +kernel] at h
  exact (h.same rzero_rep).1 (by decide +kernel)

end Go.Proofs.YtmhfmhmpoobmlaaGreatDoor

/- The walk of EdwReckons. -/
namespace Go.Proofs.YtmhfmhmpoobmlaaGreatDoor
open Go.RowKit

def decQ (s : ByteArray) : Pt := if h : rdecB s = true then decPt s h else zeroP
theorem dec_both {s : ByteArray} (hc : decC s = 0) : Rep (decP s) (decQ s) ∧ RRep (rdecP s) (decQ s) := by
  have h32 : s.size = 32 := by
    refine Classical.byContradiction fun h => ?_
    unfold decC at hc
    rw [if_neg h] at hc
    cases hc
  have hB : rdecB s = true := by
    cases h : rdecB s
    · unfold decC at hc
      rw [if_pos h32, dec_eq, h] at hc
      cases hc
    · rfl
  have e : decQ s = decPt s hB := by
    unfold decQ
    rw [dif_pos hB]
  rw [e]
  exact ⟨dec_rep h32 hB, rdec_rep h32 hB⟩
def ofC (s : ByteArray) : Int := if s.size = 32 ∨ s.size = 64 then 0 else 2
def ofV (s : ByteArray) : Int := if s.size = 32 ∨ s.size = 64 then Ord.ofN s else 0
theorem c_of (s : ByteArray) (w : World) : Calls Tryz.prog 37 #[.string s] w fun r w' => r = .returned (.tuple #[.agg (arr 4 (Ord.d64 (ofV s))), .int .i64 (ofC s)]) ∧ Below w.heap.size w w' := by
  unfold ofV ofC
  by_cases h : s.size = 32 ∨ s.size = 64
  · rw [if_pos h, if_pos h]
    exact Ord.of_any s w (by omega) h
  · rw [if_neg h, if_neg h]
    exact Ord.of_no s w (by omega) (by omega)
theorem ofV_bd (s : ByteArray) : 0 ≤ ofV s ∧ ofV s < Ord.Lm := by
  unfold ofV
  split
  · exact Ord.ofN_bd s
  · decide
end Go.Proofs.YtmhfmhmpoobmlaaGreatDoor

/- The walk of EdwLaws. -/
namespace Go.Proofs.YtmhfmhmpoobmlaaGreatDoor
open Go.RowKit

/-- Multiples of the base point by numbers modulo the order. -/
theorem base_mod {A : Int} (h : 0 ≤ A) : baseQ.mul (A % Ord.Lm).toNat = baseQ.mul A.toNat := by
  have hd := div_step (B := oN) h rfl (by decide)
  rw [hd, mul_add', Nat.mul_comm, mul_mul', ord_zero, zero_mul', add_comm', add_zero', oN_Lm]
theorem l_add {M N : Int} (hM : 0 ≤ M) (hN : 0 ≤ N) : baseQ.mul ((M + N) % Ord.Lm).toNat = (baseQ.mul M.toNat).add (baseQ.mul N.toNat) := by
  rw [base_mod (by omega), ← mul_add']
  congr 1
  omega
theorem l_mul {M N : Int} (hM : 0 ≤ M) (hN : 0 ≤ N) : baseQ.mul (M * N % Ord.Lm).toNat = (baseQ.mul M.toNat).mul N.toNat := by
  rw [base_mod (Int.mul_nonneg hM hN), ← mul_mul']
  congr 1
  exact Int.toNat_mul hM hN
end Go.Proofs.YtmhfmhmpoobmlaaGreatDoor

/- The contracts of both Clamp, of the document's Canonical, of the law's of. -/
namespace Go.Proofs.YtmhfmhmpoobmlaaGreatDoor.Ord
open Go.RowKit

theorem and_bd {x : Int} (h0 : 0 ≤ x) (h1 : x < 256) : 0 ≤ bits .and .u8 x 248 ∧ bits .and .u8 x 248 < 256 := by
  obtain ⟨X, rfl⟩ := Int.eq_ofNat_of_zero_le h0
  have hX : X < 256 := by omega
  have h : ∀ n : Fin 256, 0 ≤ bits .and .u8 ((n.val : Nat) : Int) 248 ∧ bits .and .u8 ((n.val : Nat) : Int) 248 < 256 := by decide +kernel
  exact h ⟨X, hX⟩
theorem or_bd {x : Int} (h0 : 0 ≤ x) (h1 : x < 256) : 0 ≤ bits .or .u8 (bits .and .u8 x 127) 64 ∧ bits .or .u8 (bits .and .u8 x 127) 64 < 256 := by
  obtain ⟨X, rfl⟩ := Int.eq_ofNat_of_zero_le h0
  have hX : X < 256 := by omega
  have h : ∀ n : Fin 256, 0 ≤ bits .or .u8 (bits .and .u8 ((n.val : Nat) : Int) 127) 64 ∧ bits .or .u8 (bits .and .u8 ((n.val : Nat) : Int) 127) 64 < 256 := by decide +kernel
  exact h ⟨X, hX⟩

/-- The bytes of a secret that is clamped. -/
def clF (s : ByteArray) : Nat → Int := upd (upd (bt s) 0 (bits .and .u8 (bt s 0) 248)) 31 (bits .or .u8 (bits .and .u8 (bt s 31) 127) 64)
def clS (s : ByteArray) : ByteArray := bs ((List.range 32).map (clF s))
theorem clF_bd (s : ByteArray) (i : Nat) : 0 ≤ clF s i ∧ clF s i < 256 := by
  unfold clF upd
  by_cases h1 : i = 31
  · rw [if_pos h1]
    exact or_bd (bt_bd s 31).1 (bt_bd s 31).2
  · rw [if_neg h1]
    by_cases h2 : i = 0
    · rw [if_pos h2]
      exact and_bd (bt_bd s 0).1 (bt_bd s 0).2
    · rw [if_neg h2]
      exact bt_bd s i
theorem clS_size (s : ByteArray) : (clS s).size = 32 := by unfold clS; rw [bs_size]; simp

set_option maxRecDepth 100000 in
set_option maxHeartbeats 1000000 in
theorem clamp_yes (s : ByteArray) (w : World) (hs : s.size = 32) :
    Calls Tryz.prog 46 #[.string s] w fun r w' => r = .returned (.tuple #[.string (clS s), .int .i64 0]) ∧ Below w.heap.size w w' := by
  have n0 : ((s.size : Int) != 32) = false := by simp [hs]
  obtain ⟨cap, W1, hcv, B, hb⟩ := conv_str w s
  rw [hs] at B
  have c0 := B.c 0 (by omega)
  have c31 := B.c 31 (by omega)
  have f0 := B.fz 0 (by omega)
  have f31 := B.fz 31 (by omega)
  have gl := B.lt
  have B2 := (B.set (k := 0) (by omega) (bits .and .u8 (bt s 0) 248)).set (k := 31) (by omega) (bits .or .u8 (bits .and .u8 (bt s 31) 127) 64)
  have hbk := conv_back (f := clF s) B2 cap (fun i _ => clF_bd s i)
  rw [show bs ((List.range 32).map (clF s)) = clS s from rfl] at hbk
  have OO := hide ((hb.setCell (p := ⟨w.heap.size, 0, none⟩) (Nat.le_refl _) (.int .u8 (bits .and .u8 (bt s 0) 248))).setCell (p := ⟨w.heap.size, 31, none⟩) (Nat.le_refl _) (.int .u8 (bits .or .u8 (bits .and .u8 (bt s 31) 127) 64)))
  clear B2 B hb
  generalize clS s = C at *
  go_enter Tryz.func46, Tryz.ntmps46
  go_wp2
  exact bodyPost_ret (v := .tuple #[.string C, .int .i64 0]) (by simp [results, Tryz.results46, go_sem]) rfl ⟨rfl, OO.out⟩

end Go.Proofs.YtmhfmhmpoobmlaaGreatDoor.Ord

/- What the parts of a signature are made of: the contracts of order and edw, over cells of any kind; what a secret holds. -/
namespace Go.Proofs.YtmhfmhmpoobmlaaGreatDoor.Sha
open Go.RowKit

/-- What a secret holds: its number, and what stands ahead of a text. -/
def hd (N : Int) (p : ByteArray) : Nat → Value := fun i => if i < 4 then .int .u64 (Ord.d64 N i) else .string p
theorem hd_part (N : Int) (p : ByteArray) : ∀ j, j < 4 → hd N p (0 + j) = w64 (Ord.d64 N) j := fun j hj => by
  unfold hd w64
  rw [Nat.zero_add, if_pos hj]
theorem hd_4 (N : Int) (p : ByteArray) : hd N p 4 = .string p := rfl
theorem hd_put4 (N K : Int) (p : ByteArray) : ∀ j, j < 5 → (if 0 ≤ j ∧ j < 0 + 4 then w64 (Ord.d64 K) (j - 0) else hd N p j) = hd K p j := fun j hj => by
  unfold hd w64
  by_cases h : j < 4
  · rw [if_pos (by omega), if_pos h, Nat.sub_zero]
  · rw [if_neg (by omega), if_neg h, if_neg h]
theorem hd_put1 (N : Int) (p q : ByteArray) : ∀ j, j < 5 → (if j = 4 then .string q else hd N p j) = hd N q j := fun j hj => by
  unfold hd
  by_cases h : j < 4
  · rw [if_neg (by omega), if_pos h, if_pos h]
  · rw [if_pos (by omega), if_neg h]
theorem hd_one (N : Int) (p : ByteArray) : ∀ j, j < 5 → (hd N p j).oneCell' = true := fun j _ => by
  unfold hd
  split <;> rfl
theorem inz44 : (Tryz.prog.info? 44).map (·.size) = some 4 := by kernel_rfl
theorem inz46 : (Tryz.prog.info? 46).map (·.size) = some 5 := by kernel_rfl
theorem inz60 : (Tryz.prog.info? 60).map (·.size) = some 20 := by kernel_rfl
theorem inz36 : (Tryz.prog.info? 36).map (·.size) = some 16 := by kernel_rfl
theorem z_base  (w : World) : Calls Tryz.prog 25 #[] w fun r w' => r = .returned (.agg (av 20 (w64 base5.f))) ∧ Below w.heap.size w w' := c_base w
theorem z_mul {p : P5} {P : Pt} (h : Rep p P) (N : Int) (w : World) : Calls Tryz.prog 26 #[.agg (av 20 (w64 p.f)), .agg (av 4 (w64 (Ord.d64 N)))] w fun r w' => r = .returned (.agg (av 20 (w64 (mulV p N).f))) ∧ Below w.heap.size w w' := c_mul h N w
theorem z_bytes (p : P5) (hp : p.Ok) (w : World) : Calls Tryz.prog 27 #[.agg (av 20 (w64 p.f))] w fun r w' => r = .returned (.string (bytesV p)) ∧ Below w.heap.size w w' := c_bytes p w hp
theorem z_dec (s : ByteArray) (w : World) : Calls Tryz.prog 34 #[.string s] w fun r w' => r = .returned (.tuple #[.agg (av 20 (w64 (decP s).f)), .int .i64 (decC s)]) ∧ Below w.heap.size w w' := c_decode s w
theorem z_small (p : P5) (hp : p.Ok) (w : World) : Calls Tryz.prog 35 #[.agg (av 20 (w64 p.f))] w fun r w' => r = .returned (.bool (smallV p)) ∧ Below w.heap.size w w' := c_small p w hp
theorem z_same (p q : P5) (hp : p.Ok) (hq : q.Ok) (w : World) : Calls Tryz.prog 38 #[.agg (av 20 (w64 p.f)), .agg (av 20 (w64 q.f))] w fun r w' => r = .returned (.bool (sameV p q)) ∧ Below w.heap.size w w' := c_same p q w hp hq
theorem z_add (p q : P5) (hp : p.Ok) (hq : q.Ok) (w : World) : Calls Tryz.prog 39 #[.agg (av 20 (w64 p.f)), .agg (av 20 (w64 q.f))] w fun r w' => r = .returned (.agg (av 20 (w64 (addV p q).f))) ∧ Below w.heap.size w w' := Go.Proofs.YtmhfmhmpoobmlaaGreatDoor.c_add p q w hp hq
theorem z_of (s : ByteArray) (w : World) : Calls Tryz.prog 37 #[.string s] w fun r w' => r = .returned (.tuple #[.agg (av 4 (w64 (Ord.d64 (Go.Proofs.YtmhfmhmpoobmlaaGreatDoor.ofV s)))), .int .i64 (Go.Proofs.YtmhfmhmpoobmlaaGreatDoor.ofC s)]) ∧ Below w.heap.size w w' := Go.Proofs.YtmhfmhmpoobmlaaGreatDoor.c_of s w
end Go.Proofs.YtmhfmhmpoobmlaaGreatDoor.Sha

/- What a secret holds, its public key, the number of texts: the walks of heldBy, public and numberOf. -/
namespace Go.Proofs.YtmhfmhmpoobmlaaGreatDoor.Sha
open Go.RowKit

/-- A secret's number, and what stands ahead of a text. -/
def an (s : ByteArray) : Int := Go.Proofs.YtmhfmhmpoobmlaaGreatDoor.ofV (Ord.clS ((ofV s).extract 0 32))
def px (s : ByteArray) : ByteArray := (ofV s).extract 32 (ofV s).size
theorem an_bd (s : ByteArray) : 0 ≤ an s ∧ an s < Ord.Lm := ofV_bd _
/-- The number of a text. -/
def nm (s : ByteArray) : Int := Go.Proofs.YtmhfmhmpoobmlaaGreatDoor.ofV (ofV s)
theorem nm_bd (s : ByteArray) : 0 ≤ nm s ∧ nm s < Ord.Lm := ofV_bd _
/-- The bytes of the base point, so often. -/
def pb (a : Int) : ByteArray := bytesV (mulV base5 a)
/-- Texts, one behind the other. -/
def jo (S : Nat → ByteArray) : Nat → ByteArray
  | 0 => ⟨#[]⟩
  | j + 1 => jo S j ++ S j
theorem e_app (s : ByteArray) : (⟨#[]⟩ : ByteArray) ++ s = s := ByteArray.empty_append
theorem h32 (s : ByteArray) : 32 ≤ (ofV s).size := by rw [ofV_size]; decide
theorem x32 (s : ByteArray) : ((ofV s).extract 0 32).size = 32 := by
  rw [ByteArray.size_extract, ofV_size]
  rfl

set_option maxRecDepth 100000 in
set_option maxHeartbeats 4000000 in
theorem c_held (secret : ByteArray) (w : World) (hL : Laid w)  :
    Calls Tryz.prog 17 #[.string secret] w fun r w' => r = .returned (if secret.size = 32 then .tuple #[.agg (av 5 (hd (an secret) (px secret))), .int .i64 0] else .tuple #[.agg (av 5 (hd 0 ⟨#[]⟩)), .int .i64 2]) ∧ Below w.heap.size w w' := by
  go_enter Tryz.func17, Tryz.ntmps17
  have M := Mem.start hL
  refine sR ?_
  refine pN M 2 (.cells (av 5 (hd 0 ⟨#[]⟩)) 46) fun g1 u1 M => ?_
  refine pV 3 (.int .i64 0) ?_
  refine nT ?_
  refine wp_seq ?_
  refine wp_seq ?_
  by_cases h : secret.size = 32
  · skip
    refine rg_lit ?_
    refine pV 7 (.string secret) ?_
    refine pV 8 (.int .i64 (secret.size : Int)) ?_
    refine pH 9 (.bool false) (nF ((secret.size : Int) = 32) (by omega)) ?_
    refine nT ?_
    refine wp_cond_false (by kernel_rfl) ?_
    refine wp_skip ?_
    refine au_then ?_
    refine sR ?_
    refine pV 11 (.string secret) ?_
    refine pC M 12 45 #[.string secret] (.string (ofV secret)) (fun w M => c_of secret w M.laid) fun u2 M => ?_
    refine pV 4 (.string (ofV secret)) ?_
    refine nT ?_
    refine sR ?_
    refine pV 14 (.string (ofV secret)) ?_
    refine pH 15 (.string ((ofV secret).extract 0 32)) (run_strh 9 Tryz.underlying9 _ _ rfl (ofV secret) (by kernel_rfl) .i64 32 (by kernel_rfl) (h32 secret) _ rfl) ?_
    refine pC M 16 46 #[.string ((ofV secret).extract 0 32)] (.tuple #[.string (Ord.clS ((ofV secret).extract 0 32)), .int .i64 0]) (fun w M => Ord.clamp_yes ((ofV secret).extract 0 32) w (x32 secret)) fun u3 M => ?_
    refine pV 13 (.tuple #[.string (Ord.clS ((ofV secret).extract 0 32)), .int .i64 0]) ?_
    refine pV 17 (.string (Ord.clS ((ofV secret).extract 0 32))) ?_
    refine pV 18 (.int .i64 0) ?_
    refine pV 5 (.string (Ord.clS ((ofV secret).extract 0 32))) ?_
    refine pV 6 (.int .i64 0) ?_
    refine nT ?_
    refine sR ?_
    refine pV 20 (.string (Ord.clS ((ofV secret).extract 0 32))) ?_
    refine pC M 21 37 #[.string (Ord.clS ((ofV secret).extract 0 32))] (.tuple #[.agg (av 4 (w64 (Ord.d64 (an secret)))), .int .i64 (Go.Proofs.YtmhfmhmpoobmlaaGreatDoor.ofC (Ord.clS ((ofV secret).extract 0 32)))]) (fun w M => z_of (Ord.clS ((ofV secret).extract 0 32)) w) fun u4 M => ?_
    refine pV 19 (.tuple #[.agg (av 4 (w64 (Ord.d64 (an secret)))), .int .i64 (Go.Proofs.YtmhfmhmpoobmlaaGreatDoor.ofC (Ord.clS ((ofV secret).extract 0 32)))]) ?_
    refine pV 22 (.agg (av 4 (w64 (Ord.d64 (an secret))))) ?_
    refine pV 23 (.int .i64 (Go.Proofs.YtmhfmhmpoobmlaaGreatDoor.ofC (Ord.clS ((ofV secret).extract 0 32)))) ?_
    refine pV 24 (.pointer (some ⟨g1, 0, none⟩)) ?_
    refine pl_put M (want_no rfl) rfl 44 _ _ rfl 0 g1 0 (by kernel_rfl) 5 46 (hd 0 ⟨#[]⟩) rfl 4 (w64 (Ord.d64 (an secret))) (hd (an secret) ⟨#[]⟩) (by kernel_rfl) inz44 (by decide) (fun _ _ => rfl) (hd_put4 _ _ _) fun u5 M => ?_
    refine nT ?_
    refine sR ?_
    refine pV 25 (.string (ofV secret)) ?_
    refine pH 26 (.string (px secret)) (run_strl 9 Tryz.underlying9 _ _ rfl (ofV secret) (by kernel_rfl) .i64 32 (by kernel_rfl) (h32 secret) _ rfl) ?_
    refine pV 27 (.pointer (some ⟨g1, 4, none⟩)) ?_
    refine pP M 0 rfl 4 (.string (px secret)) (hd (an secret) (px secret)) (by decide) (hd_put1 _ _ _) fun u6 M => ?_
    refine nT ?_
    refine sR ?_
    refine pA M 28 0 5 (hd (an secret) (px secret)) ?_
    refine pl_put M (want_no rfl) rfl 46 _ _ rfl 0 g1 0 (by kernel_rfl) 5 46 (hd (an secret) (px secret)) rfl 5 (hd (an secret) (px secret)) (hd (an secret) (px secret)) (by kernel_rfl) inz46 (by decide) (hd_one _ _) (fun j hj => by rw [if_pos (by omega), Nat.sub_zero]) fun u7 M => ?_
    refine pV 3 (.int .i64 0) ?_
    refine nT ?_
    refine wp_ret ?_
    exact bodyPost_ret (v := .tuple #[.agg (av 5 (hd (an secret) (px secret))), .int .i64 0]) (results_cell_tmp Tryz.results17 _ _ g1 46 (av 5 (hd (an secret) (px secret))) (0, 0) _ _ (by kernel_rfl) (by kernel_rfl) (M.get 0 rfl) Tryz.underlying46 rfl (by rw [av_size]; exact inz46)) (by kernel_rfl) ⟨by rw [if_pos h], below_grown M.old⟩
  · skip
    refine rg_lit ?_
    refine pV 7 (.string secret) ?_
    refine pV 8 (.int .i64 (secret.size : Int)) ?_
    refine pH 9 (.bool true) (nU ((secret.size : Int) = 32) (by omega)) ?_
    refine nT ?_
    refine wp_cond_true (by kernel_rfl) ?_
    refine sR ?_
    refine pA M 10 0 5 (hd 0 ⟨#[]⟩) ?_
    refine pl_put M (want_no rfl) rfl 46 _ _ rfl 0 g1 0 (by kernel_rfl) 5 46 (hd 0 ⟨#[]⟩) rfl 5 (hd 0 ⟨#[]⟩) (hd 0 ⟨#[]⟩) (by kernel_rfl) inz46 (by decide) (hd_one _ _) (fun j hj => by rw [if_pos (by omega), Nat.sub_zero]) fun u8 M => ?_
    refine pV 3 (.int .i64 2) ?_
    refine nT ?_
    refine wp_ret ?_
    refine au_then_ret ?_
    exact bodyPost_ret (v := .tuple #[.agg (av 5 (hd 0 ⟨#[]⟩)), .int .i64 2]) (results_cell_tmp Tryz.results17 _ _ g1 46 (av 5 (hd 0 ⟨#[]⟩)) (0, 0) _ _ (by kernel_rfl) (by kernel_rfl) (M.get 0 rfl) Tryz.underlying46 rfl (by rw [av_size]; exact inz46)) (by kernel_rfl) ⟨by rw [if_neg h], below_grown M.old⟩

set_option maxRecDepth 100000 in
set_option maxHeartbeats 4000000 in
theorem c_public (a : Int) (p : ByteArray) (ha : 0 ≤ a ∧ a < Ord.Lm) (w : World) (hL : Laid w)  :
    Calls Tryz.prog 18 #[.agg (av 5 (hd a p))] w fun r w' => r = .returned (.string (pb a)) ∧ Below w.heap.size w w' := by
  go_enter Tryz.func18, Tryz.ntmps18
  have M := Mem.start hL
  refine sR ?_
  refine pN M 1 (.cells (av 5 (hd a p)) 46) fun g1 u1 M => ?_
  refine pV 2 (.string ⟨#[]⟩) ?_
  refine nT ?_
  refine wp_seq ?_
  refine rg_tail M 5 (by kernel_rfl) (by kernel_rfl) ?_
  simp only [List.take_succ_cons, List.take_zero]
  refine kC M 3 25 #[] (.agg (av 20 (w64 base5.f))) (fun w M => z_base w) ?_
  refine kV 4 (.pointer (some ⟨g1, 0, none⟩)) ?_
  refine kL M 5 0 rfl 0 4 (w64 (Ord.d64 a)) (hd_part _ _) ?_
  refine kC M 6 26 #[.agg (av 20 (w64 base5.f)), .agg (av 4 (w64 (Ord.d64 a)))] (.agg (av 20 (w64 (mulV base5 a).f))) (fun w M => z_mul base_rep a w) ?_
  refine kC M 7 27 #[.agg (av 20 (w64 (mulV base5 a).f))] (.string (pb a)) (fun w M => z_bytes _ (base_rep.mul ha).ok w) ?_
  refine kl_nil fun u2 M => ?_
  refine pV 2 (.string (pb a)) ?_
  refine nT ?_
  refine wp_ret ?_
  exact bodyPost_ret (v := .string (pb a)) (results_tmp1 Tryz.results18 _ _ _ (by kernel_rfl)) (by kernel_rfl) ⟨rfl, below_grown M.old⟩

set_option maxRecDepth 100000 in
set_option maxHeartbeats 4000000 in
theorem c_number (g n cap : Nat) (Ss : Nat → ByteArray) (w : World) (hL : Laid w) (hn : n ≤ 1000) (hS : ∀ j, j < n → w.cell? ⟨g, 0 + j, none⟩ = some (.string (Ss j))) :
    Calls Tryz.prog 24 #[.slice (some ⟨g, 0, none⟩) n cap] w fun r w' => r = .returned (.agg (av 4 (w64 (Ord.d64 (nm (jo Ss n)))))) ∧ Below w.heap.size w w' := by
  go_enter Tryz.func24, Tryz.ntmps24
  have M := Mem.start hL
  refine sR ?_
  refine pN M 2 (.cells (av 4 (w64 (fun _ => 0))) 44) fun g1 u1 M => ?_
  refine nT ?_
  refine sR ?_
  refine pl_calln M (want_no rfl) (some 8) rfl 54 #[] (fun g2 => .pointer (some ⟨g2, 0, none⟩)) (.cells (av 138 (hF true hs0.ws hs0.rs hs0.ct)) 125) (fun _ => by kernel_rfl) (fun w M => c_new w M.laid) fun g2 u2 M => ?_
  refine pV 3 (.pointer (some ⟨g2, 0, none⟩)) ?_
  refine nT ?_
  refine wp_seq ?_
  refine sR ?_
  refine pV 9 (.slice (some ⟨g, 0, none⟩) n cap) ?_
  refine pV 10 (.int .i64 (n : Int)) ?_
  refine pV 11 (.int .i64 0) ?_
  refine nT ?_
  refine wp_block ?_
  refine au_loop (fun j a w' => ∃ v1 : Nat → Value, a = ⟨#[.slice (some ⟨g, 0, none⟩) n cap, undef, .pointer (some ⟨g1, 0, none⟩), .pointer (some ⟨g2, 0, none⟩), undef, v1 5, undef, undef, .pointer (some ⟨g2, 0, none⟩), .slice (some ⟨g, 0, none⟩) n cap, .int .i64 (n : Int), .int .i64 (j : Int), v1 12, v1 13, v1 14, v1 15, v1 16, v1 17, v1 18, undef, undef, undef, undef, undef, undef, undef], []⟩ ∧ Mem ⟨w, []⟩ [⟨g1, .cells (av 4 (w64 (fun _ => 0))) 44⟩, ⟨g2, .cells (av 138 (hF true (tk hs0 (jo Ss j) (jo Ss j).size).ws (tk hs0 (jo Ss j) (jo Ss j).size).rs (tk hs0 (jo Ss j) (jo Ss j).size).ct)) 125⟩] w') n ⟨fun k_ => ([undef, undef, undef, undef, undef, undef, undef, undef, undef, undef, undef, undef, undef, undef] : List Value).getD (k_ - 5) undef, by kernel_rfl, M⟩ ?_ ?_
  · intro j a u0 hj hI
    obtain ⟨v1, rfl, M⟩ := hI
    refine sR ?_
    refine pH 12 (.bool true) (dT ((j : Int) < (n : Int)) (by omega)) ?_
    refine nT ?_
    refine wp_seq ?_
    refine wp_cond_true (by kernel_rfl) ?_
    refine wp_skip ?_
    refine au_then ?_
    refine wp_seq ?_
    refine wp_block ?_
    refine sR ?_
    refine pH 13 (.pointer (some ⟨g, 0 + j, none⟩)) (run_ixL 80 9 Tryz.underlying80 inz9 _ _ rfl g 0 n cap (by kernel_rfl) .i64 j (by kernel_rfl) hj) ?_
    refine pE M 14 g (0 + j) (.string (Ss j)) (fun w M => M.oldc (hS j hj) (by simp)) ?_
    refine pV 5 (.string (Ss j)) ?_
    refine nT ?_
    refine rg_lit ?_
    refine pV 15 (.pointer (some ⟨g2, 0, none⟩)) ?_
    refine pV 16 (.string (Ss j)) ?_
    refine pl_callp M (want_no rfl) (some 17) rfl 55 #[.pointer (some ⟨g2, 0, none⟩), .string (Ss j)] (.int .i64 0) 1 g2 (.cells (av 138 (hF true (tk hs0 (jo Ss j) (jo Ss j).size).ws (tk hs0 (jo Ss j) (jo Ss j).size).rs (tk hs0 (jo Ss j) (jo Ss j).size).ct)) 125) (.cells (av 138 (hF true (tk (tk hs0 (jo Ss j) (jo Ss j).size) (Ss j) (Ss j).size).ws (tk (tk hs0 (jo Ss j) (jo Ss j).size) (Ss j) (Ss j).size).rs (tk (tk hs0 (jo Ss j) (jo Ss j).size) (Ss j) (Ss j).size).ct)) 125) rfl (fun _ => by kernel_rfl) (fun w M => c_add (tk hs0 (jo Ss j) (jo Ss j).size) (tk_ok hs0_ok _ _) g2 (Ss j) w M.laid (M.get 1 rfl) (M.ne0 1 rfl)) fun u3 M => ?_
    refine pl_nil ?_
    refine au_block ?_
    refine au_then ?_
    refine rg_lit ?_
    refine pH 18 (.int .i64 ((j + 1 : Nat) : Int)) (iV ((j : Int) + 1) (by omega) (by omega) (by omega)) ?_
    refine pV 11 (.int .i64 ((j + 1 : Nat) : Int)) ?_
    refine nT ?_
    rw [← tk_all hs0 (jo Ss j) (Ss j)] at M
    exact ⟨fun k_ => ([.string (Ss j), undef, undef, undef, undef, undef, undef, .bool true, .pointer (some ⟨g, 0 + j, none⟩), .string (Ss j), .pointer (some ⟨g2, 0, none⟩), .string (Ss j), .int .i64 0, .int .i64 ((j + 1 : Nat) : Int)] : List Value).getD (k_ - 5) undef, by kernel_rfl, M⟩
  · intro a u0 hI
    obtain ⟨v1, rfl, M⟩ := hI
    refine sR ?_
    refine pH 12 (.bool false) (dF ((n : Int) < (n : Int)) (by omega)) ?_
    refine nT ?_
    refine wp_seq ?_
    refine wp_cond_false (by kernel_rfl) ?_
    refine wp_exit ?_
    refine au_then_exit ?_
    refine au_then_exit ?_
    refine au_block_exit ?_
    refine au_then ?_
    refine sR ?_
    refine pV 20 (.pointer (some ⟨g2, 0, none⟩)) ?_
    refine pC M 21 56 #[.pointer (some ⟨g2, 0, none⟩)] (.string (ofV (jo Ss n))) (fun w M => (by have h := c_sum (tk hs0 (jo Ss n) (jo Ss n).size) (tk_ok hs0_ok _ _) g2 w M.laid (M.get 1 rfl) (M.ne0 1 rfl); exact h)) fun u4 M => ?_
    refine pC M 22 37 #[.string (ofV (jo Ss n))] (.tuple #[.agg (av 4 (w64 (Ord.d64 (nm (jo Ss n))))), .int .i64 (Go.Proofs.YtmhfmhmpoobmlaaGreatDoor.ofC (ofV (jo Ss n)))]) (fun w M => z_of _ w) fun u5 M => ?_
    refine pV 19 (.tuple #[.agg (av 4 (w64 (Ord.d64 (nm (jo Ss n))))), .int .i64 (Go.Proofs.YtmhfmhmpoobmlaaGreatDoor.ofC (ofV (jo Ss n)))]) ?_
    refine pV 23 (.agg (av 4 (w64 (Ord.d64 (nm (jo Ss n)))))) ?_
    refine pV 24 (.int .i64 (Go.Proofs.YtmhfmhmpoobmlaaGreatDoor.ofC (ofV (jo Ss n)))) ?_
    refine pN M 6 (.cells (av 4 (w64 (fun _ => 0))) 44) fun g3 u6 M => ?_
    refine pl_put M (want_no rfl) rfl 44 _ _ rfl 2 g3 0 (by kernel_rfl) 4 44 (w64 (fun _ => 0)) rfl 4 (w64 (Ord.d64 (nm (jo Ss n)))) (w64 (Ord.d64 (nm (jo Ss n)))) (by kernel_rfl) inz44 (by decide) (fun _ _ => rfl) (fun j hj => by rw [if_pos (by omega), Nat.sub_zero]) fun u7 M => ?_
    refine pV 7 (.int .i64 (Go.Proofs.YtmhfmhmpoobmlaaGreatDoor.ofC (ofV (jo Ss n)))) ?_
    refine nT ?_
    refine sR ?_
    refine pA M 25 2 4 (w64 (Ord.d64 (nm (jo Ss n)))) ?_
    refine pl_put M (want_no rfl) rfl 44 _ _ rfl 0 g1 0 (by kernel_rfl) 4 44 (w64 (fun _ => 0)) rfl 4 (w64 (Ord.d64 (nm (jo Ss n)))) (w64 (Ord.d64 (nm (jo Ss n)))) (by kernel_rfl) inz44 (by decide) (fun _ _ => rfl) (fun j hj => by rw [if_pos (by omega), Nat.sub_zero]) fun u8 M => ?_
    refine nT ?_
    refine wp_ret ?_
    exact bodyPost_ret (v := .agg (av 4 (w64 (Ord.d64 (nm (jo Ss n)))))) (results_cell_row Tryz.results24 _ _ g1 44 (av 4 (w64 (Ord.d64 (nm (jo Ss n))))) (0, 0) _ (by kernel_rfl) (M.get 0 rfl) Tryz.underlying44 rfl (by rw [av_size]; exact inz44)) (by kernel_rfl) ⟨rfl, below_grown M.old⟩


end Go.Proofs.YtmhfmhmpoobmlaaGreatDoor.Sha
