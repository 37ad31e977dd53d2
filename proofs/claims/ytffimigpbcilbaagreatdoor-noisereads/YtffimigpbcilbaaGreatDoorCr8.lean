/- Part 8 of the walks and facts. -/
import Derived.Test.YtffimigpbcilbaaGreatDoorCrDef
import Derived.Test.YtffimigpbcilbaaGreatDoorCr7
set_option maxHeartbeats 16000000
set_option maxRecDepth 100000
namespace Go.Proofs.YtffimigpbcilbaaGreatDoor.Mon
abbrev Fq := Fin pN
theorem genQ : Gen pN 2 := genP
theorem primeP : IsP pN := genQ.isP
theorem dvd_or {a b : Nat} (h : pN ∣ a * b) : pN ∣ a ∨ pN ∣ b := by
 by_cases ha : pN ∣ a
 ·exact .inl ha
 ·right
  have hg : Nat.Coprime pN a := by
   rcases primeP.2 _ (Nat.gcd_dvd_left pN a) with h1 | h1
   ·exact h1
   ·exact absurd (h1 ▸ Nat.gcd_dvd_right pN a) ha
  exact Nat.Coprime.dvd_of_dvd_mul_left hg h
theorem fq_zero {a : Fq} (h : pN ∣ a.val) : a = 0 := by
 apply Fin.ext
 have h1 := Nat.mod_eq_zero_of_dvd h
 rw [Nat.mod_eq_of_lt a.isLt] at h1
 rw [h1]
 rfl
theorem fq_mul {a b : Fq} (h : a * b = 0) : a = 0 ∨ b = 0 := by
 have h1 : a.val * b.val % pN = 0 := by
  have := congrArg Fin.val h
  rw [Fin.val_mul] at this
  exact this
 rcases dvd_or (Nat.dvd_of_mod_eq_zero h1) with h2 | h2
 ·exact .inl (fq_zero h2)
 ·exact .inr (fq_zero h2)
theorem fq_ne {a b : Fq} (ha : a ≠ 0) (hb : b ≠ 0) : a * b ≠ 0 := fun h => by
 rcases fq_mul h with h | h
 ·exact ha h
 ·exact hb h
theorem fermatN {a : Nat} (h0 : 0 < a) (h1 : a < pN) : a ^ (pN - 1) % pN = 1 := by
 obtain ⟨i, hi⟩ := genQ.all a h0 h1
 rw [← hi, ← Nat.pow_mod, ← Nat.pow_mul, Nat.mul_comm, Nat.pow_mul]
 exact one_pow_mod genQ.gt genQ.per i
def finv (a : Fq) : Fq := ⟨pmf pN 255 a.val (pN - 2) % pN, Nat.mod_lt _ (by decide)⟩
theorem finv_mul {a : Fq} (h : a ≠ 0) : a * finv a = 1 := by
 have h0 : 0 < a.val := by
  refine Nat.pos_of_ne_zero fun e => h ?_
  apply Fin.ext
  rw [e]
  rfl
 apply Fin.ext
 rw [Fin.val_mul]
 show a.val * (pmf pN 255 a.val (pN - 2) % pN) % pN = 1
 rw [pmf_eq pN 255 a.val _ (by decide), Nat.mod_mod, Nat.mul_mod_mod]
 have e : a.val * a.val ^ (pN - 2) = a.val ^ (pN - 1) := by
  rw [show pN - 1 = (pN - 2) + 1 by decide, Nat.pow_succ, Nat.mul_comm]
 rw [e]
 exact fermatN h0 a.isLt
def dE : Fq := 37095705934669439343138083508754565189542113879843219016388785533085940283555
def iE : Fq := 19681161376707505956807079304988542015446066515923890162744021073123829784752
theorem iE_sq : iE * iE = -1 := by decide +kernel
theorem dE_half : pmf pN 255 dE.val ((pN - 1) / 2) = pN - 1 := by decide +kernel
theorem not_sq (z : Fq) : z * z ≠ dE := by
 intro h
 have h1 : z.val * z.val % pN = dE.val := by
  have := congrArg Fin.val h
  rwa [Fin.val_mul] at this
 have h2 := dE_half
 rw [pmf_eq pN 255 _ _ (by decide), ← h1, ← Nat.pow_mod, ← Nat.pow_two, ← Nat.pow_mul, show 2 * ((pN - 1) / 2) = pN - 1 by decide] at h2
 by_cases hz : z.val = 0
 ·rw [hz, Nat.zero_pow (by decide)] at h2
  revert h2
  decide
 ·rw [fermatN (Nat.pos_of_ne_zero hz) z.isLt] at h2
  revert h2
  decide
theorem two_ne : (2 : Fq) ≠ 0 := by decide +kernel
theorem one_ne : (1 : Fq) ≠ 0 := by decide +kernel
def On (x y : Fq) : Prop := y * y - x * x = 1 + dE * (x * x * (y * y))
theorem sq_key {i d x1 y1 x2 y2 e : Fq} (hi : i * i = -1) (he : e * e = 1) (h1 : y1 * y1 - x1 * x1 = 1 + d * (x1 * x1 * (y1 * y1))) (h2 : y2 * y2 - x2 * x2 = 1 + d * (x2 * x2 * (y2 * y2))) (h : d * (x1 * x2 * (y1 * y2)) = e) :
  (i * (i * x1 + e * y1)) * (i * (i * x1 + e * y1)) = d * ((i * x1 * y1 * (i * x2 + y2)) * (i * x1 * y1 * (i * x2 + y2))) := by
 grind
theorem fq_cancel {a b c : Fq} (hc : c ≠ 0) (h : a * c = b * c) : a = b := by
 have h1 : (a - b) * c = 0 := by clear hc; grind
 rcases fq_mul h1 with h2 | h2
 ·clear h h1 hc
  grind
 ·exact absurd h2 hc
theorem no_root {A B : Fq} (h : A * A = dE * (B * B)) : B = 0 := by
 refine Classical.byContradiction fun hB => ?_
 have hi := finv_mul hB
 refine not_sq (A * finv B) ?_
 generalize finv B = c at hi ⊢
 grind
theorem nn (e : Fq) : -e * -e = e * e := by grind
theorem z4 {d x1 y1 x2 y2 : Fq} (h : x1 = 0) : d * (x1 * x2 * (y1 * y2)) = 0 := by rw [h]; grind
theorem z5 {d x1 y1 x2 y2 : Fq} (h : y1 = 0) : d * (x1 * x2 * (y1 * y2)) = 0 := by rw [h]; grind
theorem z6 {d x1 y1 x2 y2 : Fq} (h : y2 = 0) : d * (x1 * x2 * (y1 * y2)) = 0 := by rw [h]; grind
theorem z7 {i x y : Fq} (h1 : i * x + y = 0) (h2 : i * x + -y = 0) : 2 * y = 0 := by grind
theorem n1 (d x1 y1 x2 y2 : Fq) : d * (x1 * x2 * (y1 * -y2)) = -(d * (x1 * x2 * (y1 * y2))) := by grind
theorem n2 {d x y : Fq} (h : y * y - x * x = 1 + d * (x * x * (y * y))) : -y * -y - x * x = 1 + d * (x * x * (-y * -y)) := by rw [nn]; exact h
theorem n3 {a : Fq} (h : 1 + a = 0) : a = -1 := by grind
theorem n4 {a : Fq} (h : 1 - a = 0) : a = 1 := by grind
theorem n5 : (-1 : Fq) * -1 = 1 := by grind
theorem n6 : (1 : Fq) * 1 = 1 := by grind
theorem zz : (0 : Fq) * 0 = 0 := by grind
theorem den_ne {x1 y1 x2 y2 e : Fq} (h1 : On x1 y1) (h2 : On x2 y2) (he : e * e = 1) : dE * (x1 * x2 * (y1 * y2)) ≠ e := by
 intro h
 unfold On at h1 h2
 have k1 := no_root (sq_key iE_sq he h1 h2 h)
 have k2 := no_root (sq_key (i := iE) (e := -e) (y2 := -y2) iE_sq (by rw [nn]; exact he) h1 (n2 h2) (by rw [n1, h]))
 have he0 : e ≠ 0 := fun e0 => one_ne (by rw [← he, e0]; exact zz)
 have hx1 : x1 ≠ 0 := fun e0 => he0 (by rw [← h]; exact z4 e0)
 have hy1 : y1 ≠ 0 := fun e0 => he0 (by rw [← h]; exact z5 e0)
 have hy2 : y2 ≠ 0 := fun e0 => he0 (by rw [← h]; exact z6 e0)
 have hi : iE ≠ 0 := by decide +kernel
 have hw : iE * x1 * y1 ≠ 0 := fq_ne (fq_ne hi hx1) hy1
 rcases fq_mul k1 with h3 | h3
 ·exact hw h3
 ·rcases fq_mul k2 with h4 | h4
  ·exact hw h4
  ·rcases fq_mul (z7 h3 h4) with h5 | h5
   ·exact two_ne h5
   ·exact hy2 h5
theorem den_plus {x1 y1 x2 y2 : Fq} (h1 : On x1 y1) (h2 : On x2 y2) : 1 + dE * (x1 * x2 * (y1 * y2)) ≠ 0 := fun h => den_ne (e := -1) h1 h2 n5 (n3 h)
theorem den_minus {x1 y1 x2 y2 : Fq} (h1 : On x1 y1) (h2 : On x2 y2) : 1 - dE * (x1 * x2 * (y1 * y2)) ≠ 0 := fun h => den_ne (e := 1) h1 h2 n6 (n4 h)
structure Pt where
 x : Fq
 y : Fq
 on : On x y
theorem Pt.ext {p q : Pt} (hx : p.x = q.x) (hy : p.y = q.y) : p = q := by
 cases p
 cases q
 simp only at hx hy
 subst hx
 subst hy
 rfl
theorem on_key {d x1 y1 x2 y2 X Y : Fq} (h1 : y1 * y1 - x1 * x1 = 1 + d * (x1 * x1 * (y1 * y1))) (h2 : y2 * y2 - x2 * x2 = 1 + d * (x2 * x2 * (y2 * y2))) (hX : X * (1 + d * (x1 * x2 * (y1 * y2))) = x1 * y2 + y1 * x2) (hY : Y * (1 - d * (x1 * x2 * (y1 * y2))) = y1 * y2 + x1 * x2) :
  (Y * Y - X * X) * ((1 + d * (x1 * x2 * (y1 * y2))) * (1 - d * (x1 * x2 * (y1 * y2))) * ((1 + d * (x1 * x2 * (y1 * y2))) * (1 - d * (x1 * x2 * (y1 * y2))))) = (1 + d * (X * X * (Y * Y))) * ((1 + d * (x1 * x2 * (y1 * y2))) * (1 - d * (x1 * x2 * (y1 * y2))) * ((1 + d * (x1 * x2 * (y1 * y2))) * (1 - d * (x1 * x2 * (y1 * y2))))) := by
 have a : (X * (1 + d * (x1 * x2 * (y1 * y2)))) * (X * (1 + d * (x1 * x2 * (y1 * y2)))) = (x1 * y2 + y1 * x2) * (x1 * y2 + y1 * x2) := by rw [hX]
 have b : (Y * (1 - d * (x1 * x2 * (y1 * y2)))) * (Y * (1 - d * (x1 * x2 * (y1 * y2)))) = (y1 * y2 + x1 * x2) * (y1 * y2 + x1 * x2) := by rw [hY]
 have key : (y1 * y2 + x1 * x2) * (y1 * y2 + x1 * x2) * ((1 + d * (x1 * x2 * (y1 * y2))) * (1 + d * (x1 * x2 * (y1 * y2)))) - (x1 * y2 + y1 * x2) * (x1 * y2 + y1 * x2) * ((1 - d * (x1 * x2 * (y1 * y2))) * (1 - d * (x1 * x2 * (y1 * y2)))) = (1 + d * (x1 * x2 * (y1 * y2))) * (1 - d * (x1 * x2 * (y1 * y2))) * ((1 + d * (x1 * x2 * (y1 * y2))) * (1 - d * (x1 * x2 * (y1 * y2)))) + d * ((x1 * y2 + y1 * x2) * (x1 * y2 + y1 * x2) * ((y1 * y2 + x1 * x2) * (y1 * y2 + x1 * x2))) := by
  clear hX hY a b
  grind
 rw [← a, ← b] at key
 clear hX hY a b h1 h2
 generalize 1 + d * (x1 * x2 * (y1 * y2)) = u at *
 generalize 1 - d * (x1 * x2 * (y1 * y2)) = v at *
 grind
def sx (p q : Pt) : Fq := (p.x * q.y + p.y * q.x) * finv (1 + dE * (p.x * q.x * (p.y * q.y)))
def sy (p q : Pt) : Fq := (p.y * q.y + p.x * q.x) * finv (1 - dE * (p.x * q.x * (p.y * q.y)))
theorem div_mul {a c : Fq} (hc : c ≠ 0) : a * finv c * c = a := by
 have h := finv_mul hc
 generalize finv c = b at *
 clear hc
 grind
theorem sx_mul (p q : Pt) : sx p q * (1 + dE * (p.x * q.x * (p.y * q.y))) = p.x * q.y + p.y * q.x := div_mul (den_plus p.on q.on)
theorem sy_mul (p q : Pt) : sy p q * (1 - dE * (p.x * q.x * (p.y * q.y))) = p.y * q.y + p.x * q.x := div_mul (den_minus p.on q.on)
theorem s_on (p q : Pt) : On (sx p q) (sy p q) := by
 have h := on_key p.on q.on (sx_mul p q) (sy_mul p q)
 have h1 := den_plus p.on q.on
 have h2 := den_minus p.on q.on
 exact fq_cancel (fq_ne (fq_ne h1 h2) (fq_ne h1 h2)) h
def Pt.add (p q : Pt) : Pt := ⟨sx p q, sy p q, s_on p q⟩
def zeroP : Pt := ⟨0, 1, by unfold On; decide +kernel⟩
theorem neg_on {x y : Fq} (h : On x y) : On (-x) y := by
 unfold On at *
 rw [nn]
 exact h
def Pt.neg (p : Pt) : Pt := ⟨-p.x, p.y, neg_on p.on⟩
theorem add_eq {p q r : Pt} (h1 : r.x * (1 + dE * (p.x * q.x * (p.y * q.y))) = p.x * q.y + p.y * q.x) (h2 : r.y * (1 - dE * (p.x * q.x * (p.y * q.y))) = p.y * q.y + p.x * q.x) : p.add q = r :=
 Pt.ext (fq_cancel (den_plus p.on q.on) ((sx_mul p q).trans h1.symm)) (fq_cancel (den_minus p.on q.on) ((sy_mul p q).trans h2.symm))
theorem c1 (d a b c e X : Fq) (h : X * (1 + d * (a * c * (b * e))) = a * e + b * c) : X * (1 + d * (c * a * (e * b))) = c * b + e * a := by grind
theorem c2 (d a b c e X : Fq) (h : X * (1 - d * (a * c * (b * e))) = b * e + a * c) : X * (1 - d * (c * a * (e * b))) = e * b + c * a := by grind
theorem add_comm' (p q : Pt) : p.add q = q.add p := (add_eq (c1 _ _ _ _ _ _ (sx_mul p q)) (c2 _ _ _ _ _ _ (sy_mul p q))).symm
theorem c3 (d a b : Fq) : a * (1 + d * (a * 0 * (b * 1))) = a * 1 + b * 0 := by grind
theorem c4 (d a b : Fq) : b * (1 - d * (a * 0 * (b * 1))) = b * 1 + a * 0 := by grind
theorem add_zero' (p : Pt) : p.add zeroP = p := add_eq (c3 _ _ _) (c4 _ _ _)
theorem c5 (d a b : Fq) : 0 * (1 + d * (a * -a * (b * b))) = a * b + b * -a := by grind
theorem c6 {d a b : Fq} (h : b * b - a * a = 1 + d * (a * a * (b * b))) : 1 * (1 - d * (a * -a * (b * b))) = b * b + a * -a := by grind
theorem add_neg' (p : Pt) : p.add p.neg = zeroP := add_eq (c5 _ _ _) (c6 p.on)
theorem as_x {d x1 y1 x2 y2 x3 y3 : Fq} (e1 : y1 * y1 - x1 * x1 = 1 + d * (x1 * x1 * (y1 * y1))) (e2 : y2 * y2 - x2 * x2 = 1 + d * (x2 * x2 * (y2 * y2))) (e3 : y3 * y3 - x3 * x3 = 1 + d * (x3 * x3 * (y3 * y3))) :
  ((x1 * y2 + y1 * x2) * (1 - d * (x1 * x2 * (y1 * y2))) * y3 + (y1 * y2 + x1 * x2) * (1 + d * (x1 * x2 * (y1 * y2))) * x3) * ((1 + d * (x2 * x3 * (y2 * y3))) * (1 - d * (x2 * x3 * (y2 * y3))) + d * ((x2 * y3 + y2 * x3) * (y2 * y3 + x2 * x3) * (x1 * y1)))
  = ((x2 * y3 + y2 * x3) * (1 - d * (x2 * x3 * (y2 * y3))) * y1 + (y2 * y3 + x2 * x3) * (1 + d * (x2 * x3 * (y2 * y3))) * x1) * ((1 + d * (x1 * x2 * (y1 * y2))) * (1 - d * (x1 * x2 * (y1 * y2))) + d * ((x1 * y2 + y1 * x2) * (y1 * y2 + x1 * x2) * (x3 * y3))) := by
 grind
theorem as_y {d x1 y1 x2 y2 x3 y3 : Fq} (e1 : y1 * y1 - x1 * x1 = 1 + d * (x1 * x1 * (y1 * y1))) (e2 : y2 * y2 - x2 * x2 = 1 + d * (x2 * x2 * (y2 * y2))) (e3 : y3 * y3 - x3 * x3 = 1 + d * (x3 * x3 * (y3 * y3))) :
  ((y1 * y2 + x1 * x2) * (1 + d * (x1 * x2 * (y1 * y2))) * y3 + (x1 * y2 + y1 * x2) * (1 - d * (x1 * x2 * (y1 * y2))) * x3) * ((1 + d * (x2 * x3 * (y2 * y3))) * (1 - d * (x2 * x3 * (y2 * y3))) - d * ((x2 * y3 + y2 * x3) * (y2 * y3 + x2 * x3) * (x1 * y1)))
  = ((y2 * y3 + x2 * x3) * (1 + d * (x2 * x3 * (y2 * y3))) * y1 + (x2 * y3 + y2 * x3) * (1 - d * (x2 * x3 * (y2 * y3))) * x1) * ((1 + d * (x1 * x2 * (y1 * y2))) * (1 - d * (x1 * x2 * (y1 * y2))) - d * ((x1 * y2 + y1 * x2) * (y1 * y2 + x1 * x2) * (x3 * y3))) := by
 grind
theorem up_x {d A B u v X Y L x3 y3 : Fq} (hX : X * u = A) (hY : Y * v = B) (hL : L * (1 + d * (X * x3 * (Y * y3))) = X * y3 + Y * x3) : L * (u * v + d * (A * B * (x3 * y3))) = A * v * y3 + B * u * x3 := by
 subst hX
 subst hY
 grind
theorem up_y {d A B u v X Y L x3 y3 : Fq} (hX : X * u = A) (hY : Y * v = B) (hL : L * (1 - d * (X * x3 * (Y * y3))) = Y * y3 + X * x3) : L * (u * v - d * (A * B * (x3 * y3))) = B * u * y3 + A * v * x3 := by
 subst hX
 subst hY
 grind
theorem up_d {d A B u v X Y x3 y3 : Fq} (hX : X * u = A) (hY : Y * v = B) : (1 + d * (X * x3 * (Y * y3))) * (u * v) = u * v + d * (A * B * (x3 * y3)) := by
 subst hX
 subst hY
 grind
theorem up_e {d A B u v X Y x3 y3 : Fq} (hX : X * u = A) (hY : Y * v = B) : (1 - d * (X * x3 * (Y * y3))) * (u * v) = u * v - d * (A * B * (x3 * y3)) := by
 subst hX
 subst hY
 grind
theorem cross {L M N K D E : Fq} (h1 : L * D = N) (h2 : M * E = K) (h3 : N * E = K * D) (hD : D ≠ 0) (hE : E ≠ 0) : L = M := by
 refine fq_cancel (fq_ne hD hE) ?_
 subst h1
 subst h2
 clear hD hE
 grind
theorem add_assoc' (p q r : Pt) : (p.add q).add r = p.add (q.add r) := by
 have a1 := sx_mul p q
 have a2 := sy_mul p q
 have b1 := sx_mul q r
 have b2 := sy_mul q r
 have d1 := fq_ne (den_plus (p.add q).on r.on) (fq_ne (den_plus p.on q.on) (den_minus p.on q.on))
 have d2 := fq_ne (den_plus (q.add r).on p.on) (fq_ne (den_plus q.on r.on) (den_minus q.on r.on))
 have f1 := fq_ne (den_minus (p.add q).on r.on) (fq_ne (den_plus p.on q.on) (den_minus p.on q.on))
 have f2 := fq_ne (den_minus (q.add r).on p.on) (fq_ne (den_plus q.on r.on) (den_minus q.on r.on))
 rw [show (p.add q).x = sx p q from rfl, show (p.add q).y = sy p q from rfl, up_d a1 a2] at d1
 rw [show (q.add r).x = sx q r from rfl, show (q.add r).y = sy q r from rfl, up_d b1 b2] at d2
 rw [show (p.add q).x = sx p q from rfl, show (p.add q).y = sy p q from rfl, up_e a1 a2] at f1
 rw [show (q.add r).x = sx q r from rfl, show (q.add r).y = sy q r from rfl, up_e b1 b2] at f2
 rw [add_comm' p (q.add r)]
 refine Pt.ext ?_ ?_
 ·exact cross (up_x a1 a2 (sx_mul (p.add q) r)) (up_x b1 b2 (sx_mul (q.add r) p)) (as_x p.on q.on r.on) d1 d2
 ·exact cross (up_y a1 a2 (sy_mul (p.add q) r)) (up_y b1 b2 (sy_mul (q.add r) p)) (as_y p.on q.on r.on) f1 f2
def Pt.mul (p : Pt) : Nat → Pt
 | 0 => zeroP
 | n + 1 => (p.mul n).add p
theorem mul_add' (p : Pt) (m : Nat) : ∀ n, p.mul (m + n) = (p.mul m).add (p.mul n)
 | 0 => (add_zero' _).symm
 | n + 1 => by
  show (p.mul (m + n)).add p = (p.mul m).add ((p.mul n).add p)
  rw [mul_add' p m n, add_assoc']
theorem zero_mul' : ∀ n, zeroP.mul n = zeroP
 | 0 => rfl
 | n + 1 => by
  show (zeroP.mul n).add zeroP = zeroP
  rw [add_zero', zero_mul' n]
theorem mul_mul' (p : Pt) (m : Nat) : ∀ n, p.mul (m * n) = (p.mul m).mul n
 | 0 => rfl
 | n + 1 => by
  show p.mul (m * n + m) = ((p.mul m).mul n).add (p.mul m)
  rw [mul_add', mul_mul' p m n]
def toF (a : Int) : Fq := ⟨(a % Pm).toNat, by have := pmod a; have := pN_P; omega⟩
theorem toF_val (a : Int) : (((toF a).val : Nat) : Int) = a % Pm := by
 show (((a % Pm).toNat : Nat) : Int) = a % Pm
 have := pmod a
 omega
theorem fq_int {a b : Fq} (h : ((a.val : Nat) : Int) = ((b.val : Nat) : Int)) : a = b := Fin.ext (by omega)
theorem toF_mod (a : Int) : toF (a % Pm) = toF a := by
 refine fq_int ?_
 rw [toF_val, toF_val, Int.emod_emod_of_dvd _ (Int.dvd_refl _)]
theorem toF_add (a b : Int) : toF (a + b) = toF a + toF b := by
 refine fq_int ?_
 rw [toF_val, Fin.val_add, Int.natCast_emod, Int.natCast_add, toF_val, toF_val, pN_P, ← Int.add_emod]
theorem toF_mul (a b : Int) : toF (a * b) = toF a * toF b := by
 refine fq_int ?_
 rw [toF_val, Fin.val_mul, Int.natCast_emod, Int.natCast_mul, toF_val, toF_val, pN_P, ← Int.mul_emod]
theorem toF_sub (a b : Int) : toF (a - b) = toF a - toF b := by
 have h := toF_add (a - b) b
 rw [show a - b + b = a by omega] at h
 rw [h]
 generalize toF (a - b) = u
 generalize toF b = v
 grind
theorem toF_inj {a b : Int} (ha : 0 ≤ a ∧ a < Pm) (hb : 0 ≤ b ∧ b < Pm) (h : toF a = toF b) : a = b := by
 have h2 := congrArg (fun x : Fq => ((x.val : Nat) : Int)) h
 simp only [toF_val] at h2
 rwa [Int.emod_eq_of_lt ha.1 ha.2, Int.emod_eq_of_lt hb.1 hb.2] at h2
theorem toF_zero : toF 0 = 0 := by decide +kernel
theorem toF_one : toF 1 = 1 := by decide +kernel
def hlf : Fq := finv 2
theorem hlf_two : 2 * hlf = 1 := finv_mul two_ne
theorem proj {X Z Y : Fq} (h : X * (1 - Y) = Z * (1 + Y)) (hne : ¬ (X = 0 ∧ Z = 0)) : ∃ l, l ≠ 0 ∧ X = l * (1 + Y) ∧ Z = l * (1 - Y) := by
 have hh := hlf_two
 have e1 : X = (X + Z) * hlf * (1 + Y) := by
  clear hne
  generalize hlf = t at *
  grind
 have e2 : Z = (X + Z) * hlf * (1 - Y) := by
  clear hne e1
  generalize hlf = t at *
  grind
 refine ⟨(X + Z) * hlf, fun h0 => hne ?_, e1, e2⟩
 rw [h0] at e1 e2
 clear h hne h0 hh
 exact ⟨by grind, by grind⟩
theorem dbl_id {d a x y Y l : Fq} (hd : d * (a + 1) = -a) (h : y * y - x * x = 1 + d * (x * x * (y * y))) (hY : Y * (1 - d * (x * x * (y * y))) = y * y + x * x) :
  (((l * (1 + y) + l * (1 - y)) * (l * (1 + y) + l * (1 - y))) * ((l * (1 + y) - l * (1 - y)) * (l * (1 + y) - l * (1 - y))) * (1 - Y)) * (1 - d * (x * x * (y * y)))
  = (((l * (1 + y) + l * (1 - y)) * (l * (1 + y) + l * (1 - y)) - (l * (1 + y) - l * (1 - y)) * (l * (1 + y) - l * (1 - y))) * ((l * (1 + y) + l * (1 - y)) * (l * (1 + y) + l * (1 - y)) + a * ((l * (1 + y) + l * (1 - y)) * (l * (1 + y) + l * (1 - y)) - (l * (1 + y) - l * (1 - y)) * (l * (1 + y) - l * (1 - y)))) * (1 + Y)) * (1 - d * (x * x * (y * y))) := by
 have e1 : (1 - Y) * (1 - d * (x * x * (y * y))) = 2 - 2 * (y * y) := by grind
 have e2 : (1 + Y) * (1 - d * (x * x * (y * y))) = 2 + 2 * (x * x) := by grind
 have e3 : y * y = (1 + a * (1 - y * y)) * (1 + x * x) := by
  clear e1 e2 hY
  grind
 have f1 : (l * (1 + y) + l * (1 - y)) = 2 * l := by grind
 have f2 : (l * (1 + y) - l * (1 - y)) = 2 * l * y := by grind
 rw [f1, f2]
 generalize 1 - d * (x * x * (y * y)) = v at *
 clear h hd hY f1 f2
 have g1 : 2 * l * (2 * l) * (2 * l * y * (2 * l * y)) * (1 - Y) * v = 16 * (l * l * (l * l)) * (y * y) * ((1 - Y) * v) := by grind
 have g2 : (2 * l * (2 * l) - 2 * l * y * (2 * l * y)) * (2 * l * (2 * l) + a * (2 * l * (2 * l) - 2 * l * y * (2 * l * y))) * (1 + Y) * v = 16 * (l * l * (l * l)) * (1 - y * y) * (1 + a * (1 - y * y)) * ((1 + Y) * v) := by grind
 rw [g1, g2, e1, e2]
 clear g1 g2 e1 e2
 have g3 : 16 * (l * l * (l * l)) * (1 - y * y) * (1 + a * (1 - y * y)) * (2 + 2 * (x * x)) = 32 * (l * l * (l * l)) * (1 - y * y) * ((1 + a * (1 - y * y)) * (1 + x * x)) := by
  clear e3
  grind
 rw [g3, ← e3]
 clear e3 g3
 grind
theorem add_id {d xp yp xq yq : Fq} (h1 : yp * yp - xp * xp = 1 + d * (xp * xp * (yp * yp))) (h2 : yq * yq - xq * xq = 1 + d * (xq * xq * (yq * yq))) :
  (yp + yq) * (yp + yq) * ((1 - d * (xp * xq * (yp * yq)) - (yp * yq + xp * xq)) * (1 + d * (xp * xq * (yp * yq)) - (yp * yq - xp * xq)))
  = (yq - yp) * (yq - yp) * ((1 - d * (xp * xq * (yp * yq)) + (yp * yq + xp * xq)) * (1 + d * (xp * xq * (yp * yq)) + (yp * yq - xp * xq))) := by
 grind
theorem sq_zero {a : Fq} (h : a * a = 0) : a = 0 := by
 rcases fq_mul h with h | h <;> exact h
theorem kst : dE * (toF 121665 + 1) = -toF 121665 := by decide +kernel
theorem kst_ne : toF 121665 + 1 ≠ 0 := by decide +kernel
theorem tm1 (l y : Fq) : (l * (1 + y) + l * (1 - y)) = 2 * l := by grind
theorem tm2 (l y : Fq) : (l * (1 + y) - l * (1 - y)) = 2 * l * y := by grind
theorem tm3 (l a : Fq) : (2 * l * (2 * l) - 2 * l * 0 * (2 * l * 0)) * (2 * l * (2 * l) + a * (2 * l * (2 * l) - 2 * l * 0 * (2 * l * 0))) = (2 * l * (2 * l)) * (2 * l * (2 * l)) * (a + 1) := by grind
theorem dbl_nz {a l y : Fq} (hl : l ≠ 0) (ha : a + 1 ≠ 0) : ¬ ((l * (1 + y) + l * (1 - y)) * (l * (1 + y) + l * (1 - y)) * ((l * (1 + y) - l * (1 - y)) * (l * (1 + y) - l * (1 - y))) = 0 ∧ ((l * (1 + y) + l * (1 - y)) * (l * (1 + y) + l * (1 - y)) - (l * (1 + y) - l * (1 - y)) * (l * (1 + y) - l * (1 - y))) * ((l * (1 + y) + l * (1 - y)) * (l * (1 + y) + l * (1 - y)) + a * ((l * (1 + y) + l * (1 - y)) * (l * (1 + y) + l * (1 - y)) - (l * (1 + y) - l * (1 - y)) * (l * (1 + y) - l * (1 - y)))) = 0) := by
 rw [tm1, tm2]
 intro ⟨h1, h2⟩
 have h2l := fq_ne two_ne hl
 have hy : y = 0 := by
  rcases fq_mul h1 with h | h
  ·exact absurd (sq_zero h) h2l
  ·rcases fq_mul (sq_zero h) with h | h
   ·exact absurd h h2l
   ·exact h
 rw [hy, tm3] at h2
 exact fq_ne (fq_ne (fq_ne h2l h2l) (fq_ne h2l h2l)) ha h2
theorem tm4 {A B C D u v X S yD : Fq} (hS1 : A = u * (1 - S)) (hS2 : B = u * (1 + S)) (hD1 : C = v * (1 - yD)) (hD2 : D = v * (1 + yD)) (hX : X * (1 - yD) = 1 + yD) {s t : Fq} (h : s * (A * C) = t * (B * D)) : s * (1 - S) * (u * v * (1 - yD)) = X * t * (1 + S) * (u * v * (1 - yD)) := by
 rw [← hX] at hD2
 rw [hS1, hS2, hD1, hD2] at h
 clear hS1 hS2 hD1 hD2 hX
 grind
theorem tm5 {u S t : Fq} (h : S * u = t) : u - t = u * (1 - S) := by grind
theorem tm6 {u S t : Fq} (h : S * u = t) : u + t = u * (1 + S) := by grind
theorem tm7 {k l yp yq S X : Fq} (h : (yp + yq) * (yp + yq) * (1 - S) = X * ((yq - yp) * (yq - yp)) * (1 + S)) :
  (2 * k * yq * (2 * l) + 2 * k * (2 * l * yp)) * (2 * k * yq * (2 * l) + 2 * k * (2 * l * yp)) * (1 - S) = X * ((2 * k * yq * (2 * l) - 2 * k * (2 * l * yp)) * (2 * k * yq * (2 * l) - 2 * k * (2 * l * yp))) * (1 + S) := by
 have e1 : (2 * k * yq * (2 * l) + 2 * k * (2 * l * yp)) * (2 * k * yq * (2 * l) + 2 * k * (2 * l * yp)) * (1 - S) = 16 * (k * k * (l * l)) * ((yp + yq) * (yp + yq) * (1 - S)) := by
  clear h
  grind
 have e2 : X * ((2 * k * yq * (2 * l) - 2 * k * (2 * l * yp)) * (2 * k * yq * (2 * l) - 2 * k * (2 * l * yp))) * (1 + S) = 16 * (k * k * (l * l)) * (X * ((yq - yp) * (yq - yp)) * (1 + S)) := by
  clear h e1
  grind
 rw [e1, e2, h]
theorem tm8 (k l yp yq : Fq) : 2 * k * yq * (2 * l) + 2 * k * (2 * l * yp) = 2 * k * (2 * l) * (yp + yq) := by grind
theorem tm9 (k l yp yq : Fq) : 2 * k * yq * (2 * l) - 2 * k * (2 * l * yp) = 2 * k * (2 * l) * (yq - yp) := by grind
theorem tm10 {yp yq : Fq} (h1 : yp + yq = 0) (h2 : yq - yp = 0) : 2 * yp = 0 ∧ 2 * yq = 0 := by
 constructor <;> grind
theorem u4a (z : Fq) : z * 0 = 0 := by grind
theorem u0a {u v z : Fq} (h : z - u = v + z) : u + v = 0 := by grind
theorem u1a {d u : Fq} (h : (0 : Fq) * 0 - u = 1 + d * (u * (0 * 0))) : u + 1 = 0 := by
 rw [zz, u4a, u4a] at h
 exact u0a h
theorem u2a {d u v : Fq} (h : v * (1 + d * (u * (0 * 0))) = 0 * 0 - u) : v + u = 0 := by grind
theorem u3a {u v w z : Fq} (h1 : u * u + 1 = 0) (h2 : w * w + 1 = 0) (h3 : v + u * w = 0) : (1 - v) * (1 + v) = z * 0 := by grind
theorem tm11 {d xp xq yD : Fq} (h1 : (0 : Fq) * 0 - xp * xp = 1 + d * (xp * xp * (0 * 0))) (h2 : (0 : Fq) * 0 - xq * xq = 1 + d * (xq * xq * (0 * 0))) (hD : yD * (1 + d * (xp * xq * (0 * 0))) = 0 * 0 - xp * xq) : (1 - yD) * (1 + yD) = 0 :=
 (u3a (z := d) (u1a h1) (u1a h2) (u2a hD)).trans (u4a d)
theorem u5a {w z t : Fq} (hi : z * t = 1) : w = t * (w * z) := by grind
theorem u6a (z t : Fq) : z * t = t * z := by grind
theorem add_nz {k l X yD : Fq} {p r : Pt} (hk : k ≠ 0) (hl : l ≠ 0) (hX0 : X ≠ 0) (hX : X * (1 - yD) = 1 + yD) (hD1 : 1 - yD ≠ 0) (hD : yD * (1 + dE * (p.x * r.x * (p.y * r.y))) = p.y * r.y - p.x * r.x) :
  ¬ ((2 * k * r.y * (2 * l) + 2 * k * (2 * l * p.y)) * (2 * k * r.y * (2 * l) + 2 * k * (2 * l * p.y)) = 0 ∧ X * ((2 * k * r.y * (2 * l) - 2 * k * (2 * l * p.y)) * (2 * k * r.y * (2 * l) - 2 * k * (2 * l * p.y))) = 0) := by
 rw [tm8, tm9]
 intro ⟨h1, h2⟩
 have hkl := fq_ne (fq_ne two_ne hk) (fq_ne two_ne hl)
 have a1 : p.y + r.y = 0 := by
  rcases fq_mul (sq_zero h1) with h | h
  ·exact absurd h hkl
  ·exact h
 have a2 : r.y - p.y = 0 := by
  rcases fq_mul h2 with h | h
  ·exact absurd h hX0
  ·rcases fq_mul (sq_zero h) with h | h
   ·exact absurd h hkl
   ·exact h
 obtain ⟨b1, b2⟩ := tm10 a1 a2
 have c1 : p.y = 0 := by
  rcases fq_mul b1 with h | h
  ·exact absurd h two_ne
  ·exact h
 have c2 : r.y = 0 := by
  rcases fq_mul b2 with h | h
  ·exact absurd h two_ne
  ·exact h
 have o1 := p.on
 have o2 := r.on
 unfold On at o1 o2
 rw [c1] at o1 hD
 rw [c2] at o2 hD
 rcases fq_mul (tm11 o1 o2 hD) with h | h
 ·exact hD1 h
 ·rw [h] at hX
  rcases fq_mul hX with h | h
  ·exact hX0 h
  ·exact hD1 h
def Tl (X Z : Int) (y : Fq) : Prop := ∃ l, l ≠ 0 ∧ toF X = l * (1 + y) ∧ toF Z = l * (1 - y)
theorem step_tl {X1 : Int} {q : RS} {p r : Pt} {yD : Fq} (hp : Tl q.x2 q.z2 p.y) (hr : Tl q.x3 q.z3 r.y) (hX0 : toF X1 ≠ 0) (hX : toF X1 * (1 - yD) = 1 + yD) (hD1 : 1 - yD ≠ 0) (hD : yD * (1 + dE * (p.x * r.x * (p.y * r.y))) = p.y * r.y - p.x * r.x) :
  Tl (rstep X1 q).x2 (rstep X1 q).z2 (p.add p).y ∧ Tl (rstep X1 q).x3 (rstep X1 q).z3 (p.add r).y := by
 obtain ⟨l, hl, e1, e2⟩ := hp
 obtain ⟨k, hk, e3, e4⟩ := hr
 refine ⟨?_, ?_⟩
 ·show ∃ l, l ≠ 0 ∧ toF (rstep X1 q).x2 = l * (1 + sy p p) ∧ toF (rstep X1 q).z2 = l * (1 - sy p p)
  have E1 : toF (rstep X1 q).x2 = (l * (1 + p.y) + l * (1 - p.y)) * (l * (1 + p.y) + l * (1 - p.y)) * ((l * (1 + p.y) - l * (1 - p.y)) * (l * (1 + p.y) - l * (1 - p.y))) := by
   simp only [rstep, toF_mod, toF_mul, toF_add, toF_sub, e1, e2]
  have E2 : toF (rstep X1 q).z2 = ((l * (1 + p.y) + l * (1 - p.y)) * (l * (1 + p.y) + l * (1 - p.y)) - (l * (1 + p.y) - l * (1 - p.y)) * (l * (1 + p.y) - l * (1 - p.y))) * ((l * (1 + p.y) + l * (1 - p.y)) * (l * (1 + p.y) + l * (1 - p.y)) + toF 121665 * ((l * (1 + p.y) + l * (1 - p.y)) * (l * (1 + p.y) + l * (1 - p.y)) - (l * (1 + p.y) - l * (1 - p.y)) * (l * (1 + p.y) - l * (1 - p.y)))) := by
   simp only [rstep, toF_mod, toF_mul, toF_add, toF_sub, e1, e2]
  rw [E1, E2]
  exact proj (fq_cancel (den_minus p.on p.on) (dbl_id kst p.on (sy_mul p p))) (dbl_nz hl kst_ne)
 ·show ∃ l, l ≠ 0 ∧ toF (rstep X1 q).x3 = l * (1 + sy p r) ∧ toF (rstep X1 q).z3 = l * (1 - sy p r)
  have E1 : toF (rstep X1 q).x3 = (2 * k * r.y * (2 * l) + 2 * k * (2 * l * p.y)) * (2 * k * r.y * (2 * l) + 2 * k * (2 * l * p.y)) := by
   simp only [rstep, toF_mod, toF_mul, toF_add, toF_sub, e1, e2, e3, e4, tm1, tm2]
  have E2 : toF (rstep X1 q).z3 = toF X1 * ((2 * k * r.y * (2 * l) - 2 * k * (2 * l * p.y)) * (2 * k * r.y * (2 * l) - 2 * k * (2 * l * p.y))) := by
   simp only [rstep, toF_mod, toF_mul, toF_add, toF_sub, e1, e2, e3, e4, tm1, tm2]
  rw [E1, E2]
  refine proj (tm7 ?_) (add_nz hk hl hX0 hX hD1 hD)
  have hS := sy_mul p r
  refine fq_cancel (fq_ne (fq_ne (den_minus p.on r.on) (den_plus p.on r.on)) hD1) ?_
  exact tm4 (tm5 hS) (tm6 hS) (tm5 hD) (tm6 hD) hX (add_id p.on r.on)
theorem diff_y {p P : Pt} : P.y * (1 + dE * (p.x * (p.add P).x * (p.y * (p.add P).y))) = p.y * (p.add P).y - p.x * (p.add P).x := by
 have e : (p.add P).add p.neg = P := by rw [add_comm' p P, add_assoc', add_neg', add_zero']
 have h := sy_mul (p.add P) p.neg
 have hy : sy (p.add P) p.neg = P.y := congrArg Pt.y e
 rw [hy] at h
 rw [show p.neg.x = -p.x from rfl, show p.neg.y = p.y from rfl] at h
 generalize (p.add P).x = a at *
 generalize (p.add P).y = b at *
 generalize P.y = c at *
 clear e hy
 generalize p.x = u at *
 generalize p.y = v at *
 grind
def nk (K : Yb) : Nat → Nat
 | 0 => 0
 | k + 1 => 2 * nk K k + (bit K (254 - k)).toNat
theorem hlf_ne : hlf ≠ 0 := by decide +kernel
theorem l1a : toF 1 = hlf * (1 + 1) := by decide +kernel
theorem l0a : toF 0 = hlf * (1 - 1) := by decide +kernel
theorem tl0 : Tl 1 0 1 := ⟨hlf, hlf_ne, l1a, l0a⟩
theorem lad_tl (K : Yb) {X1 : Int} {P : Pt} (hX0 : toF X1 ≠ 0) (hX : toF X1 * (1 - P.y) = 1 + P.y) (hD1 : 1 - P.y ≠ 0) :
  ∀ k, Tl (rladF K X1 k).x2 (rladF K X1 k).z2 (P.mul (nk K k)).y ∧ Tl (rladF K X1 k).x3 (rladF K X1 k).z3 (P.mul (nk K k + 1)).y
 | 0 => by
  refine ⟨tl0, ?_⟩
  ·have e : P.mul (0 + 1) = P := by
    show zeroP.add P = P
    rw [add_comm', add_zero']
   show Tl X1 1 (P.mul (0 + 1)).y
   rw [e]
   have hi := finv_mul hD1
   refine ⟨finv (1 - P.y), fun h => ?_, ?_, ?_⟩
   ·rw [h] at hi
    exact one_ne (hi.symm.trans (u4a _))
   ·rw [← hX]
    exact u5a hi
   ·rw [toF_one]
    exact hi.symm.trans (u6a _ _)
 | k + 1 => by
  obtain ⟨h1, h2⟩ := lad_tl K hX0 hX hD1 k
  have hn : P.mul (nk K k + 1) = (P.mul (nk K k)).add P := rfl
  unfold rladF
  rcases bit_two K (254 - k) with hb | hb
  ·rw [if_pos hb]
   have e1 : nk K (k + 1) = nk K k + nk K k := by
    show 2 * nk K k + (bit K (254 - k)).toNat = _
    rw [hb]
    show 2 * nk K k + 0 = _
    omega
   have e2 : nk K (k + 1) + 1 = nk K k + (nk K k + 1) := by omega
   rw [e2, mul_add', e1, mul_add']
   exact step_tl h1 h2 hX0 hX hD1 (by rw [hn]; exact diff_y)
  ·rw [if_neg (by rw [hb]; decide)]
   have e1 : nk K (k + 1) = nk K k + 1 + nk K k := by
    show 2 * nk K k + (bit K (254 - k)).toNat = _
    rw [hb]
    show 2 * nk K k + 1 = _
    omega
   have e2 : nk K (k + 1) + 1 = nk K k + 1 + (nk K k + 1) := by omega
   rw [e2, mul_add', e1, mul_add']
   have hd : P.y * (1 + dE * ((P.mul (nk K k + 1)).x * (P.mul (nk K k)).x * ((P.mul (nk K k + 1)).y * (P.mul (nk K k)).y))) = (P.mul (nk K k + 1)).y * (P.mul (nk K k)).y - (P.mul (nk K k + 1)).x * (P.mul (nk K k)).x := by
    have h := diff_y (p := P.mul (nk K k)) (P := P)
    rw [← hn] at h
    generalize (P.mul (nk K k + 1)).x = a at *
    generalize (P.mul (nk K k + 1)).y = b at *
    generalize (P.mul (nk K k)).x = u at *
    generalize (P.mul (nk K k)).y = v at *
    generalize P.y = c at *
    clear hX hD1 h1 h2 hn
    grind
   have h3 := step_tl (q := (rladF K X1 k).swap) h2 h1 hX0 hX hD1 hd
   exact ⟨h3.2, h3.1⟩
def baseP : Pt := ⟨42783823269122696939284341094755422415180979639778424813682678720006717057747, 46316835694926478169428394003475163141307993866256225615783033603165251855960, by unfold On; decide +kernel⟩
theorem nine_base : toF 9 * (1 - baseP.y) = 1 + baseP.y := by decide +kernel
theorem nine_ne : toF 9 ≠ 0 := by decide +kernel
theorem base_ne : 1 - baseP.y ≠ 0 := by decide +kernel
theorem y_one {P : Pt} (h : 1 - P.y = 0) : P = zeroP := by
 have hy : P.y = 1 := n4 h
 have ho := P.on
 unfold On at ho
 rw [hy] at ho
 have e : (dE + 1) * (P.x * P.x) = 0 := by
  generalize P.x = u at *
  generalize dE = d at *
  clear hy h
  grind
 have hd : dE + 1 ≠ 0 := by decide +kernel
 have hx : P.x = 0 := by
  rcases fq_mul e with h1 | h1
  ·exact absurd h1 hd
  ·exact sq_zero h1
 exact Pt.ext hx hy
theorem y_minus {P : Pt} (h : 1 + P.y = 0) : P.add P = zeroP := by
 have hy : P.y = -1 := n3 h
 have ho := P.on
 unfold On at ho
 rw [hy] at ho
 have e : (dE + 1) * (P.x * P.x) = 0 := by
  generalize P.x = u at *
  generalize dE = d at *
  clear hy h
  grind
 have hd : dE + 1 ≠ 0 := by decide +kernel
 have hx : P.x = 0 := by
  rcases fq_mul e with h1 | h1
  ·exact absurd h1 hd
  ·exact sq_zero h1
 refine add_eq ?_ ?_
 ·rw [hx, hy]
  decide +kernel
 ·rw [hx, hy]
  decide +kernel
def oB : ByteArray := lebytes 7237005577332262213973186563042994240857116359379907606001950938285454250989
def oN : Nat := 7237005577332262213973186563042994240857116359379907606001950938285454250989
theorem oB_n : nk oB 255 = oN := by decide +kernel
theorem oB_z : (rladF oB 9 255).z2 = 0 := by decide +kernel
theorem ord_zero : baseP.mul oN = zeroP := by
 obtain ⟨l, hl, _, h2⟩ := (lad_tl oB nine_ne nine_base base_ne 255).1
 rw [oB_z, oB_n, toF_zero] at h2
 rcases fq_mul h2.symm with h | h
 ·exact absurd h hl
 ·exact y_one h
theorem base_nz : baseP ≠ zeroP := fun h => base_ne (by rw [h]; decide +kernel)
theorem isO : IsP oN := isL
theorem ord_dvd {k : Nat} (h : baseP.mul k = zeroP) : oN ∣ k := by
 have hg : baseP.mul (Nat.gcd oN k) = zeroP := by
  have key : ∀ (m n : Nat), baseP.mul m = zeroP → baseP.mul n = zeroP → baseP.mul (Nat.gcd m n) = zeroP := by
   intro m n
   induction m, n using Nat.gcd.induction with
   | H0 n => intro _ hn; rwa [Nat.gcd_zero_left]
   | H1 m n hm ih =>
    intro h1 h2
    rw [Nat.gcd_rec]
    refine ih ?_ h1
    have e : n = m * (n / m) + n % m := (Nat.div_add_mod n m).symm
    have h3 : baseP.mul n = (baseP.mul (m * (n / m))).add (baseP.mul (n % m)) := by
     conv => lhs; rw [e]
     rw [mul_add']
    rw [mul_mul', h1, zero_mul', add_comm', add_zero'] at h3
    rw [← h3]
    exact h2
  exact key oN k ord_zero h
 rcases isO.2 _ (Nat.gcd_dvd_left oN k) with h1 | h1
 ·exfalso
  rw [h1] at hg
  refine base_nz ?_
  have e : baseP.mul 1 = baseP := by
   show zeroP.add baseP = baseP
   rw [add_comm', add_zero']
  exact e.symm.trans hg
 ·have := Nat.gcd_dvd_right oN k
  rwa [h1] at this
theorem isO_mul {a b : Nat} (h : oN ∣ a * b) : oN ∣ a ∨ oN ∣ b := by
 by_cases ha : oN ∣ a
 ·exact .inl ha
 ·right
  have hg : Nat.Coprime oN a := by
   rcases isO.2 _ (Nat.gcd_dvd_left oN a) with h1 | h1
   ·exact h1
   ·exact absurd (h1 ▸ Nat.gcd_dvd_right oN a) ha
  exact Nat.Coprime.dvd_of_dvd_mul_left hg h
structure Tells (V : Int) (k : Nat) : Prop where
 bd : 0 ≤ V ∧ V < Pm
 nz : ¬ oN ∣ k
 eq : toF V * (1 - (baseP.mul k).y) = 1 + (baseP.mul k).y
theorem two_o : ¬ oN ∣ 2 := by decide
theorem mul_y {k : Nat} (h : ¬ oN ∣ k) : 1 - (baseP.mul k).y ≠ 0 ∧ 1 + (baseP.mul k).y ≠ 0 := by
 refine ⟨fun h1 => h (ord_dvd (y_one h1)), fun h1 => ?_⟩
 have h2 := y_minus h1
 rw [← mul_add'] at h2
 have h3 := ord_dvd h2
 rw [← Nat.two_mul] at h3
 rcases isO_mul h3 with h4 | h4
 ·exact two_o h4
 ·exact h h4
theorem Tells.ne {V : Int} {k : Nat} (h : Tells V k) : toF V ≠ 0 := fun h0 => by
 have h1 := h.eq
 rw [h0] at h1
 refine (mul_y h.nz).2 ?_
 rw [← h1, u6a, u4a]
theorem Tells.ne0 {V : Int} {k : Nat} (h : Tells V k) : V ≠ 0 := fun h0 => h.ne (by rw [h0]; exact toF_zero)
theorem Tells.one {V W : Int} {k : Nat} (h : Tells V k) (g : Tells W k) : V = W :=
 toF_inj h.bd g.bd (fq_cancel (mul_y h.nz).1 (h.eq.trans g.eq.symm))
theorem tells9 : Tells 9 1 := by
 have e : baseP.mul 1 = baseP := by
  show zeroP.add baseP = baseP
  rw [add_comm', add_zero']
 refine ⟨⟨by decide, by decide⟩, by decide, ?_⟩
 rw [e]
 exact nine_base
theorem toF_cg {a b : Int} (h : Cg a b) : toF a = toF b := by
 rw [← toF_mod a, ← toF_mod b, h.emod]
theorem pow_up (z : Int) (n m : Nat) (h : m = n + 1) : toF z * toF (z ^ n) = toF (z ^ m) := by
 subst h
 rw [← toF_mul, Int.pow_succ, Int.mul_comm]
theorem pw_inv {z : Int} (h : toF z ≠ 0) : toF z * toF (pwm z (xbit 255 21) 255) = 1 := by
 rw [toF_cg (pwm_pow z (xbit 255 21) 255), ex255]
 have hv : 0 < (toF z).val := Nat.pos_of_ne_zero fun e => h (Fin.ext (by rw [e]; rfl))
 have hf := fermatN hv (toF z).isLt
 have e1 : toF z * toF (z ^ (2 ^ 255 - 21)) = toF (z ^ (2 ^ 255 - 20)) := pow_up z (2 ^ 255 - 21) (2 ^ 255 - 20) (by decide)
 rw [e1]
 refine fq_int ?_
 rw [toF_val]
 have hz : Cg z (((toF z).val : Nat) : Int) := by
  rw [toF_val]
  exact em z
 rw [(hz.pow _).emod, ← Int.natCast_pow, ← pN_P, ← Int.natCast_emod, show (2 ^ 255 - 20 : Nat) = pN - 1 by decide, hf]
 rfl
theorem q1a {l t u v : Fq} (h : l * v * t = 1) : l * u * t * v = u := by grind
theorem Tells.lad {V : Int} {m : Nat} (h : Tells V m) (K : Yb) (hk : ¬ oN ∣ m * nk K 255) : Tells (shV K V) (m * nk K 255) := by
 refine ⟨shV_bd K V, hk, ?_⟩
 obtain ⟨l, hl, e1, e2⟩ := (lad_tl K h.ne h.eq (mul_y h.nz).1 255).1
 rw [← mul_mul'] at e1 e2
 have hz : toF (rladF K V 255).z2 ≠ 0 := by
  rw [e2]
  exact fq_ne hl (mul_y hk).1
 have hi := pw_inv hz
 unfold shV
 rw [toF_mod, toF_mul, e1]
 rw [e2] at hi
 exact q1a hi
open Go.RowKit
theorem leb_size (N : Int) : (lebytes N).size = 32 := by
 unfold lebytes
 rw [bs_size]
 rfl
theorem val_leb {W : Int} (hW : 0 ≤ W ∧ W < Pm) : val (mkS (lebytes W)) % Pm = W := by rw [leb_rb hW]; exact mk_leb hW
theorem sS_ne {V : Int} (h : V ≠ 0) : sS V = lebytes V := by unfold sS; rw [if_neg h]
theorem sC_ne {V : Int} (h : V ≠ 0) : sC V = 0 := by unfold sC; rw [if_neg h]
open Go.RowKit
def bsF (f : NI) : ByteArray := bs ((List.range 32).map f)
theorem bsF_bt {f : NI} (hf : ∀ i, i < 32 → 0 ≤ f i ∧ f i < 256) {i : Nat} (hi : i < 32) : bt (bsF f) i = f i :=
 bt_bs _ _ _ (by simp [hi]) (hf i hi).1 (hf i hi).2
open Go.RowKit
theorem cl_bt (s : Yb) {i : Nat} (hi : i < 32) : bt (clS s) i = clF s i := bsF_bt (fun i _ => clF_bd s i) hi
theorem cl_low {x : Int} (h0 : 0 ≤ x) (h1 : x < 256) : bits .and .u8 x 248 % 8 = 0 ∧ bits .or .u8 (bits .and .u8 x 127) 64 / 64 % 2 = 1 := by
 obtain ⟨X, rfl⟩ := Int.eq_ofNat_of_zero_le h0
 have hX : X < 256 := by omega
 have h : ∀ n : Fin 256, bits .and .u8 ((n.val : Nat) : Int) 248 % 8 = 0 ∧ bits .or .u8 (bits .and .u8 ((n.val : Nat) : Int) 127) 64 / 64 % 2 = 1 := by decide +kernel
 exact h ⟨X, hX⟩
theorem cl_254 (s : Yb) : bit (clS s) 254 = 1 := by
 show bt (clS s) 31 / 2 ^ 6 % 2 = 1
 rw [cl_bt s (by omega), show clF s 31 = bits .or .u8 (bits .and .u8 (bt s 31) 127) 64 by simp [clF, upd]]
 exact (cl_low (bt_bd s 31).1 (bt_bd s 31).2).2
theorem cl_012 (s : Yb) : bit (clS s) 0 = 0 ∧ bit (clS s) 1 = 0 ∧ bit (clS s) 2 = 0 := by
 have h := (cl_low (bt_bd s 0).1 (bt_bd s 0).2).1
 have e : bt (clS s) 0 = bits .and .u8 (bt s 0) 248 := by
  rw [cl_bt s (by omega)]
  simp [clF, upd]
 refine ⟨?_, ?_, ?_⟩
 ·show bt (clS s) 0 / 2 ^ 0 % 2 = 0
  rw [e]
  simp only [Int.pow_zero]
  omega
 ·show bt (clS s) 0 / 2 ^ 1 % 2 = 0
  rw [e, show (2 : Int) ^ 1 = 2 by decide]
  omega
 ·show bt (clS s) 0 / 2 ^ 2 % 2 = 0
  rw [e, show (2 : Int) ^ 2 = 4 by decide]
  omega
theorem nk_lt (K : Yb) : ∀ k, nk K k < 2 ^ k
 | 0 => by
  show 0 < 2 ^ 0
  decide
 | k + 1 => by
  have ih := nk_lt K k
  show 2 * nk K k + (bit K (254 - k)).toNat < _
  rw [Nat.pow_succ]
  rcases bit_two K (254 - k) with h | h <;> rw [h]
  ·show 2 * nk K k + 0 < _
   omega
  ·show 2 * nk K k + 1 < _
   omega
theorem nk_ge (K : Yb) (h : bit K 254 = 1) : ∀ k, 2 ^ k ≤ nk K (k + 1)
 | 0 => by
  show 1 ≤ 2 * 0 + (bit K 254).toNat
  rw [h]
  decide
 | k + 1 => by
  have ih := nk_ge K h k
  show _ ≤ 2 * nk K (k + 1) + (bit K (254 - (k + 1))).toNat
  rw [Nat.pow_succ]
  omega
theorem cl_n (s : Yb) : nk (clS s) 255 = 8 * nk (clS s) 252 := by
 obtain ⟨h0, h1, h2⟩ := cl_012 s
 show 2 * (2 * (2 * nk (clS s) 252 + (bit (clS s) 2).toNat) + (bit (clS s) 1).toNat) + (bit (clS s) 0).toNat = _
 rw [h0, h1, h2]
 show 2 * (2 * (2 * nk (clS s) 252 + 0) + 0) + 0 = _
 omega
theorem cl_nd (s : Yb) : ¬ oN ∣ nk (clS s) 255 := by
 rw [cl_n]
 intro h
 rcases isO_mul h with h1 | h1
 ·revert h1
  decide
 ·have h2 := nk_lt (clS s) 252
  have h3 : 2 ^ 251 ≤ nk (clS s) 252 := nk_ge (clS s) (cl_254 s) 251
  have h6 : 0 < nk (clS s) 252 := Nat.lt_of_lt_of_le (by decide) h3
  have h4 : oN ≤ nk (clS s) 252 := Nat.le_of_dvd h6 h1
  have h5 : (2 : Nat) ^ 252 < oN := by decide
  exact absurd (Nat.lt_of_le_of_lt h4 h2) (Nat.lt_asymm h5)
theorem nd_mul {a b : Nat} (ha : ¬ oN ∣ a) (hb : ¬ oN ∣ b) : ¬ oN ∣ a * b := fun h => by
 rcases isO_mul h with h | h
 ·exact ha h
 ·exact hb h
theorem Tells.cl {V : Int} {m : Nat} (h : Tells V m) (s : Yb) : Tells (shV (clS s) V) (m * nk (clS s) 255) := h.lad _ (nd_mul h.nz (cl_nd s))
theorem Tells.swap {V : Int} {m : Nat} (h : Tells V m) (a b : Yb) : shV (clS a) (shV (clS b) V) = shV (clS b) (shV (clS a) V) := by
 have h1 := (h.cl b).cl a
 have h2 := (h.cl a).cl b
 rw [Nat.mul_assoc, Nat.mul_comm (nk (clS a) 255), ← Nat.mul_assoc] at h2
 exact h1.one h2
open Go.RowKit
theorem leb_z : lebytes 0 = z32S := by decide +kernel
theorem ba_inj {a b : Yb} (h : a.toList = b.toList) : a = b := by
 rw [ByteArray.toList_eq, ByteArray.toList_eq] at h
 cases a
 cases b
 simp at h
 rw [h]
theorem leb_nz {V : Int} (hb : 0 ≤ V ∧ V < Pm) (h : V ≠ 0) : ((lebytes V).toList == z32S.toList) = false := by
 rw [beq_eq_false_iff_ne]
 intro e
 have e2 := ba_inj e
 have h1 := val_leb hb
 rw [e2, v0] at h1
 exact h h1.symm
theorem mk32 (w : World) : (Instr.makeSlice 61 (.int .i64 32) (.int .i64 32)).run Tryz.prog w = .ok (.slice (some ⟨w.heap.size, 0, none⟩) 32 32) (w.alloc (.cells #[Value.int .u8 0, Value.int .u8 0, Value.int .u8 0, Value.int .u8 0, Value.int .u8 0, Value.int .u8 0, Value.int .u8 0, Value.int .u8 0, Value.int .u8 0, Value.int .u8 0, Value.int .u8 0, Value.int .u8 0, Value.int .u8 0, Value.int .u8 0, Value.int .u8 0, Value.int .u8 0, Value.int .u8 0, Value.int .u8 0, Value.int .u8 0, Value.int .u8 0, Value.int .u8 0, Value.int .u8 0, Value.int .u8 0, Value.int .u8 0, Value.int .u8 0, Value.int .u8 0, Value.int .u8 0, Value.int .u8 0, Value.int .u8 0, Value.int .u8 0, Value.int .u8 0, Value.int .u8 0] 5)) := by kernel_rfl
theorem cv32 (w : World) : (convert 61 9 (.slice (some ⟨w.heap.size, 0, none⟩) 32 32)).run Tryz.prog (w.alloc (.cells #[Value.int .u8 0, Value.int .u8 0, Value.int .u8 0, Value.int .u8 0, Value.int .u8 0, Value.int .u8 0, Value.int .u8 0, Value.int .u8 0, Value.int .u8 0, Value.int .u8 0, Value.int .u8 0, Value.int .u8 0, Value.int .u8 0, Value.int .u8 0, Value.int .u8 0, Value.int .u8 0, Value.int .u8 0, Value.int .u8 0, Value.int .u8 0, Value.int .u8 0, Value.int .u8 0, Value.int .u8 0, Value.int .u8 0, Value.int .u8 0, Value.int .u8 0, Value.int .u8 0, Value.int .u8 0, Value.int .u8 0, Value.int .u8 0, Value.int .u8 0, Value.int .u8 0, Value.int .u8 0] 5)) = .ok (.string z32S) (w.alloc (.cells #[Value.int .u8 0, Value.int .u8 0, Value.int .u8 0, Value.int .u8 0, Value.int .u8 0, Value.int .u8 0, Value.int .u8 0, Value.int .u8 0, Value.int .u8 0, Value.int .u8 0, Value.int .u8 0, Value.int .u8 0, Value.int .u8 0, Value.int .u8 0, Value.int .u8 0, Value.int .u8 0, Value.int .u8 0, Value.int .u8 0, Value.int .u8 0, Value.int .u8 0, Value.int .u8 0, Value.int .u8 0, Value.int .u8 0, Value.int .u8 0, Value.int .u8 0, Value.int .u8 0, Value.int .u8 0, Value.int .u8 0, Value.int .u8 0, Value.int .u8 0, Value.int .u8 0, Value.int .u8 0] 5)) := conv_bytes _ w.heap.size 5 (List.replicate 32 0) 32 32 (0, 0) (heap_alloc_new w _) rfl
theorem rpub_no (s : Yb) (w : World) (hs : s.size ≠ 32) : Cs 9 #[.string s] w (.tuple #[.string ⟨#[]⟩, .int .i64 2]) := by
 have n0 : ((s.size : Int) != 32) = true := by simp; omega
 go_enter Tryz.func9, Tryz.ntmps9
 go_wp2
 exact bodyPost_ret (v := .tuple #[.string ⟨#[]⟩, .int .i64 2]) (by simp [results, Tryz.results9, go_sem]) rfl ⟨rfl, Below.refl _ _⟩
theorem bc32 (w : World) : BC (w.alloc (.cells #[Value.int .u8 0, Value.int .u8 0, Value.int .u8 0, Value.int .u8 0, Value.int .u8 0, Value.int .u8 0, Value.int .u8 0, Value.int .u8 0, Value.int .u8 0, Value.int .u8 0, Value.int .u8 0, Value.int .u8 0, Value.int .u8 0, Value.int .u8 0, Value.int .u8 0, Value.int .u8 0, Value.int .u8 0, Value.int .u8 0, Value.int .u8 0, Value.int .u8 0, Value.int .u8 0, Value.int .u8 0, Value.int .u8 0, Value.int .u8 0, Value.int .u8 0, Value.int .u8 0, Value.int .u8 0, Value.int .u8 0, Value.int .u8 0, Value.int .u8 0, Value.int .u8 0, Value.int .u8 0] 5)) w.heap.size (fun _ => 0) 32 where
 lt := by simp
 c := fun i hi => by
  rw [cell_of_row _ _ _ _ _ _ (heap_alloc_new w _)]
  have h : ∀ j : Fin 32, (#[Value.int .u8 0, Value.int .u8 0, Value.int .u8 0, Value.int .u8 0, Value.int .u8 0, Value.int .u8 0, Value.int .u8 0, Value.int .u8 0, Value.int .u8 0, Value.int .u8 0, Value.int .u8 0, Value.int .u8 0, Value.int .u8 0, Value.int .u8 0, Value.int .u8 0, Value.int .u8 0, Value.int .u8 0, Value.int .u8 0, Value.int .u8 0, Value.int .u8 0, Value.int .u8 0, Value.int .u8 0, Value.int .u8 0, Value.int .u8 0, Value.int .u8 0, Value.int .u8 0, Value.int .u8 0, Value.int .u8 0, Value.int .u8 0, Value.int .u8 0, Value.int .u8 0, Value.int .u8 0] : Array Value)[j.val]? = some (.int .u8 0) := fun j => by
   rcases j with ⟨j, hj⟩
   have : j < 32 := hj
   rcases j with _|_|_|_|_|_|_|_|_|_|_|_|_|_|_|_|_|_|_|_|_|_|_|_|_|_|_|_|_|_|_|_|j
   all_goals first | rfl | omega
  exact h ⟨i, hi⟩
 fz := fun i hi => by
  unfold World.frozen?
  rw [heap_alloc_new w _]
  simp
theorem nine_bs : bs ((List.range 32).map (upd (fun _ => 0) 0 9)) = nineS := by decide +kernel
end Go.Proofs.YtffimigpbcilbaaGreatDoor.Mon
