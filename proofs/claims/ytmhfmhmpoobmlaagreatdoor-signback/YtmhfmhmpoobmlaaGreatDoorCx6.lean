/- Part 6 of the walks and facts. -/
import Derived.Test.YtmhfmhmpoobmlaaGreatDoorCxDef
import Derived.Test.YtmhfmhmpoobmlaaGreatDoorCx1
import Derived.Test.YtmhfmhmpoobmlaaGreatDoorCx2
import Derived.Test.YtmhfmhmpoobmlaaGreatDoorCx3
import Derived.Test.YtmhfmhmpoobmlaaGreatDoorCx4
import Derived.Test.YtmhfmhmpoobmlaaGreatDoorCx5
set_option maxHeartbeats 4000000
set_option maxRecDepth 100000
namespace Go.Proofs.YtmhfmhmpoobmlaaGreatDoor
open Go.RowKit
theorem pmod (M : Int) : 0 ≤ M % Pm ∧ M % Pm < Pm := em M
def toF (a : Int) : Fq := ⟨(a % Pm).toNat, by have := pmod a; have := pN_P; omega⟩
theorem toF_val (a : Int) : (((toF a).val : Nat) : Int) = a % Pm := by
 show (((a % Pm).toNat : Nat) : Int) = a % Pm
 have := pmod a
 omega
theorem fq_int {a b : Fq} (h : ((a.val : Nat) : Int) = ((b.val : Nat) : Int)) : a = b := Fin.ext (by omega)
theorem toF_mod (a : Int) : toF (a % Pm) = toF a := by
 refine fq_int ?_
 rw [toF_val, toF_val, Int.emod_emod_of_dvd _ (Int.dvd_refl _)]
theorem toF_add (a b : Int) : toF (a + b) = toF a + toF b := by
 refine fq_int ?_
 rw [toF_val, Fin.val_add, Int.natCast_emod, Int.natCast_add, toF_val, toF_val, pN_P, ← Int.add_emod]
theorem toF_mul (a b : Int) : toF (a * b) = toF a * toF b := by
 refine fq_int ?_
 rw [toF_val, Fin.val_mul, Int.natCast_emod, Int.natCast_mul, toF_val, toF_val, pN_P, ← Int.mul_emod]
theorem toF_sub (a b : Int) : toF (a - b) = toF a - toF b := by
 have h := toF_add (a - b) b
 rw [show a - b + b = a by omega] at h
 rw [h]
 generalize toF (a - b) = u
 generalize toF b = v
 grind
theorem toF_inj {a b : Int} (ha : 0 ≤ a ∧ a < Pm) (hb : 0 ≤ b ∧ b < Pm) (h : toF a = toF b) : a = b := by
 have h2 := congrArg (fun x : Fq => ((x.val : Nat) : Int)) h
 simp only [toF_val] at h2
 rwa [Int.emod_eq_of_lt ha.1 ha.2, Int.emod_eq_of_lt hb.1 hb.2] at h2
theorem toF_zero : toF 0 = 0 := by decide +kernel
theorem toF_one : toF 1 = 1 := by decide +kernel
theorem toF_cg {a b : Int} (h : Cg a b) : toF a = toF b := by
 rw [← toF_mod a, ← toF_mod b, h.emod]
theorem toF_neg (a : Int) : toF (-a) = - toF a := by
 have h := toF_sub 0 a
 rw [toF_zero, Int.zero_sub] at h
 rw [h]
 generalize toF a = u
 grind
theorem toF_nz {a : Int} : toF a = 0 ↔ a % Pm = 0 := by
 constructor
 ·intro h
  have h2 := congrArg (fun x : Fq => ((x.val : Nat) : Int)) h
  simp only [toF_val] at h2
  exact h2
 ·intro h
  rw [← toF_mod, h, toF_zero]
theorem toF_eq {a b : Int} : toF a = toF b ↔ a % Pm = b % Pm := by
 constructor
 ·intro h
  have h2 := congrArg (fun x : Fq => ((x.val : Nat) : Int)) h
  simpa only [toF_val] using h2
 ·intro h
  rw [← toF_mod, h, toF_mod]
theorem tm (x y : E5) : toF (mulF x y).n = toF x.n * toF y.n := by rw [toF_cg (mulF_n x y), toF_mul]
theorem ta (x y : E5) : toF (addF x y).n = toF x.n + toF y.n := by rw [toF_cg (addF_n x y), toF_add]
theorem ts (x y : E5) : toF (subF x y).n = toF x.n - toF y.n := by rw [toF_cg (subF_n x y), toF_sub]
theorem t1 : toF (smallF 1).n = 1 := by rw [toF_cg (smallF_n 1), toF_one]
theorem pow_up (z : Int) (n m : Nat) (h : m = n + 1) : toF z * toF (z ^ n) = toF (z ^ m) := by
 subst h
 rw [← toF_mul, Int.pow_succ, Int.mul_comm]
theorem inv_pow {z : Int} (h : toF z ≠ 0) : toF z * toF (z ^ (2 ^ 255 - 21)) = 1 := by
 have hv : 0 < (toF z).val := Nat.pos_of_ne_zero fun e => h (Fin.ext (by rw [e]; rfl))
 have hf := fermatN hv (toF z).isLt
 have e1 : toF z * toF (z ^ (2 ^ 255 - 21)) = toF (z ^ (2 ^ 255 - 20)) := pow_up z (2 ^ 255 - 21) (2 ^ 255 - 20) (by decide)
 rw [e1]
 refine fq_int ?_
 rw [toF_val]
 have hz : Cg z (((toF z).val : Nat) : Int) := by
  rw [toF_val]
  exact (cg_emod z).symm
 rw [(hz.pow _).emod, ← Int.natCast_pow, ← pN_P, ← Int.natCast_emod, show (2 ^ 255 - 20 : Nat) = pN - 1 by decide, hf]
 rfl
theorem ti {x : E5} (h : toF x.n ≠ 0) : toF x.n * toF (invF x).n = 1 := by
 rw [toF_cg (invF_pow x)]
 exact inv_pow h
theorem tp {z : Int} (h : toF z ≠ 0) : toF z * toF (pwm z (xbit 255 21) 255) = 1 := by
 rw [toF_cg (pwm_pow z (xbit 255 21) 255), ex255]
 exact inv_pow h
structure RepF (X Y Z T : Fq) (P : Pt) : Prop where
 z : Z ≠ 0
 x : X = P.x * Z
 y : Y = P.y * Z
 t : T = P.x * P.y * Z
theorem al1 {D sx Z1 Z2 x1 y1 x2 y2 : Fq} (h : sx * (1 + D) = x1 * y2 + y1 * x2) : (y1 * Z1 + x1 * Z1) * (y2 * Z2 + x2 * Z2) - (y1 * Z1 - x1 * Z1) * (y2 * Z2 - x2 * Z2) = sx * (Z1 * (Z2 + Z2) + D * (Z1 * (Z2 + Z2))) := by
 grind
theorem al2 {D sy Z1 Z2 x1 y1 x2 y2 : Fq} (h : sy * (1 - D) = y1 * y2 + x1 * x2) : (y1 * Z1 + x1 * Z1) * (y2 * Z2 + x2 * Z2) + (y1 * Z1 - x1 * Z1) * (y2 * Z2 - x2 * Z2) = sy * (Z1 * (Z2 + Z2) - D * (Z1 * (Z2 + Z2))) := by
 grind
theorem al3 (d Z1 Z2 x1 y1 x2 y2 : Fq) : d * (x1 * y1 * Z1) * (x2 * y2 * Z2 + x2 * y2 * Z2) = d * (x1 * x2 * (y1 * y2)) * (Z1 * (Z2 + Z2)) := by
 grind
theorem al4 (D c : Fq) : c - D * c = (1 - D) * c := by grind
theorem al5 (D c : Fq) : c + D * c = (1 + D) * c := by grind
theorem al6 {e f g h sx sy : Fq} (he : e = sx * g) (hh : h = sy * f) : e * f = sx * (f * g) ∧ g * h = sy * (f * g) ∧ e * h = sx * sy * (f * g) := by
 subst he
 subst hh
 refine ⟨?_, ?_, ?_⟩ <;> grind
theorem dbl_ne {Z1 Z2 : Fq} (h1 : Z1 ≠ 0) (h2 : Z2 ≠ 0) : Z1 * (Z2 + Z2) ≠ 0 := by
 have e : Z2 + Z2 = 2 * Z2 := by clear h1 h2; grind
 rw [e]
 exact fq_ne h1 (fq_ne two_ne h2)
theorem RepF.plus {X1 Y1 Z1 T1 X2 Y2 Z2 T2 : Fq} {P Q : Pt} (p : RepF X1 Y1 Z1 T1 P) (q : RepF X2 Y2 Z2 T2 Q) :
  RepF (((Y1 + X1) * (Y2 + X2) - (Y1 - X1) * (Y2 - X2)) * (Z1 * (Z2 + Z2) - dE * T1 * (T2 + T2))) ((Z1 * (Z2 + Z2) + dE * T1 * (T2 + T2)) * ((Y1 + X1) * (Y2 + X2) + (Y1 - X1) * (Y2 - X2)))
   ((Z1 * (Z2 + Z2) - dE * T1 * (T2 + T2)) * (Z1 * (Z2 + Z2) + dE * T1 * (T2 + T2))) (((Y1 + X1) * (Y2 + X2) - (Y1 - X1) * (Y2 - X2)) * ((Y1 + X1) * (Y2 + X2) + (Y1 - X1) * (Y2 - X2))) (P.add Q) := by
 obtain ⟨pz, rfl, rfl, rfl⟩ := p
 obtain ⟨qz, rfl, rfl, rfl⟩ := q
 rw [al3 dE Z1 Z2 P.x P.y Q.x Q.y]
 have he := al1 (Z1 := Z1) (Z2 := Z2) (sx_mul P Q)
 have hh := al2 (Z1 := Z1) (Z2 := Z2) (sy_mul P Q)
 have hf := fq_ne (den_minus P.on Q.on) (dbl_ne pz qz)
 have hg := fq_ne (den_plus P.on Q.on) (dbl_ne pz qz)
 rw [← al4] at hf
 rw [← al5] at hg
 obtain ⟨e1, e2, e3⟩ := al6 he hh
 exact ⟨fq_ne hf hg, e1, e2, e3⟩
theorem bl1 {d x y Z : Fq} (h : y * y - x * x = 1 + d * (x * x * (y * y))) : x * Z * (x * Z) - y * Z * (y * Z) = -((1 + d * (x * x * (y * y))) * (Z * Z)) := by grind
theorem bl2 {d x y Z : Fq} (h : y * y - x * x = 1 + d * (x * x * (y * y))) : Z * (Z + Z) + (x * Z * (x * Z) - y * Z * (y * Z)) = (1 - d * (x * x * (y * y))) * (Z * Z) := by grind
theorem bl3 (x y Z : Fq) : x * Z * (x * Z) + y * Z * (y * Z) - (x * Z + y * Z) * (x * Z + y * Z) = -((x * y + y * x) * (Z * Z)) := by grind
theorem bl4 (x y Z : Fq) : x * Z * (x * Z) + y * Z * (y * Z) = (y * y + x * x) * (Z * Z) := by grind
theorem neg_ne {a : Fq} (h : a ≠ 0) : -a ≠ 0 := fun e => h (by clear h; grind)
theorem bl6 (s u c : Fq) : -(s * u * c) = s * -(u * c) := by grind
theorem bl7 (s u c : Fq) : s * u * c = s * (u * c) := by grind
theorem RepF.dbl {X Y Z T : Fq} {P : Pt} (p : RepF X Y Z T P) :
  RepF ((X * X + Y * Y - (X + Y) * (X + Y)) * (Z * (Z + Z) + (X * X - Y * Y))) ((X * X - Y * Y) * (X * X + Y * Y)) ((Z * (Z + Z) + (X * X - Y * Y)) * (X * X - Y * Y)) ((X * X + Y * Y - (X + Y) * (X + Y)) * (X * X + Y * Y)) (P.add P) := by
 obtain ⟨pz, rfl, rfl, rfl⟩ := p
 have hon := P.on
 unfold On at hon
 have hg := bl1 (Z := Z) hon
 have hf := bl2 (Z := Z) hon
 have he : P.x * Z * (P.x * Z) + P.y * Z * (P.y * Z) - (P.x * Z + P.y * Z) * (P.x * Z + P.y * Z) = sx P P * (P.x * Z * (P.x * Z) - P.y * Z * (P.y * Z)) := by
  rw [bl3, hg, ← sx_mul P P, bl6]
 have hh : P.x * Z * (P.x * Z) + P.y * Z * (P.y * Z) = sy P P * (Z * (Z + Z) + (P.x * Z * (P.x * Z) - P.y * Z * (P.y * Z))) := by
  rw [bl4, hf, ← sy_mul P P, bl7]
 obtain ⟨e1, e2, e3⟩ := al6 he hh
 have zz := fq_ne pz pz
 have nf := fq_ne (den_minus P.on P.on) zz
 have ng := neg_ne (fq_ne (den_plus P.on P.on) zz)
 rw [← hf] at nf
 rw [← hg] at ng
 exact ⟨fq_ne nf ng, e1, e2, e3⟩
theorem cl1 {D sx Z1 Z2 x1 y1 x2 y2 : Fq} (h : sx * (1 + D) = x1 * y2 + y1 * x2) : x1 * Z1 * (y2 * Z2) + y1 * Z1 * (x2 * Z2) = sx * (Z1 * Z2 + D * (Z1 * Z2)) := by grind
theorem cl2 {D sy Z1 Z2 x1 y1 x2 y2 : Fq} (h : sy * (1 - D) = y1 * y2 + x1 * x2) : y1 * Z1 * (y2 * Z2) + x1 * Z1 * (x2 * Z2) = sy * (Z1 * Z2 - D * (Z1 * Z2)) := by grind
theorem cl3 (d Z1 Z2 x1 y1 x2 y2 : Fq) : d * (x1 * y1 * Z1) * (x2 * y2 * Z2) = d * (x1 * x2 * (y1 * y2)) * (Z1 * Z2) := by grind
theorem RepF.rplus {X1 Y1 Z1 T1 X2 Y2 Z2 T2 : Fq} {P Q : Pt} (p : RepF X1 Y1 Z1 T1 P) (q : RepF X2 Y2 Z2 T2 Q) :
  RepF ((X1 * Y2 + Y1 * X2) * (Z1 * Z2 - dE * T1 * T2)) ((Z1 * Z2 + dE * T1 * T2) * (Y1 * Y2 + X1 * X2)) ((Z1 * Z2 - dE * T1 * T2) * (Z1 * Z2 + dE * T1 * T2)) ((X1 * Y2 + Y1 * X2) * (Y1 * Y2 + X1 * X2)) (P.add Q) := by
 obtain ⟨pz, rfl, rfl, rfl⟩ := p
 obtain ⟨qz, rfl, rfl, rfl⟩ := q
 rw [cl3 dE Z1 Z2 P.x P.y Q.x Q.y]
 have he := cl1 (Z1 := Z1) (Z2 := Z2) (sx_mul P Q)
 have hh := cl2 (Z1 := Z1) (Z2 := Z2) (sy_mul P Q)
 have hf := fq_ne (den_minus P.on Q.on) (fq_ne pz qz)
 have hg := fq_ne (den_plus P.on Q.on) (fq_ne pz qz)
 rw [← al4] at hf
 rw [← al5] at hg
 obtain ⟨e1, e2, e3⟩ := al6 he hh
 exact ⟨fq_ne hf hg, e1, e2, e3⟩
theorem el1 {x u Z1 Z2 : Fq} (h : x * Z1 * Z2 = u * Z2 * Z1) : x * (Z1 * Z2) = u * (Z1 * Z2) := by grind
theorem RepF.eq {X1 Y1 Z1 T1 X2 Y2 Z2 T2 : Fq} {P Q : Pt} (p : RepF X1 Y1 Z1 T1 P) (q : RepF X2 Y2 Z2 T2 Q) : (X1 * Z2 = X2 * Z1 ↔ P.x = Q.x) ∧ (Y1 * Z2 = Y2 * Z1 ↔ P.y = Q.y) := by
 obtain ⟨pz, rfl, rfl, rfl⟩ := p
 obtain ⟨qz, rfl, rfl, rfl⟩ := q
 have hz := fq_ne pz qz
 refine ⟨⟨fun h => fq_cancel hz (el1 h), fun h => ?_⟩, ⟨fun h => fq_cancel hz (el1 h), fun h => ?_⟩⟩
 ·rw [h]
  clear h
  grind
 ·rw [h]
  clear h
  grind
theorem fl1 {x Z I : Fq} (h : Z * I = 1) : x * Z * I = x := by grind
structure Rep (p : P5) (P : Pt) : Prop where
 ok : p.Ok
 r : RepF (toF p.x.n) (toF p.y.n) (toF p.z.n) (toF p.t.n) P
structure RRep (q : RQ) (P : Pt) : Prop where
 ok : q.Ok
 r : RepF (toF q.x) (toF q.y) (toF q.z) (toF q.t) P
theorem dF_t : toF dF.n = dE := by
 unfold dF
 rw [toF_cg (ofF_n dBy), ← toF_mod, dBy_val]
 decide +kernel
theorem DI_t : toF DI = dE := by decide +kernel
theorem Rep.sum {p q : P5} {P Q : Pt} (hp : Rep p P) (hq : Rep q Q) : Rep (sumF p q) (P.add Q) := by
 refine ⟨sumF_ok hp.ok hq.ok, ?_⟩
 unfold sumF
 simp only [tm, ta, ts, dF_t]
 exact hp.r.plus hq.r
theorem Rep.dbl {p : P5} {P : Pt} (hp : Rep p P) : Rep (dblF p) (P.add P) := by
 refine ⟨dblF_ok hp.ok, ?_⟩
 unfold dblF
 simp only [tm, ta, ts]
 exact hp.r.dbl
theorem Rep.none {p : P5} {P : Pt} (hp : Rep p P) : noneB p = false := by
 unfold noneB
 have := mt toF_nz.2 hp.r.z
 simpa using this
theorem Rep.add {p q : P5} {P Q : Pt} (hp : Rep p P) (hq : Rep q Q) : Rep (addV p q) (P.add Q) := by
 unfold addV
 rw [hp.none, hq.none]
 simp only [Bool.false_eq_true, if_false]
 exact hp.sum hq
theorem eqE_iff (x y : E5) : eqE x y = true ↔ toF x.n = toF y.n := by
 unfold eqE
 rw [beq_iff_eq, toF_eq]
theorem Rep.same {p q : P5} {P Q : Pt} (hp : Rep p P) (hq : Rep q Q) : sameV p q = true ↔ P = Q := by
 unfold sameV
 rw [hp.none, hq.none]
 simp only [Bool.not_false, Bool.true_and, Bool.and_eq_true, eqE_iff, tm]
 rw [(hp.r.eq hq.r).1, (hp.r.eq hq.r).2]
 exact ⟨fun h => Pt.ext h.1 h.2, fun h => by rw [h]; exact ⟨rfl, rfl⟩⟩
theorem zero_t : toF zeroE.n = 0 := by rw [zeroE_n, toF_zero]
theorem zero5_rep : Rep zero5 zeroP := by
 refine ⟨zero5_ok, ?_⟩
 unfold zero5 pointF
 simp only [tm, t1, zero_t]
 refine ⟨one_ne, ?_, ?_, ?_⟩ <;> decide +kernel
theorem Rep.oct {p : P5} {P : Pt} (hp : Rep p P) : Rep (oct p) (((P.add P).add (P.add P)).add ((P.add P).add (P.add P))) := hp.dbl.dbl.dbl
theorem Rep.small {p : P5} {P : Pt} (hp : Rep p P) : smallV p = true ↔ ((P.add P).add (P.add P)).add ((P.add P).add (P.add P)) = zeroP := by
 unfold smallV
 rw [hp.none]
 simp only [Bool.not_false, Bool.true_and]
 exact hp.oct.same zero5_rep
theorem tmI (a b : Int) : toF (mI a b) = toF a * toF b := by unfold mI; rw [toF_mod, toF_mul]
theorem tpI (a b : Int) : toF (pI a b) = toF a + toF b := by unfold pI; rw [toF_mod, toF_add]
theorem tsI (a b : Int) : toF (sI a b) = toF a - toF b := by unfold sI; rw [toF_mod, toF_sub]
theorem tnI (a : Int) : toF (nI a) = - toF a := by unfold nI; rw [toF_mod, toF_neg]
theorem tvI {a : Int} (h : toF a ≠ 0) : toF a * toF (vI a) = 1 := tp h
theorem RRep.add {p q : RQ} {P Q : Pt} (hp : RRep p P) (hq : RRep q Q) : RRep (raddV p q) (P.add Q) := by
 refine ⟨raddV_ok _ _, ?_⟩
 unfold raddV rteesV
 simp only [tmI, tpI, tsI, DI_t]
 exact hp.r.rplus hq.r
theorem mI_eq (a b c d : Int) : (mI a b == mI c d) = true ↔ toF a * toF b = toF c * toF d := by
 rw [beq_iff_eq, ← toF_mul, ← toF_mul, toF_eq]
 exact Iff.rfl
theorem RRep.same {p q : RQ} {P Q : Pt} (hp : RRep p P) (hq : RRep q Q) : rsameV p q = true ↔ P = Q := by
 unfold rsameV
 rw [Bool.and_eq_true, mI_eq, mI_eq, (hp.r.eq hq.r).1, (hp.r.eq hq.r).2]
 exact ⟨fun h => Pt.ext h.1 h.2, fun h => by rw [h]; exact ⟨rfl, rfl⟩⟩
theorem rzero_rep : RRep rzeroV zeroP := by
 refine ⟨rzeroV_ok, ?_⟩
 unfold rzeroV
 simp only [toF_zero, toF_one]
 refine ⟨one_ne, ?_, ?_, ?_⟩ <;> decide +kernel
theorem RRep.small {p : RQ} {P : Pt} (hp : RRep p P) : rsmallV p = true ↔ ((P.add P).add (P.add P)).add ((P.add P).add (P.add P)) = zeroP := by
 unfold rsmallV roct
 exact ((hp.add hp).add (hp.add hp) |>.add ((hp.add hp).add (hp.add hp))).same rzero_rep
def ptS (P : Pt) : ByteArray := encS (((P.x.val : Nat) : Int) % 2 == 1) (lebytes ((P.y.val : Nat) : Int))
theorem Rep.bytes {p : P5} {P : Pt} (hp : Rep p P) : bytesV p = ptS P := by
 have hi := ti hp.r.z
 have ex : (mulF p.x (invF p.z)).n % Pm = ((P.x.val : Nat) : Int) := by
  rw [← toF_val, tm, hp.r.x, fl1 hi]
 have ey : (mulF p.y (invF p.z)).n % Pm = ((P.y.val : Nat) : Int) := by
  rw [← toF_val, tm, hp.r.y, fl1 hi]
 unfold bytesV ptS oddE
 rw [hp.none, ex, ey]
 exact if_neg Bool.false_ne_true
theorem RRep.bytes {p : RQ} {P : Pt} (hp : RRep p P) : rbytesV p = ptS P := by
 have hi := tvI hp.r.z
 have ex : mI p.x (vI p.z) = ((P.x.val : Nat) : Int) := by
  rw [← em_self (mI_bd p.x (vI p.z)), ← toF_val, tmI, hp.r.x, fl1 hi]
 have ey : mI p.y (vI p.z) = ((P.y.val : Nat) : Int) := by
  rw [← em_self (mI_bd p.y (vI p.z)), ← toF_val, tmI, hp.r.y, fl1 hi]
 unfold rbytesV ptS
 rw [ex, ey]
theorem besE_cg (s : ByteArray) : Cg (besE (decY s)).n (aI (rY s)) := by
 have hy : Cg (decY s).n (rY s) := by
  unfold decY rY
  exact (ofF_n (cutS s)).trans (cg_emod _).symm
 have m : ∀ {x : Int} {A : Int}, Cg x A → Cg x (A % Pm) := fun h => h.trans (cg_emod _).symm
 have yy := m ((mulF_n (decY s) (decY s)).trans (hy.mul hy))
 have one := smallF_n 1
 have u := m ((subF_n _ _).trans (yy.sub one))
 have d : Cg dF.n DI := by
  unfold dF
  have h := m (ofF_n dBy)
  rwa [dBy_val] at h
 have dy := m ((mulF_n dF _).trans (d.mul yy))
 have v := m ((addF_n _ _).trans (dy.add one))
 exact m ((mulF_n _ _).trans (u.mul (rinv_val v)))
theorem root_rr (s : ByteArray) : (rootF (besE (decY s))).2 = (rr (aI (rY s))).2 ∧ (rootF (besE (decY s))).1.n % Pm = rX s := by
 have h := root_val (aI_bd (rY s)) (besE_cg s)
 unfold rX
 rw [rr_eq]
 exact h
theorem rr_even (A : Int) : (rr A).1 % 2 = 0 := by
 rw [rr_eq]
 have hP : Pm % 2 = 1 := by decide
 have key : ∀ {U : Int}, 0 ≤ U ∧ U < Pm → (if U % 2 = 1 then (- U) % Pm else U) % 2 = 0 := fun {U} hU => by
  split
  ·rename_i h
   have e : (-U) % Pm = Pm - U := by
    have := Int.add_emod_right (-U) Pm
    rw [← this, show -U + Pm = Pm - U by omega]
    exact Int.emod_eq_of_lt (by omega) (by omega)
   rw [e]
   omega
  ·omega
 unfold rrF
 have h1 := pwm_bd A (xbit 252 2) 252
 have h2 := em (pwm A (xbit 252 2) 252 * rmo.n)
 simp only
 generalize pwm A (xbit 252 2) 252 = U at h1 h2 ⊢
 generalize U * rmo.n % Pm = V at h2 ⊢
 by_cases e : U * U % Pm = A
 ·rw [if_pos e]
  exact key h1
 ·rw [if_neg e]
  by_cases e2 : V * V % Pm = A
  ·rw [if_pos e2]
   exact key h2
  ·rw [if_neg e2]
   rfl
theorem rr_sq {A : Int} (h : (rr A).2 = true) : toF (rr A).1 * toF (rr A).1 = toF A := by
 rw [rr_eq] at h ⊢
 have key : ∀ {U : Int}, toF (if U % 2 = 1 then (- U) % Pm else U) * toF (if U % 2 = 1 then (- U) % Pm else U) = toF (U * U % Pm) := fun {U} => by
  rw [toF_mod, toF_mul]
  split
  ·rw [toF_mod, toF_neg, nn]
  ·rfl
 revert h
 unfold rrF
 simp only
 generalize pwm A (xbit 252 2) 252 = U
 generalize U * rmo.n % Pm = V
 by_cases e : U * U % Pm = A
 ·rw [if_pos e]
  intro _
  exact key.trans (by rw [e])
 ·rw [if_neg e]
  by_cases e2 : V * V % Pm = A
  ·rw [if_pos e2]
   intro _
   exact key.trans (by rw [e2])
  ·rw [if_neg e2]
   intro h
   cases h
theorem decX_n (s : ByteArray) : (decX s).n % Pm = rdecX s := by
 have h := (root_rr s).2
 unfold decX rdecX
 cases oddB s
 ·simp only [Bool.false_eq_true, if_false]
  exact h
 ·simp only [if_true]
  unfold nI
  rw [(negF_n _).emod, ← h]
  exact (Cg.neg (cg_emod _)).symm.emod
theorem dec_eq (s : ByteArray) : decB s = rdecB s := by
 unfold decB rdecB oddE
 rw [decX_n, (root_rr s).1]
 have hX := rX_bd s
 have he : rX s % 2 = 0 := rr_even _
 have hP : Pm % 2 = 1 := by decide
 have hq : ((rdecX s % 2 == 1) == oddB s) = !((rX s == 0) && oddB s) := by
  unfold rdecX
  cases oddB s
  ·simp [he]
  ·simp only [if_true, Bool.and_true]
   unfold nI
   by_cases h0 : rX s = 0
   ·rw [h0]
    decide
   ·have e : (-rX s) % Pm = Pm - rX s := by
     have := Int.add_emod_right (-rX s) Pm
     rw [← this, show -rX s + Pm = Pm - rX s by omega]
     exact Int.emod_eq_of_lt (by omega) (by omega)
    rw [e]
    have h1 : (Pm - rX s) % 2 = 1 := by omega
    simp [h1, h0]
 rw [hq]
theorem on_ex {d x y v : Fq} (hv : (d * (y * y) + 1) * v = 1) (hx : x * x = (y * y - 1) * v) : y * y - x * x = 1 + d * (x * x * (y * y)) := by grind
theorem den0 (y : Fq) : dE * (y * y) + 1 ≠ 0 := fun h => by
 have h1 : iE * iE = dE * (y * y) := by
  rw [iE_sq]
  generalize dE = d at *
  grind
 have h2 := no_root h1
 rw [h2] at h
 revert h
 decide +kernel
theorem dec_on (s : ByteArray) (h : rdecB s = true) : On (toF (rdecX s)) (toF (rY s)) := by
 unfold rdecB at h
 simp only [Bool.and_eq_true] at h
 have hq := rr_sq h.2.1
 have hx : toF (rdecX s) * toF (rdecX s) = toF (aI (rY s)) := by
  rw [← hq]
  unfold rdecX rX
  split
  ·rw [tnI, nn]
  ·rfl
 have ea : toF (aI (rY s)) = (toF (rY s) * toF (rY s) - 1) * toF (vI (pI (mI DI (mI (rY s) (rY s))) 1)) := by
  unfold aI
  rw [tmI, tsI, tmI, toF_one]
 rw [ea] at hx
 have eb : toF (pI (mI DI (mI (rY s) (rY s))) 1) = dE * (toF (rY s) * toF (rY s)) + 1 := by
  rw [tpI, tmI, tmI, DI_t, toF_one]
 have hv := tvI (a := pI (mI DI (mI (rY s) (rY s))) 1) (by rw [eb]; exact den0 _)
 rw [eb] at hv
 unfold On
 exact on_ex hv hx
def decPt (s : ByteArray) (h : rdecB s = true) : Pt := ⟨toF (rdecX s), toF (rY s), dec_on s h⟩
theorem mul_one' (a : Fq) : a = a * 1 := by grind
theorem dec_rep {s : ByteArray} (hs : s.size = 32) (h : rdecB s = true) : Rep (decP s) (decPt s h) := by
 have e : decP s = pointF (decX s) (decY s) := by
  unfold decP
  rw [if_pos hs, dec_eq, h]
  exact if_pos rfl
 rw [e]
 have ex : toF (decX s).n = toF (rdecX s) := by rw [← toF_mod, decX_n]
 have ey : toF (decY s).n = toF (rY s) := by
  unfold decY rY
  rw [toF_cg (ofF_n (cutS s)), toF_mod]
 refine ⟨pointF_ok (decX_ok s) (decY_ok s), ?_⟩
 unfold pointF
 simp only [tm, t1, ex, ey]
 exact ⟨one_ne, mul_one' _, mul_one' _, mul_one' _⟩
theorem rdec_rep {s : ByteArray} (hs : s.size = 32) (h : rdecB s = true) : RRep (rdecP s) (decPt s h) := by
 have e : rdecP s = rofV (rdecX s) (rY s) := by
  unfold rdecP
  rw [if_pos hs, h]
  exact if_pos rfl
 rw [e]
 refine ⟨rofV_ok (rdecX_bd s) (rY_bd s), ?_⟩
 unfold rofV
 simp only [tmI, toF_one]
 exact ⟨one_ne, mul_one' _, mul_one' _, mul_one' _⟩
theorem code_eq (s : ByteArray) : decC s = rdecC s := by
 unfold decC rdecC
 rw [dec_eq]
theorem bs_bt (s : ByteArray) (hs : s.size = 32) (f : Nat → Int) (hf : ∀ i, i < 32 → f i = bt s i) : bs ((List.range 32).map f) = s := by
 have hm : (List.range 32).map f = (List.range 32).map (bt s) := List.map_congr_left fun i hi => hf i (List.mem_range.1 hi)
 rw [hm]
 have hd : (bs ((List.range 32).map (bt s))).data = s.data := by
  apply Array.ext_getElem?
  intro i
  have hs' : s.data.size = 32 := hs
  by_cases hi : i < 32
  ·simp only [bs, List.getElem?_toArray, List.getElem?_map, List.getElem?_range hi, Option.map_some, bt]
   rw [Array.getElem?_eq_getElem (by omega)]
   simp
  ·simp only [bs, List.getElem?_toArray]
   rw [List.getElem?_eq_none (by simp; omega), Array.getElem?_eq_none (by omega)]
 cases s
 unfold bs at *
 simp only at hd
 rw [hd]
theorem baseS_size : baseS.size = 32 := by decide
theorem base_b : rdecB baseS = true := by
 unfold rdecB rX
 rw [rr_eq]
 decide +kernel
def baseQ : Pt := decPt baseS base_b
theorem base_rep : Rep base5 baseQ := dec_rep baseS_size base_b
theorem rbase_rep : RRep (rdecP baseS) baseQ := rdec_rep baseS_size base_b
theorem base_c : decC baseS = 0 := by
 unfold decC
 rw [if_pos baseS_size, dec_eq, base_b]
 exact if_pos rfl
theorem c_base (w : World) : Cs 25 #[] w (.agg (arr 20 base5.f)) := c_base_of base_c w
def BX : Int := 15112221349535400772501151409588531511454012693041857206046113283949847762202
def BY : Int := 46316835694926478169428394003475163141307993866256225615783033603165251855960
theorem base_x : rdecX baseS = BX := by
 unfold rdecX rX
 rw [rr_eq]
 decide +kernel
theorem base_y : rY baseS = BY := by decide +kernel
theorem base_q : rdecP baseS = rofV BX BY := by
 unfold rdecP
 rw [if_pos baseS_size, base_b, base_x, base_y]
 exact if_pos rfl
theorem base_big : rsmallV (rofV BX BY) = false := by decide +kernel
theorem base_nsmall : smallV base5 = false := by
 have h1 := base_rep.small
 have h2 := rbase_rep.small
 rw [base_q, base_big] at h2
 cases h : smallV base5
 ·rfl
 ·exact absurd (h2.2 (h1.1 h)) Bool.false_ne_true
structure dbl4F (p r1 r2 r3 r4 : Nat → Int) : Prop where
 h1 : ∀ w, Cs 110 #[.agg (arr 20 p)] w (.agg (arr 20 r1))
 h2 : ∀ w, Cs 110 #[.agg (arr 20 r1)] w (.agg (arr 20 r2))
 h3 : ∀ w, Cs 110 #[.agg (arr 20 r2)] w (.agg (arr 20 r3))
 h4 : ∀ w, Cs 110 #[.agg (arr 20 r3)] w (.agg (arr 20 r4))
theorem dbl4_gen (p r1 r2 r3 r4 : Nat → Int) (w : World) (F : dbl4F p r1 r2 r3 r4)  :
  Cs 61 #[.agg (arr 20 p), .int .i64 4] w (.agg (arr 20 r4)) := by
 go_enter Tryz.func61, Tryz.ntmps61
 have M := Mem.start w
 refine wp_seq ?_
 refine rg_lit ?_
 refine zN M 2 (.cells (arr 20 p) 60) fun g1 w1 M => ?_
 refine zN M 4 (.cells (arr 20 (fun _ => 0)) 60) fun g2 w2 M => ?_
 refine pl_nil ?_
 refine au_then ?_
 refine wp_seq ?_
 refine wp_seq ?_
 refine rg_lit ?_
 refine pl_val (want_no rfl) (some 5) rfl (.int .i64 4) (fun _ => by kernel_rfl) ?_
 refine pl_val (want_no rfl) (some 6) rfl (.int .i64 0) (fun _ => by kernel_rfl) ?_
 refine pl_nil ?_
 refine au_then ?_
 refine wp_block ?_
 refine wp_loop_rounds 5 ?_
 refine rounds_go ?_
 refine wp_seq ?_
 refine rg_lit ?_
 refine pl_val (want_no rfl) (some 7) rfl (.bool true) (fun _ => by kernel_rfl) ?_
 refine pl_nil ?_
 refine au_then ?_
 refine wp_seq ?_
 refine cT ?_
 refine wp_skip ?_
 refine au_then ?_
 refine wp_seq ?_
 refine wp_block ?_
 refine rg_lit ?_
 refine zA M 8 0 rfl ?_
 refine zC M 9 F.h1 fun w3 M => ?_
 refine zW M 0 rfl r1 fun w4 M => ?_
 refine pl_nil ?_
 refine au_block ?_
 refine au_then ?_
 refine rg_lit ?_
 refine pl_val (want_no rfl) (some 10) rfl (.int .i64 1) (fun _ => by kernel_rfl) ?_
 refine pl_val (want_no rfl) (some 6) rfl (.int .i64 1) (fun _ => by kernel_rfl) ?_
 refine pl_nil ?_
 refine au_then ?_
 refine rounds_go ?_
 refine wp_seq ?_
 refine rg_lit ?_
 refine pl_val (want_no rfl) (some 7) rfl (.bool true) (fun _ => by kernel_rfl) ?_
 refine pl_nil ?_
 refine au_then ?_
 refine wp_seq ?_
 refine cT ?_
 refine wp_skip ?_
 refine au_then ?_
 refine wp_seq ?_
 refine wp_block ?_
 refine rg_lit ?_
 refine zA M 8 0 rfl ?_
 refine zC M 9 F.h2 fun w5 M => ?_
 refine zW M 0 rfl r2 fun w6 M => ?_
 refine pl_nil ?_
 refine au_block ?_
 refine au_then ?_
 refine rg_lit ?_
 refine pl_val (want_no rfl) (some 10) rfl (.int .i64 2) (fun _ => by kernel_rfl) ?_
 refine pl_val (want_no rfl) (some 6) rfl (.int .i64 2) (fun _ => by kernel_rfl) ?_
 refine pl_nil ?_
 refine au_then ?_
 refine rounds_go ?_
 refine wp_seq ?_
 refine rg_lit ?_
 refine pl_val (want_no rfl) (some 7) rfl (.bool true) (fun _ => by kernel_rfl) ?_
 refine pl_nil ?_
 refine au_then ?_
 refine wp_seq ?_
 refine cT ?_
 refine wp_skip ?_
 refine au_then ?_
 refine wp_seq ?_
 refine wp_block ?_
 refine rg_lit ?_
 refine zA M 8 0 rfl ?_
 refine zC M 9 F.h3 fun w7 M => ?_
 refine zW M 0 rfl r3 fun w8 M => ?_
 refine pl_nil ?_
 refine au_block ?_
 refine au_then ?_
 refine rg_lit ?_
 refine pl_val (want_no rfl) (some 10) rfl (.int .i64 3) (fun _ => by kernel_rfl) ?_
 refine pl_val (want_no rfl) (some 6) rfl (.int .i64 3) (fun _ => by kernel_rfl) ?_
 refine pl_nil ?_
 refine au_then ?_
 refine rounds_go ?_
 refine wp_seq ?_
 refine rg_lit ?_
 refine pl_val (want_no rfl) (some 7) rfl (.bool true) (fun _ => by kernel_rfl) ?_
 refine pl_nil ?_
 refine au_then ?_
 refine wp_seq ?_
 refine cT ?_
 refine wp_skip ?_
 refine au_then ?_
 refine wp_seq ?_
 refine wp_block ?_
 refine rg_lit ?_
 refine zA M 8 0 rfl ?_
 refine zC M 9 F.h4 fun w9 M => ?_
 refine zW M 0 rfl r4 fun w10 M => ?_
 refine pl_nil ?_
 refine au_block ?_
 refine au_then ?_
 refine rg_lit ?_
 refine pl_val (want_no rfl) (some 10) rfl (.int .i64 4) (fun _ => by kernel_rfl) ?_
 refine pl_val (want_no rfl) (some 6) rfl (.int .i64 4) (fun _ => by kernel_rfl) ?_
 refine pl_nil ?_
 refine au_then ?_
 refine rounds_go ?_
 refine wp_seq ?_
 refine rg_lit ?_
 refine pl_val (want_no rfl) (some 7) rfl (.bool false) (fun _ => by kernel_rfl) ?_
 refine pl_nil ?_
 refine au_then ?_
 refine wp_seq ?_
 refine cF ?_
 refine wp_exit ?_
 refine au_then_exit ?_
 refine au_then_exit ?_
 refine au_block_exit ?_
 refine au_then ?_
 refine wp_seq ?_
 refine rg_lit ?_
 refine zA M 11 0 rfl ?_
 refine zW M 1 rfl r4 fun w11 M => ?_
 refine pl_nil ?_
 refine au_then ?_
 refine wp_ret ?_
 exact bodyPost_ret (v := .agg (arr 20 r4)) (results_cell_row Tryz.results61 _ _ g2 60 (arr 20 r4) (0, 0) _ (by kernel_rfl) (M.get 1 rfl) Tryz.underlying60 rfl (by rw [arr_size]; exact inz60)) (by kernel_rfl) ⟨rfl, M.old⟩
def d4 (p : P5) : P5 := dblF (dblF (dblF (dblF p)))
theorem d4_ok {p : P5} (hp : p.Ok) : (d4 p).Ok := dblF_ok (dblF_ok (dblF_ok (dblF_ok hp)))
theorem c_dbl4 (p : P5) (w : World) (hp : p.Ok) : Cs 61 #[.agg (arr 20 p.f), .int .i64 4] w (.agg (arr 20 (d4 p).f)) :=
 dbl4_gen p.f (dblF p).f (dblF (dblF p)).f (dblF (dblF (dblF p))).f (d4 p).f w { h1 := fun w => c_double p w hp, h2 := fun w => c_double _ w (dblF_ok hp), h3 := fun w => c_double _ w (dblF_ok (dblF_ok hp)), h4 := fun w => c_double _ w (dblF_ok (dblF_ok (dblF_ok hp))) }
def mulT (p : P5) : Nat → P5
 | 0 => zero5
 | k + 1 => sumF (mulT p k) p
theorem mulT_ok {p : P5} (hp : p.Ok) : ∀ k, (mulT p k).Ok
 | 0 => zero5_ok
 | k + 1 => sumF_ok (mulT_ok hp k) hp
def fw (p : P5) (n : Nat) : Nat → Int := fun i => if i / 20 < n then (mulT p (i / 20)).f (i % 20) else 0
theorem fw_part (p : P5) {n k : Nat} (h : k < n) : Part (fw p n) (k * 20) 20 (mulT p k).f := fun i hi => by
 unfold fw
 rw [show (k * 20 + i) / 20 = k by omega, show (k * 20 + i) % 20 = i by omega, if_pos h]
theorem fw_one (p : P5) : arr 320 (fw p 1) = arr 320 (fun i => if i < 20 then zero5.f i else 0) := by
 apply Array.ext_getElem?
 intro i
 by_cases hi : i < 320
 ·rw [arr_get _ _ _ hi, arr_get _ _ _ hi]
  unfold fw
  by_cases h : i < 20
  ·rw [if_pos (by omega), if_pos h, show i / 20 = 0 by omega, show i % 20 = i by omega]
   rfl
  ·rw [if_neg (by omega), if_neg h]
 ·rw [Array.getElem?_eq_none (by rw [arr_size]; omega), Array.getElem?_eq_none (by rw [arr_size]; omega)]
theorem fw_next (p : P5) (k : Nat) : ∀ j, j < 320 → (if k * 20 ≤ j ∧ j < k * 20 + 20 then (mulT p k).f (j - k * 20) else fw p k j) = fw p (k + 1) j := fun j _ => by
 unfold fw
 by_cases h : k * 20 ≤ j ∧ j < k * 20 + 20
 ·rw [if_pos h, show j / 20 = k by omega, if_pos (by omega), show j - k * 20 = j % 20 by omega]
 ·rw [if_neg h]
  by_cases h2 : j / 20 < k
  ·rw [if_pos h2, if_pos (by omega)]
  ·rw [if_neg h2, if_neg (by omega)]
structure fewF (p : P5)  : Prop where
 h0 : True
theorem few_gen (p : P5)  (w : World) (_F : fewF p ) (hp : p.Ok) :
  Cs 59 #[.agg (arr 20 p.f)] w (.agg (arr 320 (fw p (15 + 1)))) := by
 go_enter Tryz.func59, Tryz.ntmps59
 have M := Mem.start w
 refine wp_seq ?_
 refine rg_lit ?_
 refine zN M 1 (.cells (arr 20 p.f) 60) fun g1 w1 M => ?_
 refine zN M 2 (.cells (arr 320 (fun _ => 0)) 85) fun g2 w2 M => ?_
 refine pl_nil ?_
 refine au_then ?_
 refine wp_seq ?_
 refine rg_lit ?_
 refine zC M 5 c_zero fun w3 M => ?_
 refine pl_val (want_no rfl) (some 6) rfl (.agg (arr 320 (fw p 1))) (fun w => Eq.trans (b := .ok (.value (.agg (arr 320 (fun i => if i < 20 then zero5.f i else 0)))) w) (by kernel_rfl) (by rw [fw_one])) ?_
 refine zN M 3 (.cells (arr 320 (fun _ => 0)) 85) fun g3 w4 M => ?_
 refine zW M 2 rfl (fw p 1) fun w5 M => ?_
 refine pl_nil ?_
 refine au_then ?_
 refine wp_seq ?_
 refine wp_seq ?_
 refine rg_lit ?_
 refine pl_val (want_no rfl) (some 4) rfl (.int .i64 1) (fun _ => by kernel_rfl) ?_
 refine pl_nil ?_
 refine au_then ?_
 refine wp_block ?_
 refine au_loop (fun j a w' => ∃ (v : Nat → Value), a = ⟨#[.agg (arr 20 p.f), .pointer (some ⟨g1, 0, none⟩), .pointer (some ⟨g2, 0, none⟩), .pointer (some ⟨g3, 0, none⟩), .int .i64 ((j + 1 : Nat) : Int), .agg (arr 20 zero5.f), .agg (arr 320 (fw p 1)), v 7, v 8, v 9, v 10, v 11, v 12, v 13, v 14, v 15, v 16, v 17, v 18, undef], []⟩ ∧ Mem w [⟨g1, .cells (arr 20 p.f) 60⟩, ⟨g2, .cells (arr 320 (fun _ => 0)) 85⟩, ⟨g3, .cells (arr 320 (fw p (j + 1))) 85⟩] w') 15 ⟨fun _ => undef, by kernel_rfl, M⟩ ?_ ?_
 ·intro j a w1 hj hI
  obtain ⟨v, rfl, M⟩ := hI
  refine wp_seq ?_
  refine wp_seq ?_
  refine rg_lit ?_
  refine pl_val (want_no rfl) (some 7) rfl (.int .i64 ((j + 1 : Nat) : Int)) (fun _ => by kernel_rfl) ?_
  refine pl_val (want_no rfl) (some 8) rfl (.bool true) (fun w => Eq.trans (b := .ok (.value (.bool (decide (((j + 1 : Nat) : Int) < 16)))) w) (by kernel_rfl) (by rw [decide_eq_true (by omega)])) ?_
  refine pl_nil ?_
  refine au_then ?_
  refine cT ?_
  refine wp_skip ?_
  refine au_then ?_
  refine wp_seq ?_
  refine wp_block ?_
  refine rg_tail M 8 (by kernel_rfl) (by kernel_rfl) ?_
  simp only [List.take_succ_cons, List.take_zero]
  refine k_val (want_no rfl) (some 11) rfl (.int .i64 ((j + 1 : Nat) : Int)) (fun _ => by kernel_rfl) ?_
  refine k_val (want_no rfl) (some 12) rfl (.int .i64 ((j + 1 : Nat) : Int)) (fun _ => by kernel_rfl) ?_
  refine k_val (want_no rfl) (some 13) rfl (.int .i64 (j : Int)) (fun w => Eq.trans (b := .ok (.value (.int .i64 (IntKind.wrap .i64 (((j + 1 : Nat) : Int) - 1)))) w) (by kernel_rfl) (by rw [wrap64 (by omega) (by omega)]; rw [show ((j + 1 : Nat) : Int) - 1 = (j : Int) by omega])) ?_
  refine k_val (want_no rfl) (some 14) rfl (.pointer (some ⟨g3, j * 20, none⟩)) (fun w => run_ix 85 16 20 60 Tryz.underlying85 inz60 _ _ rfl g3 (by kernel_rfl) .i64 j (by kernel_rfl) (by omega) w) ?_
  refine k_load M (want_no rfl) (some 15) rfl 60 _ rfl 2 g3 (j * 20) (by kernel_rfl) 320 85 (fw p (j + 1)) rfl 20 (mulT p j).f (fw_part p (by omega)) (by omega) _ Tryz.underlying60 rfl inz60 ?_
  refine wA M 16 0 rfl ?_
  refine k_call (want_no rfl) (some 17) rfl 62 #[.agg (arr 20 (mulT p j).f), .agg (arr 20 p.f)] (.agg (arr 20 (mulT p (j + 1)).f)) (fun _ => by kernel_rfl) (fun w => c_plus (mulT p j) p w (mulT_ok hp j) hp) ?_
  refine k_val (want_no rfl) (some 18) rfl (.pointer (some ⟨g3, (j + 1) * 20, none⟩)) (fun w => run_ix 85 16 20 60 Tryz.underlying85 inz60 _ _ rfl g3 (by kernel_rfl) .i64 (j + 1) (by kernel_rfl) (by omega) w) ?_
  refine kl_nil fun w6 M => ?_
  refine pl_putm M (want_no rfl) rfl 60 _ _ rfl 2 g3 ((j + 1) * 20) (by kernel_rfl) 320 85 (fw p (j + 1)) rfl 20 (mulT p (j + 1)).f (fw p (j + 1 + 1)) (by kernel_rfl) inz60 (by omega) (fw_next p (j + 1)) fun w7 M => ?_
  refine pl_nil ?_
  refine au_block ?_
  refine au_then ?_
  refine rg_lit ?_
  refine pl_val (want_no rfl) (some 9) rfl (.int .i64 ((j + 1 : Nat) : Int)) (fun _ => by kernel_rfl) ?_
  refine pl_val (want_no rfl) (some 10) rfl (.int .i64 ((j + 1 + 1 : Nat) : Int)) (fun w => Eq.trans (b := .ok (.value (.int .i64 (IntKind.wrap .i64 (((j + 1 : Nat) : Int) + 1)))) w) (by kernel_rfl) (by rw [wrap64 (by omega) (by omega)]; rfl)) ?_
  refine pl_val (want_no rfl) (some 4) rfl (.int .i64 ((j + 1 + 1 : Nat) : Int)) (fun _ => by kernel_rfl) ?_
  refine pl_nil ?_
  refine au_then ?_
  exact ⟨fun k => ([.int .i64 ((j + 1 : Nat) : Int), .bool true, .int .i64 ((j + 1 : Nat) : Int), .int .i64 ((j + 1 + 1 : Nat) : Int), .int .i64 ((j + 1 : Nat) : Int), .int .i64 ((j + 1 : Nat) : Int), .int .i64 (j : Int), .pointer (some ⟨g3, j * 20, none⟩), .agg (arr 20 (mulT p j).f), .agg (arr 20 p.f), .agg (arr 20 (mulT p (j + 1)).f), .pointer (some ⟨g3, (j + 1) * 20, none⟩)] : List Value).getD (k - 7) undef, by kernel_rfl, M⟩
 ·intro a w1 hI
  obtain ⟨v, rfl, M⟩ := hI
  refine wp_seq ?_
  refine wp_seq ?_
  refine rg_lit ?_
  refine pl_val (want_no rfl) (some 7) rfl (.int .i64 ((15 + 1 : Nat) : Int)) (fun _ => by kernel_rfl) ?_
  refine pl_val (want_no rfl) (some 8) rfl (.bool false) (fun w => Eq.trans (b := .ok (.value (.bool (decide (((15 + 1 : Nat) : Int) < 16)))) w) (by kernel_rfl) (by rw [decide_eq_false (by omega)])) ?_
  refine pl_nil ?_
  refine au_then ?_
  refine cF ?_
  refine wp_exit ?_
  refine au_then_exit ?_
  refine au_then_exit ?_
  refine au_block_exit ?_
  refine au_then ?_
  refine wp_seq ?_
  refine rg_lit ?_
  refine zA M 19 2 rfl ?_
  refine zW M 1 rfl (fw p (15 + 1)) fun w8 M => ?_
  refine pl_nil ?_
  refine au_then ?_
  refine wp_ret ?_
  exact bodyPost_ret (v := .agg (arr 320 (fw p (15 + 1)))) (results_cell_row Tryz.results59 _ _ g2 85 (arr 320 (fw p (15 + 1))) (0, 0) _ (by kernel_rfl) (M.get 1 rfl) Tryz.underlying85 rfl (by rw [arr_size]; exact inz85)) (by kernel_rfl) ⟨rfl, M.old⟩
theorem c_few (p : P5) (w : World) (hp : p.Ok) : Cs 59 #[.agg (arr 20 p.f)] w (.agg (arr 320 (fw p 16))) := few_gen p w ⟨trivial⟩ hp
def acc (p : P5) (s : ByteArray) : Nat → P5
 | 0 => zero5
 | j + 1 => sumF (d4 (sumF (d4 (acc p s j)) (mulT p (bt s (31 - j) / 16).toNat))) (mulT p (bt s (31 - j) % 16).toNat)
theorem acc_ok {p : P5} (hp : p.Ok) (s : ByteArray) : ∀ j, (acc p s j).Ok
 | 0 => zero5_ok
 | j + 1 => sumF_ok (d4_ok (sumF_ok (d4_ok (acc_ok hp s j)) (mulT_ok hp _))) (mulT_ok hp _)
theorem bits_lo {x : Int} (h0 : 0 ≤ x) (h1 : x < 256) : bits .and .u8 x 15 = x % 16 := by
 obtain ⟨n, rfl⟩ : ∃ n : Nat, x = n := ⟨x.toNat, by omega⟩
 have h : ∀ n : Fin 256, bits .and .u8 ((n.val : Nat) : Int) 15 = ((n.val : Nat) : Int) % 16 := by decide +kernel
 exact h ⟨n, by omega⟩
structure mulYF (p : P5) (k : Nat → Int) (s : ByteArray)  : Prop where
 h0 : True
theorem mulY_gen (p : P5) (k : Nat → Int) (s : ByteArray)  (w : World) (_F : mulYF p k s ) (hp : p.Ok) (hn : noneB p = false) (hs : s.size = 32) (hB : ∀ w, Cs 30 #[.agg (arr 4 k)] w (.string s)) :
  Cs 26 #[.agg (arr 20 p.f), .agg (arr 4 k)] w (.agg (arr 20 (acc p s 32).f)) := by
 go_enter Tryz.func26, Tryz.ntmps26
 have M := Mem.start w
 refine wp_seq ?_
 refine rg_lit ?_
 refine zN M 2 (.cells (arr 20 p.f) 60) fun g1 w1 M => ?_
 refine zN M 3 (.cells (arr 4 k) 44) fun g2 w2 M => ?_
 refine zN M 4 (.cells (arr 20 (fun _ => 0)) 60) fun g3 w3 M => ?_
 refine pl_nil ?_
 refine au_then ?_
 refine wp_seq ?_
 refine wp_seq ?_
 refine rg_lit ?_
 refine zA M 9 0 rfl ?_
 refine pl_call M (want_no rfl) (some 10) rfl 58 #[.agg (arr 20 p.f)] (.bool false) (fun _ => by kernel_rfl) (none_b hp hn) fun w4 M => ?_
 refine pl_nil ?_
 refine au_then ?_
 refine cF ?_
 refine wp_skip ?_
 refine au_then ?_
 refine wp_seq ?_
 refine rg_lit ?_
 refine zA M 12 0 rfl ?_
 refine pl_call M (want_no rfl) (some 13) rfl 59 #[.agg (arr 20 p.f)] (.agg (arr 320 (fw p 16))) (fun _ => by kernel_rfl) (fun w => c_few p w hp) fun w5 M => ?_
 refine zN M 5 (.cells (arr 320 (fun _ => 0)) 85) fun g4 w6 M => ?_
 refine zW M 3 rfl (fw p 16) fun w7 M => ?_
 refine pl_nil ?_
 refine au_then ?_
 refine wp_seq ?_
 refine rg_lit ?_
 refine zA M 14 1 rfl ?_
 refine pl_call M (want_no rfl) (some 15) rfl 30 #[.agg (arr 4 k)] (.string s) (fun _ => by kernel_rfl) hB fun w8 M => ?_
 refine pl_val (want_no rfl) (some 6) rfl (.string s) (fun _ => by kernel_rfl) ?_
 refine pl_nil ?_
 refine au_then ?_
 refine wp_seq ?_
 refine rg_lit ?_
 refine zC M 16 c_zero fun w9 M => ?_
 refine zN M 7 (.cells (arr 20 (fun _ => 0)) 60) fun g5 w10 M => ?_
 refine zW M 4 rfl zero5.f fun w11 M => ?_
 refine pl_nil ?_
 refine au_then ?_
 refine wp_seq ?_
 refine wp_seq ?_
 refine rg_lit ?_
 refine pl_val (want_no rfl) (some 8) rfl (.int .i64 31) (fun _ => by kernel_rfl) ?_
 refine pl_nil ?_
 refine au_then ?_
 refine wp_block ?_
 refine au_loop (fun j a w' => ∃ (m : Int) (v : Nat → Value), m = 31 - (j : Int) ∧ a = ⟨#[.agg (arr 20 p.f), .agg (arr 4 k), .pointer (some ⟨g1, 0, none⟩), .pointer (some ⟨g2, 0, none⟩), .pointer (some ⟨g3, 0, none⟩), .pointer (some ⟨g4, 0, none⟩), .string s, .pointer (some ⟨g5, 0, none⟩), .int .i64 m, .agg (arr 20 p.f), .bool false, undef, .agg (arr 20 p.f), .agg (arr 320 (fw p 16)), .agg (arr 4 k), .string s, .agg (arr 20 zero5.f), v 17, v 18, v 19, v 20, v 21, v 22, v 23, v 24, v 25, v 26, v 27, v 28, v 29, v 30, v 31, v 32, v 33, v 34, v 35, v 36, v 37, v 38, undef], []⟩ ∧ Mem w [⟨g1, .cells (arr 20 p.f) 60⟩, ⟨g2, .cells (arr 4 k) 44⟩, ⟨g3, .cells (arr 20 (fun _ => 0)) 60⟩, ⟨g4, .cells (arr 320 (fw p 16)) 85⟩, ⟨g5, .cells (arr 20 (acc p s j).f) 60⟩] w') 32 ⟨31, fun _ => undef, rfl, by kernel_rfl, M⟩ ?_ ?_
 ·intro j a w1 hj hI
  obtain ⟨m0, v, hm, rfl, M⟩ := hI
  obtain ⟨m, rfl⟩ : ∃ m : Nat, m0 = m := ⟨31 - j, by omega⟩
  have hb := bt_bd s m
  obtain ⟨h, hh⟩ : ∃ h : Nat, bt s m / 16 = h := ⟨(bt s m / 16).toNat, by omega⟩
  obtain ⟨l, hl⟩ : ∃ l : Nat, bt s m % 16 = l := ⟨(bt s m % 16).toNat, by omega⟩
  have hA : acc p s (j + 1) = sumF (d4 (sumF (d4 (acc p s j)) (mulT p h))) (mulT p l) := by
   show sumF (d4 (sumF (d4 (acc p s j)) (mulT p (bt s (31 - j) / 16).toNat))) (mulT p (bt s (31 - j) % 16).toNat) = _
   rw [show 31 - j = m by omega, hh, hl, Int.toNat_natCast, Int.toNat_natCast]
  refine wp_seq ?_
  refine wp_seq ?_
  refine rg_lit ?_
  refine pl_val (want_no rfl) (some 17) rfl (.int .i64 (m : Int)) (fun _ => by kernel_rfl) ?_
  refine pl_val (want_no rfl) (some 18) rfl (.bool true) (fun w => Eq.trans (b := .ok (.value (.bool (decide (0 ≤ (m : Int))))) w) (by kernel_rfl) (by rw [decide_eq_true (by omega)])) ?_
  refine pl_nil ?_
  refine au_then ?_
  refine cT ?_
  refine wp_skip ?_
  refine au_then ?_
  refine wp_seq ?_
  refine wp_block ?_
  refine wp_seq ?_
  refine rg_tail M 9 (by kernel_rfl) (by kernel_rfl) ?_
  simp only [List.take_succ_cons, List.take_zero]
  refine k_load M (want_no rfl) (some 21) rfl 60 _ rfl 4 g5 0 (by kernel_rfl) 20 60 (acc p s j).f rfl 20 (acc p s j).f (Part.all _ _) (by decide) _ Tryz.underlying60 rfl inz60 ?_
  refine k_call (want_no rfl) (some 22) rfl 61 #[.agg (arr 20 (acc p s j).f), .int .i64 4] (.agg (arr 20 (d4 (acc p s j)).f)) (fun _ => by kernel_rfl) (fun w => c_dbl4 (acc p s j) w (acc_ok hp s j)) ?_
  refine k_val (want_no rfl) (some 23) rfl (.string s) (fun _ => by kernel_rfl) ?_
  refine k_val (want_no rfl) (some 24) rfl (.int .i64 (m : Int)) (fun _ => by kernel_rfl) ?_
  refine k_val (want_no rfl) (some 25) rfl (.int .u8 (bt s m)) (fun w => run_ixS 9 Tryz.underlying9 _ _ rfl s (by kernel_rfl) .i64 m (by kernel_rfl) (by omega) w) ?_
  refine k_val (want_no rfl) (some 26) rfl (.int .u8 (h : Int)) (fun w => run_bin .shr 5 _ _ rfl (by kernel_rfl) (by kernel_rfl) (fun _ => by kernel_rfl) (fun w => by rw [← hh]; exact run_shr4 _ w) w) ?_
  refine k_val (want_no rfl) (some 27) rfl (.pointer (some ⟨g4, h * 20, none⟩)) (fun w => run_ix 85 16 20 60 Tryz.underlying85 inz60 _ _ rfl g4 (by kernel_rfl) .u8 h (by kernel_rfl) (by omega) w) ?_
  refine k_load M (want_no rfl) (some 28) rfl 60 _ rfl 3 g4 (h * 20) (by kernel_rfl) 320 85 (fw p 16) rfl 20 (mulT p h).f (fw_part p (by omega)) (by omega) _ Tryz.underlying60 rfl inz60 ?_
  refine k_call (want_no rfl) (some 29) rfl 62 #[.agg (arr 20 (d4 (acc p s j)).f), .agg (arr 20 (mulT p h).f)] (.agg (arr 20 (sumF (d4 (acc p s j)) (mulT p h)).f)) (fun _ => by kernel_rfl) (fun w => c_plus (d4 (acc p s j)) (mulT p h) w (d4_ok (acc_ok hp s j)) (mulT_ok hp _)) ?_
  refine kl_nil fun w12 M => ?_
  refine pl_put M (want_no rfl) rfl 60 _ _ rfl 4 g5 (by kernel_rfl) 20 60 (acc p s j).f (sumF (d4 (acc p s j)) (mulT p h)).f rfl (by kernel_rfl) inz60 fun w13 M => ?_
  refine pl_nil ?_
  refine au_then ?_
  refine rg_tail M 9 (by kernel_rfl) (by kernel_rfl) ?_
  simp only [List.take_succ_cons, List.take_zero]
  refine k_load M (want_no rfl) (some 30) rfl 60 _ rfl 4 g5 0 (by kernel_rfl) 20 60 (sumF (d4 (acc p s j)) (mulT p h)).f rfl 20 (sumF (d4 (acc p s j)) (mulT p h)).f (Part.all _ _) (by decide) _ Tryz.underlying60 rfl inz60 ?_
  refine k_call (want_no rfl) (some 31) rfl 61 #[.agg (arr 20 (sumF (d4 (acc p s j)) (mulT p h)).f), .int .i64 4] (.agg (arr 20 (d4 (sumF (d4 (acc p s j)) (mulT p h))).f)) (fun _ => by kernel_rfl) (fun w => c_dbl4 (sumF (d4 (acc p s j)) (mulT p h)) w (sumF_ok (d4_ok (acc_ok hp s j)) (mulT_ok hp _))) ?_
  refine k_val (want_no rfl) (some 32) rfl (.string s) (fun _ => by kernel_rfl) ?_
  refine k_val (want_no rfl) (some 33) rfl (.int .i64 (m : Int)) (fun _ => by kernel_rfl) ?_
  refine k_val (want_no rfl) (some 34) rfl (.int .u8 (bt s m)) (fun w => run_ixS 9 Tryz.underlying9 _ _ rfl s (by kernel_rfl) .i64 m (by kernel_rfl) (by omega) w) ?_
  refine k_val (want_no rfl) (some 35) rfl (.int .u8 (l : Int)) (fun w => Eq.trans (b := .ok (.value (.int .u8 (bits .and .u8 (bt s m) 15))) w) (by kernel_rfl) (by rw [bits_lo hb.1 hb.2, hl])) ?_
  refine k_val (want_no rfl) (some 36) rfl (.pointer (some ⟨g4, l * 20, none⟩)) (fun w => run_ix 85 16 20 60 Tryz.underlying85 inz60 _ _ rfl g4 (by kernel_rfl) .u8 l (by kernel_rfl) (by omega) w) ?_
  refine k_load M (want_no rfl) (some 37) rfl 60 _ rfl 3 g4 (l * 20) (by kernel_rfl) 320 85 (fw p 16) rfl 20 (mulT p l).f (fw_part p (by omega)) (by omega) _ Tryz.underlying60 rfl inz60 ?_
  refine k_call (want_no rfl) (some 38) rfl 62 #[.agg (arr 20 (d4 (sumF (d4 (acc p s j)) (mulT p h))).f), .agg (arr 20 (mulT p l).f)] (.agg (arr 20 (sumF (d4 (sumF (d4 (acc p s j)) (mulT p h))) (mulT p l)).f)) (fun _ => by kernel_rfl) (fun w => c_plus (d4 (sumF (d4 (acc p s j)) (mulT p h))) (mulT p l) w (d4_ok (sumF_ok (d4_ok (acc_ok hp s j)) (mulT_ok hp _))) (mulT_ok hp _)) ?_
  refine kl_nil fun w14 M => ?_
  refine pl_put M (want_no rfl) rfl 60 _ _ rfl 4 g5 (by kernel_rfl) 20 60 (sumF (d4 (acc p s j)) (mulT p h)).f (sumF (d4 (sumF (d4 (acc p s j)) (mulT p h))) (mulT p l)).f rfl (by kernel_rfl) inz60 fun w15 M => ?_
  refine pl_nil ?_
  refine au_block ?_
  refine au_then ?_
  refine rg_lit ?_
  refine pl_val (want_no rfl) (some 19) rfl (.int .i64 (m : Int)) (fun _ => by kernel_rfl) ?_
  refine pl_val (want_no rfl) (some 20) rfl (.int .i64 ((m : Int) - 1)) (fun w => Eq.trans (b := .ok (.value (.int .i64 (IntKind.wrap .i64 ((m : Int) - 1)))) w) (by kernel_rfl) (by rw [wrap64 (by omega) (by omega)])) ?_
  refine pl_val (want_no rfl) (some 8) rfl (.int .i64 ((m : Int) - 1)) (fun _ => by kernel_rfl) ?_
  refine pl_nil ?_
  refine au_then ?_
  refine ⟨(m : Int) - 1, fun k => ([.int .i64 (m : Int), .bool true, .int .i64 (m : Int), .int .i64 ((m : Int) - 1), .agg (arr 20 (acc p s j).f), .agg (arr 20 (d4 (acc p s j)).f), .string s, .int .i64 (m : Int), .int .u8 (bt s m), .int .u8 (h : Int), .pointer (some ⟨g4, h * 20, none⟩), .agg (arr 20 (mulT p h).f), .agg (arr 20 (sumF (d4 (acc p s j)) (mulT p h)).f), .agg (arr 20 (sumF (d4 (acc p s j)) (mulT p h)).f), .agg (arr 20 (d4 (sumF (d4 (acc p s j)) (mulT p h))).f), .string s, .int .i64 (m : Int), .int .u8 (bt s m), .int .u8 (l : Int), .pointer (some ⟨g4, l * 20, none⟩), .agg (arr 20 (mulT p l).f), .agg (arr 20 (sumF (d4 (sumF (d4 (acc p s j)) (mulT p h))) (mulT p l)).f)] : List Value).getD (k - 17) undef, by omega, by kernel_rfl, ?_⟩
  rw [hA]
  exact M
 ·intro a w1 hI
  obtain ⟨m, v, hm, rfl, M⟩ := hI
  refine wp_seq ?_
  refine wp_seq ?_
  refine rg_lit ?_
  refine pl_val (want_no rfl) (some 17) rfl (.int .i64 m) (fun _ => by kernel_rfl) ?_
  refine pl_val (want_no rfl) (some 18) rfl (.bool false) (fun w => Eq.trans (b := .ok (.value (.bool (decide (0 ≤ m)))) w) (by kernel_rfl) (by rw [decide_eq_false (by omega)])) ?_
  refine pl_nil ?_
  refine au_then ?_
  refine cF ?_
  refine wp_exit ?_
  refine au_then_exit ?_
  refine au_then_exit ?_
  refine au_block_exit ?_
  refine au_then ?_
  refine wp_seq ?_
  refine rg_lit ?_
  refine pl_load M (want_no rfl) (some 39) rfl 60 _ rfl 4 g5 0 (by kernel_rfl) 20 60 (acc p s 32).f rfl 20 (acc p s 32).f (Part.all _ _) (by decide) _ Tryz.underlying60 rfl inz60 ?_
  refine pl_put M (want_no rfl) rfl 60 _ _ rfl 2 g3 (by kernel_rfl) 20 60 (fun _ => 0) (acc p s 32).f rfl (by kernel_rfl) inz60 fun w16 M => ?_
  refine pl_nil ?_
  refine au_then ?_
  refine wp_ret ?_
  exact bodyPost_ret (v := .agg (arr 20 (acc p s 32).f)) (results_cell_row Tryz.results26 _ _ g3 60 (arr 20 (acc p s 32).f) (0, 0) _ (by kernel_rfl) (M.get 2 rfl) Tryz.underlying60 rfl (by rw [arr_size]; exact inz60)) (by kernel_rfl) ⟨rfl, M.old⟩
theorem run_quo16 (m : Nat) (hm : m < 256) (w : World) : (binOp .quo 3 (.int .i64 (m : Int)) (.int .i64 16)).run Tryz.prog w = .ok (.int .i64 ((m / 16 : Nat) : Int)) w := by
 simp [binOp, go_sem]
 rw [wrap64 (by omega) (by omega)]
theorem run_rem16 (m : Nat) (w : World) : (binOp .rem 3 (.int .i64 (m : Int)) (.int .i64 16)).run Tryz.prog w = .ok (.int .i64 ((m % 16 : Nat) : Int)) w := by
 simp [binOp, go_sem]
 rw [Int.tmod_eq_emod_of_nonneg (by omega)]
theorem run_toU (b : Nat) (hb : b < 16) (w : World) : (convert 3 39 (.int .i64 (b : Int))).run Tryz.prog w = .ok (.int .u64 (b : Int)) w := by
 simp [convert, go_sem]
 simp [IntKind.wrap, IntKind.signed, IntKind.bits, go_sem]
 omega
theorem run_shrU (x : Int) (b : Nat) (hb : b < 16) (w : World) : (binOp .shr 34 (.int .u64 x) (.int .u64 (b : Int))).run Tryz.prog w = .ok (.int .u64 (x / 2 ^ b)) w := by
 simp [binOp, go_sem]
theorem run_and1 {x : Int} (h0 : 0 ≤ x) (h1 : x < 65536) : bits .and .u64 x 1 = x % 2 := by
 rw [u64_and _ 1 h0 (by omega) (by decide) (by decide), show (1 : Int).toNat = 1 from rfl, nat_mask1]
 omega
theorem run_conv {P : Program} {a : Act} {o : Oper} (t u : TypeId) (x : Operand) (ho : o.op = .convert t u x) {vx v : Value} (hx : a.eval x = vx) (hb : ∀ w, (convert t u vx).run P w = .ok v w) (w : World) :
  (execOp a.eval o).run P w = .ok (.value v) w := by
 unfold execOp
 simp only [ho, hx, Sem.run_bind, hb, Result.andThen_ok, Sem.run_pure]
section
variable {P : Program} {ops : Array Oper} {rest : List Oper} {o : Oper} {a : Act} {w w0 : World} {L : List Blk} {Q : Exit → Act → World → Prop}
theorem pl_loadw (M : Mem w0 L w) (hw : Region.wanted o (yielded ops a.tmps) = true) (d : Option Tmp) (hd : o.dst = d) (ty : TypeId) (x : Operand) (ho : o.op = .load ty x) (i g k : Nat) (hx : a.eval x = .pointer (some ⟨g, k, none⟩)) (n T : Nat) (f : Nat → Int) (hi : L[i]? = some ⟨g, .cells (arr n f) T⟩) (hk : k < n) (hag : ∀ w, (isAgg ty).run P w = .ok false w)
  (h : PL P ops Q rest (a.put d (.int .u64 (f k))) w) : PL P ops Q (o :: rest) a w := by
 refine pl_to hw d hd (.int .u64 (f k)) w ?_ h
 have hc := run_byte (P := P) ((M.row i hi).cell hk) ty hag
 unfold execOp
 simp only [ho, hx, Sem.run_bind, hc, Result.andThen_ok, Sem.run_pure]
end
theorem inz34 : (Tryz.prog.info? 34).map (·.size) = some 1 := by kernel_rfl
def pb (f : Nat → Int) (i : Nat) : Int := f (i / 16) / 2 ^ (i % 16) % 2
def racc (q : RQ) (f : Nat → Int) : Nat → RQ
 | 0 => rzeroV
 | j + 1 => if pb f (255 - j) = 1 then raddV (raddV (racc q f j) (racc q f j)) q else raddV (racc q f j) (racc q f j)
theorem racc_ok (q : RQ) (f : Nat → Int) : ∀ j, (racc q f j).Ok
 | 0 => rzeroV_ok
 | j + 1 => by
  unfold racc
  split <;> exact raddV_ok _ _
theorem shr_bd {x : Int} (h0 : 0 ≤ x) (h1 : x < 65536) (b : Nat) : 0 ≤ x / 2 ^ b ∧ x / 2 ^ b < 65536 := by
 have hp : (0 : Int) < 2 ^ b := Int.pow_pos (by decide)
 refine ⟨Int.ediv_nonneg h0 (by omega), Int.lt_of_le_of_lt (Int.ediv_le_self _ h0) h1⟩
structure rmulWF (q : RQ) (f : Nat → Int)  : Prop where
 h0 : True
theorem rmulW_gen (q : RQ) (f : Nat → Int)  (w : World) (_F : rmulWF q f ) (hq : q.Ok) (hf : Dig f 16) :
  Cs 21 #[.agg (arr 64 q.f), .agg (arr 16 f)] w (.agg (arr 64 (racc q f 256).f)) := by
 go_enter Tryz.func21, Tryz.ntmps21
 have M := Mem.start w
 refine wp_seq ?_
 refine rg_lit ?_
 refine zN M 2 (.cells (arr 64 q.f) 52) fun g1 w1 M => ?_
 refine zN M 3 (.cells (arr 16 f) 36) fun g2 w2 M => ?_
 refine zN M 4 (.cells (arr 64 (fun _ => 0)) 52) fun g3 w3 M => ?_
 refine pl_nil ?_
 refine au_then ?_
 refine wp_seq ?_
 refine rg_lit ?_
 refine zC M 7 c_rzero fun w4 M => ?_
 refine zN M 5 (.cells (arr 64 (fun _ => 0)) 52) fun g4 w5 M => ?_
 refine zW M 3 rfl rzeroV.f fun w6 M => ?_
 refine pl_nil ?_
 refine au_then ?_
 refine wp_seq ?_
 refine wp_seq ?_
 refine rg_lit ?_
 refine pl_val (want_no rfl) (some 6) rfl (.int .i64 255) (fun _ => by kernel_rfl) ?_
 refine pl_nil ?_
 refine au_then ?_
 refine wp_block ?_
 refine au_loop (fun j a w' => ∃ (m : Int) (v : Nat → Value), m = 255 - (j : Int) ∧ a = ⟨#[.agg (arr 64 q.f), .agg (arr 16 f), .pointer (some ⟨g1, 0, none⟩), .pointer (some ⟨g2, 0, none⟩), .pointer (some ⟨g3, 0, none⟩), .pointer (some ⟨g4, 0, none⟩), .int .i64 m, .agg (arr 64 rzeroV.f), v 8, v 9, v 10, v 11, v 12, v 13, v 14, v 15, v 16, v 17, v 18, v 19, v 20, v 21, v 22, v 23, v 24, v 25, v 26, v 27, undef], []⟩ ∧ Mem w [⟨g1, .cells (arr 64 q.f) 52⟩, ⟨g2, .cells (arr 16 f) 36⟩, ⟨g3, .cells (arr 64 (fun _ => 0)) 52⟩, ⟨g4, .cells (arr 64 (racc q f j).f) 52⟩] w') 256 ⟨255, fun _ => undef, rfl, by kernel_rfl, M⟩ ?_ ?_
 ·intro j a w1 hj hI
  obtain ⟨m0, v, hm, rfl, M⟩ := hI
  obtain ⟨m, rfl⟩ : ∃ m : Nat, m0 = m := ⟨255 - j, by omega⟩
  have hfm := hf (m / 16 * 1) (by omega)
  have hsh := shr_bd hfm.1 hfm.2 (m % 16)
  have hpb : f (m / 16 * 1) / 2 ^ (m % 16) % 2 = pb f m := by
   unfold pb
   rw [Nat.mul_one]
  have he : 255 - j = m := by omega
  by_cases hbit : pb f m = 1
  ·have hA : racc q f (j + 1) = raddV (raddV (racc q f j) (racc q f j)) q := by
    show (if pb f (255 - j) = 1 then raddV (raddV (racc q f j) (racc q f j)) q else raddV (racc q f j) (racc q f j)) = _
    rw [he, if_pos hbit]
   refine wp_seq ?_
   refine wp_seq ?_
   refine rg_lit ?_
   refine pl_val (want_no rfl) (some 8) rfl (.int .i64 (m : Int)) (fun _ => by kernel_rfl) ?_
   refine pl_val (want_no rfl) (some 9) rfl (.bool true) (fun w => Eq.trans (b := .ok (.value (.bool (decide (0 ≤ (m : Int))))) w) (by kernel_rfl) (by rw [decide_eq_true (by omega)])) ?_
   refine pl_nil ?_
   refine au_then ?_
   refine cT ?_
   refine wp_skip ?_
   refine au_then ?_
   refine wp_seq ?_
   refine wp_block ?_
   refine wp_seq ?_
   refine rg_lit ?_
   refine pl_load M (want_no rfl) (some 12) rfl 52 _ rfl 3 g4 0 (by kernel_rfl) 64 52 (racc q f j).f rfl 64 (racc q f j).f (Part.all _ _) (by decide) _ Tryz.underlying52 rfl inz52 ?_
   refine pl_load M (want_no rfl) (some 13) rfl 52 _ rfl 3 g4 0 (by kernel_rfl) 64 52 (racc q f j).f rfl 64 (racc q f j).f (Part.all _ _) (by decide) _ Tryz.underlying52 rfl inz52 ?_
   refine pl_call M (want_no rfl) (some 14) rfl 44 #[.agg (arr 64 (racc q f j).f), .agg (arr 64 (racc q f j).f)] (.agg (arr 64 (raddV (racc q f j) (racc q f j)).f)) (fun _ => by kernel_rfl) (fun w => c_radd (racc q f j) (racc q f j) w (racc_ok q f j) (racc_ok q f j)) fun w7 M => ?_
   refine pl_put M (want_no rfl) rfl 52 _ _ rfl 3 g4 (by kernel_rfl) 64 52 (racc q f j).f (raddV (racc q f j) (racc q f j)).f rfl (by kernel_rfl) inz52 fun w8 M => ?_
   refine pl_nil ?_
   refine au_then ?_
   refine wp_seq ?_
   refine rg_lit ?_
   refine pl_val (want_no rfl) (some 15) rfl (.int .i64 (m : Int)) (fun _ => by kernel_rfl) ?_
   refine pl_val (want_no rfl) (some 16) rfl (.int .i64 ((m / 16 : Nat) : Int)) (fun w => run_bin .quo 3 _ _ rfl (by kernel_rfl) (by kernel_rfl) (fun _ => by kernel_rfl) (fun w => run_quo16 m (by omega) w) w) ?_
   refine pl_val (want_no rfl) (some 17) rfl (.pointer (some ⟨g2, m / 16 * 1, none⟩)) (fun w => run_ix 36 16 1 34 Tryz.underlying36 inz34 _ _ rfl g2 (by kernel_rfl) .i64 (m / 16) (by kernel_rfl) (by omega) w) ?_
   refine pl_loadw M (want_no rfl) (some 18) rfl 34 _ rfl 1 g2 (m / 16 * 1) (by kernel_rfl) 16 36 f rfl (by omega) (fun _ => by kernel_rfl) ?_
   refine pl_val (want_no rfl) (some 19) rfl (.int .i64 (m : Int)) (fun _ => by kernel_rfl) ?_
   refine pl_val (want_no rfl) (some 20) rfl (.int .i64 ((m % 16 : Nat) : Int)) (fun w => run_bin .rem 3 _ _ rfl (by kernel_rfl) (by kernel_rfl) (fun _ => by kernel_rfl) (fun w => run_rem16 m w) w) ?_
   refine pl_val (want_no rfl) (some 21) rfl (.int .u64 ((m % 16 : Nat) : Int)) (fun w => run_conv 3 39 _ rfl (by kernel_rfl) (fun w => run_toU (m % 16) (by omega) w) w) ?_
   refine pl_val (want_no rfl) (some 22) rfl (.int .u64 (f (m / 16 * 1) / 2 ^ (m % 16))) (fun w => run_bin .shr 34 _ _ rfl (by kernel_rfl) (by kernel_rfl) (fun _ => by kernel_rfl) (fun w => run_shrU _ _ (by omega) w) w) ?_
   refine pl_val (want_no rfl) (some 23) rfl (.int .u64 (pb f m)) (fun w => Eq.trans (b := .ok (.value (.int .u64 (bits .and .u64 (f (m / 16 * 1) / 2 ^ (m % 16)) 1))) w) (by kernel_rfl) (by rw [run_and1 hsh.1 hsh.2, hpb])) ?_
   refine pl_val (want_no rfl) (some 24) rfl (.bool true) (fun w => Eq.trans (b := .ok (.value (.bool (decide (pb f m = 1)))) w) (by kernel_rfl) (by rw [decide_eq_true hbit])) ?_
   refine pl_nil ?_
   refine au_then ?_
   refine cT ?_
   refine rg_lit ?_
   refine pl_load M (want_no rfl) (some 25) rfl 52 _ rfl 3 g4 0 (by kernel_rfl) 64 52 (raddV (racc q f j) (racc q f j)).f rfl 64 (raddV (racc q f j) (racc q f j)).f (Part.all _ _) (by decide) _ Tryz.underlying52 rfl inz52 ?_
   refine zA M 26 0 rfl ?_
   refine pl_call M (want_no rfl) (some 27) rfl 44 #[.agg (arr 64 (raddV (racc q f j) (racc q f j)).f), .agg (arr 64 q.f)] (.agg (arr 64 (raddV (raddV (racc q f j) (racc q f j)) q).f)) (fun _ => by kernel_rfl) (fun w => c_radd (raddV (racc q f j) (racc q f j)) q w (raddV_ok _ _) hq) fun w9 M => ?_
   refine pl_put M (want_no rfl) rfl 52 _ _ rfl 3 g4 (by kernel_rfl) 64 52 (raddV (racc q f j) (racc q f j)).f (raddV (raddV (racc q f j) (racc q f j)) q).f rfl (by kernel_rfl) inz52 fun w10 M => ?_
   refine pl_nil ?_
   refine au_block ?_
   refine au_then ?_
   refine rg_lit ?_
   refine pl_val (want_no rfl) (some 10) rfl (.int .i64 (m : Int)) (fun _ => by kernel_rfl) ?_
   refine pl_val (want_no rfl) (some 11) rfl (.int .i64 ((m : Int) - 1)) (fun w => Eq.trans (b := .ok (.value (.int .i64 (IntKind.wrap .i64 ((m : Int) - 1)))) w) (by kernel_rfl) (by rw [wrap64 (by omega) (by omega)])) ?_
   refine pl_val (want_no rfl) (some 6) rfl (.int .i64 ((m : Int) - 1)) (fun _ => by kernel_rfl) ?_
   refine pl_nil ?_
   refine au_then ?_
   refine ⟨(m : Int) - 1, fun k => ([.int .i64 (m : Int), .bool true, .int .i64 (m : Int), .int .i64 ((m : Int) - 1), .agg (arr 64 (racc q f j).f), .agg (arr 64 (racc q f j).f), .agg (arr 64 (raddV (racc q f j) (racc q f j)).f), .int .i64 (m : Int), .int .i64 ((m / 16 : Nat) : Int), .pointer (some ⟨g2, m / 16 * 1, none⟩), .int .u64 (f (m / 16 * 1)), .int .i64 (m : Int), .int .i64 ((m % 16 : Nat) : Int), .int .u64 ((m % 16 : Nat) : Int), .int .u64 (f (m / 16 * 1) / 2 ^ (m % 16)), .int .u64 (pb f m), .bool true, .agg (arr 64 (raddV (racc q f j) (racc q f j)).f), .agg (arr 64 q.f), .agg (arr 64 (raddV (raddV (racc q f j) (racc q f j)) q).f)] : List Value).getD (k - 8) undef, by omega, by kernel_rfl, ?_⟩
   rw [hA]
   exact M
  ·have hA : racc q f (j + 1) = raddV (racc q f j) (racc q f j) := by
    show (if pb f (255 - j) = 1 then raddV (raddV (racc q f j) (racc q f j)) q else raddV (racc q f j) (racc q f j)) = _
    rw [he, if_neg hbit]
   refine wp_seq ?_
   refine wp_seq ?_
   refine rg_lit ?_
   refine pl_val (want_no rfl) (some 8) rfl (.int .i64 (m : Int)) (fun _ => by kernel_rfl) ?_
   refine pl_val (want_no rfl) (some 9) rfl (.bool true) (fun w => Eq.trans (b := .ok (.value (.bool (decide (0 ≤ (m : Int))))) w) (by kernel_rfl) (by rw [decide_eq_true (by omega)])) ?_
   refine pl_nil ?_
   refine au_then ?_
   refine cT ?_
   refine wp_skip ?_
   refine au_then ?_
   refine wp_seq ?_
   refine wp_block ?_
   refine wp_seq ?_
   refine rg_lit ?_
   refine pl_load M (want_no rfl) (some 12) rfl 52 _ rfl 3 g4 0 (by kernel_rfl) 64 52 (racc q f j).f rfl 64 (racc q f j).f (Part.all _ _) (by decide) _ Tryz.underlying52 rfl inz52 ?_
   refine pl_load M (want_no rfl) (some 13) rfl 52 _ rfl 3 g4 0 (by kernel_rfl) 64 52 (racc q f j).f rfl 64 (racc q f j).f (Part.all _ _) (by decide) _ Tryz.underlying52 rfl inz52 ?_
   refine pl_call M (want_no rfl) (some 14) rfl 44 #[.agg (arr 64 (racc q f j).f), .agg (arr 64 (racc q f j).f)] (.agg (arr 64 (raddV (racc q f j) (racc q f j)).f)) (fun _ => by kernel_rfl) (fun w => c_radd (racc q f j) (racc q f j) w (racc_ok q f j) (racc_ok q f j)) fun w11 M => ?_
   refine pl_put M (want_no rfl) rfl 52 _ _ rfl 3 g4 (by kernel_rfl) 64 52 (racc q f j).f (raddV (racc q f j) (racc q f j)).f rfl (by kernel_rfl) inz52 fun w12 M => ?_
   refine pl_nil ?_
   refine au_then ?_
   refine wp_seq ?_
   refine rg_lit ?_
   refine pl_val (want_no rfl) (some 15) rfl (.int .i64 (m : Int)) (fun _ => by kernel_rfl) ?_
   refine pl_val (want_no rfl) (some 16) rfl (.int .i64 ((m / 16 : Nat) : Int)) (fun w => run_bin .quo 3 _ _ rfl (by kernel_rfl) (by kernel_rfl) (fun _ => by kernel_rfl) (fun w => run_quo16 m (by omega) w) w) ?_
   refine pl_val (want_no rfl) (some 17) rfl (.pointer (some ⟨g2, m / 16 * 1, none⟩)) (fun w => run_ix 36 16 1 34 Tryz.underlying36 inz34 _ _ rfl g2 (by kernel_rfl) .i64 (m / 16) (by kernel_rfl) (by omega) w) ?_
   refine pl_loadw M (want_no rfl) (some 18) rfl 34 _ rfl 1 g2 (m / 16 * 1) (by kernel_rfl) 16 36 f rfl (by omega) (fun _ => by kernel_rfl) ?_
   refine pl_val (want_no rfl) (some 19) rfl (.int .i64 (m : Int)) (fun _ => by kernel_rfl) ?_
   refine pl_val (want_no rfl) (some 20) rfl (.int .i64 ((m % 16 : Nat) : Int)) (fun w => run_bin .rem 3 _ _ rfl (by kernel_rfl) (by kernel_rfl) (fun _ => by kernel_rfl) (fun w => run_rem16 m w) w) ?_
   refine pl_val (want_no rfl) (some 21) rfl (.int .u64 ((m % 16 : Nat) : Int)) (fun w => run_conv 3 39 _ rfl (by kernel_rfl) (fun w => run_toU (m % 16) (by omega) w) w) ?_
   refine pl_val (want_no rfl) (some 22) rfl (.int .u64 (f (m / 16 * 1) / 2 ^ (m % 16))) (fun w => run_bin .shr 34 _ _ rfl (by kernel_rfl) (by kernel_rfl) (fun _ => by kernel_rfl) (fun w => run_shrU _ _ (by omega) w) w) ?_
   refine pl_val (want_no rfl) (some 23) rfl (.int .u64 (pb f m)) (fun w => Eq.trans (b := .ok (.value (.int .u64 (bits .and .u64 (f (m / 16 * 1) / 2 ^ (m % 16)) 1))) w) (by kernel_rfl) (by rw [run_and1 hsh.1 hsh.2, hpb])) ?_
   refine pl_val (want_no rfl) (some 24) rfl (.bool false) (fun w => Eq.trans (b := .ok (.value (.bool (decide (pb f m = 1)))) w) (by kernel_rfl) (by rw [decide_eq_false hbit])) ?_
   refine pl_nil ?_
   refine au_then ?_
   refine cF ?_
   refine wp_skip ?_
   refine au_block ?_
   refine au_then ?_
   refine rg_lit ?_
   refine pl_val (want_no rfl) (some 10) rfl (.int .i64 (m : Int)) (fun _ => by kernel_rfl) ?_
   refine pl_val (want_no rfl) (some 11) rfl (.int .i64 ((m : Int) - 1)) (fun w => Eq.trans (b := .ok (.value (.int .i64 (IntKind.wrap .i64 ((m : Int) - 1)))) w) (by kernel_rfl) (by rw [wrap64 (by omega) (by omega)])) ?_
   refine pl_val (want_no rfl) (some 6) rfl (.int .i64 ((m : Int) - 1)) (fun _ => by kernel_rfl) ?_
   refine pl_nil ?_
   refine au_then ?_
   refine ⟨(m : Int) - 1, fun k => ([.int .i64 (m : Int), .bool true, .int .i64 (m : Int), .int .i64 ((m : Int) - 1), .agg (arr 64 (racc q f j).f), .agg (arr 64 (racc q f j).f), .agg (arr 64 (raddV (racc q f j) (racc q f j)).f), .int .i64 (m : Int), .int .i64 ((m / 16 : Nat) : Int), .pointer (some ⟨g2, m / 16 * 1, none⟩), .int .u64 (f (m / 16 * 1)), .int .i64 (m : Int), .int .i64 ((m % 16 : Nat) : Int), .int .u64 ((m % 16 : Nat) : Int), .int .u64 (f (m / 16 * 1) / 2 ^ (m % 16)), .int .u64 (pb f m), .bool false, v 25, v 26, v 27] : List Value).getD (k - 8) undef, by omega, by kernel_rfl, ?_⟩
   rw [hA]
   exact M
 ·intro a w1 hI
  obtain ⟨m, v, hm, rfl, M⟩ := hI
  refine wp_seq ?_
  refine wp_seq ?_
  refine rg_lit ?_
  refine pl_val (want_no rfl) (some 8) rfl (.int .i64 m) (fun _ => by kernel_rfl) ?_
  refine pl_val (want_no rfl) (some 9) rfl (.bool false) (fun w => Eq.trans (b := .ok (.value (.bool (decide (0 ≤ m)))) w) (by kernel_rfl) (by rw [decide_eq_false (by omega)])) ?_
  refine pl_nil ?_
  refine au_then ?_
  refine cF ?_
  refine wp_exit ?_
  refine au_then_exit ?_
  refine au_then_exit ?_
  refine au_block_exit ?_
  refine au_then ?_
  refine wp_seq ?_
  refine rg_lit ?_
  refine pl_load M (want_no rfl) (some 28) rfl 52 _ rfl 3 g4 0 (by kernel_rfl) 64 52 (racc q f 256).f rfl 64 (racc q f 256).f (Part.all _ _) (by decide) _ Tryz.underlying52 rfl inz52 ?_
  refine pl_put M (want_no rfl) rfl 52 _ _ rfl 2 g3 (by kernel_rfl) 64 52 (fun _ => 0) (racc q f 256).f rfl (by kernel_rfl) inz52 fun w13 M => ?_
  refine pl_nil ?_
  refine au_then ?_
  refine wp_ret ?_
  exact bodyPost_ret (v := .agg (arr 64 (racc q f 256).f)) (results_cell_row Tryz.results21 _ _ g3 52 (arr 64 (racc q f 256).f) (0, 0) _ (by kernel_rfl) (M.get 2 rfl) Tryz.underlying52 rfl (by rw [arr_size]; exact inz52)) (by kernel_rfl) ⟨rfl, M.old⟩
theorem c_rmul (q : RQ) (f : Nat → Int) (w : World) (hq : q.Ok) (hf : Dig f 16) : Cs 21 #[.agg (arr 64 q.f), .agg (arr 16 f)] w (.agg (arr 64 (racc q f 256).f)) := rmulW_gen q f w ⟨trivial⟩ hq hf
end Go.Proofs.YtmhfmhmpoobmlaaGreatDoor
