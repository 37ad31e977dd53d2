/- Part 6 of the walks and facts. -/
import Derived.Test.YtmhfmhmpoobmlaaGreatDoorCbDef
import Derived.Test.YtmhfmhmpoobmlaaGreatDoorCb2
import Derived.Test.YtmhfmhmpoobmlaaGreatDoorCb3
import Derived.Test.YtmhfmhmpoobmlaaGreatDoorCb4
import Derived.Test.YtmhfmhmpoobmlaaGreatDoorCb5
import Derived.BigQuiet
import Derived.Deep.Cut
import Derived.Deep.RegionWith
import Derived.Laws.Bits64b
import Derived.Laws.BitsAllLaws
import Derived.Laws.BytesString
import Derived.Laws.Externs
import Derived.Laws.Rows
import Derived.Laws.StructEq
import Derived.Lib.Mul64
import Derived.Test.YtmhfmhmpoobmlaaGreatDoorRows
import Derived.WalkKit
import Derived.WalkLawsBesides
import Derived.WalkSpells
set_option maxHeartbeats 4000000
set_option maxRecDepth 100000
namespace Go.Proofs.YtmhfmhmpoobmlaaGreatDoor
open Go.RowKit
theorem pmod (M : Int) : 0 ≤ M % Pm ∧ M % Pm < Pm := em M
def toF (a : Int) : Fq := ⟨(a % Pm).toNat, by have := pmod a; have := pN_P; omega⟩
theorem toF_val (a : Int) : (((toF a).val : Nat) : Int) = a % Pm := by
 show (((a % Pm).toNat : Nat) : Int) = a % Pm
 have := pmod a
 omega
theorem fq_int {a b : Fq} (h : ((a.val : Nat) : Int) = ((b.val : Nat) : Int)) : a = b := Fin.ext (by omega)
theorem toF_mod (a : Int) : toF (a % Pm) = toF a := by
 refine fq_int ?_
 rw [toF_val, toF_val, Int.emod_emod_of_dvd _ (Int.dvd_refl _)]
theorem toF_add (a b : Int) : toF (a + b) = toF a + toF b := by
 refine fq_int ?_
 rw [toF_val, Fin.val_add, Int.natCast_emod, Int.natCast_add, toF_val, toF_val, pN_P, ← Int.add_emod]
theorem toF_mul (a b : Int) : toF (a * b) = toF a * toF b := by
 refine fq_int ?_
 rw [toF_val, Fin.val_mul, Int.natCast_emod, Int.natCast_mul, toF_val, toF_val, pN_P, ← Int.mul_emod]
theorem toF_sub (a b : Int) : toF (a - b) = toF a - toF b := by
 have h := toF_add (a - b) b
 rw [show a - b + b = a by omega] at h
 rw [h]
 generalize toF (a - b) = u
 generalize toF b = v
 grind
theorem toF_inj {a b : Int} (ha : 0 ≤ a ∧ a < Pm) (hb : 0 ≤ b ∧ b < Pm) (h : toF a = toF b) : a = b := by
 have h2 := congrArg (fun x : Fq => ((x.val : Nat) : Int)) h
 simp only [toF_val] at h2
 rwa [Int.emod_eq_of_lt ha.1 ha.2, Int.emod_eq_of_lt hb.1 hb.2] at h2
theorem toF_zero : toF 0 = 0 := by decide +kernel
theorem toF_one : toF 1 = 1 := by decide +kernel
theorem toF_cg {a b : Int} (h : Cg a b) : toF a = toF b := by
 rw [← toF_mod a, ← toF_mod b, h.emod]
theorem toF_neg (a : Int) : toF (-a) = - toF a := by
 have h := toF_sub 0 a
 rw [toF_zero, Int.zero_sub] at h
 rw [h]
 generalize toF a = u
 grind
theorem toF_nz {a : Int} : toF a = 0 ↔ a % Pm = 0 := by
 constructor
 ·intro h
  have h2 := congrArg (fun x : Fq => ((x.val : Nat) : Int)) h
  simp only [toF_val] at h2
  exact h2
 ·intro h
  rw [← toF_mod, h, toF_zero]
theorem toF_eq {a b : Int} : toF a = toF b ↔ a % Pm = b % Pm := by
 constructor
 ·intro h
  have h2 := congrArg (fun x : Fq => ((x.val : Nat) : Int)) h
  simpa only [toF_val] using h2
 ·intro h
  rw [← toF_mod, h, toF_mod]
theorem tm (x y : E5) : toF (mulF x y).n = toF x.n * toF y.n := by rw [toF_cg (mulF_n x y), toF_mul]
theorem ta (x y : E5) : toF (addF x y).n = toF x.n + toF y.n := by rw [toF_cg (addF_n x y), toF_add]
theorem ts (x y : E5) : toF (subF x y).n = toF x.n - toF y.n := by rw [toF_cg (subF_n x y), toF_sub]
theorem t1 : toF (smallF 1).n = 1 := by rw [toF_cg (smallF_n 1), toF_one]
theorem pow_up (z : Int) (n m : Nat) (h : m = n + 1) : toF z * toF (z ^ n) = toF (z ^ m) := by
 subst h
 rw [← toF_mul, Int.pow_succ, Int.mul_comm]
theorem inv_pow {z : Int} (h : toF z ≠ 0) : toF z * toF (z ^ (2 ^ 255 - 21)) = 1 := by
 have hv : 0 < (toF z).val := Nat.pos_of_ne_zero fun e => h (Fin.ext (by rw [e]; rfl))
 have hf := fermatN hv (toF z).isLt
 have e1 : toF z * toF (z ^ (2 ^ 255 - 21)) = toF (z ^ (2 ^ 255 - 20)) := pow_up z (2 ^ 255 - 21) (2 ^ 255 - 20) (by decide)
 rw [e1]
 refine fq_int ?_
 rw [toF_val]
 have hz : Cg z (((toF z).val : Nat) : Int) := by
  rw [toF_val]
  exact (cg_emod z).symm
 rw [(hz.pow _).emod, ← Int.natCast_pow, ← pN_P, ← Int.natCast_emod, show (2 ^ 255 - 20 : Nat) = pN - 1 by decide, hf]
 rfl
theorem ti {x : E5} (h : toF x.n ≠ 0) : toF x.n * toF (invF x).n = 1 := by
 rw [toF_cg (invF_pow x)]
 exact inv_pow h
theorem tp {z : Int} (h : toF z ≠ 0) : toF z * toF (pwm z (xbit 255 21) 255) = 1 := by
 rw [toF_cg (pwm_pow z (xbit 255 21) 255), ex255]
 exact inv_pow h
structure RepF (X Y Z T : Fq) (P : Pt) : Prop where
 z : Z ≠ 0
 x : X = P.x * Z
 y : Y = P.y * Z
 t : T = P.x * P.y * Z
theorem al1 {D sx Z1 Z2 x1 y1 x2 y2 : Fq} (h : sx * (1 + D) = x1 * y2 + y1 * x2) : (y1 * Z1 + x1 * Z1) * (y2 * Z2 + x2 * Z2) - (y1 * Z1 - x1 * Z1) * (y2 * Z2 - x2 * Z2) = sx * (Z1 * (Z2 + Z2) + D * (Z1 * (Z2 + Z2))) := by
 grind
theorem al2 {D sy Z1 Z2 x1 y1 x2 y2 : Fq} (h : sy * (1 - D) = y1 * y2 + x1 * x2) : (y1 * Z1 + x1 * Z1) * (y2 * Z2 + x2 * Z2) + (y1 * Z1 - x1 * Z1) * (y2 * Z2 - x2 * Z2) = sy * (Z1 * (Z2 + Z2) - D * (Z1 * (Z2 + Z2))) := by
 grind
theorem al3 (d Z1 Z2 x1 y1 x2 y2 : Fq) : d * (x1 * y1 * Z1) * (x2 * y2 * Z2 + x2 * y2 * Z2) = d * (x1 * x2 * (y1 * y2)) * (Z1 * (Z2 + Z2)) := by
 grind
theorem al4 (D c : Fq) : c - D * c = (1 - D) * c := by grind
theorem al5 (D c : Fq) : c + D * c = (1 + D) * c := by grind
theorem al6 {e f g h sx sy : Fq} (he : e = sx * g) (hh : h = sy * f) : e * f = sx * (f * g) ∧ g * h = sy * (f * g) ∧ e * h = sx * sy * (f * g) := by
 subst he
 subst hh
 refine ⟨?_, ?_, ?_⟩ <;> grind
theorem dbl_ne {Z1 Z2 : Fq} (h1 : Z1 ≠ 0) (h2 : Z2 ≠ 0) : Z1 * (Z2 + Z2) ≠ 0 := by
 have e : Z2 + Z2 = 2 * Z2 := by clear h1 h2; grind
 rw [e]
 exact fq_ne h1 (fq_ne two_ne h2)
theorem RepF.plus {X1 Y1 Z1 T1 X2 Y2 Z2 T2 : Fq} {P Q : Pt} (p : RepF X1 Y1 Z1 T1 P) (q : RepF X2 Y2 Z2 T2 Q) :
  RepF (((Y1 + X1) * (Y2 + X2) - (Y1 - X1) * (Y2 - X2)) * (Z1 * (Z2 + Z2) - dE * T1 * (T2 + T2))) ((Z1 * (Z2 + Z2) + dE * T1 * (T2 + T2)) * ((Y1 + X1) * (Y2 + X2) + (Y1 - X1) * (Y2 - X2)))
   ((Z1 * (Z2 + Z2) - dE * T1 * (T2 + T2)) * (Z1 * (Z2 + Z2) + dE * T1 * (T2 + T2))) (((Y1 + X1) * (Y2 + X2) - (Y1 - X1) * (Y2 - X2)) * ((Y1 + X1) * (Y2 + X2) + (Y1 - X1) * (Y2 - X2))) (P.add Q) := by
 obtain ⟨pz, rfl, rfl, rfl⟩ := p
 obtain ⟨qz, rfl, rfl, rfl⟩ := q
 rw [al3 dE Z1 Z2 P.x P.y Q.x Q.y]
 have he := al1 (Z1 := Z1) (Z2 := Z2) (sx_mul P Q)
 have hh := al2 (Z1 := Z1) (Z2 := Z2) (sy_mul P Q)
 have hf := fq_ne (den_minus P.on Q.on) (dbl_ne pz qz)
 have hg := fq_ne (den_plus P.on Q.on) (dbl_ne pz qz)
 rw [← al4] at hf
 rw [← al5] at hg
 obtain ⟨e1, e2, e3⟩ := al6 he hh
 exact ⟨fq_ne hf hg, e1, e2, e3⟩
theorem bl1 {d x y Z : Fq} (h : y * y - x * x = 1 + d * (x * x * (y * y))) : x * Z * (x * Z) - y * Z * (y * Z) = -((1 + d * (x * x * (y * y))) * (Z * Z)) := by grind
theorem bl2 {d x y Z : Fq} (h : y * y - x * x = 1 + d * (x * x * (y * y))) : Z * (Z + Z) + (x * Z * (x * Z) - y * Z * (y * Z)) = (1 - d * (x * x * (y * y))) * (Z * Z) := by grind
theorem bl3 (x y Z : Fq) : x * Z * (x * Z) + y * Z * (y * Z) - (x * Z + y * Z) * (x * Z + y * Z) = -((x * y + y * x) * (Z * Z)) := by grind
theorem bl4 (x y Z : Fq) : x * Z * (x * Z) + y * Z * (y * Z) = (y * y + x * x) * (Z * Z) := by grind
theorem neg_ne {a : Fq} (h : a ≠ 0) : -a ≠ 0 := fun e => h (by clear h; grind)
theorem bl6 (s u c : Fq) : -(s * u * c) = s * -(u * c) := by grind
theorem bl7 (s u c : Fq) : s * u * c = s * (u * c) := by grind
theorem RepF.dbl {X Y Z T : Fq} {P : Pt} (p : RepF X Y Z T P) :
  RepF ((X * X + Y * Y - (X + Y) * (X + Y)) * (Z * (Z + Z) + (X * X - Y * Y))) ((X * X - Y * Y) * (X * X + Y * Y)) ((Z * (Z + Z) + (X * X - Y * Y)) * (X * X - Y * Y)) ((X * X + Y * Y - (X + Y) * (X + Y)) * (X * X + Y * Y)) (P.add P) := by
 obtain ⟨pz, rfl, rfl, rfl⟩ := p
 have hon := P.on
 unfold On at hon
 have hg := bl1 (Z := Z) hon
 have hf := bl2 (Z := Z) hon
 have he : P.x * Z * (P.x * Z) + P.y * Z * (P.y * Z) - (P.x * Z + P.y * Z) * (P.x * Z + P.y * Z) = sx P P * (P.x * Z * (P.x * Z) - P.y * Z * (P.y * Z)) := by
  rw [bl3, hg, ← sx_mul P P, bl6]
 have hh : P.x * Z * (P.x * Z) + P.y * Z * (P.y * Z) = sy P P * (Z * (Z + Z) + (P.x * Z * (P.x * Z) - P.y * Z * (P.y * Z))) := by
  rw [bl4, hf, ← sy_mul P P, bl7]
 obtain ⟨e1, e2, e3⟩ := al6 he hh
 have zz := fq_ne pz pz
 have nf := fq_ne (den_minus P.on P.on) zz
 have ng := neg_ne (fq_ne (den_plus P.on P.on) zz)
 rw [← hf] at nf
 rw [← hg] at ng
 exact ⟨fq_ne nf ng, e1, e2, e3⟩
theorem cl1 {D sx Z1 Z2 x1 y1 x2 y2 : Fq} (h : sx * (1 + D) = x1 * y2 + y1 * x2) : x1 * Z1 * (y2 * Z2) + y1 * Z1 * (x2 * Z2) = sx * (Z1 * Z2 + D * (Z1 * Z2)) := by grind
theorem cl2 {D sy Z1 Z2 x1 y1 x2 y2 : Fq} (h : sy * (1 - D) = y1 * y2 + x1 * x2) : y1 * Z1 * (y2 * Z2) + x1 * Z1 * (x2 * Z2) = sy * (Z1 * Z2 - D * (Z1 * Z2)) := by grind
theorem cl3 (d Z1 Z2 x1 y1 x2 y2 : Fq) : d * (x1 * y1 * Z1) * (x2 * y2 * Z2) = d * (x1 * x2 * (y1 * y2)) * (Z1 * Z2) := by grind
theorem RepF.rplus {X1 Y1 Z1 T1 X2 Y2 Z2 T2 : Fq} {P Q : Pt} (p : RepF X1 Y1 Z1 T1 P) (q : RepF X2 Y2 Z2 T2 Q) :
  RepF ((X1 * Y2 + Y1 * X2) * (Z1 * Z2 - dE * T1 * T2)) ((Z1 * Z2 + dE * T1 * T2) * (Y1 * Y2 + X1 * X2)) ((Z1 * Z2 - dE * T1 * T2) * (Z1 * Z2 + dE * T1 * T2)) ((X1 * Y2 + Y1 * X2) * (Y1 * Y2 + X1 * X2)) (P.add Q) := by
 obtain ⟨pz, rfl, rfl, rfl⟩ := p
 obtain ⟨qz, rfl, rfl, rfl⟩ := q
 rw [cl3 dE Z1 Z2 P.x P.y Q.x Q.y]
 have he := cl1 (Z1 := Z1) (Z2 := Z2) (sx_mul P Q)
 have hh := cl2 (Z1 := Z1) (Z2 := Z2) (sy_mul P Q)
 have hf := fq_ne (den_minus P.on Q.on) (fq_ne pz qz)
 have hg := fq_ne (den_plus P.on Q.on) (fq_ne pz qz)
 rw [← al4] at hf
 rw [← al5] at hg
 obtain ⟨e1, e2, e3⟩ := al6 he hh
 exact ⟨fq_ne hf hg, e1, e2, e3⟩
theorem el1 {x u Z1 Z2 : Fq} (h : x * Z1 * Z2 = u * Z2 * Z1) : x * (Z1 * Z2) = u * (Z1 * Z2) := by grind
theorem RepF.eq {X1 Y1 Z1 T1 X2 Y2 Z2 T2 : Fq} {P Q : Pt} (p : RepF X1 Y1 Z1 T1 P) (q : RepF X2 Y2 Z2 T2 Q) : (X1 * Z2 = X2 * Z1 ↔ P.x = Q.x) ∧ (Y1 * Z2 = Y2 * Z1 ↔ P.y = Q.y) := by
 obtain ⟨pz, rfl, rfl, rfl⟩ := p
 obtain ⟨qz, rfl, rfl, rfl⟩ := q
 have hz := fq_ne pz qz
 refine ⟨⟨fun h => fq_cancel hz (el1 h), fun h => ?_⟩, ⟨fun h => fq_cancel hz (el1 h), fun h => ?_⟩⟩
 ·rw [h]
  clear h
  grind
 ·rw [h]
  clear h
  grind
theorem fl1 {x Z I : Fq} (h : Z * I = 1) : x * Z * I = x := by grind
structure Rep (p : P5) (P : Pt) : Prop where
 ok : p.Ok
 r : RepF (toF p.x.n) (toF p.y.n) (toF p.z.n) (toF p.t.n) P
structure RRep (q : RQ) (P : Pt) : Prop where
 ok : q.Ok
 r : RepF (toF q.x) (toF q.y) (toF q.z) (toF q.t) P
theorem dF_t : toF dF.n = dE := by
 unfold dF
 rw [toF_cg (ofF_n dBy), ← toF_mod, dBy_val]
 decide +kernel
theorem DI_t : toF DI = dE := by decide +kernel
theorem Rep.sum {p q : P5} {P Q : Pt} (hp : Rep p P) (hq : Rep q Q) : Rep (sumF p q) (P.add Q) := by
 refine ⟨sumF_ok hp.ok hq.ok, ?_⟩
 unfold sumF
 simp only [tm, ta, ts, dF_t]
 exact hp.r.plus hq.r
theorem Rep.dbl {p : P5} {P : Pt} (hp : Rep p P) : Rep (dblF p) (P.add P) := by
 refine ⟨dblF_ok hp.ok, ?_⟩
 unfold dblF
 simp only [tm, ta, ts]
 exact hp.r.dbl
theorem Rep.none {p : P5} {P : Pt} (hp : Rep p P) : noneB p = false := by
 unfold noneB
 have := mt toF_nz.2 hp.r.z
 simpa using this
theorem Rep.add {p q : P5} {P Q : Pt} (hp : Rep p P) (hq : Rep q Q) : Rep (addV p q) (P.add Q) := by
 unfold addV
 rw [hp.none, hq.none]
 simp only [Bool.false_eq_true, if_false]
 exact hp.sum hq
theorem eqE_iff (x y : E5) : eqE x y = true ↔ toF x.n = toF y.n := by
 unfold eqE
 rw [beq_iff_eq, toF_eq]
theorem Rep.same {p q : P5} {P Q : Pt} (hp : Rep p P) (hq : Rep q Q) : sameV p q = true ↔ P = Q := by
 unfold sameV
 rw [hp.none, hq.none]
 simp only [Bool.not_false, Bool.true_and, Bool.and_eq_true, eqE_iff, tm]
 rw [(hp.r.eq hq.r).1, (hp.r.eq hq.r).2]
 exact ⟨fun h => Pt.ext h.1 h.2, fun h => by rw [h]; exact ⟨rfl, rfl⟩⟩
theorem zero_t : toF zeroE.n = 0 := by rw [zeroE_n, toF_zero]
theorem zero5_rep : Rep zero5 zeroP := by
 refine ⟨zero5_ok, ?_⟩
 unfold zero5 pointF
 simp only [tm, t1, zero_t]
 refine ⟨one_ne, ?_, ?_, ?_⟩ <;> decide +kernel
theorem Rep.oct {p : P5} {P : Pt} (hp : Rep p P) : Rep (oct p) (((P.add P).add (P.add P)).add ((P.add P).add (P.add P))) := hp.dbl.dbl.dbl
theorem Rep.small {p : P5} {P : Pt} (hp : Rep p P) : smallV p = true ↔ ((P.add P).add (P.add P)).add ((P.add P).add (P.add P)) = zeroP := by
 unfold smallV
 rw [hp.none]
 simp only [Bool.not_false, Bool.true_and]
 exact hp.oct.same zero5_rep
theorem tmI (a b : Int) : toF (mI a b) = toF a * toF b := by unfold mI; rw [toF_mod, toF_mul]
theorem tpI (a b : Int) : toF (pI a b) = toF a + toF b := by unfold pI; rw [toF_mod, toF_add]
theorem tsI (a b : Int) : toF (sI a b) = toF a - toF b := by unfold sI; rw [toF_mod, toF_sub]
theorem tnI (a : Int) : toF (nI a) = - toF a := by unfold nI; rw [toF_mod, toF_neg]
theorem tvI {a : Int} (h : toF a ≠ 0) : toF a * toF (vI a) = 1 := tp h
theorem RRep.add {p q : RQ} {P Q : Pt} (hp : RRep p P) (hq : RRep q Q) : RRep (raddV p q) (P.add Q) := by
 refine ⟨raddV_ok _ _, ?_⟩
 unfold raddV rteesV
 simp only [tmI, tpI, tsI, DI_t]
 exact hp.r.rplus hq.r
theorem mI_eq (a b c d : Int) : (mI a b == mI c d) = true ↔ toF a * toF b = toF c * toF d := by
 rw [beq_iff_eq, ← toF_mul, ← toF_mul, toF_eq]
 exact Iff.rfl
theorem RRep.same {p q : RQ} {P Q : Pt} (hp : RRep p P) (hq : RRep q Q) : rsameV p q = true ↔ P = Q := by
 unfold rsameV
 rw [Bool.and_eq_true, mI_eq, mI_eq, (hp.r.eq hq.r).1, (hp.r.eq hq.r).2]
 exact ⟨fun h => Pt.ext h.1 h.2, fun h => by rw [h]; exact ⟨rfl, rfl⟩⟩
theorem rzero_rep : RRep rzeroV zeroP := by
 refine ⟨rzeroV_ok, ?_⟩
 unfold rzeroV
 simp only [toF_zero, toF_one]
 refine ⟨one_ne, ?_, ?_, ?_⟩ <;> decide +kernel
theorem RRep.small {p : RQ} {P : Pt} (hp : RRep p P) : rsmallV p = true ↔ ((P.add P).add (P.add P)).add ((P.add P).add (P.add P)) = zeroP := by
 unfold rsmallV roct
 exact ((hp.add hp).add (hp.add hp) |>.add ((hp.add hp).add (hp.add hp))).same rzero_rep
def ptS (P : Pt) : ByteArray := encS (((P.x.val : Nat) : Int) % 2 == 1) (lebytes ((P.y.val : Nat) : Int))
theorem Rep.bytes {p : P5} {P : Pt} (hp : Rep p P) : bytesV p = ptS P := by
 have hi := ti hp.r.z
 have ex : (mulF p.x (invF p.z)).n % Pm = ((P.x.val : Nat) : Int) := by
  rw [← toF_val, tm, hp.r.x, fl1 hi]
 have ey : (mulF p.y (invF p.z)).n % Pm = ((P.y.val : Nat) : Int) := by
  rw [← toF_val, tm, hp.r.y, fl1 hi]
 unfold bytesV ptS oddE
 rw [hp.none, ex, ey]
 exact if_neg Bool.false_ne_true
theorem RRep.bytes {p : RQ} {P : Pt} (hp : RRep p P) : rbytesV p = ptS P := by
 have hi := tvI hp.r.z
 have ex : mI p.x (vI p.z) = ((P.x.val : Nat) : Int) := by
  rw [← em_self (mI_bd p.x (vI p.z)), ← toF_val, tmI, hp.r.x, fl1 hi]
 have ey : mI p.y (vI p.z) = ((P.y.val : Nat) : Int) := by
  rw [← em_self (mI_bd p.y (vI p.z)), ← toF_val, tmI, hp.r.y, fl1 hi]
 unfold rbytesV ptS
 rw [ex, ey]
theorem besE_cg (s : ByteArray) : Cg (besE (decY s)).n (aI (rY s)) := by
 have hy : Cg (decY s).n (rY s) := by
  unfold decY rY
  exact (ofF_n (cutS s)).trans (cg_emod _).symm
 have m : ∀ {x : Int} {A : Int}, Cg x A → Cg x (A % Pm) := fun h => h.trans (cg_emod _).symm
 have yy := m ((mulF_n (decY s) (decY s)).trans (hy.mul hy))
 have one := smallF_n 1
 have u := m ((subF_n _ _).trans (yy.sub one))
 have d : Cg dF.n DI := by
  unfold dF
  have h := m (ofF_n dBy)
  rwa [dBy_val] at h
 have dy := m ((mulF_n dF _).trans (d.mul yy))
 have v := m ((addF_n _ _).trans (dy.add one))
 exact m ((mulF_n _ _).trans (u.mul (rinv_val v)))
theorem root_rr (s : ByteArray) : (rootF (besE (decY s))).2 = (rr (aI (rY s))).2 ∧ (rootF (besE (decY s))).1.n % Pm = rX s := by
 have h := root_val (aI_bd (rY s)) (besE_cg s)
 unfold rX
 rw [rr_eq]
 exact h
theorem rr_even (A : Int) : (rr A).1 % 2 = 0 := by
 rw [rr_eq]
 have hP : Pm % 2 = 1 := by decide
 have key : ∀ {U : Int}, 0 ≤ U ∧ U < Pm → (if U % 2 = 1 then (- U) % Pm else U) % 2 = 0 := fun {U} hU => by
  split
  ·rename_i h
   have e : (-U) % Pm = Pm - U := by
    have := Int.add_emod_right (-U) Pm
    rw [← this, show -U + Pm = Pm - U by omega]
    exact Int.emod_eq_of_lt (by omega) (by omega)
   rw [e]
   omega
  ·omega
 unfold rrF
 have h1 := pwm_bd A (xbit 252 2) 252
 have h2 := em (pwm A (xbit 252 2) 252 * rmo.n)
 simp only
 generalize pwm A (xbit 252 2) 252 = U at h1 h2 ⊢
 generalize U * rmo.n % Pm = V at h2 ⊢
 by_cases e : U * U % Pm = A
 ·rw [if_pos e]
  exact key h1
 ·rw [if_neg e]
  by_cases e2 : V * V % Pm = A
  ·rw [if_pos e2]
   exact key h2
  ·rw [if_neg e2]
   rfl
theorem rr_sq {A : Int} (h : (rr A).2 = true) : toF (rr A).1 * toF (rr A).1 = toF A := by
 rw [rr_eq] at h ⊢
 have key : ∀ {U : Int}, toF (if U % 2 = 1 then (- U) % Pm else U) * toF (if U % 2 = 1 then (- U) % Pm else U) = toF (U * U % Pm) := fun {U} => by
  rw [toF_mod, toF_mul]
  split
  ·rw [toF_mod, toF_neg, nn]
  ·rfl
 revert h
 unfold rrF
 simp only
 generalize pwm A (xbit 252 2) 252 = U
 generalize U * rmo.n % Pm = V
 by_cases e : U * U % Pm = A
 ·rw [if_pos e]
  intro _
  exact key.trans (by rw [e])
 ·rw [if_neg e]
  by_cases e2 : V * V % Pm = A
  ·rw [if_pos e2]
   intro _
   exact key.trans (by rw [e2])
  ·rw [if_neg e2]
   intro h
   cases h
theorem decX_n (s : ByteArray) : (decX s).n % Pm = rdecX s := by
 have h := (root_rr s).2
 unfold decX rdecX
 cases oddB s
 ·simp only [Bool.false_eq_true, if_false]
  exact h
 ·simp only [if_true]
  unfold nI
  rw [(negF_n _).emod, ← h]
  exact (Cg.neg (cg_emod _)).symm.emod
theorem dec_eq (s : ByteArray) : decB s = rdecB s := by
 unfold decB rdecB oddE
 rw [decX_n, (root_rr s).1]
 have hX := rX_bd s
 have he : rX s % 2 = 0 := rr_even _
 have hP : Pm % 2 = 1 := by decide
 have hq : ((rdecX s % 2 == 1) == oddB s) = !((rX s == 0) && oddB s) := by
  unfold rdecX
  cases oddB s
  ·simp [he]
  ·simp only [if_true, Bool.and_true]
   unfold nI
   by_cases h0 : rX s = 0
   ·rw [h0]
    decide
   ·have e : (-rX s) % Pm = Pm - rX s := by
     have := Int.add_emod_right (-rX s) Pm
     rw [← this, show -rX s + Pm = Pm - rX s by omega]
     exact Int.emod_eq_of_lt (by omega) (by omega)
    rw [e]
    have h1 : (Pm - rX s) % 2 = 1 := by omega
    simp [h1, h0]
 rw [hq]
theorem on_ex {d x y v : Fq} (hv : (d * (y * y) + 1) * v = 1) (hx : x * x = (y * y - 1) * v) : y * y - x * x = 1 + d * (x * x * (y * y)) := by grind
theorem den0 (y : Fq) : dE * (y * y) + 1 ≠ 0 := fun h => by
 have h1 : iE * iE = dE * (y * y) := by
  rw [iE_sq]
  generalize dE = d at *
  grind
 have h2 := no_root h1
 rw [h2] at h
 revert h
 decide +kernel
theorem dec_on (s : ByteArray) (h : rdecB s = true) : On (toF (rdecX s)) (toF (rY s)) := by
 unfold rdecB at h
 simp only [Bool.and_eq_true] at h
 have hq := rr_sq h.2.1
 have hx : toF (rdecX s) * toF (rdecX s) = toF (aI (rY s)) := by
  rw [← hq]
  unfold rdecX rX
  split
  ·rw [tnI, nn]
  ·rfl
 have ea : toF (aI (rY s)) = (toF (rY s) * toF (rY s) - 1) * toF (vI (pI (mI DI (mI (rY s) (rY s))) 1)) := by
  unfold aI
  rw [tmI, tsI, tmI, toF_one]
 rw [ea] at hx
 have eb : toF (pI (mI DI (mI (rY s) (rY s))) 1) = dE * (toF (rY s) * toF (rY s)) + 1 := by
  rw [tpI, tmI, tmI, DI_t, toF_one]
 have hv := tvI (a := pI (mI DI (mI (rY s) (rY s))) 1) (by rw [eb]; exact den0 _)
 rw [eb] at hv
 unfold On
 exact on_ex hv hx
noncomputable def decPt (s : ByteArray) (h : rdecB s = true) : Pt := ⟨toF (rdecX s), toF (rY s), dec_on s h⟩
theorem mul_one' (a : Fq) : a = a * 1 := by grind
theorem dec_rep {s : ByteArray} (hs : s.size = 32) (h : rdecB s = true) : Rep (decP s) (decPt s h) := by
 have e : decP s = pointF (decX s) (decY s) := by
  unfold decP
  rw [if_pos hs, dec_eq, h]
  exact if_pos rfl
 rw [e]
 have ex : toF (decX s).n = toF (rdecX s) := by rw [← toF_mod, decX_n]
 have ey : toF (decY s).n = toF (rY s) := by
  unfold decY rY
  rw [toF_cg (ofF_n (cutS s)), toF_mod]
 refine ⟨pointF_ok (decX_ok s) (decY_ok s), ?_⟩
 unfold pointF
 simp only [tm, t1, ex, ey]
 exact ⟨one_ne, mul_one' _, mul_one' _, mul_one' _⟩
theorem rdec_rep {s : ByteArray} (hs : s.size = 32) (h : rdecB s = true) : RRep (rdecP s) (decPt s h) := by
 have e : rdecP s = rofV (rdecX s) (rY s) := by
  unfold rdecP
  rw [if_pos hs, h]
  exact if_pos rfl
 rw [e]
 refine ⟨rofV_ok (rdecX_bd s) (rY_bd s), ?_⟩
 unfold rofV
 simp only [tmI, toF_one]
 exact ⟨one_ne, mul_one' _, mul_one' _, mul_one' _⟩
theorem code_eq (s : ByteArray) : decC s = rdecC s := by
 unfold decC rdecC
 rw [dec_eq]
theorem bs_bt (s : ByteArray) (hs : s.size = 32) (f : Nat → Int) (hf : ∀ i, i < 32 → f i = bt s i) : bs ((List.range 32).map f) = s := by
 have hm : (List.range 32).map f = (List.range 32).map (bt s) := List.map_congr_left fun i hi => hf i (List.mem_range.1 hi)
 rw [hm]
 have hd : (bs ((List.range 32).map (bt s))).data = s.data := by
  apply Array.ext_getElem?
  intro i
  have hs' : s.data.size = 32 := hs
  by_cases hi : i < 32
  ·simp only [bs, List.getElem?_toArray, List.getElem?_map, List.getElem?_range hi, Option.map_some, bt]
   rw [Array.getElem?_eq_getElem (by omega)]
   simp
  ·simp only [bs, List.getElem?_toArray]
   rw [List.getElem?_eq_none (by simp; omega), Array.getElem?_eq_none (by omega)]
 cases s
 unfold bs at *
 simp only at hd
 rw [hd]
theorem baseS_size : baseS.size = 32 := by decide
theorem base_b : rdecB baseS = true := by
 unfold rdecB rX
 rw [rr_eq]
 decide +kernel
noncomputable def baseQ : Pt := decPt baseS base_b
theorem base_rep : Rep base5 baseQ := dec_rep baseS_size base_b
theorem rbase_rep : RRep (rdecP baseS) baseQ := rdec_rep baseS_size base_b
theorem base_c : decC baseS = 0 := by
 unfold decC
 rw [if_pos baseS_size, dec_eq, base_b]
 exact if_pos rfl
theorem c_base (w : World) : Cs 25 #[] w (.agg (arr 20 base5.f)) := c_base_of base_c w
def BX : Int := 15112221349535400772501151409588531511454012693041857206046113283949847762202
def BY : Int := 46316835694926478169428394003475163141307993866256225615783033603165251855960
theorem base_x : rdecX baseS = BX := by
 unfold rdecX rX
 rw [rr_eq]
 decide +kernel
theorem base_y : rY baseS = BY := by decide +kernel
theorem base_q : rdecP baseS = rofV BX BY := by
 unfold rdecP
 rw [if_pos baseS_size, base_b, base_x, base_y]
 exact if_pos rfl
theorem base_big : rsmallV (rofV BX BY) = false := by decide +kernel
theorem base_nsmall : smallV base5 = false := by
 have h1 := base_rep.small
 have h2 := rbase_rep.small
 rw [base_q, base_big] at h2
 cases h : smallV base5
 ·rfl
 ·exact absurd (h2.2 (h1.1 h)) Bool.false_ne_true
structure dbl4F (p r1 r2 r3 r4 : Nat → Int) : Prop where
 h1 : ∀ w, Cs 110 #[.agg (arr 20 p)] w (.agg (arr 20 r1))
 h2 : ∀ w, Cs 110 #[.agg (arr 20 r1)] w (.agg (arr 20 r2))
 h3 : ∀ w, Cs 110 #[.agg (arr 20 r2)] w (.agg (arr 20 r3))
 h4 : ∀ w, Cs 110 #[.agg (arr 20 r3)] w (.agg (arr 20 r4))
theorem dbl4_gen (p r1 r2 r3 r4 : Nat → Int) (w : World) (F : dbl4F p r1 r2 r3 r4)  :
  Cs 61 #[.agg (arr 20 p), .int .i64 4] w (.agg (arr 20 r4)) := by
 go_enter Tryz.func61, Tryz.ntmps61
 have M := Mem.start w
 refine wp_seq ?_
 refine rg_lit ?_
 refine zN M 2 (.cells (arr 20 p) 60) fun g1 w1 M => ?_
 refine zN M 4 (.cells (arr 20 (fun _ => 0)) 60) fun g2 w2 M => ?_
 refine pl_nil ?_
 refine au_then ?_
 refine wp_seq ?_
 refine wp_seq ?_
 refine rg_lit ?_
 refine pl_val (want_no rfl) (some 5) rfl (.int .i64 4) (fun _ => by kernel_rfl) ?_
 refine pl_val (want_no rfl) (some 6) rfl (.int .i64 0) (fun _ => by kernel_rfl) ?_
 refine pl_nil ?_
 refine au_then ?_
 refine wp_block ?_
 refine wp_loop_rounds 5 ?_
 refine rounds_go ?_
 refine wp_seq ?_
 refine rg_lit ?_
 refine pl_val (want_no rfl) (some 7) rfl (.bool true) (fun _ => by kernel_rfl) ?_
 refine pl_nil ?_
 refine au_then ?_
 refine wp_seq ?_
 refine wp_cond_true (by kernel_rfl) ?_
 refine wp_skip ?_
 refine au_then ?_
 refine wp_seq ?_
 refine wp_block ?_
 refine rg_lit ?_
 refine zA M 8 0 rfl ?_
 refine zC M 9 F.h1 fun w3 M => ?_
 refine zW M 0 rfl r1 fun w4 M => ?_
 refine pl_nil ?_
 refine au_block ?_
 refine au_then ?_
 refine rg_lit ?_
 refine pl_val (want_no rfl) (some 10) rfl (.int .i64 1) (fun _ => by kernel_rfl) ?_
 refine pl_val (want_no rfl) (some 6) rfl (.int .i64 1) (fun _ => by kernel_rfl) ?_
 refine pl_nil ?_
 refine au_then ?_
 refine rounds_go ?_
 refine wp_seq ?_
 refine rg_lit ?_
 refine pl_val (want_no rfl) (some 7) rfl (.bool true) (fun _ => by kernel_rfl) ?_
 refine pl_nil ?_
 refine au_then ?_
 refine wp_seq ?_
 refine wp_cond_true (by kernel_rfl) ?_
 refine wp_skip ?_
 refine au_then ?_
 refine wp_seq ?_
 refine wp_block ?_
 refine rg_lit ?_
 refine zA M 8 0 rfl ?_
 refine zC M 9 F.h2 fun w5 M => ?_
 refine zW M 0 rfl r2 fun w6 M => ?_
 refine pl_nil ?_
 refine au_block ?_
 refine au_then ?_
 refine rg_lit ?_
 refine pl_val (want_no rfl) (some 10) rfl (.int .i64 2) (fun _ => by kernel_rfl) ?_
 refine pl_val (want_no rfl) (some 6) rfl (.int .i64 2) (fun _ => by kernel_rfl) ?_
 refine pl_nil ?_
 refine au_then ?_
 refine rounds_go ?_
 refine wp_seq ?_
 refine rg_lit ?_
 refine pl_val (want_no rfl) (some 7) rfl (.bool true) (fun _ => by kernel_rfl) ?_
 refine pl_nil ?_
 refine au_then ?_
 refine wp_seq ?_
 refine wp_cond_true (by kernel_rfl) ?_
 refine wp_skip ?_
 refine au_then ?_
 refine wp_seq ?_
 refine wp_block ?_
 refine rg_lit ?_
 refine zA M 8 0 rfl ?_
 refine zC M 9 F.h3 fun w7 M => ?_
 refine zW M 0 rfl r3 fun w8 M => ?_
 refine pl_nil ?_
 refine au_block ?_
 refine au_then ?_
 refine rg_lit ?_
 refine pl_val (want_no rfl) (some 10) rfl (.int .i64 3) (fun _ => by kernel_rfl) ?_
 refine pl_val (want_no rfl) (some 6) rfl (.int .i64 3) (fun _ => by kernel_rfl) ?_
 refine pl_nil ?_
 refine au_then ?_
 refine rounds_go ?_
 refine wp_seq ?_
 refine rg_lit ?_
 refine pl_val (want_no rfl) (some 7) rfl (.bool true) (fun _ => by kernel_rfl) ?_
 refine pl_nil ?_
 refine au_then ?_
 refine wp_seq ?_
 refine wp_cond_true (by kernel_rfl) ?_
 refine wp_skip ?_
 refine au_then ?_
 refine wp_seq ?_
 refine wp_block ?_
 refine rg_lit ?_
 refine zA M 8 0 rfl ?_
 refine zC M 9 F.h4 fun w9 M => ?_
 refine zW M 0 rfl r4 fun w10 M => ?_
 refine pl_nil ?_
 refine au_block ?_
 refine au_then ?_
 refine rg_lit ?_
 refine pl_val (want_no rfl) (some 10) rfl (.int .i64 4) (fun _ => by kernel_rfl) ?_
 refine pl_val (want_no rfl) (some 6) rfl (.int .i64 4) (fun _ => by kernel_rfl) ?_
 refine pl_nil ?_
 refine au_then ?_
 refine rounds_go ?_
 refine wp_seq ?_
 refine rg_lit ?_
 refine pl_val (want_no rfl) (some 7) rfl (.bool false) (fun _ => by kernel_rfl) ?_
 refine pl_nil ?_
 refine au_then ?_
 refine wp_seq ?_
 refine wp_cond_false (by kernel_rfl) ?_
 refine wp_exit ?_
 refine au_then_exit ?_
 refine au_then_exit ?_
 refine au_block_exit ?_
 refine au_then ?_
 refine wp_seq ?_
 refine rg_lit ?_
 refine zA M 11 0 rfl ?_
 refine zW M 1 rfl r4 fun w11 M => ?_
 refine pl_nil ?_
 refine au_then ?_
 refine wp_ret ?_
 exact bodyPost_ret (v := .agg (arr 20 r4)) (results_cell_row Tryz.results61 _ _ g2 60 (arr 20 r4) (0, 0) _ (by kernel_rfl) (M.get 1 rfl) Tryz.underlying60 rfl (by rw [arr_size]; exact inz60)) (by kernel_rfl) ⟨rfl, M.old⟩
def d4 (p : P5) : P5 := dblF (dblF (dblF (dblF p)))
theorem d4_ok {p : P5} (hp : p.Ok) : (d4 p).Ok := dblF_ok (dblF_ok (dblF_ok (dblF_ok hp)))
theorem c_dbl4 (p : P5) (w : World) (hp : p.Ok) : Cs 61 #[.agg (arr 20 p.f), .int .i64 4] w (.agg (arr 20 (d4 p).f)) :=
 dbl4_gen p.f (dblF p).f (dblF (dblF p)).f (dblF (dblF (dblF p))).f (d4 p).f w { h1 := fun w => c_double p w hp, h2 := fun w => c_double _ w (dblF_ok hp), h3 := fun w => c_double _ w (dblF_ok (dblF_ok hp)), h4 := fun w => c_double _ w (dblF_ok (dblF_ok (dblF_ok hp))) }
def mulT (p : P5) : Nat → P5
 | 0 => zero5
 | k + 1 => sumF (mulT p k) p
theorem mulT_ok {p : P5} (hp : p.Ok) : ∀ k, (mulT p k).Ok
 | 0 => zero5_ok
 | k + 1 => sumF_ok (mulT_ok hp k) hp
def fw (p : P5) (n : Nat) : Nat → Int := fun i => if i / 20 < n then (mulT p (i / 20)).f (i % 20) else 0
theorem fw_part (p : P5) {n k : Nat} (h : k < n) : Part (fw p n) (k * 20) 20 (mulT p k).f := fun i hi => by
 unfold fw
 rw [show (k * 20 + i) / 20 = k by omega, show (k * 20 + i) % 20 = i by omega, if_pos h]
theorem fw_one (p : P5) : arr 320 (fw p 1) = arr 320 (fun i => if i < 20 then zero5.f i else 0) := by
 apply Array.ext_getElem?
 intro i
 by_cases hi : i < 320
 ·rw [arr_get _ _ _ hi, arr_get _ _ _ hi]
  unfold fw
  by_cases h : i < 20
  ·rw [if_pos (by omega), if_pos h, show i / 20 = 0 by omega, show i % 20 = i by omega]
   rfl
  ·rw [if_neg (by omega), if_neg h]
 ·rw [Array.getElem?_eq_none (by rw [arr_size]; omega), Array.getElem?_eq_none (by rw [arr_size]; omega)]
theorem fw_next (p : P5) (k : Nat) : ∀ j, j < 320 → (if k * 20 ≤ j ∧ j < k * 20 + 20 then (mulT p k).f (j - k * 20) else fw p k j) = fw p (k + 1) j := fun j _ => by
 unfold fw
 by_cases h : k * 20 ≤ j ∧ j < k * 20 + 20
 ·rw [if_pos h, show j / 20 = k by omega, if_pos (by omega), show j - k * 20 = j % 20 by omega]
 ·rw [if_neg h]
  by_cases h2 : j / 20 < k
  ·rw [if_pos h2, if_pos (by omega)]
  ·rw [if_neg h2, if_neg (by omega)]
structure fewF (p : P5)  : Prop where
 h0 : True
theorem few_gen (p : P5)  (w : World) (_F : fewF p ) (hp : p.Ok) :
  Cs 59 #[.agg (arr 20 p.f)] w (.agg (arr 320 (fw p (15 + 1)))) := by
 go_enter Tryz.func59, Tryz.ntmps59
 have M := Mem.start w
 refine wp_seq ?_
 refine rg_lit ?_
 refine zN M 1 (.cells (arr 20 p.f) 60) fun g1 w1 M => ?_
 refine zN M 2 (.cells (arr 320 (fun _ => 0)) 85) fun g2 w2 M => ?_
 refine pl_nil ?_
 refine au_then ?_
 refine wp_seq ?_
 refine rg_lit ?_
 refine zC M 5 c_zero fun w3 M => ?_
 refine pl_val (want_no rfl) (some 6) rfl (.agg (arr 320 (fw p 1))) (fun w => Eq.trans (b := .ok (.value (.agg (arr 320 (fun i => if i < 20 then zero5.f i else 0)))) w) (by kernel_rfl) (by rw [fw_one])) ?_
 refine zN M 3 (.cells (arr 320 (fun _ => 0)) 85) fun g3 w4 M => ?_
 refine zW M 2 rfl (fw p 1) fun w5 M => ?_
 refine pl_nil ?_
 refine au_then ?_
 refine wp_seq ?_
 refine wp_seq ?_
 refine rg_lit ?_
 refine pl_val (want_no rfl) (some 4) rfl (.int .i64 1) (fun _ => by kernel_rfl) ?_
 refine pl_nil ?_
 refine au_then ?_
 refine wp_block ?_
 refine au_loop (fun j a w' => ∃ (v : Nat → Value), a = ⟨#[.agg (arr 20 p.f), .pointer (some ⟨g1, 0, none⟩), .pointer (some ⟨g2, 0, none⟩), .pointer (some ⟨g3, 0, none⟩), .int .i64 ((j + 1 : Nat) : Int), .agg (arr 20 zero5.f), .agg (arr 320 (fw p 1)), v 7, v 8, v 9, v 10, v 11, v 12, v 13, v 14, v 15, v 16, v 17, v 18, undef], []⟩ ∧ Mem w [⟨g1, .cells (arr 20 p.f) 60⟩, ⟨g2, .cells (arr 320 (fun _ => 0)) 85⟩, ⟨g3, .cells (arr 320 (fw p (j + 1))) 85⟩] w') 15 ⟨fun _ => undef, by kernel_rfl, M⟩ ?_ ?_
 ·intro j a w1 hj hI
  obtain ⟨v, rfl, M⟩ := hI
  refine wp_seq ?_
  refine wp_seq ?_
  refine rg_lit ?_
  refine pl_val (want_no rfl) (some 7) rfl (.int .i64 ((j + 1 : Nat) : Int)) (fun _ => by kernel_rfl) ?_
  refine pl_val (want_no rfl) (some 8) rfl (.bool true) (fun w => Eq.trans (b := .ok (.value (.bool (decide (((j + 1 : Nat) : Int) < 16)))) w) (by kernel_rfl) (by rw [decide_eq_true (by omega)])) ?_
  refine pl_nil ?_
  refine au_then ?_
  refine wp_cond_true (by kernel_rfl) ?_
  refine wp_skip ?_
  refine au_then ?_
  refine wp_seq ?_
  refine wp_block ?_
  refine rg_tail M 8 (by kernel_rfl) (by kernel_rfl) ?_
  simp only [List.take_succ_cons, List.take_zero]
  refine k_val (want_no rfl) (some 11) rfl (.int .i64 ((j + 1 : Nat) : Int)) (fun _ => by kernel_rfl) ?_
  refine k_val (want_no rfl) (some 12) rfl (.int .i64 ((j + 1 : Nat) : Int)) (fun _ => by kernel_rfl) ?_
  refine k_val (want_no rfl) (some 13) rfl (.int .i64 (j : Int)) (fun w => Eq.trans (b := .ok (.value (.int .i64 (IntKind.wrap .i64 (((j + 1 : Nat) : Int) - 1)))) w) (by kernel_rfl) (by rw [wrap64 (by omega) (by omega)]; rw [show ((j + 1 : Nat) : Int) - 1 = (j : Int) by omega])) ?_
  refine k_val (want_no rfl) (some 14) rfl (.pointer (some ⟨g3, j * 20, none⟩)) (fun w => run_ix 85 16 20 60 Tryz.underlying85 inz60 _ _ rfl g3 (by kernel_rfl) .i64 j (by kernel_rfl) (by omega) w) ?_
  refine k_load M (want_no rfl) (some 15) rfl 60 _ rfl 2 g3 (j * 20) (by kernel_rfl) 320 85 (fw p (j + 1)) rfl 20 (mulT p j).f (fw_part p (by omega)) (by omega) _ Tryz.underlying60 rfl inz60 ?_
  refine wA M 16 0 rfl ?_
  refine k_call (want_no rfl) (some 17) rfl 62 #[.agg (arr 20 (mulT p j).f), .agg (arr 20 p.f)] (.agg (arr 20 (mulT p (j + 1)).f)) (fun _ => by kernel_rfl) (fun w => c_plus (mulT p j) p w (mulT_ok hp j) hp) ?_
  refine k_val (want_no rfl) (some 18) rfl (.pointer (some ⟨g3, (j + 1) * 20, none⟩)) (fun w => run_ix 85 16 20 60 Tryz.underlying85 inz60 _ _ rfl g3 (by kernel_rfl) .i64 (j + 1) (by kernel_rfl) (by omega) w) ?_
  refine kl_nil fun w6 M => ?_
  refine pl_putm M (want_no rfl) rfl 60 _ _ rfl 2 g3 ((j + 1) * 20) (by kernel_rfl) 320 85 (fw p (j + 1)) rfl 20 (mulT p (j + 1)).f (fw p (j + 1 + 1)) (by kernel_rfl) inz60 (by omega) (fw_next p (j + 1)) fun w7 M => ?_
  refine pl_nil ?_
  refine au_block ?_
  refine au_then ?_
  refine rg_lit ?_
  refine pl_val (want_no rfl) (some 9) rfl (.int .i64 ((j + 1 : Nat) : Int)) (fun _ => by kernel_rfl) ?_
  refine pl_val (want_no rfl) (some 10) rfl (.int .i64 ((j + 1 + 1 : Nat) : Int)) (fun w => Eq.trans (b := .ok (.value (.int .i64 (IntKind.wrap .i64 (((j + 1 : Nat) : Int) + 1)))) w) (by kernel_rfl) (by rw [wrap64 (by omega) (by omega)]; rfl)) ?_
  refine pl_val (want_no rfl) (some 4) rfl (.int .i64 ((j + 1 + 1 : Nat) : Int)) (fun _ => by kernel_rfl) ?_
  refine pl_nil ?_
  refine au_then ?_
  exact ⟨fun k => ([.int .i64 ((j + 1 : Nat) : Int), .bool true, .int .i64 ((j + 1 : Nat) : Int), .int .i64 ((j + 1 + 1 : Nat) : Int), .int .i64 ((j + 1 : Nat) : Int), .int .i64 ((j + 1 : Nat) : Int), .int .i64 (j : Int), .pointer (some ⟨g3, j * 20, none⟩), .agg (arr 20 (mulT p j).f), .agg (arr 20 p.f), .agg (arr 20 (mulT p (j + 1)).f), .pointer (some ⟨g3, (j + 1) * 20, none⟩)] : List Value).getD (k - 7) undef, by kernel_rfl, M⟩
 ·intro a w1 hI
  obtain ⟨v, rfl, M⟩ := hI
  refine wp_seq ?_
  refine wp_seq ?_
  refine rg_lit ?_
  refine pl_val (want_no rfl) (some 7) rfl (.int .i64 ((15 + 1 : Nat) : Int)) (fun _ => by kernel_rfl) ?_
  refine pl_val (want_no rfl) (some 8) rfl (.bool false) (fun w => Eq.trans (b := .ok (.value (.bool (decide (((15 + 1 : Nat) : Int) < 16)))) w) (by kernel_rfl) (by rw [decide_eq_false (by omega)])) ?_
  refine pl_nil ?_
  refine au_then ?_
  refine wp_cond_false (by kernel_rfl) ?_
  refine wp_exit ?_
  refine au_then_exit ?_
  refine au_then_exit ?_
  refine au_block_exit ?_
  refine au_then ?_
  refine wp_seq ?_
  refine rg_lit ?_
  refine zA M 19 2 rfl ?_
  refine zW M 1 rfl (fw p (15 + 1)) fun w8 M => ?_
  refine pl_nil ?_
  refine au_then ?_
  refine wp_ret ?_
  exact bodyPost_ret (v := .agg (arr 320 (fw p (15 + 1)))) (results_cell_row Tryz.results59 _ _ g2 85 (arr 320 (fw p (15 + 1))) (0, 0) _ (by kernel_rfl) (M.get 1 rfl) Tryz.underlying85 rfl (by rw [arr_size]; exact inz85)) (by kernel_rfl) ⟨rfl, M.old⟩
theorem c_few (p : P5) (w : World) (hp : p.Ok) : Cs 59 #[.agg (arr 20 p.f)] w (.agg (arr 320 (fw p 16))) := few_gen p w ⟨trivial⟩ hp
def acc (p : P5) (s : ByteArray) : Nat → P5
 | 0 => zero5
 | j + 1 => sumF (d4 (sumF (d4 (acc p s j)) (mulT p (bt s (31 - j) / 16).toNat))) (mulT p (bt s (31 - j) % 16).toNat)
theorem acc_ok {p : P5} (hp : p.Ok) (s : ByteArray) : ∀ j, (acc p s j).Ok
 | 0 => zero5_ok
 | j + 1 => sumF_ok (d4_ok (sumF_ok (d4_ok (acc_ok hp s j)) (mulT_ok hp _))) (mulT_ok hp _)
theorem bits_lo {x : Int} (h0 : 0 ≤ x) (h1 : x < 256) : bits .and .u8 x 15 = x % 16 := by
 obtain ⟨n, rfl⟩ : ∃ n : Nat, x = n := ⟨x.toNat, by omega⟩
 have h : ∀ n : Fin 256, bits .and .u8 ((n.val : Nat) : Int) 15 = ((n.val : Nat) : Int) % 16 := by decide +kernel
 exact h ⟨n, by omega⟩
structure mulYF (p : P5) (k : Nat → Int) (s : ByteArray)  : Prop where
 h0 : True
theorem mulY_gen (p : P5) (k : Nat → Int) (s : ByteArray)  (w : World) (_F : mulYF p k s ) (hp : p.Ok) (hn : noneB p = false) (hs : s.size = 32) (hB : ∀ w, Cs 30 #[.agg (arr 4 k)] w (.string s)) :
  Cs 26 #[.agg (arr 20 p.f), .agg (arr 4 k)] w (.agg (arr 20 (acc p s 32).f)) := by
 go_enter Tryz.func26, Tryz.ntmps26
 have M := Mem.start w
 refine wp_seq ?_
 refine rg_lit ?_
 refine zN M 2 (.cells (arr 20 p.f) 60) fun g1 w1 M => ?_
 refine zN M 3 (.cells (arr 4 k) 44) fun g2 w2 M => ?_
 refine zN M 4 (.cells (arr 20 (fun _ => 0)) 60) fun g3 w3 M => ?_
 refine pl_nil ?_
 refine au_then ?_
 refine wp_seq ?_
 refine wp_seq ?_
 refine rg_lit ?_
 refine zA M 9 0 rfl ?_
 refine pl_call M (want_no rfl) (some 10) rfl 58 #[.agg (arr 20 p.f)] (.bool false) (fun _ => by kernel_rfl) (none_b hp hn) fun w4 M => ?_
 refine pl_nil ?_
 refine au_then ?_
 refine wp_cond_false (by kernel_rfl) ?_
 refine wp_skip ?_
 refine au_then ?_
 refine wp_seq ?_
 refine rg_lit ?_
 refine zA M 12 0 rfl ?_
 refine pl_call M (want_no rfl) (some 13) rfl 59 #[.agg (arr 20 p.f)] (.agg (arr 320 (fw p 16))) (fun _ => by kernel_rfl) (fun w => c_few p w hp) fun w5 M => ?_
 refine zN M 5 (.cells (arr 320 (fun _ => 0)) 85) fun g4 w6 M => ?_
 refine zW M 3 rfl (fw p 16) fun w7 M => ?_
 refine pl_nil ?_
 refine au_then ?_
 refine wp_seq ?_
 refine rg_lit ?_
 refine zA M 14 1 rfl ?_
 refine pl_call M (want_no rfl) (some 15) rfl 30 #[.agg (arr 4 k)] (.string s) (fun _ => by kernel_rfl) hB fun w8 M => ?_
 refine pl_val (want_no rfl) (some 6) rfl (.string s) (fun _ => by kernel_rfl) ?_
 refine pl_nil ?_
 refine au_then ?_
 refine wp_seq ?_
 refine rg_lit ?_
 refine zC M 16 c_zero fun w9 M => ?_
 refine zN M 7 (.cells (arr 20 (fun _ => 0)) 60) fun g5 w10 M => ?_
 refine zW M 4 rfl zero5.f fun w11 M => ?_
 refine pl_nil ?_
 refine au_then ?_
 refine wp_seq ?_
 refine wp_seq ?_
 refine rg_lit ?_
 refine pl_val (want_no rfl) (some 8) rfl (.int .i64 31) (fun _ => by kernel_rfl) ?_
 refine pl_nil ?_
 refine au_then ?_
 refine wp_block ?_
 refine au_loop (fun j a w' => ∃ (m : Int) (v : Nat → Value), m = 31 - (j : Int) ∧ a = ⟨#[.agg (arr 20 p.f), .agg (arr 4 k), .pointer (some ⟨g1, 0, none⟩), .pointer (some ⟨g2, 0, none⟩), .pointer (some ⟨g3, 0, none⟩), .pointer (some ⟨g4, 0, none⟩), .string s, .pointer (some ⟨g5, 0, none⟩), .int .i64 m, .agg (arr 20 p.f), .bool false, undef, .agg (arr 20 p.f), .agg (arr 320 (fw p 16)), .agg (arr 4 k), .string s, .agg (arr 20 zero5.f), v 17, v 18, v 19, v 20, v 21, v 22, v 23, v 24, v 25, v 26, v 27, v 28, v 29, v 30, v 31, v 32, v 33, v 34, v 35, v 36, v 37, v 38, undef], []⟩ ∧ Mem w [⟨g1, .cells (arr 20 p.f) 60⟩, ⟨g2, .cells (arr 4 k) 44⟩, ⟨g3, .cells (arr 20 (fun _ => 0)) 60⟩, ⟨g4, .cells (arr 320 (fw p 16)) 85⟩, ⟨g5, .cells (arr 20 (acc p s j).f) 60⟩] w') 32 ⟨31, fun _ => undef, rfl, by kernel_rfl, M⟩ ?_ ?_
 ·intro j a w1 hj hI
  obtain ⟨m0, v, hm, rfl, M⟩ := hI
  obtain ⟨m, rfl⟩ : ∃ m : Nat, m0 = m := ⟨31 - j, by omega⟩
  have hb := bt_bd s m
  obtain ⟨h, hh⟩ : ∃ h : Nat, bt s m / 16 = h := ⟨(bt s m / 16).toNat, by omega⟩
  obtain ⟨l, hl⟩ : ∃ l : Nat, bt s m % 16 = l := ⟨(bt s m % 16).toNat, by omega⟩
  have hA : acc p s (j + 1) = sumF (d4 (sumF (d4 (acc p s j)) (mulT p h))) (mulT p l) := by
   show sumF (d4 (sumF (d4 (acc p s j)) (mulT p (bt s (31 - j) / 16).toNat))) (mulT p (bt s (31 - j) % 16).toNat) = _
   rw [show 31 - j = m by omega, hh, hl, Int.toNat_natCast, Int.toNat_natCast]
  refine wp_seq ?_
  refine wp_seq ?_
  refine rg_lit ?_
  refine pl_val (want_no rfl) (some 17) rfl (.int .i64 (m : Int)) (fun _ => by kernel_rfl) ?_
  refine pl_val (want_no rfl) (some 18) rfl (.bool true) (fun w => Eq.trans (b := .ok (.value (.bool (decide (0 ≤ (m : Int))))) w) (by kernel_rfl) (by rw [decide_eq_true (by omega)])) ?_
  refine pl_nil ?_
  refine au_then ?_
  refine wp_cond_true (by kernel_rfl) ?_
  refine wp_skip ?_
  refine au_then ?_
  refine wp_seq ?_
  refine wp_block ?_
  refine wp_seq ?_
  refine rg_tail M 9 (by kernel_rfl) (by kernel_rfl) ?_
  simp only [List.take_succ_cons, List.take_zero]
  refine k_load M (want_no rfl) (some 21) rfl 60 _ rfl 4 g5 0 (by kernel_rfl) 20 60 (acc p s j).f rfl 20 (acc p s j).f (Part.all _ _) (by decide) _ Tryz.underlying60 rfl inz60 ?_
  refine k_call (want_no rfl) (some 22) rfl 61 #[.agg (arr 20 (acc p s j).f), .int .i64 4] (.agg (arr 20 (d4 (acc p s j)).f)) (fun _ => by kernel_rfl) (fun w => c_dbl4 (acc p s j) w (acc_ok hp s j)) ?_
  refine k_val (want_no rfl) (some 23) rfl (.string s) (fun _ => by kernel_rfl) ?_
  refine k_val (want_no rfl) (some 24) rfl (.int .i64 (m : Int)) (fun _ => by kernel_rfl) ?_
  refine k_val (want_no rfl) (some 25) rfl (.int .u8 (bt s m)) (fun w => run_ixS 9 Tryz.underlying9 _ _ rfl s (by kernel_rfl) .i64 m (by kernel_rfl) (by omega) w) ?_
  refine k_val (want_no rfl) (some 26) rfl (.int .u8 (h : Int)) (fun w => run_bin .shr 5 _ _ rfl (by kernel_rfl) (by kernel_rfl) (fun _ => by kernel_rfl) (fun w => by rw [← hh]; exact run_shr4 _ w) w) ?_
  refine k_val (want_no rfl) (some 27) rfl (.pointer (some ⟨g4, h * 20, none⟩)) (fun w => run_ix 85 16 20 60 Tryz.underlying85 inz60 _ _ rfl g4 (by kernel_rfl) .u8 h (by kernel_rfl) (by omega) w) ?_
  refine k_load M (want_no rfl) (some 28) rfl 60 _ rfl 3 g4 (h * 20) (by kernel_rfl) 320 85 (fw p 16) rfl 20 (mulT p h).f (fw_part p (by omega)) (by omega) _ Tryz.underlying60 rfl inz60 ?_
  refine k_call (want_no rfl) (some 29) rfl 62 #[.agg (arr 20 (d4 (acc p s j)).f), .agg (arr 20 (mulT p h).f)] (.agg (arr 20 (sumF (d4 (acc p s j)) (mulT p h)).f)) (fun _ => by kernel_rfl) (fun w => c_plus (d4 (acc p s j)) (mulT p h) w (d4_ok (acc_ok hp s j)) (mulT_ok hp _)) ?_
  refine kl_nil fun w12 M => ?_
  refine pl_put M (want_no rfl) rfl 60 _ _ rfl 4 g5 (by kernel_rfl) 20 60 (acc p s j).f (sumF (d4 (acc p s j)) (mulT p h)).f rfl (by kernel_rfl) inz60 fun w13 M => ?_
  refine pl_nil ?_
  refine au_then ?_
  refine rg_tail M 9 (by kernel_rfl) (by kernel_rfl) ?_
  simp only [List.take_succ_cons, List.take_zero]
  refine k_load M (want_no rfl) (some 30) rfl 60 _ rfl 4 g5 0 (by kernel_rfl) 20 60 (sumF (d4 (acc p s j)) (mulT p h)).f rfl 20 (sumF (d4 (acc p s j)) (mulT p h)).f (Part.all _ _) (by decide) _ Tryz.underlying60 rfl inz60 ?_
  refine k_call (want_no rfl) (some 31) rfl 61 #[.agg (arr 20 (sumF (d4 (acc p s j)) (mulT p h)).f), .int .i64 4] (.agg (arr 20 (d4 (sumF (d4 (acc p s j)) (mulT p h))).f)) (fun _ => by kernel_rfl) (fun w => c_dbl4 (sumF (d4 (acc p s j)) (mulT p h)) w (sumF_ok (d4_ok (acc_ok hp s j)) (mulT_ok hp _))) ?_
  refine k_val (want_no rfl) (some 32) rfl (.string s) (fun _ => by kernel_rfl) ?_
  refine k_val (want_no rfl) (some 33) rfl (.int .i64 (m : Int)) (fun _ => by kernel_rfl) ?_
  refine k_val (want_no rfl) (some 34) rfl (.int .u8 (bt s m)) (fun w => run_ixS 9 Tryz.underlying9 _ _ rfl s (by kernel_rfl) .i64 m (by kernel_rfl) (by omega) w) ?_
  refine k_val (want_no rfl) (some 35) rfl (.int .u8 (l : Int)) (fun w => Eq.trans (b := .ok (.value (.int .u8 (bits .and .u8 (bt s m) 15))) w) (by kernel_rfl) (by rw [bits_lo hb.1 hb.2, hl])) ?_
  refine k_val (want_no rfl) (some 36) rfl (.pointer (some ⟨g4, l * 20, none⟩)) (fun w => run_ix 85 16 20 60 Tryz.underlying85 inz60 _ _ rfl g4 (by kernel_rfl) .u8 l (by kernel_rfl) (by omega) w) ?_
  refine k_load M (want_no rfl) (some 37) rfl 60 _ rfl 3 g4 (l * 20) (by kernel_rfl) 320 85 (fw p 16) rfl 20 (mulT p l).f (fw_part p (by omega)) (by omega) _ Tryz.underlying60 rfl inz60 ?_
  refine k_call (want_no rfl) (some 38) rfl 62 #[.agg (arr 20 (d4 (sumF (d4 (acc p s j)) (mulT p h))).f), .agg (arr 20 (mulT p l).f)] (.agg (arr 20 (sumF (d4 (sumF (d4 (acc p s j)) (mulT p h))) (mulT p l)).f)) (fun _ => by kernel_rfl) (fun w => c_plus (d4 (sumF (d4 (acc p s j)) (mulT p h))) (mulT p l) w (d4_ok (sumF_ok (d4_ok (acc_ok hp s j)) (mulT_ok hp _))) (mulT_ok hp _)) ?_
  refine kl_nil fun w14 M => ?_
  refine pl_put M (want_no rfl) rfl 60 _ _ rfl 4 g5 (by kernel_rfl) 20 60 (sumF (d4 (acc p s j)) (mulT p h)).f (sumF (d4 (sumF (d4 (acc p s j)) (mulT p h))) (mulT p l)).f rfl (by kernel_rfl) inz60 fun w15 M => ?_
  refine pl_nil ?_
  refine au_block ?_
  refine au_then ?_
  refine rg_lit ?_
  refine pl_val (want_no rfl) (some 19) rfl (.int .i64 (m : Int)) (fun _ => by kernel_rfl) ?_
  refine pl_val (want_no rfl) (some 20) rfl (.int .i64 ((m : Int) - 1)) (fun w => Eq.trans (b := .ok (.value (.int .i64 (IntKind.wrap .i64 ((m : Int) - 1)))) w) (by kernel_rfl) (by rw [wrap64 (by omega) (by omega)])) ?_
  refine pl_val (want_no rfl) (some 8) rfl (.int .i64 ((m : Int) - 1)) (fun _ => by kernel_rfl) ?_
  refine pl_nil ?_
  refine au_then ?_
  refine ⟨(m : Int) - 1, fun k => ([.int .i64 (m : Int), .bool true, .int .i64 (m : Int), .int .i64 ((m : Int) - 1), .agg (arr 20 (acc p s j).f), .agg (arr 20 (d4 (acc p s j)).f), .string s, .int .i64 (m : Int), .int .u8 (bt s m), .int .u8 (h : Int), .pointer (some ⟨g4, h * 20, none⟩), .agg (arr 20 (mulT p h).f), .agg (arr 20 (sumF (d4 (acc p s j)) (mulT p h)).f), .agg (arr 20 (sumF (d4 (acc p s j)) (mulT p h)).f), .agg (arr 20 (d4 (sumF (d4 (acc p s j)) (mulT p h))).f), .string s, .int .i64 (m : Int), .int .u8 (bt s m), .int .u8 (l : Int), .pointer (some ⟨g4, l * 20, none⟩), .agg (arr 20 (mulT p l).f), .agg (arr 20 (sumF (d4 (sumF (d4 (acc p s j)) (mulT p h))) (mulT p l)).f)] : List Value).getD (k - 17) undef, by omega, by kernel_rfl, ?_⟩
  rw [hA]
  exact M
 ·intro a w1 hI
  obtain ⟨m, v, hm, rfl, M⟩ := hI
  refine wp_seq ?_
  refine wp_seq ?_
  refine rg_lit ?_
  refine pl_val (want_no rfl) (some 17) rfl (.int .i64 m) (fun _ => by kernel_rfl) ?_
  refine pl_val (want_no rfl) (some 18) rfl (.bool false) (fun w => Eq.trans (b := .ok (.value (.bool (decide (0 ≤ m)))) w) (by kernel_rfl) (by rw [decide_eq_false (by omega)])) ?_
  refine pl_nil ?_
  refine au_then ?_
  refine wp_cond_false (by kernel_rfl) ?_
  refine wp_exit ?_
  refine au_then_exit ?_
  refine au_then_exit ?_
  refine au_block_exit ?_
  refine au_then ?_
  refine wp_seq ?_
  refine rg_lit ?_
  refine pl_load M (want_no rfl) (some 39) rfl 60 _ rfl 4 g5 0 (by kernel_rfl) 20 60 (acc p s 32).f rfl 20 (acc p s 32).f (Part.all _ _) (by decide) _ Tryz.underlying60 rfl inz60 ?_
  refine pl_put M (want_no rfl) rfl 60 _ _ rfl 2 g3 (by kernel_rfl) 20 60 (fun _ => 0) (acc p s 32).f rfl (by kernel_rfl) inz60 fun w16 M => ?_
  refine pl_nil ?_
  refine au_then ?_
  refine wp_ret ?_
  exact bodyPost_ret (v := .agg (arr 20 (acc p s 32).f)) (results_cell_row Tryz.results26 _ _ g3 60 (arr 20 (acc p s 32).f) (0, 0) _ (by kernel_rfl) (M.get 2 rfl) Tryz.underlying60 rfl (by rw [arr_size]; exact inz60)) (by kernel_rfl) ⟨rfl, M.old⟩
theorem run_quo16 (m : Nat) (hm : m < 256) (w : World) : (binOp .quo 3 (.int .i64 (m : Int)) (.int .i64 16)).run Tryz.prog w = .ok (.int .i64 ((m / 16 : Nat) : Int)) w := by
 simp [binOp, go_sem]
 rw [wrap64 (by omega) (by omega)]
theorem run_rem16 (m : Nat) (w : World) : (binOp .rem 3 (.int .i64 (m : Int)) (.int .i64 16)).run Tryz.prog w = .ok (.int .i64 ((m % 16 : Nat) : Int)) w := by
 simp [binOp, go_sem]
 rw [Int.tmod_eq_emod_of_nonneg (by omega)]
theorem run_toU (b : Nat) (hb : b < 16) (w : World) : (convert 3 39 (.int .i64 (b : Int))).run Tryz.prog w = .ok (.int .u64 (b : Int)) w := by
 simp [convert, go_sem]
 simp [IntKind.wrap, IntKind.signed, IntKind.bits, go_sem]
 omega
theorem run_shrU (x : Int) (b : Nat) (hb : b < 16) (w : World) : (binOp .shr 34 (.int .u64 x) (.int .u64 (b : Int))).run Tryz.prog w = .ok (.int .u64 (x / 2 ^ b)) w := by
 simp [binOp, go_sem]
theorem run_and1 {x : Int} (h0 : 0 ≤ x) (h1 : x < 65536) : bits .and .u64 x 1 = x % 2 := by
 rw [u64_and _ 1 h0 (by omega) (by decide) (by decide), show (1 : Int).toNat = 1 from rfl, nat_mask1]
 omega
theorem run_conv {P : Program} {a : Act} {o : Oper} (t u : TypeId) (x : Operand) (ho : o.op = .convert t u x) {vx v : Value} (hx : a.eval x = vx) (hb : ∀ w, (convert t u vx).run P w = .ok v w) (w : World) :
  (execOp a.eval o).run P w = .ok (.value v) w := by
 unfold execOp
 simp only [ho, hx, Sem.run_bind, hb, Result.andThen_ok, Sem.run_pure]
section
variable {P : Program} {ops : Array Oper} {rest : List Oper} {o : Oper} {a : Act} {w w0 : World} {L : List Blk} {Q : Exit → Act → World → Prop}
theorem pl_loadw (M : Mem w0 L w) (hw : Region.wanted o (yielded ops a.tmps) = true) (d : Option Tmp) (hd : o.dst = d) (ty : TypeId) (x : Operand) (ho : o.op = .load ty x) (i g k : Nat) (hx : a.eval x = .pointer (some ⟨g, k, none⟩)) (n T : Nat) (f : Nat → Int) (hi : L[i]? = some ⟨g, .cells (arr n f) T⟩) (hk : k < n) (hag : ∀ w, (isAgg ty).run P w = .ok false w)
  (h : PL P ops Q rest (a.put d (.int .u64 (f k))) w) : PL P ops Q (o :: rest) a w := by
 refine pl_to hw d hd (.int .u64 (f k)) w ?_ h
 have hc := run_byte (P := P) ((M.row i hi).cell hk) ty hag
 unfold execOp
 simp only [ho, hx, Sem.run_bind, hc, Result.andThen_ok, Sem.run_pure]
end
theorem inz34 : (Tryz.prog.info? 34).map (·.size) = some 1 := by kernel_rfl
def pb (f : Nat → Int) (i : Nat) : Int := f (i / 16) / 2 ^ (i % 16) % 2
noncomputable def racc (q : RQ) (f : Nat → Int) : Nat → RQ
 | 0 => rzeroV
 | j + 1 => if pb f (255 - j) = 1 then raddV (raddV (racc q f j) (racc q f j)) q else raddV (racc q f j) (racc q f j)
theorem racc_ok (q : RQ) (f : Nat → Int) : ∀ j, (racc q f j).Ok
 | 0 => rzeroV_ok
 | j + 1 => by
  unfold racc
  split <;> exact raddV_ok _ _
theorem shr_bd {x : Int} (h0 : 0 ≤ x) (h1 : x < 65536) (b : Nat) : 0 ≤ x / 2 ^ b ∧ x / 2 ^ b < 65536 := by
 have hp : (0 : Int) < 2 ^ b := Int.pow_pos (by decide)
 refine ⟨Int.ediv_nonneg h0 (by omega), Int.lt_of_le_of_lt (Int.ediv_le_self _ h0) h1⟩
structure rmulWF (q : RQ) (f : Nat → Int)  : Prop where
 h0 : True
theorem rmulW_gen (q : RQ) (f : Nat → Int)  (w : World) (_F : rmulWF q f ) (hq : q.Ok) (hf : Dig f 16) :
  Cs 21 #[.agg (arr 64 q.f), .agg (arr 16 f)] w (.agg (arr 64 (racc q f 256).f)) := by
 go_enter Tryz.func21, Tryz.ntmps21
 have M := Mem.start w
 refine wp_seq ?_
 refine rg_lit ?_
 refine zN M 2 (.cells (arr 64 q.f) 52) fun g1 w1 M => ?_
 refine zN M 3 (.cells (arr 16 f) 36) fun g2 w2 M => ?_
 refine zN M 4 (.cells (arr 64 (fun _ => 0)) 52) fun g3 w3 M => ?_
 refine pl_nil ?_
 refine au_then ?_
 refine wp_seq ?_
 refine rg_lit ?_
 refine zC M 7 c_rzero fun w4 M => ?_
 refine zN M 5 (.cells (arr 64 (fun _ => 0)) 52) fun g4 w5 M => ?_
 refine zW M 3 rfl rzeroV.f fun w6 M => ?_
 refine pl_nil ?_
 refine au_then ?_
 refine wp_seq ?_
 refine wp_seq ?_
 refine rg_lit ?_
 refine pl_val (want_no rfl) (some 6) rfl (.int .i64 255) (fun _ => by kernel_rfl) ?_
 refine pl_nil ?_
 refine au_then ?_
 refine wp_block ?_
 refine au_loop (fun j a w' => ∃ (m : Int) (v : Nat → Value), m = 255 - (j : Int) ∧ a = ⟨#[.agg (arr 64 q.f), .agg (arr 16 f), .pointer (some ⟨g1, 0, none⟩), .pointer (some ⟨g2, 0, none⟩), .pointer (some ⟨g3, 0, none⟩), .pointer (some ⟨g4, 0, none⟩), .int .i64 m, .agg (arr 64 rzeroV.f), v 8, v 9, v 10, v 11, v 12, v 13, v 14, v 15, v 16, v 17, v 18, v 19, v 20, v 21, v 22, v 23, v 24, v 25, v 26, v 27, undef], []⟩ ∧ Mem w [⟨g1, .cells (arr 64 q.f) 52⟩, ⟨g2, .cells (arr 16 f) 36⟩, ⟨g3, .cells (arr 64 (fun _ => 0)) 52⟩, ⟨g4, .cells (arr 64 (racc q f j).f) 52⟩] w') 256 ⟨255, fun _ => undef, rfl, by kernel_rfl, M⟩ ?_ ?_
 ·intro j a w1 hj hI
  obtain ⟨m0, v, hm, rfl, M⟩ := hI
  obtain ⟨m, rfl⟩ : ∃ m : Nat, m0 = m := ⟨255 - j, by omega⟩
  have hfm := hf (m / 16 * 1) (by omega)
  have hsh := shr_bd hfm.1 hfm.2 (m % 16)
  have hpb : f (m / 16 * 1) / 2 ^ (m % 16) % 2 = pb f m := by
   unfold pb
   rw [Nat.mul_one]
  have he : 255 - j = m := by omega
  by_cases hbit : pb f m = 1
  ·have hA : racc q f (j + 1) = raddV (raddV (racc q f j) (racc q f j)) q := by
    show (if pb f (255 - j) = 1 then raddV (raddV (racc q f j) (racc q f j)) q else raddV (racc q f j) (racc q f j)) = _
    rw [he, if_pos hbit]
   refine wp_seq ?_
   refine wp_seq ?_
   refine rg_lit ?_
   refine pl_val (want_no rfl) (some 8) rfl (.int .i64 (m : Int)) (fun _ => by kernel_rfl) ?_
   refine pl_val (want_no rfl) (some 9) rfl (.bool true) (fun w => Eq.trans (b := .ok (.value (.bool (decide (0 ≤ (m : Int))))) w) (by kernel_rfl) (by rw [decide_eq_true (by omega)])) ?_
   refine pl_nil ?_
   refine au_then ?_
   refine wp_cond_true (by kernel_rfl) ?_
   refine wp_skip ?_
   refine au_then ?_
   refine wp_seq ?_
   refine wp_block ?_
   refine wp_seq ?_
   refine rg_lit ?_
   refine pl_load M (want_no rfl) (some 12) rfl 52 _ rfl 3 g4 0 (by kernel_rfl) 64 52 (racc q f j).f rfl 64 (racc q f j).f (Part.all _ _) (by decide) _ Tryz.underlying52 rfl inz52 ?_
   refine pl_load M (want_no rfl) (some 13) rfl 52 _ rfl 3 g4 0 (by kernel_rfl) 64 52 (racc q f j).f rfl 64 (racc q f j).f (Part.all _ _) (by decide) _ Tryz.underlying52 rfl inz52 ?_
   refine pl_call M (want_no rfl) (some 14) rfl 44 #[.agg (arr 64 (racc q f j).f), .agg (arr 64 (racc q f j).f)] (.agg (arr 64 (raddV (racc q f j) (racc q f j)).f)) (fun _ => by kernel_rfl) (fun w => c_radd (racc q f j) (racc q f j) w (racc_ok q f j) (racc_ok q f j)) fun w7 M => ?_
   refine pl_put M (want_no rfl) rfl 52 _ _ rfl 3 g4 (by kernel_rfl) 64 52 (racc q f j).f (raddV (racc q f j) (racc q f j)).f rfl (by kernel_rfl) inz52 fun w8 M => ?_
   refine pl_nil ?_
   refine au_then ?_
   refine wp_seq ?_
   refine rg_lit ?_
   refine pl_val (want_no rfl) (some 15) rfl (.int .i64 (m : Int)) (fun _ => by kernel_rfl) ?_
   refine pl_val (want_no rfl) (some 16) rfl (.int .i64 ((m / 16 : Nat) : Int)) (fun w => run_bin .quo 3 _ _ rfl (by kernel_rfl) (by kernel_rfl) (fun _ => by kernel_rfl) (fun w => run_quo16 m (by omega) w) w) ?_
   refine pl_val (want_no rfl) (some 17) rfl (.pointer (some ⟨g2, m / 16 * 1, none⟩)) (fun w => run_ix 36 16 1 34 Tryz.underlying36 inz34 _ _ rfl g2 (by kernel_rfl) .i64 (m / 16) (by kernel_rfl) (by omega) w) ?_
   refine pl_loadw M (want_no rfl) (some 18) rfl 34 _ rfl 1 g2 (m / 16 * 1) (by kernel_rfl) 16 36 f rfl (by omega) (fun _ => by kernel_rfl) ?_
   refine pl_val (want_no rfl) (some 19) rfl (.int .i64 (m : Int)) (fun _ => by kernel_rfl) ?_
   refine pl_val (want_no rfl) (some 20) rfl (.int .i64 ((m % 16 : Nat) : Int)) (fun w => run_bin .rem 3 _ _ rfl (by kernel_rfl) (by kernel_rfl) (fun _ => by kernel_rfl) (fun w => run_rem16 m w) w) ?_
   refine pl_val (want_no rfl) (some 21) rfl (.int .u64 ((m % 16 : Nat) : Int)) (fun w => run_conv 3 39 _ rfl (by kernel_rfl) (fun w => run_toU (m % 16) (by omega) w) w) ?_
   refine pl_val (want_no rfl) (some 22) rfl (.int .u64 (f (m / 16 * 1) / 2 ^ (m % 16))) (fun w => run_bin .shr 34 _ _ rfl (by kernel_rfl) (by kernel_rfl) (fun _ => by kernel_rfl) (fun w => run_shrU _ _ (by omega) w) w) ?_
   refine pl_val (want_no rfl) (some 23) rfl (.int .u64 (pb f m)) (fun w => Eq.trans (b := .ok (.value (.int .u64 (bits .and .u64 (f (m / 16 * 1) / 2 ^ (m % 16)) 1))) w) (by kernel_rfl) (by rw [run_and1 hsh.1 hsh.2, hpb])) ?_
   refine pl_val (want_no rfl) (some 24) rfl (.bool true) (fun w => Eq.trans (b := .ok (.value (.bool (decide (pb f m = 1)))) w) (by kernel_rfl) (by rw [decide_eq_true hbit])) ?_
   refine pl_nil ?_
   refine au_then ?_
   refine wp_cond_true (by kernel_rfl) ?_
   refine rg_lit ?_
   refine pl_load M (want_no rfl) (some 25) rfl 52 _ rfl 3 g4 0 (by kernel_rfl) 64 52 (raddV (racc q f j) (racc q f j)).f rfl 64 (raddV (racc q f j) (racc q f j)).f (Part.all _ _) (by decide) _ Tryz.underlying52 rfl inz52 ?_
   refine zA M 26 0 rfl ?_
   refine pl_call M (want_no rfl) (some 27) rfl 44 #[.agg (arr 64 (raddV (racc q f j) (racc q f j)).f), .agg (arr 64 q.f)] (.agg (arr 64 (raddV (raddV (racc q f j) (racc q f j)) q).f)) (fun _ => by kernel_rfl) (fun w => c_radd (raddV (racc q f j) (racc q f j)) q w (raddV_ok _ _) hq) fun w9 M => ?_
   refine pl_put M (want_no rfl) rfl 52 _ _ rfl 3 g4 (by kernel_rfl) 64 52 (raddV (racc q f j) (racc q f j)).f (raddV (raddV (racc q f j) (racc q f j)) q).f rfl (by kernel_rfl) inz52 fun w10 M => ?_
   refine pl_nil ?_
   refine au_block ?_
   refine au_then ?_
   refine rg_lit ?_
   refine pl_val (want_no rfl) (some 10) rfl (.int .i64 (m : Int)) (fun _ => by kernel_rfl) ?_
   refine pl_val (want_no rfl) (some 11) rfl (.int .i64 ((m : Int) - 1)) (fun w => Eq.trans (b := .ok (.value (.int .i64 (IntKind.wrap .i64 ((m : Int) - 1)))) w) (by kernel_rfl) (by rw [wrap64 (by omega) (by omega)])) ?_
   refine pl_val (want_no rfl) (some 6) rfl (.int .i64 ((m : Int) - 1)) (fun _ => by kernel_rfl) ?_
   refine pl_nil ?_
   refine au_then ?_
   refine ⟨(m : Int) - 1, fun k => ([.int .i64 (m : Int), .bool true, .int .i64 (m : Int), .int .i64 ((m : Int) - 1), .agg (arr 64 (racc q f j).f), .agg (arr 64 (racc q f j).f), .agg (arr 64 (raddV (racc q f j) (racc q f j)).f), .int .i64 (m : Int), .int .i64 ((m / 16 : Nat) : Int), .pointer (some ⟨g2, m / 16 * 1, none⟩), .int .u64 (f (m / 16 * 1)), .int .i64 (m : Int), .int .i64 ((m % 16 : Nat) : Int), .int .u64 ((m % 16 : Nat) : Int), .int .u64 (f (m / 16 * 1) / 2 ^ (m % 16)), .int .u64 (pb f m), .bool true, .agg (arr 64 (raddV (racc q f j) (racc q f j)).f), .agg (arr 64 q.f), .agg (arr 64 (raddV (raddV (racc q f j) (racc q f j)) q).f)] : List Value).getD (k - 8) undef, by omega, by kernel_rfl, ?_⟩
   rw [hA]
   exact M
  ·have hA : racc q f (j + 1) = raddV (racc q f j) (racc q f j) := by
    show (if pb f (255 - j) = 1 then raddV (raddV (racc q f j) (racc q f j)) q else raddV (racc q f j) (racc q f j)) = _
    rw [he, if_neg hbit]
   refine wp_seq ?_
   refine wp_seq ?_
   refine rg_lit ?_
   refine pl_val (want_no rfl) (some 8) rfl (.int .i64 (m : Int)) (fun _ => by kernel_rfl) ?_
   refine pl_val (want_no rfl) (some 9) rfl (.bool true) (fun w => Eq.trans (b := .ok (.value (.bool (decide (0 ≤ (m : Int))))) w) (by kernel_rfl) (by rw [decide_eq_true (by omega)])) ?_
   refine pl_nil ?_
   refine au_then ?_
   refine wp_cond_true (by kernel_rfl) ?_
   refine wp_skip ?_
   refine au_then ?_
   refine wp_seq ?_
   refine wp_block ?_
   refine wp_seq ?_
   refine rg_lit ?_
   refine pl_load M (want_no rfl) (some 12) rfl 52 _ rfl 3 g4 0 (by kernel_rfl) 64 52 (racc q f j).f rfl 64 (racc q f j).f (Part.all _ _) (by decide) _ Tryz.underlying52 rfl inz52 ?_
   refine pl_load M (want_no rfl) (some 13) rfl 52 _ rfl 3 g4 0 (by kernel_rfl) 64 52 (racc q f j).f rfl 64 (racc q f j).f (Part.all _ _) (by decide) _ Tryz.underlying52 rfl inz52 ?_
   refine pl_call M (want_no rfl) (some 14) rfl 44 #[.agg (arr 64 (racc q f j).f), .agg (arr 64 (racc q f j).f)] (.agg (arr 64 (raddV (racc q f j) (racc q f j)).f)) (fun _ => by kernel_rfl) (fun w => c_radd (racc q f j) (racc q f j) w (racc_ok q f j) (racc_ok q f j)) fun w11 M => ?_
   refine pl_put M (want_no rfl) rfl 52 _ _ rfl 3 g4 (by kernel_rfl) 64 52 (racc q f j).f (raddV (racc q f j) (racc q f j)).f rfl (by kernel_rfl) inz52 fun w12 M => ?_
   refine pl_nil ?_
   refine au_then ?_
   refine wp_seq ?_
   refine rg_lit ?_
   refine pl_val (want_no rfl) (some 15) rfl (.int .i64 (m : Int)) (fun _ => by kernel_rfl) ?_
   refine pl_val (want_no rfl) (some 16) rfl (.int .i64 ((m / 16 : Nat) : Int)) (fun w => run_bin .quo 3 _ _ rfl (by kernel_rfl) (by kernel_rfl) (fun _ => by kernel_rfl) (fun w => run_quo16 m (by omega) w) w) ?_
   refine pl_val (want_no rfl) (some 17) rfl (.pointer (some ⟨g2, m / 16 * 1, none⟩)) (fun w => run_ix 36 16 1 34 Tryz.underlying36 inz34 _ _ rfl g2 (by kernel_rfl) .i64 (m / 16) (by kernel_rfl) (by omega) w) ?_
   refine pl_loadw M (want_no rfl) (some 18) rfl 34 _ rfl 1 g2 (m / 16 * 1) (by kernel_rfl) 16 36 f rfl (by omega) (fun _ => by kernel_rfl) ?_
   refine pl_val (want_no rfl) (some 19) rfl (.int .i64 (m : Int)) (fun _ => by kernel_rfl) ?_
   refine pl_val (want_no rfl) (some 20) rfl (.int .i64 ((m % 16 : Nat) : Int)) (fun w => run_bin .rem 3 _ _ rfl (by kernel_rfl) (by kernel_rfl) (fun _ => by kernel_rfl) (fun w => run_rem16 m w) w) ?_
   refine pl_val (want_no rfl) (some 21) rfl (.int .u64 ((m % 16 : Nat) : Int)) (fun w => run_conv 3 39 _ rfl (by kernel_rfl) (fun w => run_toU (m % 16) (by omega) w) w) ?_
   refine pl_val (want_no rfl) (some 22) rfl (.int .u64 (f (m / 16 * 1) / 2 ^ (m % 16))) (fun w => run_bin .shr 34 _ _ rfl (by kernel_rfl) (by kernel_rfl) (fun _ => by kernel_rfl) (fun w => run_shrU _ _ (by omega) w) w) ?_
   refine pl_val (want_no rfl) (some 23) rfl (.int .u64 (pb f m)) (fun w => Eq.trans (b := .ok (.value (.int .u64 (bits .and .u64 (f (m / 16 * 1) / 2 ^ (m % 16)) 1))) w) (by kernel_rfl) (by rw [run_and1 hsh.1 hsh.2, hpb])) ?_
   refine pl_val (want_no rfl) (some 24) rfl (.bool false) (fun w => Eq.trans (b := .ok (.value (.bool (decide (pb f m = 1)))) w) (by kernel_rfl) (by rw [decide_eq_false hbit])) ?_
   refine pl_nil ?_
   refine au_then ?_
   refine wp_cond_false (by kernel_rfl) ?_
   refine wp_skip ?_
   refine au_block ?_
   refine au_then ?_
   refine rg_lit ?_
   refine pl_val (want_no rfl) (some 10) rfl (.int .i64 (m : Int)) (fun _ => by kernel_rfl) ?_
   refine pl_val (want_no rfl) (some 11) rfl (.int .i64 ((m : Int) - 1)) (fun w => Eq.trans (b := .ok (.value (.int .i64 (IntKind.wrap .i64 ((m : Int) - 1)))) w) (by kernel_rfl) (by rw [wrap64 (by omega) (by omega)])) ?_
   refine pl_val (want_no rfl) (some 6) rfl (.int .i64 ((m : Int) - 1)) (fun _ => by kernel_rfl) ?_
   refine pl_nil ?_
   refine au_then ?_
   refine ⟨(m : Int) - 1, fun k => ([.int .i64 (m : Int), .bool true, .int .i64 (m : Int), .int .i64 ((m : Int) - 1), .agg (arr 64 (racc q f j).f), .agg (arr 64 (racc q f j).f), .agg (arr 64 (raddV (racc q f j) (racc q f j)).f), .int .i64 (m : Int), .int .i64 ((m / 16 : Nat) : Int), .pointer (some ⟨g2, m / 16 * 1, none⟩), .int .u64 (f (m / 16 * 1)), .int .i64 (m : Int), .int .i64 ((m % 16 : Nat) : Int), .int .u64 ((m % 16 : Nat) : Int), .int .u64 (f (m / 16 * 1) / 2 ^ (m % 16)), .int .u64 (pb f m), .bool false, v 25, v 26, v 27] : List Value).getD (k - 8) undef, by omega, by kernel_rfl, ?_⟩
   rw [hA]
   exact M
 ·intro a w1 hI
  obtain ⟨m, v, hm, rfl, M⟩ := hI
  refine wp_seq ?_
  refine wp_seq ?_
  refine rg_lit ?_
  refine pl_val (want_no rfl) (some 8) rfl (.int .i64 m) (fun _ => by kernel_rfl) ?_
  refine pl_val (want_no rfl) (some 9) rfl (.bool false) (fun w => Eq.trans (b := .ok (.value (.bool (decide (0 ≤ m)))) w) (by kernel_rfl) (by rw [decide_eq_false (by omega)])) ?_
  refine pl_nil ?_
  refine au_then ?_
  refine wp_cond_false (by kernel_rfl) ?_
  refine wp_exit ?_
  refine au_then_exit ?_
  refine au_then_exit ?_
  refine au_block_exit ?_
  refine au_then ?_
  refine wp_seq ?_
  refine rg_lit ?_
  refine pl_load M (want_no rfl) (some 28) rfl 52 _ rfl 3 g4 0 (by kernel_rfl) 64 52 (racc q f 256).f rfl 64 (racc q f 256).f (Part.all _ _) (by decide) _ Tryz.underlying52 rfl inz52 ?_
  refine pl_put M (want_no rfl) rfl 52 _ _ rfl 2 g3 (by kernel_rfl) 64 52 (fun _ => 0) (racc q f 256).f rfl (by kernel_rfl) inz52 fun w13 M => ?_
  refine pl_nil ?_
  refine au_then ?_
  refine wp_ret ?_
  exact bodyPost_ret (v := .agg (arr 64 (racc q f 256).f)) (results_cell_row Tryz.results21 _ _ g3 52 (arr 64 (racc q f 256).f) (0, 0) _ (by kernel_rfl) (M.get 2 rfl) Tryz.underlying52 rfl (by rw [arr_size]; exact inz52)) (by kernel_rfl) ⟨rfl, M.old⟩
theorem c_rmul (q : RQ) (f : Nat → Int) (w : World) (hq : q.Ok) (hf : Dig f 16) : Cs 21 #[.agg (arr 64 q.f), .agg (arr 16 f)] w (.agg (arr 64 (racc q f 256).f)) := rmulW_gen q f w ⟨trivial⟩ hq hf
end Go.Proofs.YtmhfmhmpoobmlaaGreatDoor

namespace Go.Proofs.YtmhfmhmpoobmlaaGreatDoor.Ord
open Go.RowKit
theorem maskN (a : Nat) (ha : a < 18446744073709551616) : bits .and .u64 (a : Int) 4294967295 = ((a % 4294967296 : Nat) : Int) := by
 have h := bits_and_u64_nat a 4294967295 ha (by omega)
 have e : a &&& 4294967295 = a % 4294967296 := Nat.and_two_pow_sub_one_eq_mod a 32
 rw [e] at h
 exact h
theorem divN (a : Nat) : (a : Int) / 4294967296 = ((a / 4294967296 : Nat) : Int) := by omega
theorem mulN (a b : Nat) : (a : Int) * (b : Int) = ((a * b : Nat) : Int) := (Int.natCast_mul a b).symm
theorem addN (a b : Nat) : (a : Int) + (b : Int) = ((a + b : Nat) : Int) := (Int.natCast_add a b).symm
theorem wrapN (a : Nat) (ha : a < 18446744073709551616) : IntKind.u64.wrap (a : Int) = (a : Int) := by rw [IntKind.wrap_u64]; omega
theorem wrapM (a : Nat) : IntKind.u64.wrap (a : Int) = ((a % 18446744073709551616 : Nat) : Int) := by rw [IntKind.wrap_u64]; omega
theorem mul64_nat (x y : Nat) (hx : x < 18446744073709551616) (hy : y < 18446744073709551616) (w : World) :
  Calls Tryz.prog 140 #[.int .u64 x, .int .u64 y] w fun e w' => e = .returned (.tuple #[.int .u64 ((x * y / 18446744073709551616 : Nat) : Int), .int .u64 ((x * y % 18446744073709551616 : Nat) : Int)]) ∧ w' = w := by
 obtain ⟨bd, bt, bw, hhi⟩ := Lib.mul64_hi x y hx hy
 have ba := Lib.half_mul_le (a := x / 4294967296) (b := y / 4294967296) (by omega) (by omega)
 have bb := Lib.half_mul_le (a := x / 4294967296) (b := y % 4294967296) (by omega) (by omega)
 have bc := Lib.half_mul_le (a := x % 4294967296) (b := y / 4294967296) (by omega) (by omega)
 have ba' : x / 4294967296 * (y / 4294967296) < 18446744073709551616 := by omega
 have bb' : x / 4294967296 * (y % 4294967296) < 18446744073709551616 := by omega
 have bc' : x % 4294967296 * (y / 4294967296) < 18446744073709551616 := by omega
 have bh1 : x / 4294967296 * (y / 4294967296) + (x / 4294967296 * (y % 4294967296) + x % 4294967296 * (y % 4294967296) / 4294967296) / 4294967296 < 18446744073709551616 := by omega
 have bh : x / 4294967296 * (y / 4294967296) + (x / 4294967296 * (y % 4294967296) + x % 4294967296 * (y % 4294967296) / 4294967296) / 4294967296 + ((x / 4294967296 * (y % 4294967296) + x % 4294967296 * (y % 4294967296) / 4294967296) % 4294967296 + x % 4294967296 * (y / 4294967296)) / 4294967296 < 18446744073709551616 := by omega
 go_enter Tryz.func140, Tryz.ntmps140
 go_wp2
 simp only [maskN x hx, maskN y hy, divN, mulN, addN, wrapN _ bd, wrapN _ bb', wrapN _ bt, maskN _ bt, wrapN _ bc', wrapN _ bw, wrapN _ ba', wrapN _ bh1, wrapN _ bh, wrapM (x * y)]
 rw [hhi]
 go_ret2
 exact ⟨rfl, rfl⟩
theorem add64_run (x y c : Int) (hx : 0 ≤ x) (hy : 0 ≤ y) (hc0 : 0 ≤ c) (hc : c ≤ 1) (w : World) :
  (callFunc 124 #[.int .u64 x, .int .u64 y, .int .u64 c]).run Tryz.prog w =
   .ok (.value (.tuple #[.int .u64 ((x + y + c) % 18446744073709551616), .int .u64 ((x + y + c) / 18446744073709551616)])) w := by
 rw [run_callFunc_extern Tryz.func124 (by kernel_rfl) (by kernel_rfl) (by kernel_rfl) (e := add64Entry) (by kernel_rfl), run_add64 x y c hx hy hc0 hc]
 simp only [Result.andThen]
abbrev sub64Row : Array Value → Sem Value := (Extern.MathBitsCarry.rows.getD 1 default).2
theorem run_sub64 (x y c : Int) (hx : W64 x) (hy : W64 y) (hc0 : 0 ≤ c) (hc : c ≤ 1) (w : World) :
  (sub64Row #[.int .u64 x, .int .u64 y, .int .u64 c]).run Tryz.prog w = .ok (.tuple #[.int .u64 ((x - y - c) % 18446744073709551616), .int .u64 (if x < y + c then 1 else 0)]) w := by
 have key : ∀ k : Nat, k ≤ 1 → (sub64Row #[.int .u64 x, .int .u64 y, .int .u64 (k : Int)]).run Tryz.prog w =
   .ok (Extern.MathBitsCarry.pair ((x.toNat + Extern.MathBitsCarry.m64 - y.toNat - k) % Extern.MathBitsCarry.m64) (if x.toNat < y.toNat + k then 1 else 0)) w := by
  intro k hk
  have : k = 0 ∨ k = 1 := by omega
  rcases this with rfl | rfl <;> rfl
 obtain ⟨k, rfl⟩ := Int.eq_ofNat_of_zero_le hc0
 rw [key k (by omega)]
 obtain ⟨X, rfl⟩ := Int.eq_ofNat_of_zero_le hx.1
 obtain ⟨Y, rfl⟩ := Int.eq_ofNat_of_zero_le hy.1
 have hX := hx.2
 have hY := hy.2
 simp only [Extern.MathBitsCarry.pair, Extern.MathBitsCarry.m64, Int.toNat_natCast]
 have e1 : Int.ofNat ((X + 2 ^ 64 - Y - k) % 2 ^ 64) = ((X : Int) - (Y : Int) - (k : Int)) % 18446744073709551616 := by
  show (((X + 2 ^ 64 - Y - k) % 2 ^ 64 : Nat) : Int) = _
  omega
 have e2 : Int.ofNat (if X < Y + k then 1 else 0) = if (X : Int) < (Y : Int) + (k : Int) then 1 else 0 := by
  by_cases h : X < Y + k
  ·rw [if_pos h, if_pos (by omega)]; rfl
  ·rw [if_neg h, if_neg (by omega)]; rfl
 rw [e1, e2]
theorem sub64_run (x y c : Int) (hx : W64 x) (hy : W64 y) (hc0 : 0 ≤ c) (hc : c ≤ 1) (w : World) :
  (callFunc 133 #[.int .u64 x, .int .u64 y, .int .u64 c]).run Tryz.prog w =
   .ok (.value (.tuple #[.int .u64 ((x - y - c) % 18446744073709551616), .int .u64 (if x < y + c then 1 else 0)])) w := by
 rw [run_callFunc_extern Tryz.func133 (by kernel_rfl) (by kernel_rfl) (by kernel_rfl) (e := sub64Row) (by kernel_rfl), run_sub64 x y c hx hy hc0 hc]
 simp only [Result.andThen]
theorem productAnd_any (x y a b : Int) (w : World) (hx : W64 x) (hy : W64 y) (ha : W64 a) (hb : W64 b) :
  Calls Tryz.prog 126 #[.int .u64 x, .int .u64 y, .int .u64 a, .int .u64 b] w fun r w' => r = .returned (.tuple #[.int .u64 ((x * y + a + b) % 18446744073709551616), .int .u64 ((x * y + a + b) / 18446744073709551616)]) ∧ w' = w := by
 obtain ⟨X, rfl⟩ := Int.eq_ofNat_of_zero_le hx.1
 obtain ⟨Y, rfl⟩ := Int.eq_ofNat_of_zero_le hy.1
 have hX : X < 18446744073709551616 := by have := hx.2; omega
 have hY : Y < 18446744073709551616 := by have := hy.2; omega
 have hXY : X * Y ≤ 18446744073709551615 * 18446744073709551615 := Nat.mul_le_mul (by omega) (by omega)
 have e : ((X : Int) * (Y : Int)) = ((X * Y : Nat) : Int) := (Int.natCast_mul X Y).symm
 rw [e]
 have HC := hide fun w => mul64_nat X Y hX hY w
 clear hx hy hX hY e
 generalize X * Y = P at *
 obtain ⟨a0, a1⟩ := ha
 obtain ⟨b0, b1⟩ := hb
 have r1 := add64_run ((P : Int) % 18446744073709551616) a 0 (by omega) a0 (by decide) (by decide)
 have r2 := add64_run (((P : Int) + a) % 18446744073709551616) b 0 (by omega) b0 (by decide) (by decide)
 rw [Int.add_zero] at r1 r2
 have hP : (P : Int) ≤ 340282366920938463426481119284349108225 := by omega
 have q2 : (P : Int) / 18446744073709551616 + ((P : Int) % 18446744073709551616 + a) / 18446744073709551616 + (((P : Int) + a) % 18446744073709551616 + b) / 18446744073709551616 = ((P : Int) + a + b) / 18446744073709551616 := by omega
 have HQ := hide q2
 clear q2 hXY
 go_enter Tryz.func126, Tryz.ntmps126
 go_wp2_with fail
 refine (HC.out _).mono ?_
 rintro _ w1 ⟨rfl, rfl⟩
 clear HC
 go_wp2
 go_ret2
 refine ⟨?_, rfl⟩
 rw [← HQ.out]
 rfl
theorem new_below (W : World) (o : Obj) : Below W.heap.size W (W.alloc o) := (Below.refl _ _).alloc (Nat.le_refl _) _
theorem KW.some (W : World) : Nonempty (KW W) := ⟨⟨W, Below.refl _ _⟩⟩
def Q (f : Nat → Int) : Nat → Int
 | 0 => 0
 | n + 1 => Q f n + f n * 18446744073709551616 ^ n
def Wds (f : Nat → Int) (n : Nat) : Prop := ∀ i, i < n → W64 (f i)
theorem Wds.le {f : Nat → Int} {n m : Nat} (h : Wds f n) (hm : m ≤ n) : Wds f m := fun i hi => h i (by omega)
theorem p64 (n : Nat) : (0 : Int) < 18446744073709551616 ^ n := Int.pow_pos (by decide)
theorem p64s (n : Nat) : (18446744073709551616 : Int) ^ (n + 1) = 18446744073709551616 * 18446744073709551616 ^ n := by rw [Int.pow_succ, Int.mul_comm]
theorem Q_congr {f g : Nat → Int} : ∀ {n : Nat}, (∀ i, i < n → f i = g i) → Q f n = Q g n
 | 0, _ => rfl
 | n + 1, h => by
  simp only [Q]
  rw [Q_congr (n := n) fun i hi => h i (by omega), h n (by omega)]
theorem Q_bd {f : Nat → Int} : ∀ {n : Nat}, Wds f n → 0 ≤ Q f n ∧ Q f n < 18446744073709551616 ^ n
 | 0, _ => by simp [Q]
 | n + 1, h => by
  have ih := Q_bd (n := n) (h.le (by omega))
  have hd := h n (by omega)
  have hp := p64 n
  have h1 : f n * 18446744073709551616 ^ n ≤ 18446744073709551615 * 18446744073709551616 ^ n := Int.mul_le_mul_of_nonneg_right (by have := hd.2; omega) (by omega)
  have h2 : 0 ≤ f n * 18446744073709551616 ^ n := Int.mul_nonneg hd.1 (by omega)
  rw [p64s]
  simp only [Q]
  omega
def pc (f g : Nat → Int) : Nat → Int
 | 0 => 0
 | k + 1 => (f k + g k + pc f g k) / 18446744073709551616
def ps (f g : Nat → Int) : Nat → Int := fun k => (f k + g k + pc f g k) % 18446744073709551616
theorem pc_bd {f g : Nat → Int} (hf : Wds f 4) (hg : Wds g 4) : ∀ k, k ≤ 4 → 0 ≤ pc f g k ∧ pc f g k ≤ 1
 | 0, _ => by simp [pc]
 | k + 1, h => by
  have ih := pc_bd hf hg k (by omega)
  have h1 := hf k (by omega)
  have h2 := hg k (by omega)
  unfold W64 at h1 h2
  simp only [pc]
  omega
theorem ps_wds (f g : Nat → Int) (n : Nat) : Wds (ps f g) n := fun i _ => by unfold ps W64; omega
theorem ps_Q (f g : Nat → Int) : ∀ k, Q (ps f g) k + pc f g k * 18446744073709551616 ^ k = Q f k + Q g k
 | 0 => by simp [Q, pc]
 | k + 1 => by
  have ih := ps_Q f g k
  have e : pc f g (k + 1) * 18446744073709551616 ^ (k + 1) = 18446744073709551616 * pc f g (k + 1) * 18446744073709551616 ^ k := by rw [p64s, ← Int.mul_assoc, Int.mul_comm (pc f g (k + 1)) 18446744073709551616]
  have e2 : ps f g k = f k + g k + pc f g k - 18446744073709551616 * pc f g (k + 1) := by
   simp only [ps, pc]
   omega
  simp only [Q]
  rw [e, e2, Int.sub_mul, Int.add_mul, Int.add_mul]
  omega
def br (f g : Nat → Int) : Nat → Int
 | 0 => 0
 | k + 1 => if f k < g k + br f g k then 1 else 0
def ms (f g : Nat → Int) : Nat → Int := fun k => (f k - g k - br f g k) % 18446744073709551616
theorem br_bd (f g : Nat → Int) : ∀ k, 0 ≤ br f g k ∧ br f g k ≤ 1
 | 0 => by simp [br]
 | k + 1 => by
  simp only [br]
  split <;> omega
theorem ms_wds (f g : Nat → Int) (n : Nat) : Wds (ms f g) n := fun i _ => by unfold ms W64; omega
theorem ms_Q {f g : Nat → Int} (hf : Wds f 4) (hg : Wds g 4) : ∀ k, k ≤ 4 → Q (ms f g) k - br f g k * 18446744073709551616 ^ k = Q f k - Q g k
 | 0, _ => by simp [Q, br]
 | k + 1, h => by
  have ih := ms_Q hf hg k (by omega)
  have h1 := hf k (by omega)
  have h2 := hg k (by omega)
  have h3 := br_bd f g k
  unfold W64 at h1 h2
  have e : br f g (k + 1) * 18446744073709551616 ^ (k + 1) = 18446744073709551616 * br f g (k + 1) * 18446744073709551616 ^ k := by rw [p64s, ← Int.mul_assoc, Int.mul_comm (br f g (k + 1)) 18446744073709551616]
  have e2 : ms f g k = f k - g k - br f g k + 18446744073709551616 * br f g (k + 1) := by
   simp only [ms, br]
   split <;> omega
  simp only [Q]
  rw [e, e2, Int.add_mul, Int.sub_mul, Int.sub_mul]
  omega
def d64 (N : Int) : Nat → Int := fun i => N / 18446744073709551616 ^ i % 18446744073709551616
theorem d64_wds (N : Int) (n : Nat) : Wds (d64 N) n := fun i _ => by unfold d64 W64; omega
theorem d64_Q (N : Int) (h0 : 0 ≤ N) : ∀ n, Q (d64 N) n = N % 18446744073709551616 ^ n
 | 0 => by simp [Q, Int.emod_one]
 | n + 1 => by
  simp only [Q]
  rw [d64_Q N h0 n, d64, Int.pow_succ]
  have hp := p64 n
  have e1 := Int.emod_add_mul_ediv N (18446744073709551616 ^ n)
  have e2 := Int.emod_add_mul_ediv (N / 18446744073709551616 ^ n) 18446744073709551616
  rw [Int.emod_def N (18446744073709551616 ^ n * 18446744073709551616), ← Int.ediv_ediv_of_nonneg (by omega)]
  generalize N / 18446744073709551616 ^ n = A at *
  have e3 : A % 18446744073709551616 * 18446744073709551616 ^ n = A * 18446744073709551616 ^ n - 18446744073709551616 * (A / 18446744073709551616) * 18446744073709551616 ^ n := by
   rw [← Int.sub_mul]
   congr 1
   omega
  rw [e3]
  generalize A / 18446744073709551616 = B at *
  generalize (18446744073709551616 : Int) ^ n = X at *
  rw [Int.mul_comm A X, show 18446744073709551616 * B * X = X * 18446744073709551616 * B by rw [Int.mul_comm (18446744073709551616 * B) X, ← Int.mul_assoc]]
  omega
theorem Q_inj {f g : Nat → Int} : ∀ {n : Nat}, Wds f n → Wds g n → Q f n = Q g n → ∀ i, i < n → f i = g i
 | 0, _, _, _, i, hi => by omega
 | n + 1, hf, hg, h, i, hi => by
  have b1 := Q_bd (hf.le (m := n) (by omega))
  have b2 := Q_bd (hg.le (m := n) (by omega))
  have hp := p64 n
  simp only [Q] at h
  have hn : f n = g n := by
   generalize Q f n = a at *
   generalize Q g n = b at *
   generalize (18446744073709551616 : Int) ^ n = X at *
   have h2 : (f n - g n) * X = b - a := by rw [Int.sub_mul]; omega
   by_cases e : f n - g n = 0
   ·omega
   ·exfalso
    by_cases hl : 1 ≤ f n - g n
    ·have : 1 * X ≤ (f n - g n) * X := Int.mul_le_mul_of_nonneg_right hl (by omega)
     omega
    ·have : (f n - g n) * X ≤ (-1) * X := Int.mul_le_mul_of_nonneg_right (by omega) (by omega)
     omega
  by_cases hi2 : i = n
  ·rw [hi2]; exact hn
  ·exact Q_inj (n := n) (hf.le (by omega)) (hg.le (by omega)) (by rw [hn] at h; omega) i (by omega)
def upto (k : Nat) (r f : Nat → Int) : Nat → Int := fun i => if i < k then r i else f i
theorem upto_zero (r f : Nat → Int) (i : Nat) : f i = upto 0 r f i := by unfold upto; rw [if_neg (by omega)]
theorem upto_at (k : Nat) (r f : Nat → Int) : upto k r f k = f k := by unfold upto; rw [if_neg (by omega)]
theorem upto_end {n : Nat} (r f : Nat → Int) (i : Nat) (hi : i < n) : upto n r f i = r i := by unfold upto; rw [if_pos hi]
theorem upto_next (k : Nat) (r f : Nat → Int) {v : Int} (hv : r k = v) (i : Nat) : upd (upto k r f) k v i = upto (k + 1) r f i := by
 unfold upd upto
 by_cases h : i = k
 ·subst h
  rw [if_pos rfl, if_pos (by omega), hv]
 ·rw [if_neg h]
  by_cases h2 : i < k
  ·rw [if_pos h2, if_pos (by omega)]
  ·rw [if_neg h2, if_neg (by omega)]
theorem rowD {w : World} {g : Nat} {T : TypeId} {n : Nat} {f : Nat → Int} (h : Row w g T n f) : Row w.drew g T n f := h
theorem info42 (f : Nat → Int) : (Tryz.prog.info? 42).map (·.size) = some (arr 4 f).size := by rw [arr_size]; kernel_rfl
theorem info44 (f : Nat → Int) : (Tryz.prog.info? 44).map (·.size) = some (arr 4 f).size := by rw [arr_size]; kernel_rfl
theorem info96 (f : Nat → Int) : (Tryz.prog.info? 96).map (·.size) = some (arr 8 f).size := by rw [arr_size]; kernel_rfl
theorem plus_any (f g : Nat → Int) (w : World) (hf : Wds f 4) (hg : Wds g 4) :
  Cs 67 #[.agg (arr 4 f), .agg (arr 4 g)] w (.tuple #[.agg (arr 4 (ps f g)), .int .u64 (pc f g 4)]) := by
 go_enter Tryz.func67, Tryz.ntmps67
 go_wp2
 rw [show #[Value.int IntKind.u64 0, Value.int IntKind.u64 0, Value.int IntKind.u64 0, Value.int IntKind.u64 0] = arr 4 (fun _ => 0) from rfl]
 have R1 : Row (((w.alloc (.cells (arr 4 f) 42)).alloc (.cells (arr 4 g) 42)).alloc (.cells (arr 4 fun _ => 0) 42)) w.heap.size 42 4 f := ((Row.new w 42 4 f).alloc _).alloc _
 have R2 : Row (((w.alloc (.cells (arr 4 f) 42)).alloc (.cells (arr 4 g) 42)).alloc (.cells (arr 4 fun _ => 0) 42)) (w.heap.size + 1) 42 4 g := (Row.new' _ 42 4 _ (by simp)).alloc _
 have R3 : Row (((w.alloc (.cells (arr 4 f) 42)).alloc (.cells (arr 4 g) 42)).alloc (.cells (arr 4 fun _ => 0) 42)) (w.heap.size + 1 + 1) 42 4 (fun _ => 0) := Row.new' _ 42 4 _ (by simp)
 have O : Below w.heap.size w (((w.alloc (.cells (arr 4 f) 42)).alloc (.cells (arr 4 g) 42)).alloc (.cells (arr 4 fun _ => 0) 42)) := (((Below.refl _ _).alloc (Nat.le_refl _) _).alloc (by simp) _).alloc (by simp; omega) _
 generalize (((w.alloc (.cells (arr 4 f) 42)).alloc (.cells (arr 4 g) 42)).alloc (.cells (arr 4 fun _ => 0) 42)) = W at R1 R2 R3 O ⊢
 go_loopw [6, 8] (fun c i wr => ∃ k : Nat, k ≤ 4 ∧ c = .int .u64 (pc f g k) ∧ i = .int .i64 k ∧ Row wr w.heap.size 42 4 (upto k (ps f g) f) ∧ Row wr (w.heap.size + 1) 42 4 g ∧ Row wr (w.heap.size + 1 + 1) 42 4 (fun _ => 0) ∧ Below w.heap.size w wr) (fun _ i _ => 4 - (intOf i).toNat)
 case atStart => exact ⟨0, by omega, rfl, rfl, R1.congr (fun i _ => upto_zero _ _ i), R2, R3, O⟩
 case round =>
  clear R1 R2 R3 O
  obtain ⟨k, hk, rfl, rfl, R1, R2, R3, O⟩ := hrel
  by_cases hlt : k < 4
  ·have c := R1.cell (i := k) hlt
   rw [upto_at] at c
   have d := R2.cell hlt
   have e := R1.free
   have i1 : (0 : Int) ≤ (k : Int) := by omega
   have i2 : (k : Int) < 4 := by omega
   have hb := pc_bd hf hg k hk
   have hr := add64_run (f k) (g k) (pc f g k) (hf k hlt).1 (hg k hlt).1 hb.1 hb.2
   have HN := hide (show pc f g (k + 1) = (f k + g k + pc f g k) / 18446744073709551616 from rfl)
   have HM := hide (show ps f g k = (f k + g k + pc f g k) % 18446744073709551616 from rfl)
   go_wp2_with fail
   go_region_with fail
   all_goals
    go_wp2
    exact ⟨⟨k + 1, by omega, by rw [HN.out], by go_num, rowD ((R1.set k ((f k + g k + pc f g k) % 18446744073709551616)).congr (fun i _ => upto_next k _ _ HM.out i)), rowD (R2.other (a := ⟨w.heap.size, k, none⟩) (by simp) _), rowD (R3.other (a := ⟨w.heap.size, k, none⟩) (by simp <;> omega) _), (O.setCell (p := ⟨w.heap.size, k, none⟩) (Nat.le_refl _) _).drew⟩, by simp [intOf]; omega⟩
  ·have hk' : k = 4 := by omega
   subst hk'
   replace R1 := R1.congr (f' := ps f g) (fun i hi => upto_end _ _ i hi)
   have RR := hide (R3.setAll (ps f g))
   have OO := hide (below_setCells (g := w.heap.size + 1 + 1) (by omega) (arr 4 (ps f g)).toList 0 O)
   have HX := hide R1
   clear R1 R2 O
   go_wp2_with (first | (refine wpList_load_row rfl 42 _ rfl w.heap.size rfl 42 (arr 4 (ps f g)) (0, 0) _ ?hgplus Tryz.underlying42 rfl (info42 _) ?_) | (refine wpList_store_mid rfl 42 _ _ rfl (w.heap.size + 1 + 1) 0 (arr 4 (ps f g)) rfl rfl ?thplus (info42 _) (arr_one _ _) ?_))
   case hgplus => exact HX.out
   case thplus => rw [arr_size]; exact R3.there
   exact bodyPost_ret (v := .tuple #[.agg (arr 4 (ps f g)), .int .u64 (pc f g 4)]) (results_cell_tmp Tryz.results67 _ _ (w.heap.size + 1 + 1) 42 (arr 4 (ps f g)) (0, 0) _ (.int .u64 (pc f g 4)) rfl rfl RR.out Tryz.underlying42 rfl (info42 _)) rfl ⟨rfl, OO.out⟩
theorem minus_any (f g : Nat → Int) (w : World) (hf : Wds f 4) (hg : Wds g 4) :
  Cs 84 #[.agg (arr 4 f), .agg (arr 4 g)] w (.tuple #[.agg (arr 4 (ms f g)), .int .u64 (br f g 4)]) := by
 go_enter Tryz.func84, Tryz.ntmps84
 go_wp2
 rw [show #[Value.int IntKind.u64 0, Value.int IntKind.u64 0, Value.int IntKind.u64 0, Value.int IntKind.u64 0] = arr 4 (fun _ => 0) from rfl]
 have R1 : Row (((w.alloc (.cells (arr 4 f) 42)).alloc (.cells (arr 4 g) 42)).alloc (.cells (arr 4 fun _ => 0) 42)) w.heap.size 42 4 f := ((Row.new w 42 4 f).alloc _).alloc _
 have R2 : Row (((w.alloc (.cells (arr 4 f) 42)).alloc (.cells (arr 4 g) 42)).alloc (.cells (arr 4 fun _ => 0) 42)) (w.heap.size + 1) 42 4 g := (Row.new' _ 42 4 _ (by simp)).alloc _
 have R3 : Row (((w.alloc (.cells (arr 4 f) 42)).alloc (.cells (arr 4 g) 42)).alloc (.cells (arr 4 fun _ => 0) 42)) (w.heap.size + 1 + 1) 42 4 (fun _ => 0) := Row.new' _ 42 4 _ (by simp)
 have O : Below w.heap.size w (((w.alloc (.cells (arr 4 f) 42)).alloc (.cells (arr 4 g) 42)).alloc (.cells (arr 4 fun _ => 0) 42)) := (((Below.refl _ _).alloc (Nat.le_refl _) _).alloc (by simp) _).alloc (by simp; omega) _
 generalize (((w.alloc (.cells (arr 4 f) 42)).alloc (.cells (arr 4 g) 42)).alloc (.cells (arr 4 fun _ => 0) 42)) = W at R1 R2 R3 O ⊢
 go_loopw [6, 8] (fun c i wr => ∃ k : Nat, k ≤ 4 ∧ c = .int .u64 (br f g k) ∧ i = .int .i64 k ∧ Row wr w.heap.size 42 4 (upto k (ms f g) f) ∧ Row wr (w.heap.size + 1) 42 4 g ∧ Row wr (w.heap.size + 1 + 1) 42 4 (fun _ => 0) ∧ Below w.heap.size w wr) (fun _ i _ => 4 - (intOf i).toNat)
 case atStart => exact ⟨0, by omega, rfl, rfl, R1.congr (fun i _ => upto_zero _ _ i), R2, R3, O⟩
 case round =>
  clear R1 R2 R3 O
  obtain ⟨k, hk, rfl, rfl, R1, R2, R3, O⟩ := hrel
  by_cases hlt : k < 4
  ·have c := R1.cell (i := k) hlt
   rw [upto_at] at c
   have d := R2.cell hlt
   have e := R1.free
   have i1 : (0 : Int) ≤ (k : Int) := by omega
   have i2 : (k : Int) < 4 := by omega
   have hb := br_bd f g k
   have hr := sub64_run (f k) (g k) (br f g k) (hf k hlt) (hg k hlt) hb.1 hb.2
   have HN := hide (show br f g (k + 1) = if f k < g k + br f g k then 1 else 0 from rfl)
   have HM := hide (show ms f g k = (f k - g k - br f g k) % 18446744073709551616 from rfl)
   go_wp2_with fail
   go_region_with fail
   all_goals
    go_wp2
    exact ⟨⟨k + 1, by omega, by rw [HN.out], by go_num, rowD ((R1.set k ((f k - g k - br f g k) % 18446744073709551616)).congr (fun i _ => upto_next k _ _ HM.out i)), rowD (R2.other (a := ⟨w.heap.size, k, none⟩) (by simp) _), rowD (R3.other (a := ⟨w.heap.size, k, none⟩) (by simp <;> omega) _), (O.setCell (p := ⟨w.heap.size, k, none⟩) (Nat.le_refl _) _).drew⟩, by simp [intOf]; omega⟩
  ·have hk' : k = 4 := by omega
   subst hk'
   replace R1 := R1.congr (f' := ms f g) (fun i hi => upto_end _ _ i hi)
   have RR := hide (R3.setAll (ms f g))
   have OO := hide (below_setCells (g := w.heap.size + 1 + 1) (by omega) (arr 4 (ms f g)).toList 0 O)
   have HX := hide R1
   clear R1 R2 O
   go_wp2_with (first | (refine wpList_load_row rfl 42 _ rfl w.heap.size rfl 42 (arr 4 (ms f g)) (0, 0) _ ?hgminus Tryz.underlying42 rfl (info42 _) ?_) | (refine wpList_store_mid rfl 42 _ _ rfl (w.heap.size + 1 + 1) 0 (arr 4 (ms f g)) rfl rfl ?thminus (info42 _) (arr_one _ _) ?_))
   case hgminus => exact HX.out
   case thminus => rw [arr_size]; exact R3.there
   exact bodyPost_ret (v := .tuple #[.agg (arr 4 (ms f g)), .int .u64 (br f g 4)]) (results_cell_tmp Tryz.results84 _ _ (w.heap.size + 1 + 1) 42 (arr 4 (ms f g)) (0, 0) _ (.int .u64 (br f g 4)) rfl rfl RR.out Tryz.underlying42 rfl (info42 _)) rfl ⟨rfl, OO.out⟩
def Lm : Int := 7237005577332262213973186563042994240857116359379907606001950938285454250989
def Lf : Nat → Int := fun i => [6346243789798364141, 1503914060200516822, 0, 1152921504606846976].getD i 0
theorem Lf_Q : Q Lf 4 = Lm := by decide +kernel
theorem Lf_wds : Wds Lf 4 := fun i hi => by
 rcases (show i = 0 ∨ i = 1 ∨ i = 2 ∨ i = 3 by omega) with rfl | rfl | rfl | rfl <;> exact ⟨by decide, by decide⟩
theorem modulus_any (w : World) : Cs 69 #[] w (.agg (arr 4 Lf)) := by
 go_enter Tryz.func69, Tryz.ntmps69
 go_wp2
 exact bodyPost_ret (v := .agg (arr 4 Lf)) (by simp [results, Tryz.results69, go_sem]; rfl) rfl ⟨rfl, (Below.refl _ _).alloc (Nat.le_refl _) _⟩
theorem once_any (f : Nat → Int) (c : Int) (w : World) (hf : Wds f 4) (hc : c = 0 ∨ c = 1) :
  Cs 125 #[.agg (arr 4 f), .int .u64 c] w (.agg (arr 4 fun i => f i * c)) := by
 go_enter Tryz.func125, Tryz.ntmps125
 go_wp2
 rw [show #[Value.int IntKind.u64 0, Value.int IntKind.u64 0, Value.int IntKind.u64 0, Value.int IntKind.u64 0] = arr 4 (fun _ => 0) from rfl]
 have R1 : Row ((w.alloc (.cells (arr 4 f) 42)).alloc (.cells (arr 4 fun _ => 0) 42)) w.heap.size 42 4 f := (Row.new w 42 4 f).alloc _
 have R3 : Row ((w.alloc (.cells (arr 4 f) 42)).alloc (.cells (arr 4 fun _ => 0) 42)) (w.heap.size + 1) 42 4 (fun _ => 0) := Row.new' _ 42 4 _ (by simp)
 have O : Below w.heap.size w ((w.alloc (.cells (arr 4 f) 42)).alloc (.cells (arr 4 fun _ => 0) 42)) := ((Below.refl _ _).alloc (Nat.le_refl _) _).alloc (by simp) _
 generalize ((w.alloc (.cells (arr 4 f) 42)).alloc (.cells (arr 4 fun _ => 0) 42)) = W at R1 R3 O ⊢
 go_loopw [6] (fun i wr => ∃ k : Nat, k ≤ 4 ∧ i = .int .i64 k ∧ Row wr w.heap.size 42 4 (upto k (fun i => f i * c) f) ∧ Row wr (w.heap.size + 1) 42 4 (fun _ => 0) ∧ Below w.heap.size w wr) (fun i _ => 4 - (intOf i).toNat)
 case atStart => exact ⟨0, by omega, rfl, R1.congr (fun i _ => upto_zero _ _ i), R3, O⟩
 case round =>
  clear R1 R3 O
  obtain ⟨k, hk, rfl, R1, R3, O⟩ := hrel
  by_cases hlt : k < 4
  ·have cc := R1.cell (i := k) hlt
   rw [upto_at] at cc
   have e := R1.free k
   have i1 : (0 : Int) ≤ (k : Int) := by omega
   have i2 : (k : Int) < 4 := by omega
   obtain ⟨f0, f1⟩ := hf k hlt
   have hw : IntKind.u64.wrap (f k * c) = f k * c := by
    rcases hc with rfl | rfl
    ·rw [Int.mul_zero]; decide
    ·rw [Int.mul_one]; exact wrap64u ⟨f0, f1⟩
   have m0 : 0 ≤ f k * c := by rcases hc with rfl | rfl <;> omega
   have m1 : f k * c < 18446744073709551616 := by rcases hc with rfl | rfl <;> omega
   have RR := hide ((R1.set k (f k * c)).congr (fun i _ => upto_next k (fun i => f i * c) f rfl i))
   have R3' := hide (R3.other (a := ⟨w.heap.size, k, none⟩) (by simp) (.int .u64 (f k * c)))
   have O' := hide (O.setCell (p := ⟨w.heap.size, k, none⟩) (Nat.le_refl _) (.int .u64 (f k * c)))
   clear R1 R3 O
   go_wp2
   go_roundw
   case rel => exact ⟨k + 1, by omega, by go_num, RR.out, R3'.out, O'.out⟩
   case measure => simp [intOf]; omega
  ·have hk' : k = 4 := by omega
   subst hk'
   replace R1 := R1.congr (f' := fun i => f i * c) (fun i hi => upto_end _ _ i hi)
   have RR := hide (R3.setAll (fun i => f i * c))
   have OO := hide (below_setCells (g := w.heap.size + 1) (by omega) (arr 4 (fun i => f i * c)).toList 0 O)
   have HX := hide R1
   clear R1 O
   go_wp2_with (first | (refine wpList_load_row rfl 42 _ rfl w.heap.size rfl 42 (arr 4 (fun i => f i * c)) (0, 0) _ ?hgo Tryz.underlying42 rfl (info42 _) ?_) | (refine wpList_store_mid rfl 42 _ _ rfl (w.heap.size + 1) 0 (arr 4 (fun i => f i * c)) rfl rfl ?tho (info42 _) (arr_one _ _) ?_))
   case hgo => exact HX.out
   case tho => rw [arr_size]; exact R3.there
   exact bodyPost_ret (v := .agg (arr 4 fun i => f i * c)) (results_cell_row Tryz.results125 _ _ (w.heap.size + 1) 42 (arr 4 (fun i => f i * c)) (0, 0) _ rfl RR.out Tryz.underlying42 rfl (info42 _)) rfl ⟨rfl, OO.out⟩
theorem Q_mul (f : Nat → Int) (c : Int) : ∀ n, Q (fun i => f i * c) n = Q f n * c
 | 0 => by simp [Q]
 | n + 1 => by
  simp only [Q]
  rw [Q_mul f c n, Int.add_mul, Int.mul_assoc, Int.mul_assoc, Int.mul_comm c]
theorem P256 : (18446744073709551616 : Int) ^ 4 = 115792089237316195423570985008687907853269984665640564039457584007913129639936 := by decide
theorem wval {X Y R T b c P L : Int} (hb : b = 0 ∨ b = 1) (hc : c = 0 ∨ c = 1) (hL : L < P) (e1 : R - b * P = X - Y) (e2 : T + c * P = R + L * b) (_r0 : 0 ≤ R) (r1 : R < P) (t0 : 0 ≤ T) (t1 : T < P) (h0 : - L ≤ X - Y) (h1 : X - Y < L) : T = (X - Y) % L := by
 rcases hb with rfl | rfl
 ·rcases hc with rfl | rfl
  ·simp only [Int.zero_mul, Int.mul_zero] at e1 e2
   rw [Int.emod_eq_of_lt (by omega) h1]
   omega
  ·simp only [Int.zero_mul, Int.mul_zero, Int.one_mul] at e1 e2
   omega
 ·rcases hc with rfl | rfl
  ·simp only [Int.zero_mul, Int.mul_one, Int.one_mul] at e1 e2
   omega
  ·simp only [Int.mul_one, Int.one_mul] at e1 e2
   have e : (X - Y) % L = (X - Y + L) % L := by rw [Int.add_emod_right]
   rw [e, Int.emod_eq_of_lt (by omega) (by omega)]
   omega
theorem Lm_P : Lm < 18446744073709551616 ^ 4 := by decide
theorem Lm_pos : 0 < Lm := by decide
theorem lmod (X : Int) : 0 ≤ X % Lm ∧ X % Lm < Lm := ⟨Int.emod_nonneg _ (by decide), Int.emod_lt_of_pos _ Lm_pos⟩
theorem dQ {X : Int} (h : 0 ≤ X ∧ X < Lm) : Q (d64 X) 4 = X := by
 have := Lm_P
 rw [d64_Q _ h.1, Int.emod_eq_of_lt h.1 (by omega)]
theorem without_val {f g : Nat → Int} (hf : Wds f 4) (hg : Wds g 4) (h0 : - Lm ≤ Q f 4 - Q g 4) (h1 : Q f 4 - Q g 4 < Lm) :
  arr 4 (ps (ms f g) (fun i => Lf i * br f g 4)) = arr 4 (d64 ((Q f 4 - Q g 4) % Lm)) := by
 have hb := br_bd f g 4
 have hb2 : br f g 4 = 0 ∨ br f g 4 = 1 := by omega
 have wl : Wds (fun i => Lf i * br f g 4) 4 := fun i hi => by
  have h := Lf_wds i hi
  show W64 (Lf i * br f g 4)
  rcases hb2 with e | e
  ·rw [e, Int.mul_zero]; exact ⟨by decide, by decide⟩
  ·rw [e, Int.mul_one]; exact h
 have e1 := ms_Q hf hg 4 (by omega)
 have e2 := ps_Q (ms f g) (fun i => Lf i * br f g 4) 4
 have e3 := pc_bd (ms_wds f g 4) wl 4 (by omega)
 have b1 := Q_bd (ms_wds f g 4)
 have b2 := Q_bd (ps_wds (ms f g) (fun i => Lf i * br f g 4) 4)
 rw [Q_mul, Lf_Q] at e2
 refine arr_congr (Q_inj (ps_wds _ _ 4) (d64_wds _ 4) ?_)
 rw [dQ (lmod _)]
 exact wval hb2 (by omega) Lm_P e1 e2 b1.1 b1.2 b2.1 b2.2 h0 h1
theorem wpList_build {P : Program} {ops : Array Oper} {rest : List Oper} {o : Oper} {a : Act} {w : World} {Q : Exit → Act → World → Prop} (hg : o.guard = none) (ty : TypeId) (parts : Array (Nat × Operand)) (_ho : o.op = .build ty parts) (cs : Array Value)
  (hrun : (execOp a.eval o).run P w = .ok (.value (.agg cs)) w) (h : wpList P ops Q rest (a.put o.dst (.agg cs)) w) : wpList P ops Q (o :: rest) a w :=
 wpList_plain hg fun K hK => by
  unfold Oper.wp
  rw [hrun]
  exact hK _ _ h
theorem without_gen (f g r l t : Nat → Int) (b c : Int) (w : World)
  (H0 : ∀ w, Cs 84 #[.agg (arr 4 f), .agg (arr 4 g)] w (.tuple #[.agg (arr 4 r), .int .u64 b]))
  (H2 : ∀ w, Cs 125 #[.agg (arr 4 Lf), .int .u64 b] w (.agg (arr 4 l)))
  (H3 : ∀ w, Cs 67 #[.agg (arr 4 r), .agg (arr 4 l)] w (.tuple #[.agg (arr 4 t), .int .u64 c])) :
  Cs 68 #[.agg (arr 4 f), .agg (arr 4 g)] w (.agg (arr 4 t)) := by
 have C0 := hide H0
 have C1 := hide modulus_any
 have C2 := hide H2
 have C3 := hide H3
 clear H0 H2 H3
 have R1 : Row (((w.alloc (.cells (arr 4 f) 42)).alloc (.cells (arr 4 g) 42)).alloc (.cells (arr 4 fun _ => 0) 44)) w.heap.size 42 4 f := ((Row.new w 42 4 f).alloc _).alloc _
 have R2 : Row (((w.alloc (.cells (arr 4 f) 42)).alloc (.cells (arr 4 g) 42)).alloc (.cells (arr 4 fun _ => 0) 44)) (w.heap.size + 1) 42 4 g := (Row.new' _ 42 4 _ (by simp)).alloc _
 have R3 : Row (((w.alloc (.cells (arr 4 f) 42)).alloc (.cells (arr 4 g) 42)).alloc (.cells (arr 4 fun _ => 0) 44)) (w.heap.size + 1 + 1) 44 4 (fun _ => 0) := Row.new' _ 44 4 _ (by simp)
 have O : Below w.heap.size w (((w.alloc (.cells (arr 4 f) 42)).alloc (.cells (arr 4 g) 42)).alloc (.cells (arr 4 fun _ => 0) 44)) := (((Below.refl _ _).alloc (Nat.le_refl _) _).alloc (by simp) _).alloc (by simp; omega) _
 have HR := hide (And.intro R1 (And.intro R2 (And.intro R3 O)))
 clear R1 R2 R3 O
 go_enter Tryz.func68, Tryz.ntmps68
 go_wp2_with (first | (refine wpList_load_row rfl 42 _ rfl w.heap.size rfl 42 (arr 4 f) (0, 0) _ HR.out.1 Tryz.underlying42 rfl (info42 _) ?_) | (refine wpList_load_row rfl 42 _ rfl (w.heap.size + 1) rfl 42 (arr 4 g) (0, 0) _ HR.out.2.1 Tryz.underlying42 rfl (info42 _) ?_))
 rw [show #[Value.int IntKind.u64 0, Value.int IntKind.u64 0, Value.int IntKind.u64 0, Value.int IntKind.u64 0] = arr 4 (fun _ => 0) from rfl]
 obtain ⟨R1, R2, R3, O⟩ := HR.out
 clear HR R1 R2
 generalize (((w.alloc (.cells (arr 4 f) 42)).alloc (.cells (arr 4 g) 42)).alloc (.cells (arr 4 fun _ => 0) 44)) = W at R3 O ⊢
 refine (C0.out _).mono ?_
 rintro _ w1 ⟨rfl, hb1⟩
 replace R3 := R3.keep hb1
 replace O := O.trans (hb1.mono O.size)
 clear hb1
 have RC : Row (w1.alloc (.cells #[Value.int IntKind.u64 0, Value.int IntKind.u64 0, Value.int IntKind.u64 0, Value.int IntKind.u64 0] 42)) w1.heap.size 42 4 (fun _ => 0) := Row.new w1 42 4 (fun _ => 0)
 have gl := R3.lt
 have RR := hide (RC.setAll r)
 have BB := below_setCells (g := w1.heap.size) (Nat.le_refl _) (arr 4 r).toList 0 (new_below w1 (.cells #[Value.int IntKind.u64 0, Value.int IntKind.u64 0, Value.int IntKind.u64 0, Value.int IntKind.u64 0] 42))
 have R3' := hide (R3.keep BB)
 have O' := hide (O.trans (BB.mono O.size))
 clear R3 O BB
 go_wp2_with (refine wpList_store_mid rfl 42 _ _ rfl w1.heap.size 0 (arr 4 r) rfl rfl ?thr (info42 _) (arr_one _ _) ?_)
 case thr => rw [arr_size]; exact RC.there
 have R3 := R3'.out
 have O := O'.out
 replace RC := RR.out
 clear R3' O' RR
 generalize w1.heap.size = gc at *
 generalize (w1.alloc (.cells #[Value.int IntKind.u64 0, Value.int IntKind.u64 0, Value.int IntKind.u64 0, Value.int IntKind.u64 0] 42)).setCells gc 0 (arr 4 r).toList = W2 at *
 refine region_cut (fun a0 a' w' => a' = (((((((a0.put (some 14) (.agg (arr 4 r))).put (some 15) (.agg (arr 4 Lf))).put (some 16) (.int .u64 b)).put (some 17) (.agg (arr 4 l))).put (some 18) (.tuple #[.agg (arr 4 t), .int .u64 c])).put (some 13) (.tuple #[.agg (arr 4 t), .int .u64 c])).put (some 19) (.agg (arr 4 t))).put (some 20) (.int .u64 c) ∧ Row w' gc 42 4 t ∧ Row w' (w.heap.size + 1 + 1) 44 4 (fun _ => 0) ∧ Below w.heap.size w w') (by kernel_rfl) ?_ ?_
 ·clear RC R3 O
  rintro _ w8 ⟨rfl, RC, R3, O⟩
  have RR := hide (R3.setAll t)
  have OO := hide (below_setCells (g := w.heap.size + 1 + 1) (by omega) (arr 4 t).toList 0 O)
  have HX := hide RC
  clear RC O
  go_simp
  go_wp2_with (first | (refine wpList_load_row rfl 42 _ rfl gc rfl 42 (arr 4 t) (0, 0) _ ?hgt Tryz.underlying42 rfl (info42 _) ?_) | (refine wpList_build rfl 44 _ rfl (arr 4 t) (by kernel_rfl) ?_) | (refine wpList_store_mid rfl 44 _ _ rfl (w.heap.size + 1 + 1) 0 (arr 4 t) rfl rfl ?tht (info44 _) (arr_one _ _) ?_))
  case hgt => exact HX.out
  case tht => rw [arr_size]; exact R3.there
  exact bodyPost_ret (v := .agg (arr 4 t)) (results_cell_row Tryz.results68 _ _ (w.heap.size + 1 + 1) 44 (arr 4 t) (0, 0) _ rfl RR.out Tryz.underlying44 rfl (info44 _)) rfl ⟨rfl, OO.out⟩
 ·intro hrest
  replace RC := rowD RC
  replace R3 := rowD R3
  replace O := O.drew
  generalize W2.drew = W0 at *
  refine wpAny_take (i := 2) (v := .int .u64 b) rfl (by kernel_rfl) (by kernel_rfl) (by kernel_rfl) (fun _ _ _ h => h) (Or.inl ⟨by rfl, fun _ => by kernel_rfl⟩) ?_
  refine wpAny_ready (rs := [0, 1]) (by kernel_rfl) (by simp) ?_
  refine ready_load rfl rfl 42 _ rfl gc (by kernel_rfl) 42 (arr 4 r) (0, 0) _ RC Tryz.underlying42 rfl (info42 _) ?_ ?_
  ·skip
   refine wpAny_ready (rs := [1]) (by kernel_rfl) (by simp) ?_
   refine ready_call 69 #[] rfl rfl (by kernel_rfl) ?_ ?_
   ·refine (C1.out _).mono ?_
    rintro _ w102 ⟨rfl, hb102⟩
    refine ⟨_, rfl, ?_⟩
    replace R3 := R3.keep hb102
    replace RC := RC.keep hb102
    replace O := O.trans (hb102.mono O.size)
    clear hb102
    refine wpAny_ready (rs := [3]) (by kernel_rfl) (by simp) ?_
    refine ready_call 125 #[.agg (arr 4 Lf), .int .u64 b] rfl rfl (by kernel_rfl) ?_ ?_
    ·refine (C2.out _).mono ?_
     rintro _ w103 ⟨rfl, hb103⟩
     refine ⟨_, rfl, ?_⟩
     replace R3 := R3.keep hb103
     replace RC := RC.keep hb103
     replace O := O.trans (hb103.mono O.size)
     clear hb103
     refine wpAny_ready (rs := [4]) (by kernel_rfl) (by simp) ?_
     refine ready_call 67 #[.agg (arr 4 r), .agg (arr 4 l)] rfl rfl (by kernel_rfl) ?_ ?_
     ·refine (C3.out _).mono ?_
      rintro _ w104 ⟨rfl, hb104⟩
      refine ⟨_, rfl, ?_⟩
      replace R3 := R3.keep hb104
      replace RC := RC.keep hb104
      replace O := O.trans (hb104.mono O.size)
      clear hb104
      refine wpAny_take (i := 5) (v := .tuple #[.agg (arr 4 t), .int .u64 c]) rfl (by kernel_rfl) (by kernel_rfl) (by kernel_rfl) (fun _ _ _ h => h) (Or.inl ⟨by rfl, fun _ => by kernel_rfl⟩) ?_
      refine wpAny_take (i := 6) (v := .agg (arr 4 t)) rfl (by kernel_rfl) (by kernel_rfl) (by kernel_rfl) (fun _ _ _ h => h) (Or.inl ⟨by rfl, fun _ => by kernel_rfl⟩) ?_
      refine wpAny_take (i := 7) (v := .int .u64 c) rfl (by kernel_rfl) (by kernel_rfl) (by kernel_rfl) (fun _ _ _ h => h) (Or.inl ⟨by rfl, fun _ => by kernel_rfl⟩) ?_
      refine wpAny_ready (rs := [8]) (by kernel_rfl) (by simp) ?_
      refine ready_store rfl rfl 42 _ _ rfl gc 0 (arr 4 t) (by kernel_rfl) (by kernel_rfl) (by rw [arr_size]; exact RC.there) (info42 _) (arr_one _ _) ?_ ?_
      ·skip
       exact wpAny_done (by kernel_rfl) (hrest _ _ ⟨by kernel_rfl, RC.setAll _, R3.setOther (by omega) _ _, below_setCells (by omega) _ _ O⟩) _
      exact AllReady.nil
     exact AllReady.nil
    exact AllReady.nil
   exact AllReady.nil
  refine ready_call 69 #[] rfl rfl (by kernel_rfl) ?_ ?_
  ·refine (C1.out _).mono ?_
   rintro _ w106 ⟨rfl, hb106⟩
   refine ⟨_, rfl, ?_⟩
   replace R3 := R3.keep hb106
   replace RC := RC.keep hb106
   replace O := O.trans (hb106.mono O.size)
   clear hb106
   refine wpAny_ready (rs := [0, 3]) (by kernel_rfl) (by simp) ?_
   refine ready_load rfl rfl 42 _ rfl gc (by kernel_rfl) 42 (arr 4 r) (0, 0) _ RC Tryz.underlying42 rfl (info42 _) ?_ ?_
   ·skip
    refine wpAny_ready (rs := [3]) (by kernel_rfl) (by simp) ?_
    refine ready_call 125 #[.agg (arr 4 Lf), .int .u64 b] rfl rfl (by kernel_rfl) ?_ ?_
    ·refine (C2.out _).mono ?_
     rintro _ w108 ⟨rfl, hb108⟩
     refine ⟨_, rfl, ?_⟩
     replace R3 := R3.keep hb108
     replace RC := RC.keep hb108
     replace O := O.trans (hb108.mono O.size)
     clear hb108
     refine wpAny_ready (rs := [4]) (by kernel_rfl) (by simp) ?_
     refine ready_call 67 #[.agg (arr 4 r), .agg (arr 4 l)] rfl rfl (by kernel_rfl) ?_ ?_
     ·refine (C3.out _).mono ?_
      rintro _ w109 ⟨rfl, hb109⟩
      refine ⟨_, rfl, ?_⟩
      replace R3 := R3.keep hb109
      replace RC := RC.keep hb109
      replace O := O.trans (hb109.mono O.size)
      clear hb109
      refine wpAny_take (i := 5) (v := .tuple #[.agg (arr 4 t), .int .u64 c]) rfl (by kernel_rfl) (by kernel_rfl) (by kernel_rfl) (fun _ _ _ h => h) (Or.inl ⟨by rfl, fun _ => by kernel_rfl⟩) ?_
      refine wpAny_take (i := 6) (v := .agg (arr 4 t)) rfl (by kernel_rfl) (by kernel_rfl) (by kernel_rfl) (fun _ _ _ h => h) (Or.inl ⟨by rfl, fun _ => by kernel_rfl⟩) ?_
      refine wpAny_take (i := 7) (v := .int .u64 c) rfl (by kernel_rfl) (by kernel_rfl) (by kernel_rfl) (fun _ _ _ h => h) (Or.inl ⟨by rfl, fun _ => by kernel_rfl⟩) ?_
      refine wpAny_ready (rs := [8]) (by kernel_rfl) (by simp) ?_
      refine ready_store rfl rfl 42 _ _ rfl gc 0 (arr 4 t) (by kernel_rfl) (by kernel_rfl) (by rw [arr_size]; exact RC.there) (info42 _) (arr_one _ _) ?_ ?_
      ·skip
       exact wpAny_done (by kernel_rfl) (hrest _ _ ⟨by kernel_rfl, RC.setAll _, R3.setOther (by omega) _ _, below_setCells (by omega) _ _ O⟩) _
      exact AllReady.nil
     exact AllReady.nil
    exact AllReady.nil
   refine ready_call 125 #[.agg (arr 4 Lf), .int .u64 b] rfl rfl (by kernel_rfl) ?_ ?_
   ·refine (C2.out _).mono ?_
    rintro _ w111 ⟨rfl, hb111⟩
    refine ⟨_, rfl, ?_⟩
    replace R3 := R3.keep hb111
    replace RC := RC.keep hb111
    replace O := O.trans (hb111.mono O.size)
    clear hb111
    refine wpAny_ready (rs := [0]) (by kernel_rfl) (by simp) ?_
    refine ready_load rfl rfl 42 _ rfl gc (by kernel_rfl) 42 (arr 4 r) (0, 0) _ RC Tryz.underlying42 rfl (info42 _) ?_ ?_
    ·skip
     refine wpAny_ready (rs := [4]) (by kernel_rfl) (by simp) ?_
     refine ready_call 67 #[.agg (arr 4 r), .agg (arr 4 l)] rfl rfl (by kernel_rfl) ?_ ?_
     ·refine (C3.out _).mono ?_
      rintro _ w113 ⟨rfl, hb113⟩
      refine ⟨_, rfl, ?_⟩
      replace R3 := R3.keep hb113
      replace RC := RC.keep hb113
      replace O := O.trans (hb113.mono O.size)
      clear hb113
      refine wpAny_take (i := 5) (v := .tuple #[.agg (arr 4 t), .int .u64 c]) rfl (by kernel_rfl) (by kernel_rfl) (by kernel_rfl) (fun _ _ _ h => h) (Or.inl ⟨by rfl, fun _ => by kernel_rfl⟩) ?_
      refine wpAny_take (i := 6) (v := .agg (arr 4 t)) rfl (by kernel_rfl) (by kernel_rfl) (by kernel_rfl) (fun _ _ _ h => h) (Or.inl ⟨by rfl, fun _ => by kernel_rfl⟩) ?_
      refine wpAny_take (i := 7) (v := .int .u64 c) rfl (by kernel_rfl) (by kernel_rfl) (by kernel_rfl) (fun _ _ _ h => h) (Or.inl ⟨by rfl, fun _ => by kernel_rfl⟩) ?_
      refine wpAny_ready (rs := [8]) (by kernel_rfl) (by simp) ?_
      refine ready_store rfl rfl 42 _ _ rfl gc 0 (arr 4 t) (by kernel_rfl) (by kernel_rfl) (by rw [arr_size]; exact RC.there) (info42 _) (arr_one _ _) ?_ ?_
      ·skip
       exact wpAny_done (by kernel_rfl) (hrest _ _ ⟨by kernel_rfl, RC.setAll _, R3.setOther (by omega) _ _, below_setCells (by omega) _ _ O⟩) _
      exact AllReady.nil
     exact AllReady.nil
    exact AllReady.nil
   exact AllReady.nil
  exact AllReady.nil
theorem without_any (f g : Nat → Int) (w : World) (hf : Wds f 4) (hg : Wds g 4) (h0 : - Lm ≤ Q f 4 - Q g 4) (h1 : Q f 4 - Q g 4 < Lm) :
  Cs 68 #[.agg (arr 4 f), .agg (arr 4 g)] w (.agg (arr 4 (d64 ((Q f 4 - Q g 4) % Lm)))) := by
 have hb := br_bd f g 4
 have hb2 : br f g 4 = 0 ∨ br f g 4 = 1 := by omega
 have wl : Wds (fun i => Lf i * br f g 4) 4 := fun i hi => by
  have h := Lf_wds i hi
  show W64 (Lf i * br f g 4)
  rcases hb2 with e | e
  ·rw [e, Int.mul_zero]; exact ⟨by decide, by decide⟩
  ·rw [e, Int.mul_one]; exact h
 have := without_gen f g (ms f g) (fun i => Lf i * br f g 4) (ps (ms f g) (fun i => Lf i * br f g 4)) (br f g 4) (pc (ms f g) (fun i => Lf i * br f g 4) 4) w
  (fun w => minus_any f g w hf hg) (fun w => once_any Lf _ w Lf_wds hb2) (fun w => plus_any _ _ w (ms_wds f g 4) wl)
 rwa [without_val hf hg h0 h1] at this
theorem add_gen (M N V c : Int) (r : Nat → Int) (w : World)
  (H0 : ∀ w, Cs 67 #[.agg (arr 4 (d64 M)), .agg (arr 4 (d64 N))] w (.tuple #[.agg (arr 4 r), .int .u64 c]))
  (H2 : ∀ w, Cs 68 #[.agg (arr 4 r), .agg (arr 4 Lf)] w (.agg (arr 4 (d64 V)))) :
  Cs 28 #[.agg (arr 4 (d64 M)), .agg (arr 4 (d64 N))] w (.agg (arr 4 (d64 V))) := by
 have C0 := hide H0
 have C1 := hide modulus_any
 have C2 := hide H2
 clear H0 H2
 have R1 : Row (((w.alloc (.cells (arr 4 (d64 M)) 44)).alloc (.cells (arr 4 (d64 N)) 44)).alloc (.cells (arr 4 fun _ => 0) 44)) w.heap.size 44 4 (d64 M) := ((Row.new w 44 4 _).alloc _).alloc _
 have R2 : Row (((w.alloc (.cells (arr 4 (d64 M)) 44)).alloc (.cells (arr 4 (d64 N)) 44)).alloc (.cells (arr 4 fun _ => 0) 44)) (w.heap.size + 1) 44 4 (d64 N) := (Row.new' _ 44 4 _ (by simp)).alloc _
 have R3 : Row (((w.alloc (.cells (arr 4 (d64 M)) 44)).alloc (.cells (arr 4 (d64 N)) 44)).alloc (.cells (arr 4 fun _ => 0) 44)) (w.heap.size + 1 + 1) 44 4 (fun _ => 0) := Row.new' _ 44 4 _ (by simp)
 have O : Below w.heap.size w (((w.alloc (.cells (arr 4 (d64 M)) 44)).alloc (.cells (arr 4 (d64 N)) 44)).alloc (.cells (arr 4 fun _ => 0) 44)) := (((Below.refl _ _).alloc (Nat.le_refl _) _).alloc (by simp) _).alloc (by simp; omega) _
 have HR := hide (And.intro R1 (And.intro R2 (And.intro R3 O)))
 clear R1 R2 R3 O
 go_enter Tryz.func28, Tryz.ntmps28
 go_wp2_with (first | (refine wpList_load_row rfl 42 _ rfl w.heap.size rfl 44 (arr 4 (d64 M)) (0, 0) _ HR.out.1 Tryz.underlying42 rfl (info42 _) ?_) | (refine wpList_load_row rfl 42 _ rfl (w.heap.size + 1) rfl 44 (arr 4 (d64 N)) (0, 0) _ HR.out.2.1 Tryz.underlying42 rfl (info42 _) ?_))
 rw [show #[Value.int IntKind.u64 0, Value.int IntKind.u64 0, Value.int IntKind.u64 0, Value.int IntKind.u64 0] = arr 4 (fun _ => 0) from rfl]
 obtain ⟨R1, R2, R3, O⟩ := HR.out
 clear HR R1 R2
 generalize (((w.alloc (.cells (arr 4 (d64 M)) 44)).alloc (.cells (arr 4 (d64 N)) 44)).alloc (.cells (arr 4 fun _ => 0) 44)) = W at R3 O ⊢
 refine (C0.out _).mono ?_
 rintro _ w1 ⟨rfl, hb1⟩
 replace R3 := R3.keep hb1
 replace O := O.trans (hb1.mono O.size)
 clear hb1
 have RC : Row (w1.alloc (.cells #[Value.int IntKind.u64 0, Value.int IntKind.u64 0, Value.int IntKind.u64 0, Value.int IntKind.u64 0] 42)) w1.heap.size 42 4 (fun _ => 0) := Row.new w1 42 4 (fun _ => 0)
 have gl := R3.lt
 have RR := hide (RC.setAll r)
 have BB := below_setCells (g := w1.heap.size) (Nat.le_refl _) (arr 4 r).toList 0 (new_below w1 (.cells #[Value.int IntKind.u64 0, Value.int IntKind.u64 0, Value.int IntKind.u64 0, Value.int IntKind.u64 0] 42))
 have R3' := hide (R3.keep BB)
 have O' := hide (O.trans (BB.mono O.size))
 clear R3 O BB
 go_wp2_with (refine wpList_store_mid rfl 42 _ _ rfl w1.heap.size 0 (arr 4 r) rfl rfl ?thr (info42 _) (arr_one _ _) ?_)
 case thr => rw [arr_size]; exact RC.there
 have R3 := R3'.out
 have O := O'.out
 replace RC := RR.out
 clear R3' O' RR
 generalize w1.heap.size = gc at *
 generalize (w1.alloc (.cells #[Value.int IntKind.u64 0, Value.int IntKind.u64 0, Value.int IntKind.u64 0, Value.int IntKind.u64 0] 42)).setCells gc 0 (arr 4 r).toList = W2 at *
 refine region_cut (fun a0 a' w' => a' = ((a0.put (some 15) (.agg (arr 4 r))).put (some 16) (.agg (arr 4 Lf))).put (some 17) (.agg (arr 4 (d64 V))) ∧ Row w' (w.heap.size + 1 + 1) 44 4 (d64 V) ∧ Below w.heap.size w w') (by kernel_rfl) ?_ ?_
 ·clear RC R3 O
  rintro _ w8 ⟨rfl, R3, O⟩
  go_simp
  go_wp2
  exact bodyPost_ret (v := .agg (arr 4 (d64 V))) (results_cell_row Tryz.results28 _ _ (w.heap.size + 1 + 1) 44 (arr 4 (d64 V)) (0, 0) _ rfl R3 Tryz.underlying44 rfl (info44 _)) rfl ⟨rfl, O⟩
 ·intro hrest
  replace RC := rowD RC
  replace R3 := rowD R3
  replace O := O.drew
  generalize W2.drew = W0 at *
  refine wpAny_ready (rs := [0, 1]) (by kernel_rfl) (by simp) ?_
  refine ready_load rfl rfl 42 _ rfl gc (by kernel_rfl) 42 (arr 4 r) (0, 0) _ RC Tryz.underlying42 rfl (info42 _) ?_ ?_
  ·skip
   refine wpAny_ready (rs := [1]) (by kernel_rfl) (by simp) ?_
   refine ready_call 69 #[] rfl rfl (by kernel_rfl) ?_ ?_
   ·refine (C1.out _).mono ?_
    rintro _ w102 ⟨rfl, hb102⟩
    refine ⟨_, rfl, ?_⟩
    replace R3 := R3.keep hb102
    replace RC := RC.keep hb102
    replace O := O.trans (hb102.mono O.size)
    clear hb102
    refine wpAny_ready (rs := [2]) (by kernel_rfl) (by simp) ?_
    refine ready_call 68 #[.agg (arr 4 r), .agg (arr 4 Lf)] rfl rfl (by kernel_rfl) ?_ ?_
    ·refine (C2.out _).mono ?_
     rintro _ w103 ⟨rfl, hb103⟩
     refine ⟨_, rfl, ?_⟩
     replace R3 := R3.keep hb103
     replace RC := RC.keep hb103
     replace O := O.trans (hb103.mono O.size)
     clear hb103
     refine wpAny_ready (rs := [3]) (by kernel_rfl) (by simp) ?_
     refine ready_store rfl rfl 44 _ _ rfl (w.heap.size + 1 + 1) 0 (arr 4 (d64 V)) (by kernel_rfl) (by kernel_rfl) (by rw [arr_size]; exact R3.there) (info44 _) (arr_one _ _) ?_ ?_
     ·skip
      exact wpAny_done (by kernel_rfl) (hrest _ _ ⟨by kernel_rfl, R3.setAll _, below_setCells (by omega) _ _ O⟩) _
     exact AllReady.nil
    exact AllReady.nil
   exact AllReady.nil
  refine ready_call 69 #[] rfl rfl (by kernel_rfl) ?_ ?_
  ·refine (C1.out _).mono ?_
   rintro _ w105 ⟨rfl, hb105⟩
   refine ⟨_, rfl, ?_⟩
   replace R3 := R3.keep hb105
   replace RC := RC.keep hb105
   replace O := O.trans (hb105.mono O.size)
   clear hb105
   refine wpAny_ready (rs := [0]) (by kernel_rfl) (by simp) ?_
   refine ready_load rfl rfl 42 _ rfl gc (by kernel_rfl) 42 (arr 4 r) (0, 0) _ RC Tryz.underlying42 rfl (info42 _) ?_ ?_
   ·skip
    refine wpAny_ready (rs := [2]) (by kernel_rfl) (by simp) ?_
    refine ready_call 68 #[.agg (arr 4 r), .agg (arr 4 Lf)] rfl rfl (by kernel_rfl) ?_ ?_
    ·refine (C2.out _).mono ?_
     rintro _ w107 ⟨rfl, hb107⟩
     refine ⟨_, rfl, ?_⟩
     replace R3 := R3.keep hb107
     replace RC := RC.keep hb107
     replace O := O.trans (hb107.mono O.size)
     clear hb107
     refine wpAny_ready (rs := [3]) (by kernel_rfl) (by simp) ?_
     refine ready_store rfl rfl 44 _ _ rfl (w.heap.size + 1 + 1) 0 (arr 4 (d64 V)) (by kernel_rfl) (by kernel_rfl) (by rw [arr_size]; exact R3.there) (info44 _) (arr_one _ _) ?_ ?_
     ·skip
      exact wpAny_done (by kernel_rfl) (hrest _ _ ⟨by kernel_rfl, R3.setAll _, below_setCells (by omega) _ _ O⟩) _
     exact AllReady.nil
    exact AllReady.nil
   exact AllReady.nil
  exact AllReady.nil
theorem add_any (M N : Int) (w : World) (hM : 0 ≤ M ∧ M < Lm) (hN : 0 ≤ N ∧ N < Lm) :
  Cs 28 #[.agg (arr 4 (d64 M)), .agg (arr 4 (d64 N))] w (.agg (arr 4 (d64 ((M + N) % Lm)))) := by
 have e := ps_Q (d64 M) (d64 N) 4
 have hc := pc_bd (d64_wds M 4) (d64_wds N 4) 4 (by omega)
 have hb := Q_bd (ps_wds (d64 M) (d64 N) 4)
 rw [dQ hM, dQ hN] at e
 rw [P256] at e hb
 have hs : Q (ps (d64 M) (d64 N)) 4 = M + N := by
  unfold Lm at *
  omega
 have hv : (Q (ps (d64 M) (d64 N)) 4 - Q Lf 4) % Lm = (M + N) % Lm := by rw [hs, Lf_Q, Int.sub_emod_right]
 refine add_gen M N _ _ _ w (fun w => plus_any _ _ w (d64_wds M 4) (d64_wds N 4)) (fun w => ?_)
 have := without_any (ps (d64 M) (d64 N)) Lf w (ps_wds _ _ 4) Lf_wds (by rw [hs, Lf_Q]; omega) (by rw [hs, Lf_Q]; omega)
 rwa [hv] at this
theorem nx_or {x y : Int} (_hx : W64 x) (hy : 0 ≤ y) (hy1 : y < 4294967296) : bits BinOp.or IntKind.u64 (IntKind.u64.wrap (x * 4294967296)) y = x * 4294967296 % 18446744073709551616 + y := by
 rw [IntKind.wrap_u64, or_join 32 4294967296 (by decide) ⟨by omega, by omega⟩ ⟨by omega, by omega⟩ (by omega) (by omega)]
theorem nx_and {x : Int} (hx : W64 x) : bits BinOp.and IntKind.u64 x 268435455 = x % 268435456 := by
 obtain ⟨h0, h1⟩ := hx
 rw [u64_and x _ h0 (by omega) (by decide) (by decide)]
 have e : (268435455 : Int).toNat = 268435455 := by decide
 have e2 : x.toNat &&& 268435455 = x.toNat % 268435456 := Nat.and_two_pow_sub_one_eq_mod _ 28
 rw [e, e2]
 omega
theorem next_gen (x0 x1 x2 x3 H : Int) (t : Nat → Int) (w : World) (k0 : W64 x0) (k1 : W64 x1) (k2 : W64 x2) (k3 : W64 x3) (h0 : 0 ≤ H) (h1 : H < 4294967296)
  (HC : ∀ w, Cs 68 #[.agg #[.int .u64 (x0 * 4294967296 % 18446744073709551616 + H), .int .u64 (x1 * 4294967296 % 18446744073709551616 + x0 / 4294967296), .int .u64 (x2 * 4294967296 % 18446744073709551616 + x1 / 4294967296), .int .u64 (x3 % 268435456 * 4294967296 + x2 / 4294967296)], .agg #[.int .u64 (x3 / 268435456 * 6346243789798364141 % 18446744073709551616), .int .u64 ((x3 / 268435456 * 1503914060200516822 + x3 / 268435456 * 6346243789798364141 / 18446744073709551616) % 18446744073709551616), .int .u64 ((x3 / 268435456 * 1503914060200516822 + x3 / 268435456 * 6346243789798364141 / 18446744073709551616) / 18446744073709551616), .int .u64 0]] w (.agg (arr 4 t))) :
  Cs 127 #[.agg #[.int .u64 x0, .int .u64 x1, .int .u64 x2, .int .u64 x3], .int .u64 H] w (.agg (arr 4 t)) := by
 have e0 := nx_or k0 h0 h1
 have e1 := nx_or k1 (y := x0 / 4294967296) (by unfold W64 at *; omega) (by unfold W64 at *; omega)
 have e2 := nx_or k2 (y := x1 / 4294967296) (by unfold W64 at *; omega) (by unfold W64 at *; omega)
 have e3 := nx_and k3
 have e4 : bits BinOp.or IntKind.u64 (x3 % 268435456 * 4294967296) (x2 / 4294967296) = x3 % 268435456 * 4294967296 + x2 / 4294967296 := by
  unfold W64 at *
  rw [or_join 32 4294967296 (by decide) ⟨by omega, by omega⟩ ⟨by omega, by omega⟩ (by omega) (by omega)]
 have q0 : W64 (x3 / 268435456) := by unfold W64 at *; omega
 have C := hide HC
 have c1 : W64 (x3 / 268435456 * 6346243789798364141 / 18446744073709551616) := by unfold W64 at *; omega
 have p1 := fun w => productAnd_any (x3 / 268435456) 6346243789798364141 0 0 w q0 ⟨by decide, by decide⟩ ⟨by decide, by decide⟩ ⟨by decide, by decide⟩
 have p2 := fun w => productAnd_any (x3 / 268435456) 1503914060200516822 (x3 / 268435456 * 6346243789798364141 / 18446744073709551616) 0 w q0 ⟨by decide, by decide⟩ c1 ⟨by decide, by decide⟩
 simp only [Int.add_zero] at p1 p2
 have P1 := hide p1
 have P2 := hide p2
 clear HC p1 p2 c1
 have O : Below w.heap.size w ((((w.alloc (.cells #[.int .u64 x0, .int .u64 x1, .int .u64 x2, .int .u64 x3] 44)).alloc (.cells #[.int .u64 0, .int .u64 0, .int .u64 0, .int .u64 0] 44)).alloc (.cells #[.int .u64 x0, .int .u64 x1, .int .u64 x2, .int .u64 x3] 42)).alloc (.cells #[.int .u64 (x0 * 4294967296 % 18446744073709551616 + H), .int .u64 (x1 * 4294967296 % 18446744073709551616 + x0 / 4294967296), .int .u64 (x2 * 4294967296 % 18446744073709551616 + x1 / 4294967296), .int .u64 (x3 % 268435456 * 4294967296 + x2 / 4294967296)] 42)) := ((((Below.refl _ _).alloc (Nat.le_refl _) _).alloc (by simp) _).alloc (by simp; omega) _).alloc (by simp; omega) _
 have R3 : Row ((((w.alloc (.cells #[.int .u64 x0, .int .u64 x1, .int .u64 x2, .int .u64 x3] 44)).alloc (.cells #[.int .u64 0, .int .u64 0, .int .u64 0, .int .u64 0] 44)).alloc (.cells #[.int .u64 x0, .int .u64 x1, .int .u64 x2, .int .u64 x3] 42)).alloc (.cells #[.int .u64 (x0 * 4294967296 % 18446744073709551616 + H), .int .u64 (x1 * 4294967296 % 18446744073709551616 + x0 / 4294967296), .int .u64 (x2 * 4294967296 % 18446744073709551616 + x1 / 4294967296), .int .u64 (x3 % 268435456 * 4294967296 + x2 / 4294967296)] 42)) (w.heap.size + 1) 44 4 (fun _ => 0) := ((Row.new' _ 44 4 (fun _ => 0) (by simp)).alloc _).alloc _
 have HO := hide (And.intro O R3)
 clear O R3
 go_enter Tryz.func127, Tryz.ntmps127
 go_wp2_with fail
 refine (P1.out _).mono ?_
 rintro _ w1 ⟨rfl, rfl⟩
 go_wp2_with fail
 refine (P2.out _).mono ?_
 rintro _ w2 ⟨rfl, rfl⟩
 go_wp2_with fail
 refine (C.out _).mono ?_
 rintro _ w3 ⟨rfl, hb⟩
 have R3 := HO.out.2.keep hb
 have O := HO.out.1.trans (hb.mono HO.out.1.size)
 clear hb HO C P1 P2 e0 e1 e2 e3 e4
 have RR := hide (R3.setAll t)
 have OO := hide (below_setCells (g := w.heap.size + 1) (by omega) (arr 4 t).toList 0 O)
 clear O
 go_wp2_with (refine wpList_store_mid rfl 44 _ _ rfl (w.heap.size + 1) 0 (arr 4 t) rfl rfl ?thn (info44 _) (arr_one _ _) ?_)
 case thn => rw [arr_size]; exact R3.there
 exact bodyPost_ret (v := .agg (arr 4 t)) (results_cell_row Tryz.results127 _ _ (w.heap.size + 1) 44 (arr 4 t) (0, 0) _ rfl RR.out Tryz.underlying44 rfl (info44 _)) rfl ⟨rfl, OO.out⟩
theorem Q4 (f : Nat → Int) : Q f 4 = f 0 + f 1 * 18446744073709551616 + f 2 * 340282366920938463463374607431768211456 + f 3 * 6277101735386680763835789423207666416102355444464034512896 := by
 simp [Q]
def nf (x0 x1 x2 x3 H : Int) : Nat → Int := fun i => [x0 * 4294967296 % 18446744073709551616 + H, x1 * 4294967296 % 18446744073709551616 + x0 / 4294967296, x2 * 4294967296 % 18446744073709551616 + x1 / 4294967296, x3 % 268435456 * 4294967296 + x2 / 4294967296].getD i 0
def ng (o : Int) : Nat → Int := fun i => [o * 6346243789798364141 % 18446744073709551616, (o * 1503914060200516822 + o * 6346243789798364141 / 18446744073709551616) % 18446744073709551616, (o * 1503914060200516822 + o * 6346243789798364141 / 18446744073709551616) / 18446744073709551616, 0].getD i 0
theorem nf_Q (x0 x1 x2 x3 H : Int) : Q (nf x0 x1 x2 x3 H) 4 = (x0 + x1 * 18446744073709551616 + x2 * 340282366920938463463374607431768211456 + x3 % 268435456 * 6277101735386680763835789423207666416102355444464034512896) * 4294967296 + H := by
 rw [Q4]
 show (x0 * 4294967296 % 18446744073709551616 + H) + (x1 * 4294967296 % 18446744073709551616 + x0 / 4294967296) * 18446744073709551616 + (x2 * 4294967296 % 18446744073709551616 + x1 / 4294967296) * 340282366920938463463374607431768211456 + (x3 % 268435456 * 4294967296 + x2 / 4294967296) * 6277101735386680763835789423207666416102355444464034512896 = _
 omega
theorem ng_Q (o : Int) : Q (ng o) 4 = o * 27742317777372353535851937790883648493 := by
 rw [Q4]
 show o * 6346243789798364141 % 18446744073709551616 + ((o * 1503914060200516822 + o * 6346243789798364141 / 18446744073709551616) % 18446744073709551616) * 18446744073709551616 + ((o * 1503914060200516822 + o * 6346243789798364141 / 18446744073709551616) / 18446744073709551616) * 340282366920938463463374607431768211456 + 0 * 6277101735386680763835789423207666416102355444464034512896 = _
 omega
theorem next_any (N H : Int) (w : World) (hN : 0 ≤ N ∧ N < Lm) (h0 : 0 ≤ H) (h1 : H < 4294967296) :
  Cs 127 #[.agg (arr 4 (d64 N)), .int .u64 H] w (.agg (arr 4 (d64 ((N * 4294967296 + H) % Lm)))) := by
 have k0 := d64_wds N 4 0 (by omega)
 have k1 := d64_wds N 4 1 (by omega)
 have k2 := d64_wds N 4 2 (by omega)
 have k3 := d64_wds N 4 3 (by omega)
 have hq := dQ hN
 rw [Q4] at hq
 show Calls Tryz.prog 127 #[.agg #[.int .u64 (d64 N 0), .int .u64 (d64 N 1), .int .u64 (d64 N 2), .int .u64 (d64 N 3)], .int .u64 H] w _
 generalize d64 N 0 = x0 at *
 generalize d64 N 1 = x1 at *
 generalize d64 N 2 = x2 at *
 generalize d64 N 3 = x3 at *
 refine next_gen x0 x1 x2 x3 H _ w k0 k1 k2 k3 h0 h1 (fun w => ?_)
 unfold W64 at k0 k1 k2 k3
 have wf : Wds (nf x0 x1 x2 x3 H) 4 := fun i hi => by
  rcases (show i = 0 ∨ i = 1 ∨ i = 2 ∨ i = 3 by omega) with rfl | rfl | rfl | rfl
  ·show W64 (x0 * 4294967296 % 18446744073709551616 + H); exact ⟨by omega, by omega⟩
  ·show W64 (x1 * 4294967296 % 18446744073709551616 + x0 / 4294967296); exact ⟨by omega, by omega⟩
  ·show W64 (x2 * 4294967296 % 18446744073709551616 + x1 / 4294967296); exact ⟨by omega, by omega⟩
  ·show W64 (x3 % 268435456 * 4294967296 + x2 / 4294967296); exact ⟨by omega, by omega⟩
 have wg : Wds (ng (x3 / 268435456)) 4 := fun i hi => by
  rcases (show i = 0 ∨ i = 1 ∨ i = 2 ∨ i = 3 by omega) with rfl | rfl | rfl | rfl
  ·show W64 (x3 / 268435456 * 6346243789798364141 % 18446744073709551616); exact ⟨by omega, by omega⟩
  ·show W64 ((x3 / 268435456 * 1503914060200516822 + x3 / 268435456 * 6346243789798364141 / 18446744073709551616) % 18446744073709551616); exact ⟨by omega, by omega⟩
  ·show W64 ((x3 / 268435456 * 1503914060200516822 + x3 / 268435456 * 6346243789798364141 / 18446744073709551616) / 18446744073709551616); exact ⟨by omega, by omega⟩
  ·show W64 0; exact ⟨by decide, by decide⟩
 have ef := nf_Q x0 x1 x2 x3 H
 have eg := ng_Q (x3 / 268435456)
 have ed : Q (nf x0 x1 x2 x3 H) 4 - Q (ng (x3 / 268435456)) 4 = N * 4294967296 + H - x3 / 268435456 * Lm := by
  rw [ef, eg, ← hq]
  unfold Lm
  omega
 have := without_any (nf x0 x1 x2 x3 H) (ng (x3 / 268435456)) w wf wg (by rw [ef, eg]; unfold Lm; omega) (by rw [ef, eg]; unfold Lm; omega)
 rw [ed, Int.sub_mul_emod_self_right] at this
 exact this
def md (f : Nat → Int) : Nat → Int
 | 0 => f 5 + f 6 * 18446744073709551616 + f 7 * 340282366920938463463374607431768211456
 | k + 1 => (md f k * 18446744073709551616 + f (4 - k)) % Lm
theorem md_bd {f : Nat → Int} (hf : Wds f 8) : ∀ k, 0 ≤ md f k ∧ md f k < Lm
 | 0 => by
  have h5 := hf 5 (by omega)
  have h6 := hf 6 (by omega)
  have h7 := hf 7 (by omega)
  unfold W64 at *
  unfold md Lm
  omega
 | k + 1 => lmod _
theorem md_step (a b : Int) : (a % Lm * 18446744073709551616 + b) % Lm = (a * 18446744073709551616 + b) % Lm := by
 rw [Int.add_emod, Int.mul_emod, Int.emod_emod_of_dvd a (Int.dvd_refl _), ← Int.mul_emod, ← Int.add_emod]
theorem md_half (N h : Int) : ((N * 4294967296 + h / 4294967296) % Lm * 4294967296 + h % 4294967296) % Lm = (N * 18446744073709551616 + h) % Lm := by
 rw [Int.add_emod, Int.mul_emod, Int.emod_emod_of_dvd _ (Int.dvd_refl Lm), ← Int.mul_emod, ← Int.add_emod]
 congr 1
 omega
theorem Q8 (f : Nat → Int) : Q f 8 = (((((f 5 + f 6 * 18446744073709551616 + f 7 * 340282366920938463463374607431768211456) * 18446744073709551616 + f 4) * 18446744073709551616 + f 3) * 18446744073709551616 + f 2) * 18446744073709551616 + f 1) * 18446744073709551616 + f 0 := by
 simp [Q]
 omega
theorem md_all (f : Nat → Int) : md f 5 = Q f 8 % Lm := by
 rw [Q8]
 have s1 : md f 1 = ((f 5 + f 6 * 18446744073709551616 + f 7 * 340282366920938463463374607431768211456) * 18446744073709551616 + f 4) % Lm := rfl
 have s2 : md f 2 = (((f 5 + f 6 * 18446744073709551616 + f 7 * 340282366920938463463374607431768211456) * 18446744073709551616 + f 4) * 18446744073709551616 + f 3) % Lm := by
  show (md f 1 * 18446744073709551616 + f 3) % Lm = _
  rw [s1, md_step]
 have s3 : md f 3 = ((((f 5 + f 6 * 18446744073709551616 + f 7 * 340282366920938463463374607431768211456) * 18446744073709551616 + f 4) * 18446744073709551616 + f 3) * 18446744073709551616 + f 2) % Lm := by
  show (md f 2 * 18446744073709551616 + f 2) % Lm = _
  rw [s2, md_step]
 have s4 : md f 4 = (((((f 5 + f 6 * 18446744073709551616 + f 7 * 340282366920938463463374607431768211456) * 18446744073709551616 + f 4) * 18446744073709551616 + f 3) * 18446744073709551616 + f 2) * 18446744073709551616 + f 1) % Lm := by
  show (md f 3 * 18446744073709551616 + f 1) % Lm = _
  rw [s3, md_step]
 show (md f 4 * 18446744073709551616 + f 0) % Lm = _
 rw [s4, md_step]
theorem and32 {x : Int} (h : W64 x) : bits BinOp.and IntKind.u64 x 4294967295 = x % 4294967296 := by
 obtain ⟨X, rfl⟩ := Int.eq_ofNat_of_zero_le h.1
 have := h.2
 rw [maskN X (by omega)]
 omega
theorem modulo_any (f : Nat → Int) (w : World) (hf : Wds f 8) :
  Cs 71 #[.agg (arr 8 f)] w (.agg (arr 4 (d64 (Q f 8 % Lm)))) := by
 rw [← md_all]
 have hm := md_bd hf
 have R1 : Row ((w.alloc (.cells (arr 8 f) 96)).alloc (.cells (arr 4 fun _ => 0) 44)) w.heap.size 96 8 f := (Row.new w 96 8 f).alloc _
 have R2 : Row ((w.alloc (.cells (arr 8 f) 96)).alloc (.cells (arr 4 fun _ => 0) 44)) (w.heap.size + 1) 44 4 (fun _ => 0) := Row.new' _ 44 4 _ (by simp)
 have O : Below w.heap.size w ((w.alloc (.cells (arr 8 f) 96)).alloc (.cells (arr 4 fun _ => 0) 44)) := ((Below.refl _ _).alloc (Nat.le_refl _) _).alloc (by simp) _
 have c5 : ((w.alloc (.cells (arr 8 f) 96)).alloc (.cells #[Value.int IntKind.u64 0, Value.int IntKind.u64 0, Value.int IntKind.u64 0, Value.int IntKind.u64 0] 44)).cell? ⟨w.heap.size, 5, none⟩ = some (.int .u64 (f 5)) := R1.cell (i := 5) (by omega)
 have c6 : ((w.alloc (.cells (arr 8 f) 96)).alloc (.cells #[Value.int IntKind.u64 0, Value.int IntKind.u64 0, Value.int IntKind.u64 0, Value.int IntKind.u64 0] 44)).cell? ⟨w.heap.size, 6, none⟩ = some (.int .u64 (f 6)) := R1.cell (i := 6) (by omega)
 have c7 : ((w.alloc (.cells (arr 8 f) 96)).alloc (.cells #[Value.int IntKind.u64 0, Value.int IntKind.u64 0, Value.int IntKind.u64 0, Value.int IntKind.u64 0] 44)).cell? ⟨w.heap.size, 7, none⟩ = some (.int .u64 (f 7)) := R1.cell (i := 7) (by omega)
 replace R1 := R1.alloc (.cells #[.int .u64 (f 5), .int .u64 (f 6), .int .u64 (f 7), .int .u64 0] 44)
 replace R2 := R2.alloc (.cells #[.int .u64 (f 5), .int .u64 (f 6), .int .u64 (f 7), .int .u64 0] 44)
 have RA : Row (((w.alloc (.cells (arr 8 f) 96)).alloc (.cells (arr 4 fun _ => 0) 44)).alloc (.cells #[.int .u64 (f 5), .int .u64 (f 6), .int .u64 (f 7), .int .u64 0] 44)) (w.heap.size + 1 + 1) 44 4 (fun i => [f 5, f 6, f 7, 0].getD i 0) := Row.new' _ 44 4 (fun i => [f 5, f 6, f 7, 0].getD i 0) (by simp)
 replace O := O.alloc (by simp; omega) (.cells #[.int .u64 (f 5), .int .u64 (f 6), .int .u64 (f 7), .int .u64 0] 44)
 replace RA := RA.congr (f' := d64 (md f 0)) (Q_inj (fun i hi => by
  rcases (show i = 0 ∨ i = 1 ∨ i = 2 ∨ i = 3 by omega) with rfl | rfl | rfl | rfl
  ·exact hf 5 (by omega)
  ·exact hf 6 (by omega)
  ·exact hf 7 (by omega)
  ·show W64 (0 : Int); exact ⟨by decide, by decide⟩) (d64_wds _ 4) (by
  rw [dQ (hm 0), Q4]
  show f 5 + f 6 * 18446744073709551616 + f 7 * 340282366920938463463374607431768211456 + 0 * 6277101735386680763835789423207666416102355444464034512896 = f 5 + f 6 * 18446744073709551616 + f 7 * 340282366920938463463374607431768211456
  omega))
 have HR := hide (And.intro R1 (And.intro R2 (And.intro RA O)))
 clear R1 R2 RA O
 go_enter Tryz.func71, Tryz.ntmps71
 go_wp2_with (refine wpList_build rfl 44 _ rfl #[.int .u64 (f 5), .int .u64 (f 6), .int .u64 (f 7), .int .u64 0] (by kernel_rfl) ?_)
 rw [show #[Value.int IntKind.u64 0, Value.int IntKind.u64 0, Value.int IntKind.u64 0, Value.int IntKind.u64 0] = arr 4 (fun _ => 0) from rfl]
 clear c5 c6 c7
 obtain ⟨R1, R2, RA, O⟩ := HR.out
 clear HR
 generalize (((w.alloc (.cells (arr 8 f) 96)).alloc (.cells (arr 4 fun _ => 0) 44)).alloc (.cells #[.int .u64 (f 5), .int .u64 (f 6), .int .u64 (f 7), .int .u64 0] 44)) = W at *
 go_loopw [14] (fun v wr => ∃ k : Nat, k ≤ 5 ∧ v = .int .i64 k ∧ Row wr w.heap.size 96 8 f ∧ Row wr (w.heap.size + 1) 44 4 (fun _ => 0) ∧ Row wr (w.heap.size + 1 + 1) 44 4 (d64 (md f k)) ∧ Below w.heap.size w wr) (fun v _ => 5 - (intOf v).toNat)
 case atStart => exact ⟨0, by omega, rfl, R1, R2, RA, O⟩
 case round =>
  clear R1 R2 RA O
  obtain ⟨k, hk, rfl, R1, R2, RA, O⟩ := hrel
  by_cases hlt : k < 5
  ·rcases (show k = 0 ∨ k = 1 ∨ k = 2 ∨ k = 3 ∨ k = 4 by omega) with rfl | rfl | rfl | rfl | rfl
   ·have c := R1.cell (i := 4) (by omega)
    obtain ⟨b0, b1⟩ := hf 4 (by omega)
    have ea := and32 (hf 4 (by omega))
    have HN := hide (hm 0)
    have HE := hide (show md f (0 + 1) = ((md f 0 * 4294967296 + f 4 / 4294967296) % Lm * 4294967296 + f 4 % 4294967296) % Lm from (md_half (md f 0) (f 4)).symm)
    have HA := hide RA
    have H1 := hide R1
    have HO := hide (And.intro R2 O)
    clear RA R1 R2 O
    generalize f 4 = v at *
    generalize md f 0 = N at *
    go_wp2_with (refine wpList_load_row rfl 44 _ rfl (w.heap.size + 1 + 1) rfl 44 (arr 4 (d64 N)) (0, 0) _ HA.out Tryz.underlying44 rfl (info44 _) ?_)
    refine (next_any N (v / 4294967296) _ HN.out (by omega) (by omega)).mono ?_
    rintro _ w1 ⟨rfl, hb1⟩
    have RA := HA.out.keep hb1
    have R1 := H1.out.keep hb1
    have R2 := HO.out.1.keep hb1
    have O := HO.out.2.trans (hb1.mono HO.out.2.size)
    clear hb1 HA H1 HO HN
    have HN := hide (lmod (N * 4294967296 + v / 4294967296))
    generalize (N * 4294967296 + v / 4294967296) % Lm = N2 at *
    go_wp2_with fail
    refine (next_any N2 (v % 4294967296) _ HN.out (by omega) (by omega)).mono ?_
    rintro _ w2 ⟨rfl, hb2⟩
    replace RA := RA.keep hb2
    replace R1 := R1.keep hb2
    replace R2 := R2.keep hb2
    replace O := O.trans (hb2.mono O.size)
    clear hb2 HN
    rw [← HE.out]
    generalize hN3 : md f (0 + 1) = N3 at *
    have HM0 := hide hN3
    clear hN3
    have RB := hide (RA.setAll (d64 N3))
    have R1' := hide (R1.setOther (k := w.heap.size + 1 + 1) (by omega) 0 (arr 4 (d64 N3)).toList)
    have R2' := hide (R2.setOther (k := w.heap.size + 1 + 1) (by omega) 0 (arr 4 (d64 N3)).toList)
    have O' := hide (below_setCells (g := w.heap.size + 1 + 1) (by omega) (arr 4 (d64 N3)).toList 0 O)
    clear R1 R2 O
    go_wp2_with (refine wpList_store_mid rfl 44 _ _ rfl (w.heap.size + 1 + 1) 0 (arr 4 (d64 N3)) rfl rfl ?thm0 (info44 _) (arr_one _ _) ?_)
    case thm0 => rw [arr_size]; exact RA.there
    go_roundw
    case rel => exact ⟨0 + 1, by omega, rfl, R1'.out, R2'.out, (by rw [HM0.out]; exact RB.out), O'.out⟩
    case measure => simp [intOf]
   ·have c := R1.cell (i := 3) (by omega)
    obtain ⟨b0, b1⟩ := hf 3 (by omega)
    have ea := and32 (hf 3 (by omega))
    have HN := hide (hm 1)
    have HE := hide (show md f (1 + 1) = ((md f 1 * 4294967296 + f 3 / 4294967296) % Lm * 4294967296 + f 3 % 4294967296) % Lm from (md_half (md f 1) (f 3)).symm)
    have HA := hide RA
    have H1 := hide R1
    have HO := hide (And.intro R2 O)
    clear RA R1 R2 O
    generalize f 3 = v at *
    generalize md f 1 = N at *
    go_wp2_with (refine wpList_load_row rfl 44 _ rfl (w.heap.size + 1 + 1) rfl 44 (arr 4 (d64 N)) (0, 0) _ HA.out Tryz.underlying44 rfl (info44 _) ?_)
    refine (next_any N (v / 4294967296) _ HN.out (by omega) (by omega)).mono ?_
    rintro _ w1 ⟨rfl, hb1⟩
    have RA := HA.out.keep hb1
    have R1 := H1.out.keep hb1
    have R2 := HO.out.1.keep hb1
    have O := HO.out.2.trans (hb1.mono HO.out.2.size)
    clear hb1 HA H1 HO HN
    have HN := hide (lmod (N * 4294967296 + v / 4294967296))
    generalize (N * 4294967296 + v / 4294967296) % Lm = N2 at *
    go_wp2_with fail
    refine (next_any N2 (v % 4294967296) _ HN.out (by omega) (by omega)).mono ?_
    rintro _ w2 ⟨rfl, hb2⟩
    replace RA := RA.keep hb2
    replace R1 := R1.keep hb2
    replace R2 := R2.keep hb2
    replace O := O.trans (hb2.mono O.size)
    clear hb2 HN
    rw [← HE.out]
    generalize hN3 : md f (1 + 1) = N3 at *
    have HM1 := hide hN3
    clear hN3
    have RB := hide (RA.setAll (d64 N3))
    have R1' := hide (R1.setOther (k := w.heap.size + 1 + 1) (by omega) 0 (arr 4 (d64 N3)).toList)
    have R2' := hide (R2.setOther (k := w.heap.size + 1 + 1) (by omega) 0 (arr 4 (d64 N3)).toList)
    have O' := hide (below_setCells (g := w.heap.size + 1 + 1) (by omega) (arr 4 (d64 N3)).toList 0 O)
    clear R1 R2 O
    go_wp2_with (refine wpList_store_mid rfl 44 _ _ rfl (w.heap.size + 1 + 1) 0 (arr 4 (d64 N3)) rfl rfl ?thm1 (info44 _) (arr_one _ _) ?_)
    case thm1 => rw [arr_size]; exact RA.there
    go_roundw
    case rel => exact ⟨1 + 1, by omega, rfl, R1'.out, R2'.out, (by rw [HM1.out]; exact RB.out), O'.out⟩
    case measure => simp [intOf]
   ·have c := R1.cell (i := 2) (by omega)
    obtain ⟨b0, b1⟩ := hf 2 (by omega)
    have ea := and32 (hf 2 (by omega))
    have HN := hide (hm 2)
    have HE := hide (show md f (2 + 1) = ((md f 2 * 4294967296 + f 2 / 4294967296) % Lm * 4294967296 + f 2 % 4294967296) % Lm from (md_half (md f 2) (f 2)).symm)
    have HA := hide RA
    have H1 := hide R1
    have HO := hide (And.intro R2 O)
    clear RA R1 R2 O
    generalize f 2 = v at *
    generalize md f 2 = N at *
    go_wp2_with (refine wpList_load_row rfl 44 _ rfl (w.heap.size + 1 + 1) rfl 44 (arr 4 (d64 N)) (0, 0) _ HA.out Tryz.underlying44 rfl (info44 _) ?_)
    refine (next_any N (v / 4294967296) _ HN.out (by omega) (by omega)).mono ?_
    rintro _ w1 ⟨rfl, hb1⟩
    have RA := HA.out.keep hb1
    have R1 := H1.out.keep hb1
    have R2 := HO.out.1.keep hb1
    have O := HO.out.2.trans (hb1.mono HO.out.2.size)
    clear hb1 HA H1 HO HN
    have HN := hide (lmod (N * 4294967296 + v / 4294967296))
    generalize (N * 4294967296 + v / 4294967296) % Lm = N2 at *
    go_wp2_with fail
    refine (next_any N2 (v % 4294967296) _ HN.out (by omega) (by omega)).mono ?_
    rintro _ w2 ⟨rfl, hb2⟩
    replace RA := RA.keep hb2
    replace R1 := R1.keep hb2
    replace R2 := R2.keep hb2
    replace O := O.trans (hb2.mono O.size)
    clear hb2 HN
    rw [← HE.out]
    generalize hN3 : md f (2 + 1) = N3 at *
    have HM2 := hide hN3
    clear hN3
    have RB := hide (RA.setAll (d64 N3))
    have R1' := hide (R1.setOther (k := w.heap.size + 1 + 1) (by omega) 0 (arr 4 (d64 N3)).toList)
    have R2' := hide (R2.setOther (k := w.heap.size + 1 + 1) (by omega) 0 (arr 4 (d64 N3)).toList)
    have O' := hide (below_setCells (g := w.heap.size + 1 + 1) (by omega) (arr 4 (d64 N3)).toList 0 O)
    clear R1 R2 O
    go_wp2_with (refine wpList_store_mid rfl 44 _ _ rfl (w.heap.size + 1 + 1) 0 (arr 4 (d64 N3)) rfl rfl ?thm2 (info44 _) (arr_one _ _) ?_)
    case thm2 => rw [arr_size]; exact RA.there
    go_roundw
    case rel => exact ⟨2 + 1, by omega, rfl, R1'.out, R2'.out, (by rw [HM2.out]; exact RB.out), O'.out⟩
    case measure => simp [intOf]
   ·have c := R1.cell (i := 1) (by omega)
    obtain ⟨b0, b1⟩ := hf 1 (by omega)
    have ea := and32 (hf 1 (by omega))
    have HN := hide (hm 3)
    have HE := hide (show md f (3 + 1) = ((md f 3 * 4294967296 + f 1 / 4294967296) % Lm * 4294967296 + f 1 % 4294967296) % Lm from (md_half (md f 3) (f 1)).symm)
    have HA := hide RA
    have H1 := hide R1
    have HO := hide (And.intro R2 O)
    clear RA R1 R2 O
    generalize f 1 = v at *
    generalize md f 3 = N at *
    go_wp2_with (refine wpList_load_row rfl 44 _ rfl (w.heap.size + 1 + 1) rfl 44 (arr 4 (d64 N)) (0, 0) _ HA.out Tryz.underlying44 rfl (info44 _) ?_)
    refine (next_any N (v / 4294967296) _ HN.out (by omega) (by omega)).mono ?_
    rintro _ w1 ⟨rfl, hb1⟩
    have RA := HA.out.keep hb1
    have R1 := H1.out.keep hb1
    have R2 := HO.out.1.keep hb1
    have O := HO.out.2.trans (hb1.mono HO.out.2.size)
    clear hb1 HA H1 HO HN
    have HN := hide (lmod (N * 4294967296 + v / 4294967296))
    generalize (N * 4294967296 + v / 4294967296) % Lm = N2 at *
    go_wp2_with fail
    refine (next_any N2 (v % 4294967296) _ HN.out (by omega) (by omega)).mono ?_
    rintro _ w2 ⟨rfl, hb2⟩
    replace RA := RA.keep hb2
    replace R1 := R1.keep hb2
    replace R2 := R2.keep hb2
    replace O := O.trans (hb2.mono O.size)
    clear hb2 HN
    rw [← HE.out]
    generalize hN3 : md f (3 + 1) = N3 at *
    have HM3 := hide hN3
    clear hN3
    have RB := hide (RA.setAll (d64 N3))
    have R1' := hide (R1.setOther (k := w.heap.size + 1 + 1) (by omega) 0 (arr 4 (d64 N3)).toList)
    have R2' := hide (R2.setOther (k := w.heap.size + 1 + 1) (by omega) 0 (arr 4 (d64 N3)).toList)
    have O' := hide (below_setCells (g := w.heap.size + 1 + 1) (by omega) (arr 4 (d64 N3)).toList 0 O)
    clear R1 R2 O
    go_wp2_with (refine wpList_store_mid rfl 44 _ _ rfl (w.heap.size + 1 + 1) 0 (arr 4 (d64 N3)) rfl rfl ?thm3 (info44 _) (arr_one _ _) ?_)
    case thm3 => rw [arr_size]; exact RA.there
    go_roundw
    case rel => exact ⟨3 + 1, by omega, rfl, R1'.out, R2'.out, (by rw [HM3.out]; exact RB.out), O'.out⟩
    case measure => simp [intOf]
   ·have c := R1.cell (i := 0) (by omega)
    obtain ⟨b0, b1⟩ := hf 0 (by omega)
    have ea := and32 (hf 0 (by omega))
    have HN := hide (hm 4)
    have HE := hide (show md f (4 + 1) = ((md f 4 * 4294967296 + f 0 / 4294967296) % Lm * 4294967296 + f 0 % 4294967296) % Lm from (md_half (md f 4) (f 0)).symm)
    have HA := hide RA
    have H1 := hide R1
    have HO := hide (And.intro R2 O)
    clear RA R1 R2 O
    generalize f 0 = v at *
    generalize md f 4 = N at *
    go_wp2_with (refine wpList_load_row rfl 44 _ rfl (w.heap.size + 1 + 1) rfl 44 (arr 4 (d64 N)) (0, 0) _ HA.out Tryz.underlying44 rfl (info44 _) ?_)
    refine (next_any N (v / 4294967296) _ HN.out (by omega) (by omega)).mono ?_
    rintro _ w1 ⟨rfl, hb1⟩
    have RA := HA.out.keep hb1
    have R1 := H1.out.keep hb1
    have R2 := HO.out.1.keep hb1
    have O := HO.out.2.trans (hb1.mono HO.out.2.size)
    clear hb1 HA H1 HO HN
    have HN := hide (lmod (N * 4294967296 + v / 4294967296))
    generalize (N * 4294967296 + v / 4294967296) % Lm = N2 at *
    go_wp2_with fail
    refine (next_any N2 (v % 4294967296) _ HN.out (by omega) (by omega)).mono ?_
    rintro _ w2 ⟨rfl, hb2⟩
    replace RA := RA.keep hb2
    replace R1 := R1.keep hb2
    replace R2 := R2.keep hb2
    replace O := O.trans (hb2.mono O.size)
    clear hb2 HN
    rw [← HE.out]
    generalize hN3 : md f (4 + 1) = N3 at *
    have HM4 := hide hN3
    clear hN3
    have RB := hide (RA.setAll (d64 N3))
    have R1' := hide (R1.setOther (k := w.heap.size + 1 + 1) (by omega) 0 (arr 4 (d64 N3)).toList)
    have R2' := hide (R2.setOther (k := w.heap.size + 1 + 1) (by omega) 0 (arr 4 (d64 N3)).toList)
    have O' := hide (below_setCells (g := w.heap.size + 1 + 1) (by omega) (arr 4 (d64 N3)).toList 0 O)
    clear R1 R2 O
    go_wp2_with (refine wpList_store_mid rfl 44 _ _ rfl (w.heap.size + 1 + 1) 0 (arr 4 (d64 N3)) rfl rfl ?thm4 (info44 _) (arr_one _ _) ?_)
    case thm4 => rw [arr_size]; exact RA.there
    go_roundw
    case rel => exact ⟨4 + 1, by omega, rfl, R1'.out, R2'.out, (by rw [HM4.out]; exact RB.out), O'.out⟩
    case measure => simp [intOf]
  ·have hk' : k = 5 := by omega
   subst hk'
   have RR := hide (R2.setAll (d64 (md f 5)))
   have OO := hide (below_setCells (g := w.heap.size + 1) (by omega) (arr 4 (d64 (md f 5))).toList 0 O)
   have HX := hide RA
   clear RA O R1
   generalize hN5 : md f 5 = N at *
   have H5 := hide hN5
   clear hN5
   go_wp2_with (first | (refine wpList_load_row rfl 44 _ rfl (w.heap.size + 1 + 1) rfl 44 (arr 4 (d64 N)) (0, 0) _ HX.out Tryz.underlying44 rfl (info44 _) ?_) | (refine wpList_store_mid rfl 44 _ _ rfl (w.heap.size + 1) 0 (arr 4 (d64 N)) rfl rfl ?the (info44 _) (arr_one _ _) ?_))
   case the => rw [arr_size]; exact R2.there
   exact bodyPost_ret (v := .agg (arr 4 (d64 N))) (results_cell_row Tryz.results71 _ _ (w.heap.size + 1) 44 (arr 4 (d64 N)) (0, 0) _ rfl RR.out Tryz.underlying44 rfl (info44 _)) rfl ⟨by rw [H5.out], OO.out⟩
theorem Q_upd (o : Nat → Int) (k : Nat) (v : Int) : ∀ n, k < n → Q (upd o k v) n = Q o n + (v - o k) * 18446744073709551616 ^ k
 | 0, h => by omega
 | n + 1, h => by
  simp only [Q]
  by_cases e : k = n
  ·subst e
   rw [Q_congr (f := upd o k v) (g := o) (n := k) (fun i hi => by unfold upd; rw [if_neg (by omega)]), show upd o k v k = v by unfold upd; rw [if_pos rfl], Int.sub_mul]
   omega
  ·rw [Q_upd o k v n (by omega), show upd o k v n = o n by unfold upd; rw [if_neg (by omega)]]
   omega
structure TI (f g : Nat → Int) (i j : Nat) (o : Nat → Int) (c : Int) : Prop where
 w : Wds o 8
 cw : W64 c
 z : ∀ k, i + 4 ≤ k → k < 8 → o k = 0
 e : Q o 8 + c * 18446744073709551616 ^ (i + j) = Q f i * Q g 4 + f i * Q g j * 18446744073709551616 ^ i
theorem TI.step {f g : Nat → Int} {i j : Nat} {o : Nat → Int} {c : Int} (h : TI f g i j o c) (hf : Wds f 4) (hg : Wds g 4) (hi : i < 4) (hj : j < 4) :
  TI f g i (j + 1) (upd o (i + j) ((f i * g j + o (i + j) + c) % 18446744073709551616)) ((f i * g j + o (i + j) + c) / 18446744073709551616) := by
 have hfi := hf i hi
 have hgj := hg j hj
 have ho := h.w (i + j) (by omega)
 have hc := h.cw
 unfold W64 at hfi hgj ho hc
 have p0 : 0 ≤ f i * g j := Int.mul_nonneg hfi.1 hgj.1
 have p1 : f i * g j ≤ 18446744073709551615 * 18446744073709551615 := Int.mul_le_mul (by omega) (by omega) hgj.1 (by omega)
 refine ⟨fun k hk => ?_, ⟨by omega, by omega⟩, fun k h1 h2 => ?_, ?_⟩
 ·unfold upd
  by_cases e : k = i + j
  ·rw [if_pos e]; exact ⟨by omega, by omega⟩
  ·rw [if_neg e]; exact h.w k hk
 ·unfold upd
  rw [if_neg (by omega)]
  exact h.z k h1 h2
 ·rw [Q_upd o (i + j) _ 8 (by omega)]
  have he := h.e
  have hp : (18446744073709551616 : Int) ^ (i + (j + 1)) = 18446744073709551616 * 18446744073709551616 ^ (i + j) := p64s (i + j)
  rw [hp]
  have hq : Q g (j + 1) = Q g j + g j * 18446744073709551616 ^ j := rfl
  rw [hq]
  have hx : (18446744073709551616 : Int) ^ (i + j) = 18446744073709551616 ^ i * 18446744073709551616 ^ j := Int.pow_add _ _ _
  have e1 : f i * (Q g j + g j * 18446744073709551616 ^ j) * 18446744073709551616 ^ i = f i * Q g j * 18446744073709551616 ^ i + f i * g j * 18446744073709551616 ^ (i + j) := by
   rw [hx, Int.mul_add, Int.add_mul]
   congr 1
   rw [← Int.mul_assoc, Int.mul_assoc, Int.mul_comm (18446744073709551616 ^ j)]
  rw [e1]
  generalize f i * g j = P at *
  generalize (18446744073709551616 : Int) ^ (i + j) = X at *
  have e2 : (P + o (i + j) + c) % 18446744073709551616 = P + o (i + j) + c - 18446744073709551616 * ((P + o (i + j) + c) / 18446744073709551616) := by omega
  rw [e2]
  generalize (P + o (i + j) + c) / 18446744073709551616 = D
  have e3 : (P + o (i + j) + c - 18446744073709551616 * D - o (i + j)) * X = P * X + c * X - D * (18446744073709551616 * X) := by
   rw [show P + o (i + j) + c - 18446744073709551616 * D - o (i + j) = P + c - 18446744073709551616 * D by omega, Int.sub_mul, Int.add_mul, Int.mul_comm 18446744073709551616 D, Int.mul_assoc]
  rw [e3]
  omega
theorem TI.row {f g : Nat → Int} {i : Nat} {o : Nat → Int} {c : Int} (h : TI f g i 4 o c) (hi : i < 4) : TI f g (i + 1) 0 (upd o (i + 4) c) 0 := by
 refine ⟨fun k hk => ?_, ⟨by decide, by decide⟩, fun k h1 h2 => ?_, ?_⟩
 ·unfold upd
  by_cases e : k = i + 4
  ·rw [if_pos e]; exact h.cw
  ·rw [if_neg e]; exact h.w k hk
 ·unfold upd
  rw [if_neg (by omega)]
  exact h.z k (by omega) h2
 ·rw [Q_upd o (i + 4) _ 8 (by omega), h.z (i + 4) (by omega) (by omega)]
  have he := h.e
  have hq : Q f (i + 1) = Q f i + f i * 18446744073709551616 ^ i := rfl
  have h0 : Q g 0 = 0 := rfl
  rw [hq, h0, Int.mul_zero, Int.zero_mul, Int.add_mul, Int.sub_zero, Int.mul_assoc (f i), Int.mul_comm (18446744073709551616 ^ i) (Q g 4), ← Int.mul_assoc]
  omega
theorem TI.start (f g : Nat → Int) : TI f g 0 0 (fun _ => 0) 0 := by
 refine ⟨fun k _ => ⟨Int.le_refl 0, (by decide : (0 : Int) < 18446744073709551616)⟩, ⟨by decide, by decide⟩, fun _ _ _ => rfl, ?_⟩
 have h0 : Q f 0 = 0 := rfl
 have h1 : Q g 0 = 0 := rfl
 have h2 : Q (fun _ => 0) 8 = 0 := by decide
 rw [h0, h1, h2]
 simp
theorem TI.done {f g : Nat → Int} {o : Nat → Int} {c : Int} (h : TI f g 4 0 o c) (hc : c = 0) : arr 8 o = arr 8 (d64 (Q f 4 * Q g 4)) := by
 have he := h.e
 have h1 : Q g 0 = 0 := rfl
 rw [hc, h1, Int.zero_mul, Int.mul_zero, Int.zero_mul, Int.add_zero, Int.add_zero] at he
 have hb := Q_bd h.w
 refine arr_congr (Q_inj h.w (d64_wds _ 8) ?_)
 rw [← he, d64_Q _ hb.1, Int.emod_eq_of_lt hb.1 hb.2]
theorem times_any (f g : Nat → Int) (w : World) (hf : Wds f 4) (hg : Wds g 4) :
  Cs 70 #[.agg (arr 4 f), .agg (arr 4 g)] w (.agg (arr 8 (d64 (Q f 4 * Q g 4)))) := by
 go_enter Tryz.func70, Tryz.ntmps70
 go_wp2
 rw [show #[Value.int IntKind.u64 0, Value.int IntKind.u64 0, Value.int IntKind.u64 0, Value.int IntKind.u64 0, Value.int IntKind.u64 0, Value.int IntKind.u64 0, Value.int IntKind.u64 0, Value.int IntKind.u64 0] = arr 8 (fun _ => 0) from rfl]
 have R1 : Row ((((w.alloc (.cells (arr 4 f) 42)).alloc (.cells (arr 4 g) 42)).alloc (.cells (arr 8 fun _ => 0) 96)).alloc (.cells (arr 8 fun _ => 0) 96)) w.heap.size 42 4 f := (((Row.new w 42 4 f).alloc _).alloc _).alloc _
 have R2 : Row ((((w.alloc (.cells (arr 4 f) 42)).alloc (.cells (arr 4 g) 42)).alloc (.cells (arr 8 fun _ => 0) 96)).alloc (.cells (arr 8 fun _ => 0) 96)) (w.heap.size + 1) 42 4 g := ((Row.new' _ 42 4 _ (by simp)).alloc _).alloc _
 have R3 : Row ((((w.alloc (.cells (arr 4 f) 42)).alloc (.cells (arr 4 g) 42)).alloc (.cells (arr 8 fun _ => 0) 96)).alloc (.cells (arr 8 fun _ => 0) 96)) (w.heap.size + 1 + 1) 96 8 (fun _ => 0) := (Row.new' _ 96 8 _ (by simp)).alloc _
 have R4 : Row ((((w.alloc (.cells (arr 4 f) 42)).alloc (.cells (arr 4 g) 42)).alloc (.cells (arr 8 fun _ => 0) 96)).alloc (.cells (arr 8 fun _ => 0) 96)) (w.heap.size + 1 + 1 + 1) 96 8 (fun _ => 0) := Row.new' _ 96 8 _ (by simp)
 have O : Below w.heap.size w ((((w.alloc (.cells (arr 4 f) 42)).alloc (.cells (arr 4 g) 42)).alloc (.cells (arr 8 fun _ => 0) 96)).alloc (.cells (arr 8 fun _ => 0) 96)) := ((((Below.refl _ _).alloc (Nat.le_refl _) _).alloc (by simp) _).alloc (by simp; omega) _).alloc (by simp; omega) _
 generalize ((((w.alloc (.cells (arr 4 f) 42)).alloc (.cells (arr 4 g) 42)).alloc (.cells (arr 8 fun _ => 0) 96)).alloc (.cells (arr 8 fun _ => 0) 96)) = W at R1 R2 R3 R4 O ⊢
 go_loopw [9] (fun x wr => ∃ i : Nat, i ≤ 4 ∧ x = .int .i64 i ∧ Row wr w.heap.size 42 4 f ∧ Row wr (w.heap.size + 1) 42 4 g ∧ Row wr (w.heap.size + 1 + 1) 96 8 (fun _ => 0) ∧ (∃ o, TI f g i 0 o 0 ∧ Row wr (w.heap.size + 1 + 1 + 1) 96 8 o) ∧ Below w.heap.size w wr) (fun x _ => 4 - (intOf x).toNat)
 case atStart => exact ⟨0, by omega, rfl, R1, R2, R3, ⟨_, TI.start f g, R4⟩, O⟩
 case round =>
  clear R1 R2 R3 R4 O
  obtain ⟨i, hi, rfl, R1, R2, R3, ⟨o, T, R4⟩, O⟩ := hrel
  by_cases hlt : i < 4
  ·have HT := hide T
   clear T
   have i2 : (i : Int) < 4 := by omega
   go_wp2
   go_loopw [7, 12] (fun z y wq => ∃ j : Nat, j ≤ 4 ∧ y = .int .i64 j ∧ Row wq w.heap.size 42 4 f ∧ Row wq (w.heap.size + 1) 42 4 g ∧ Row wq (w.heap.size + 1 + 1) 96 8 (fun _ => 0) ∧ (∃ o c, TI f g i j o c ∧ z = .int .u64 c ∧ Row wq (w.heap.size + 1 + 1 + 1) 96 8 o) ∧ Below w.heap.size w wq) (fun _ y _ => 4 - (intOf y).toNat)
   case atStart => exact ⟨0, by omega, rfl, R1, R2, R3, ⟨o, 0, HT.out, rfl, R4⟩, O⟩
   case round =>
    clear R1 R2 R3 R4 O HT
    clear o
    obtain ⟨j, hj, rfl, R1, R2, R3, ⟨o, c, T, rfl, R4⟩, O⟩ := hrel
    by_cases hjl : j < 4
    ·have d1 := R1.cell hlt
     have d2 := R2.cell hjl
     have d3 := R4.cell (i := i + j) (by omega)
     have fr := R4.free
     have i1 : (0 : Int) ≤ (i : Int) := by omega
     have j1 : (0 : Int) ≤ (j : Int) := by omega
     have j2 : (j : Int) < 4 := by omega
     have s1 : (0 : Int) ≤ (i : Int) + (j : Int) := by omega
     have s2 : (i : Int) + (j : Int) < 8 := by omega
     have s3 : IntKind.i64.wrap ((i : Int) + (j : Int)) = (i : Int) + (j : Int) := by rw [IntKind.wrap_i64]; omega
     have s4 : ((i : Int) + (j : Int)).toNat = i + j := by omega
     have HP := hide fun w => productAnd_any (f i) (g j) (o (i + j)) c w (hf i hlt) (hg j hjl) (T.w (i + j) (by omega)) T.cw
     have HT := hide (T.step hf hg hlt hjl)
     clear T
     go_wp2_with fail
     go_region_with (go_at_call 126; refine (HP.out _).mono ?_; rintro _ w9 ⟨rfl, rfl⟩)
     all_goals
      go_wp2
      go_roundw
      case rel => first | exact ⟨j + 1, by omega, by go_num, rowD (R1.other (a := ⟨w.heap.size + 1 + 1 + 1, i + j, none⟩) (by simp <;> omega) _), rowD (R2.other (a := ⟨w.heap.size + 1 + 1 + 1, i + j, none⟩) (by simp <;> omega) _), rowD (R3.other (a := ⟨w.heap.size + 1 + 1 + 1, i + j, none⟩) (by simp) _), ⟨_, _, HT.out, rfl, rowD (R4.set (i + j) _)⟩, (O.setCell (p := ⟨w.heap.size + 1 + 1 + 1, i + j, none⟩) (by simp <;> omega) _).drew⟩ | exact ⟨_, _, _, _, _, _, _, _, _, _, _, _, _, _, _, _, _, _, _, _, _, _, _, _, _, _, ⟨j + 1, by omega, by go_num, rowD (R1.other (a := ⟨w.heap.size + 1 + 1 + 1, i + j, none⟩) (by simp <;> omega) _), rowD (R2.other (a := ⟨w.heap.size + 1 + 1 + 1, i + j, none⟩) (by simp <;> omega) _), rowD (R3.other (a := ⟨w.heap.size + 1 + 1 + 1, i + j, none⟩) (by simp) _), ⟨_, _, HT.out, rfl, rowD (R4.set (i + j) _)⟩, (O.setCell (p := ⟨w.heap.size + 1 + 1 + 1, i + j, none⟩) (by simp <;> omega) _).drew⟩, rfl⟩
      case measure => simp [intOf]; omega
    ·have hj' : j = 4 := by omega
     subst hj'
     have HT := hide (T.row hlt)
     have d3 := R4.cell (i := i + 4) (by omega)
     have fr := R4.free
     have i1 : (0 : Int) ≤ (i : Int) := by omega
     have R1' := hide (R1.other (a := ⟨w.heap.size + 1 + 1 + 1, i + 4, none⟩) (by simp <;> omega) (.int .u64 c))
     have R2' := hide (R2.other (a := ⟨w.heap.size + 1 + 1 + 1, i + 4, none⟩) (by simp <;> omega) (.int .u64 c))
     have R3' := hide (R3.other (a := ⟨w.heap.size + 1 + 1 + 1, i + 4, none⟩) (by simp) (.int .u64 c))
     have R4' := hide (R4.set (i + 4) c)
     have O' := hide (O.setCell (p := ⟨w.heap.size + 1 + 1 + 1, i + 4, none⟩) (by simp <;> omega) (.int .u64 c))
     clear R1 R2 R3 R4 O T
     go_wp2
     exact ⟨⟨i + 1, by omega, by go_num, R1'.out, R2'.out, R3'.out, ⟨_, HT.out, R4'.out⟩, O'.out⟩, by simp [intOf]; omega⟩
  ·have hi' : i = 4 := by omega
   subst hi'
   have HE := hide (T.done rfl)
   have RR := hide (R3.setAll o)
   have OO := hide (below_setCells (g := w.heap.size + 1 + 1) (by omega) (arr 8 o).toList 0 O)
   have HX := hide R4
   clear R4 O R1 R2 T
   go_wp2_with (first | (refine wpList_load_row rfl 96 _ rfl (w.heap.size + 1 + 1 + 1) rfl 96 (arr 8 o) (0, 0) _ HX.out Tryz.underlying96 rfl (info96 _) ?_) | (refine wpList_store_mid rfl 96 _ _ rfl (w.heap.size + 1 + 1) 0 (arr 8 o) rfl rfl ?tht (info96 _) (arr_one _ _) ?_))
   case tht => rw [arr_size]; exact R3.there
   exact bodyPost_ret (v := .agg (arr 8 o)) (results_cell_row Tryz.results70 _ _ (w.heap.size + 1 + 1) 96 (arr 8 o) (0, 0) _ rfl RR.out Tryz.underlying96 rfl (info96 _)) rfl ⟨by rw [HE.out], OO.out⟩
def bs (ns : List Int) : ByteArray := ⟨(ns.map fun n => UInt8.ofNat n.toNat).toArray⟩
theorem bs_fold (ns : List Int) : ∀ s : ByteArray, ns.foldl (fun r n => r.push (UInt8.ofNat n.toNat)) s = ⟨s.data ++ (ns.map fun n => UInt8.ofNat n.toNat).toArray⟩ := by
 induction ns with
 | nil => intro s; simp
 | cons n ns ih =>
  intro s
  rw [List.foldl_cons, ih]
  simp [ByteArray.push]
theorem conv_bytes (W : World) (g : Nat) (T : TypeId) (ns : List Int) (l cap : Nat) (fr : Nat × Nat) (hg : W.heap[g]? = some (.cells (ns.map (Value.int .u8)).toArray T fr)) (hl : ns.length = l) :
  (convert 32 9 (.slice (some ⟨g, 0, none⟩) l cap)).run Tryz.prog W = .ok (.string (bs ns)) W := by
 subst hl
 rw [run_convert_bytes_string W 32 9 5 (some ⟨g, 0, none⟩) ns.length cap Tryz.underlying32 Tryz.underlying5 Tryz.underlying9]
 have h := run_loadCells_list (P := Tryz.prog) W ⟨g, 0, none⟩ (ns.map (Value.int .u8)) (fun j v hv => by
  have hadd : (⟨g, 0, none⟩ : Addr).add j = ⟨g, j, none⟩ := by unfold Addr.add; split <;> simp_all
  rw [hadd, cell_of_row W g j _ T fr hg]
  simpa using hv)
 rw [List.length_map] at h
 have he : ByteArray.empty.data = #[] := rfl
 rw [run_bytesToString W _ ns.length cap ns h, bs_fold, he]
 simp [bs]
def digs (a : Int) : List Int := [a % 256, a / 256 % 256, a / 65536 % 256, a / 16777216 % 256, a / 4294967296 % 256, a / 1099511627776 % 256, a / 281474976710656 % 256, a / 72057594037927936 % 256]
def lebytes (n : Int) : ByteArray := bs (digs (n % 18446744073709551616) ++ digs (n / 18446744073709551616 % 18446744073709551616) ++ digs (n / 340282366920938463463374607431768211456 % 18446744073709551616) ++ digs (n / 6277101735386680763835789423207666416102355444464034512896 % 18446744073709551616))
theorem text_any (a b c d : Int) (w : World) :
  Cs 72 #[.agg #[.int .u64 a, .int .u64 b, .int .u64 c, .int .u64 d]] w (.string (bs (digs a ++ digs b ++ digs c ++ digs d))) := by
 go_enter Tryz.func72, Tryz.ntmps72
 go_wp2
 refine wp_loop_rounds 33 ?_
 iterate 33 (rw [rounds_succ]; go_wp2)
 have hcv : (convert 32 9 (.slice (some ⟨w.heap.size + 1, 0, none⟩) 32 32)).run Tryz.prog ((w.alloc (.cells #[.int .u64 a, .int .u64 b, .int .u64 c, .int .u64 d] 42)).alloc (.cells #[.int .u8 (a % 256), .int .u8 (a / 256 % 256), .int .u8 (a / 65536 % 256), .int .u8 (a / 16777216 % 256), .int .u8 (a / 4294967296 % 256), .int .u8 (a / 1099511627776 % 256), .int .u8 (a / 281474976710656 % 256), .int .u8 (a / 72057594037927936 % 256), .int .u8 (b % 256), .int .u8 (b / 256 % 256), .int .u8 (b / 65536 % 256), .int .u8 (b / 16777216 % 256), .int .u8 (b / 4294967296 % 256), .int .u8 (b / 1099511627776 % 256), .int .u8 (b / 281474976710656 % 256), .int .u8 (b / 72057594037927936 % 256), .int .u8 (c % 256), .int .u8 (c / 256 % 256), .int .u8 (c / 65536 % 256), .int .u8 (c / 16777216 % 256), .int .u8 (c / 4294967296 % 256), .int .u8 (c / 1099511627776 % 256), .int .u8 (c / 281474976710656 % 256), .int .u8 (c / 72057594037927936 % 256), .int .u8 (d % 256), .int .u8 (d / 256 % 256), .int .u8 (d / 65536 % 256), .int .u8 (d / 16777216 % 256), .int .u8 (d / 4294967296 % 256), .int .u8 (d / 1099511627776 % 256), .int .u8 (d / 281474976710656 % 256), .int .u8 (d / 72057594037927936 % 256)] 89)) = .ok (.string (bs (digs a ++ digs b ++ digs c ++ digs d))) _ := conv_bytes _ (w.heap.size + 1) 89 (digs a ++ digs b ++ digs c ++ digs d) 32 32 (0, 0) (heap_alloc2_new w _ _) rfl
 rw [hcv]
 clear hcv
 generalize hB : bs (digs a ++ digs b ++ digs c ++ digs d) = B
 have HB := hide hB
 clear hB
 go_wp2
 go_ret
 exact ⟨by rw [HB.out]; rfl, ((Below.refl _ _).alloc (Nat.le_refl _) _).alloc (by simp) _⟩
theorem prod_Q {M N : Int} (hM : 0 ≤ M ∧ M < Lm) (hN : 0 ≤ N ∧ N < Lm) : Q (d64 (M * N)) 8 = M * N := by
 have h0 : 0 ≤ M * N := Int.mul_nonneg hM.1 hN.1
 have h1 : M * N ≤ Lm * Lm := Int.mul_le_mul (by omega) (by omega) hN.1 (by decide)
 have h2 : Lm * Lm < 18446744073709551616 ^ 8 := by decide
 rw [d64_Q _ h0, Int.emod_eq_of_lt h0 (by omega)]
theorem mul_any (M N : Int) (w : World) (hM : 0 ≤ M ∧ M < Lm) (hN : 0 ≤ N ∧ N < Lm) :
  Cs 29 #[.agg (arr 4 (d64 M)), .agg (arr 4 (d64 N))] w (.agg (arr 4 (d64 (M * N % Lm)))) := by
 have C1 : Hid (∀ w, Cs 70 #[.agg (arr 4 (d64 M)), .agg (arr 4 (d64 N))] w (.agg (arr 8 (d64 (M * N))))) := hide fun w => by
  have := times_any (d64 M) (d64 N) w (d64_wds _ 4) (d64_wds _ 4)
  rwa [dQ hM, dQ hN] at this
 have C2 : Hid (∀ w, Cs 71 #[.agg (arr 8 (d64 (M * N)))] w (.agg (arr 4 (d64 (M * N % Lm))))) := hide fun w => by
  have := modulo_any (d64 (M * N)) w (d64_wds _ 8)
  rwa [prod_Q hM hN] at this
 have R1 : Row (((w.alloc (.cells (arr 4 (d64 M)) 44)).alloc (.cells (arr 4 (d64 N)) 44)).alloc (.cells (arr 4 fun _ => 0) 44)) w.heap.size 44 4 (d64 M) := ((Row.new w 44 4 _).alloc _).alloc _
 have R2 : Row (((w.alloc (.cells (arr 4 (d64 M)) 44)).alloc (.cells (arr 4 (d64 N)) 44)).alloc (.cells (arr 4 fun _ => 0) 44)) (w.heap.size + 1) 44 4 (d64 N) := (Row.new' _ 44 4 _ (by simp)).alloc _
 have R3 : Row (((w.alloc (.cells (arr 4 (d64 M)) 44)).alloc (.cells (arr 4 (d64 N)) 44)).alloc (.cells (arr 4 fun _ => 0) 44)) (w.heap.size + 1 + 1) 44 4 (fun _ => 0) := Row.new' _ 44 4 _ (by simp)
 have O : Below w.heap.size w (((w.alloc (.cells (arr 4 (d64 M)) 44)).alloc (.cells (arr 4 (d64 N)) 44)).alloc (.cells (arr 4 fun _ => 0) 44)) := (((Below.refl _ _).alloc (Nat.le_refl _) _).alloc (by simp) _).alloc (by simp; omega) _
 have HR := hide (And.intro R1 (And.intro R2 (And.intro R3 O)))
 clear R1 R2 R3 O
 generalize d64 (M * N) = p at *
 generalize M * N % Lm = V at *
 go_enter Tryz.func29, Tryz.ntmps29
 go_wp2_with (first | (refine wpList_load_row rfl 42 _ rfl w.heap.size rfl 44 (arr 4 (d64 M)) (0, 0) _ HR.out.1 Tryz.underlying42 rfl (info42 _) ?_) | (refine wpList_load_row rfl 42 _ rfl (w.heap.size + 1) rfl 44 (arr 4 (d64 N)) (0, 0) _ HR.out.2.1 Tryz.underlying42 rfl (info42 _) ?_))
 refine (C1.out _).mono ?_
 rintro _ w1 ⟨rfl, hb1⟩
 have R3 := HR.out.2.2.1.keep hb1
 have O := HR.out.2.2.2.trans (hb1.mono HR.out.2.2.2.size)
 clear hb1 HR
 go_wp2_with fail
 refine (C2.out _).mono ?_
 rintro _ w2 ⟨rfl, hb2⟩
 replace R3 := R3.keep hb2
 replace O := O.trans (hb2.mono O.size)
 clear hb2
 have RR := hide (R3.setAll (d64 V))
 have OO := hide (below_setCells (g := w.heap.size + 1 + 1) (by omega) (arr 4 (d64 V)).toList 0 O)
 clear O
 go_wp2_with (refine wpList_store_mid rfl 44 _ _ rfl (w.heap.size + 1 + 1) 0 (arr 4 (d64 V)) rfl rfl ?thn (info44 _) (arr_one _ _) ?_)
 case thn => rw [arr_size]; exact R3.there
 exact bodyPost_ret (v := .agg (arr 4 (d64 V))) (results_cell_row Tryz.results29 _ _ (w.heap.size + 1 + 1) 44 (arr 4 (d64 V)) (0, 0) _ rfl RR.out Tryz.underlying44 rfl (info44 _)) rfl ⟨rfl, OO.out⟩
theorem leb_d64 (N : Int) : lebytes N = bs (digs (d64 N 0) ++ digs (d64 N 1) ++ digs (d64 N 2) ++ digs (d64 N 3)) := by
 have e0 : d64 N 0 = N % 18446744073709551616 := by simp [d64]
 have e1 : d64 N 1 = N / 18446744073709551616 % 18446744073709551616 := by simp [d64]
 have e2 : d64 N 2 = N / 340282366920938463463374607431768211456 % 18446744073709551616 := by simp [d64]
 have e3 : d64 N 3 = N / 6277101735386680763835789423207666416102355444464034512896 % 18446744073709551616 := by simp [d64]
 rw [e0, e1, e2, e3]
 rfl
theorem bytes_any (N : Int) (w : World) :
  Cs 30 #[.agg (arr 4 (d64 N))] w (.string (lebytes N)) := by
 have C1 : Hid (∀ w, Cs 72 #[.agg (arr 4 (d64 N))] w (.string (lebytes N))) := hide fun w => by
  rw [leb_d64]
  exact text_any (d64 N 0) (d64 N 1) (d64 N 2) (d64 N 3) w
 have HR := hide (And.intro (Row.new w 44 4 (d64 N)) (new_below w (.cells (arr 4 (d64 N)) 44)))
 generalize lebytes N = B at *
 go_enter Tryz.func30, Tryz.ntmps30
 go_wp2_with (refine wpList_load_row rfl 42 _ rfl w.heap.size rfl 44 (arr 4 (d64 N)) (0, 0) _ HR.out.1 Tryz.underlying42 rfl (info42 _) ?_)
 refine (C1.out _).mono ?_
 rintro _ w1 ⟨rfl, hb1⟩
 have O := HR.out.2.trans (hb1.mono HR.out.2.size)
 clear hb1 HR
 go_wp2
 go_ret
 exact ⟨rfl, O⟩
def S (f : Nat → Int) : Nat → Int
 | 0 => 0
 | n + 1 => S f n + f n * 65536 ^ n
theorem p16 (n : Nat) : (0 : Int) < 65536 ^ n := Int.pow_pos (by decide)
theorem p16s (n : Nat) : (65536 : Int) ^ (n + 1) = 65536 * 65536 ^ n := by rw [Int.pow_succ, Int.mul_comm]
def Dig (f : Nat → Int) (n : Nat) : Prop := ∀ i, i < n → 0 ≤ f i ∧ f i < 65536
theorem Dig.le {f : Nat → Int} {n m : Nat} (h : Dig f n) (hm : m ≤ n) : Dig f m := fun i hi => h i (by omega)
theorem S_bd {f : Nat → Int} : ∀ {n : Nat}, Dig f n → 0 ≤ S f n ∧ S f n < 65536 ^ n
 | 0, _ => by simp [S]
 | n + 1, h => by
  have ih := S_bd (n := n) (h.le (by omega))
  have hd := h n (by omega)
  have hp := p16 n
  have h1 : f n * 65536 ^ n ≤ 65535 * 65536 ^ n := Int.mul_le_mul_of_nonneg_right (by omega) (by omega)
  have h2 : 0 ≤ f n * 65536 ^ n := Int.mul_nonneg hd.1 (by omega)
  rw [p16s]
  simp only [S]
  omega
theorem S_congr {f g : Nat → Int} : ∀ {n : Nat}, (∀ i, i < n → f i = g i) → S f n = S g n
 | 0, _ => rfl
 | n + 1, h => by
  simp only [S]
  rw [S_congr (n := n) fun i hi => h i (by omega), h n (by omega)]
theorem S_above {f g : Nat → Int} {p : Nat} : ∀ {n : Nat}, p ≤ n → (∀ j, p ≤ j → j < n → f j = g j) → S f n - S g n = S f p - S g p := by
 intro n
 induction n with
 | zero => intro h _; have : p = 0 := by omega
      subst this; rfl
 | succ n ih =>
  intro h he
  by_cases hp : p = n + 1
  ·subst hp; rfl
  ·have h1 := ih (by omega) fun j a b => he j a (by omega)
   simp only [S]
   rw [he n (by omega) (by omega)]
   omega
theorem S_lt {f g : Nat → Int} {p : Nat} (hf : Dig f 16) (hg : Dig g 16) (hp : p < 16) (he : ∀ j, p + 1 ≤ j → j < 16 → f j = g j) (hne : f p ≠ g p) : decide (f p < g p) = decide (S f 16 < S g 16) := by
 have h1 := S_above (n := 16) (by omega) he
 have h2 := S_bd (hf.le (m := p) (by omega))
 have h3 := S_bd (hg.le (m := p) (by omega))
 have hx := p16 p
 simp only [S] at h1
 generalize S f p = sf at *
 generalize S g p = sg at *
 generalize (65536 : Int) ^ p = X at *
 have hS : (S f 16 < S g 16) ↔ f p < g p := by
  constructor
  ·intro h
   apply Int.lt_of_not_ge
   intro hge
   have : f p ≥ g p + 1 := by omega
   have : (f p - g p) * X ≥ 1 * X := Int.mul_le_mul_of_nonneg_right (by omega) (by omega)
   rw [Int.sub_mul] at this
   have e16 : S f 16 - S g 16 < 0 := by omega
   simp only [S] at e16
   omega
  ·intro h
   have : (g p - f p) * X ≥ 1 * X := Int.mul_le_mul_of_nonneg_right (by omega) (by omega)
   rw [Int.sub_mul] at this
   have e16 : ∀ d, S f 16 - S g 16 = d → d < 0 → S f 16 < S g 16 := fun d a b => by omega
   simp only [S] at e16 ⊢
   omega
 exact decide_eq_decide.2 hS.symm
theorem rowN {w : World} {g : Nat} {T : TypeId} {n : Nat} {f : Nat → Int} (h : Row w g T n f) (k : Nat) : Row (w.drewN k) g T n f := h
theorem belN {B : Nat} {a w : World} {n : Nat} (h : Below B a w) : Below B a (w.drewN n) := ⟨h.os, h.tape, h.output, h.size, h.block⟩
theorem less_any (f g : Nat → Int) (w : World) (hf : Dig f 16) (hg : Dig g 16) : Cs 50 #[.agg (arr 16 f), .agg (arr 16 g)] w (.bool (decide (S f 16 < S g 16))) := by
 go_enter Tryz.func50, Tryz.ntmps50
 go_wp2
 have R1 : Row ((w.alloc (.cells (arr 16 f) 36)).alloc (.cells (arr 16 g) 36)) w.heap.size 36 16 f := (Row.new w 36 16 f).alloc _
 have R2 : Row ((w.alloc (.cells (arr 16 f) 36)).alloc (.cells (arr 16 g) 36)) (w.heap.size + 1) 36 16 g := Row.new' _ 36 16 _ (by simp)
 have O : Below w.heap.size w ((w.alloc (.cells (arr 16 f) 36)).alloc (.cells (arr 16 g) 36)) := ((Below.refl _ _).alloc (Nat.le_refl _) _).alloc (by simp) _
 generalize (w.alloc (.cells (arr 16 f) 36)).alloc (.cells (arr 16 g) 36) = W at R1 R2 O ⊢
 go_loopw [5] (fun i wr => ∃ m : Nat, m ≤ 16 ∧ (∃ v : Int, v = (m : Int) - 1 ∧ i = .int .i64 v) ∧ (∀ j, m ≤ j → j < 16 → f j = g j) ∧ Row wr w.heap.size 36 16 f ∧ Row wr (w.heap.size + 1) 36 16 g ∧ Below w.heap.size w wr) (fun i _ => (intOf i + 1).toNat)
 case atStart => exact ⟨16, by omega, ⟨15, by omega, rfl⟩, fun j a b => by omega, R1, R2, O⟩
 case round =>
  clear R1 R2 O
  obtain ⟨m, hm, ⟨v, hv, hi⟩, hall, R1, R2, O⟩ := hrel
  rcases m with _ | p
  ·have e : v = -1 := by omega
   rw [e] at hi
   clear hv e
   subst hi
   have HS := hide (S_congr (n := 16) fun i hi => hall i (by omega) hi)
   clear hall
   go_wp2
   go_ret
   refine ⟨?_, O⟩
   rw [HS.out]
   simp
  ·have e : v = (p : Int) := by omega
   rw [e] at hi
   clear hv e
   subst hi
   have c := R1.cell (i := p) (by omega)
   have d := R2.cell (i := p) (by omega)
   have i1 : (0 : Int) ≤ (p : Int) := by omega
   have i2 : (p : Int) < 16 := by omega
   have HA := hide hall
   clear hall
   by_cases hfg : f p = g p
   ·have hb : (f p != g p) = false := by simp [hfg]
    have HF := hide hfg
    clear hfg
    go_wp2_with fail
    go_quiet (fail)
    go_wp2
    go_roundw
    case rel => exact ⟨p, by omega, ⟨_, by omega, rfl⟩, fun j a b => by
     by_cases hj : j = p
     ·rw [hj]; exact HF.out
     ·exact HA.out j (by omega) b, rowN R1 _, rowN R2 _, belN O⟩
    case measure => simp [intOf]
   ·have hb : (f p != g p) = true := by simp [hfg]
    have HL := hide (S_lt hf hg (p := p) (by omega) HA.out hfg)
    clear hfg
    go_wp2_with fail
    go_quiet (fail)
    go_wp2_with fail
    go_quiet (fail)
    go_wp2
    go_ret
    exact ⟨by rw [← HL.out]; rfl, belN (belN O)⟩
def bor (a b : Nat → Int) : Nat → Int
 | 0 => 0
 | k + 1 => 1 - (65536 + a k - b k - bor a b k) / 65536
def minusF (a b : Nat → Int) : Nat → Int := fun i => (65536 + a i - b i - bor a b i) % 65536
def mk (a b : Nat → Int) (k : Nat) : Nat → Int := fun i => if i < k then minusF a b i else 0
theorem bor_bd {a b : Nat → Int} (ha : Dig a 16) (hb : Dig b 16) : ∀ k, k ≤ 16 → 0 ≤ bor a b k ∧ bor a b k ≤ 1
 | 0, _ => by simp [bor]
 | k + 1, h => by
  have ih := bor_bd ha hb k (by omega)
  have h1 := ha k (by omega)
  have h2 := hb k (by omega)
  simp only [bor]
  omega
theorem minusF_dig (a b : Nat → Int) (n : Nat) : Dig (minusF a b) n := fun i _ => by unfold minusF; omega
theorem minus_S (a b : Nat → Int) : ∀ k, S (minusF a b) k = S a k - S b k + bor a b k * 65536 ^ k
 | 0 => by simp [S, bor]
 | k + 1 => by
  have ih := minus_S a b k
  have e : bor a b (k + 1) * 65536 ^ (k + 1) = 65536 * bor a b (k + 1) * 65536 ^ k := by rw [p16s, ← Int.mul_assoc, Int.mul_comm (bor a b (k + 1)) 65536]
  have e2 : minusF a b k = a k - b k - bor a b k + 65536 * bor a b (k + 1) := by
   simp only [minusF, bor]
   omega
  simp only [S]
  rw [ih, e, e2, Int.add_mul, Int.sub_mul, Int.sub_mul]
  omega
theorem minus_le {a b : Nat → Int} (ha : Dig a 16) (hb : Dig b 16) (h : S b 16 ≤ S a 16) : S (minusF a b) 16 = S a 16 - S b 16 := by
 have e := minus_S a b 16
 have h0 := bor_bd ha hb 16 (by omega)
 have h1 := S_bd (minusF_dig a b 16)
 have h2 := S_bd ha
 have h3 := S_bd hb
 have : bor a b 16 = 0 ∨ bor a b 16 = 1 := by omega
 rcases this with h4 | h4
 ·rw [h4] at e; omega
 ·rw [h4] at e; omega
theorem and16 {x : Int} (h0 : 0 ≤ x) (h1 : x < 18446744073709551616) : bits .and .u64 x 65535 = x % 65536 := by
 rw [u64_and x _ h0 h1 (by decide) (by decide)]
 have e : (65535 : Int).toNat = 65535 := by decide
 rw [e, nat_mask16]
 omega
theorem rminus_any (a b : Nat → Int) (w : World) (ha : Dig a 16) (hb : Dig b 16) : Cs 51 #[.agg (arr 16 a), .agg (arr 16 b)] w (.agg (arr 16 (minusF a b))) := by
 go_enter Tryz.func51, Tryz.ntmps51
 go_wp2
 rw [show #[Value.int IntKind.u64 0, Value.int IntKind.u64 0, Value.int IntKind.u64 0, Value.int IntKind.u64 0, Value.int IntKind.u64 0, Value.int IntKind.u64 0, Value.int IntKind.u64 0, Value.int IntKind.u64 0, Value.int IntKind.u64 0, Value.int IntKind.u64 0, Value.int IntKind.u64 0, Value.int IntKind.u64 0, Value.int IntKind.u64 0, Value.int IntKind.u64 0, Value.int IntKind.u64 0, Value.int IntKind.u64 0] = arr 16 (fun _ => 0) from rfl]
 have R1 : Row ((((w.alloc (.cells (arr 16 a) 36)).alloc (.cells (arr 16 b) 36)).alloc (.cells (arr 16 fun _ => 0) 36)).alloc (.cells (arr 16 fun _ => 0) 36)) w.heap.size 36 16 a := (((Row.new w 36 16 a).alloc _).alloc _).alloc _
 have R2 : Row ((((w.alloc (.cells (arr 16 a) 36)).alloc (.cells (arr 16 b) 36)).alloc (.cells (arr 16 fun _ => 0) 36)).alloc (.cells (arr 16 fun _ => 0) 36)) (w.heap.size + 1) 36 16 b := ((Row.new' _ 36 16 _ (by simp)).alloc _).alloc _
 have R3 : Row ((((w.alloc (.cells (arr 16 a) 36)).alloc (.cells (arr 16 b) 36)).alloc (.cells (arr 16 fun _ => 0) 36)).alloc (.cells (arr 16 fun _ => 0) 36)) (w.heap.size + 1 + 1) 36 16 (fun _ => 0) := (Row.new' _ 36 16 _ (by simp)).alloc _
 have R4 : Row ((((w.alloc (.cells (arr 16 a) 36)).alloc (.cells (arr 16 b) 36)).alloc (.cells (arr 16 fun _ => 0) 36)).alloc (.cells (arr 16 fun _ => 0) 36)) (w.heap.size + 1 + 1 + 1) 36 16 (fun _ => 0) := Row.new' _ 36 16 _ (by simp)
 have O : Below w.heap.size w ((((w.alloc (.cells (arr 16 a) 36)).alloc (.cells (arr 16 b) 36)).alloc (.cells (arr 16 fun _ => 0) 36)).alloc (.cells (arr 16 fun _ => 0) 36)) := ((((Below.refl _ _).alloc (Nat.le_refl _) _).alloc (by simp) _).alloc (by simp; omega) _).alloc (by simp; omega) _
 generalize (((w.alloc (.cells (arr 16 a) 36)).alloc (.cells (arr 16 b) 36)).alloc (.cells (arr 16 fun _ => 0) 36)).alloc (.cells (arr 16 fun _ => 0) 36) = W at R1 R2 R3 R4 O ⊢
 go_loopw [6, 7] (fun bo i wr => ∃ k : Nat, k ≤ 16 ∧ bo = .int .u64 (bor a b k) ∧ i = .int .i64 k ∧ Row wr w.heap.size 36 16 a ∧ Row wr (w.heap.size + 1) 36 16 b ∧ Row wr (w.heap.size + 1 + 1) 36 16 (fun _ => 0) ∧ Row wr (w.heap.size + 1 + 1 + 1) 36 16 (mk a b k) ∧ Below w.heap.size w wr) (fun _ i _ => 16 - (intOf i).toNat)
 case atStart => exact ⟨0, by omega, rfl, rfl, R1, R2, R3, R4, O⟩
 case round =>
  clear R1 R2 R3 R4 O
  obtain ⟨k, hk, rfl, rfl, R1, R2, R3, R4, O⟩ := hrel
  by_cases hlt : k < 16
  ·have c := R1.cell hlt
   have d := R2.cell hlt
   have x := R4.cell (i := k) hlt
   have e := R4.free k
   obtain ⟨a0, a1⟩ := ha k hlt
   obtain ⟨b0, b1⟩ := hb k hlt
   obtain ⟨q0, q1⟩ := bor_bd ha hb k (by omega)
   have i1 : (0 : Int) ≤ (k : Int) := by omega
   have i2 : (k : Int) < 16 := by omega
   have ea := and16 (x := 65536 + a k - b k - bor a b k) (by omega) (by omega)
   have HB := hide (show bor a b (k + 1) = 1 - (65536 + a k - b k - bor a b k) / 65536 from rfl)
   have RR := hide (fun n => (rowN R4 n).set k ((65536 + a k - b k - bor a b k) % 65536))
   have R1' := hide (fun n => (rowN R1 n).other (a := ⟨w.heap.size + 1 + 1 + 1, k, none⟩) (by simp; omega) (.int .u64 ((65536 + a k - b k - bor a b k) % 65536)))
   have R2' := hide (fun n => (rowN R2 n).other (a := ⟨w.heap.size + 1 + 1 + 1, k, none⟩) (by simp) (.int .u64 ((65536 + a k - b k - bor a b k) % 65536)))
   have R3' := hide (fun n => (rowN R3 n).other (a := ⟨w.heap.size + 1 + 1 + 1, k, none⟩) (by simp) (.int .u64 ((65536 + a k - b k - bor a b k) % 65536)))
   have O' := hide (fun n => (belN (n := n) O).setCell (p := ⟨w.heap.size + 1 + 1 + 1, k, none⟩) (by simp; omega) (.int .u64 ((65536 + a k - b k - bor a b k) % 65536)))
   clear R1 R2 R3 R4 O
   generalize hbo : bor a b k = bo at *
   have HO := hide hbo
   clear hbo
   go_wp2_with fail
   go_quiet (fail)
   go_wp2
   exact ⟨⟨k + 1, by omega, by rw [HB.out], by go_num, R1'.out _, R2'.out _, R3'.out _, (RR.out _).congr (fun i _ => by
    unfold upd mk
    by_cases h : i = k
    ·subst h
     simp [minusF, HO.out]
    ·simp [h]
     omega), O'.out _⟩, by simp [intOf]; omega⟩
  ·have hk' : k = 16 := by omega
   subst hk'
   have e : arr 16 (mk a b 16) = arr 16 (minusF a b) := arr_congr fun i hi => by unfold mk; rw [if_pos hi]
   unfold Row at R4
   rw [e] at R4
   have RR := hide (R3.setAll (minusF a b))
   have OO := hide (below_setCells (g := w.heap.size + 1 + 1) (by omega) (arr 16 (minusF a b)).toList 0 O)
   go_wp2_with (first | (refine wpList_load_row rfl 36 _ rfl (w.heap.size + 1 + 1 + 1) rfl 36 (arr 16 (minusF a b)) (0, 0) _ R4 Tryz.underlying36 rfl (info36 _) ?_) | (refine wpList_store_mid rfl 36 _ _ rfl (w.heap.size + 1 + 1) 0 (arr 16 (minusF a b)) rfl rfl (by rw [arr_size]; exact R3.there) (info36 _) (arr_one _ _) ?_))
   exact bodyPost_ret (v := .agg (arr 16 (minusF a b))) (results_cell_row Tryz.results51 _ _ (w.heap.size + 1 + 1) 36 (arr 16 (minusF a b)) (0, 0) _ rfl RR.out Tryz.underlying36 rfl (info36 _)) rfl ⟨rfl, OO.out⟩
def d16 (N : Int) : Nat → Int := fun i => N / 65536 ^ i % 65536
theorem S_inj {f g : Nat → Int} : ∀ {n : Nat}, Dig f n → Dig g n → S f n = S g n → ∀ i, i < n → f i = g i
 | 0, _, _, _, i, hi => by omega
 | n + 1, hf, hg, h, i, hi => by
  have bf := S_bd (hf.le (m := n) (by omega))
  have bg := S_bd (hg.le (m := n) (by omega))
  have hp := p16 n
  simp only [S] at h
  have hn : f n = g n := by
   apply Classical.byContradiction
   intro hne
   have : f n < g n ∨ g n < f n := by omega
   rcases this with hl | hl
   ·have : (g n - f n) * 65536 ^ n ≥ 1 * 65536 ^ n := Int.mul_le_mul_of_nonneg_right (by omega) (by omega)
    rw [Int.sub_mul] at this
    omega
   ·have : (f n - g n) * 65536 ^ n ≥ 1 * 65536 ^ n := Int.mul_le_mul_of_nonneg_right (by omega) (by omega)
    rw [Int.sub_mul] at this
    omega
  by_cases hin : i = n
  ·rw [hin]; exact hn
  ·refine S_inj (n := n) (hf.le (by omega)) (hg.le (by omega)) ?_ i (by omega)
   rw [hn] at h
   omega
theorem d16_dig (N : Int) (n : Nat) : Dig (d16 N) n := fun i _ => by unfold d16; omega
theorem d16_S (N : Int) (h0 : 0 ≤ N) : ∀ n, S (d16 N) n = N % 65536 ^ n
 | 0 => by simp [S]
 | n + 1 => by
  simp only [S]
  rw [d16_S N h0 n, d16, Int.pow_succ]
  have hp := p16 n
  generalize (65536 : Int) ^ n = X at *
  have a := Int.mul_ediv_add_emod N X
  have b := Int.mul_ediv_add_emod (N / X) 65536
  have r0 := Int.emod_nonneg N (by omega : X ≠ 0)
  have r1 := Int.emod_lt_of_pos N hp
  have hN : N = (N % X + N / X % 65536 * X) + X * 65536 * (N / X / 65536) := by
   have e : X * (N / X) = X * (65536 * (N / X / 65536) + N / X % 65536) := by rw [b]
   rw [Int.mul_add] at e
   rw [Int.mul_comm (N / X % 65536) X, Int.mul_assoc]
   omega
  have q : N / X % 65536 * X ≤ 65535 * X := Int.mul_le_mul_of_nonneg_right (by omega) (by omega)
  have q0 : 0 ≤ N / X % 65536 * X := Int.mul_nonneg (by omega) (by omega)
  have hM : N % (X * 65536) = (N % X + N / X % 65536 * X + X * 65536 * (N / X / 65536)) % (X * 65536) := by rw [← hN]
  rw [hM, Int.add_mul_emod_self_left]
  exact (Int.emod_eq_of_lt (by omega) (by omega)).symm
def oF : Nat → Int := fun i => [54253, 23797, 25370, 22546, 40150, 41719, 63966, 5342, 0, 0, 0, 0, 0, 0, 0, 4096].getD i 0
theorem oF_S : S oF 16 = Lm := by decide +kernel
theorem oF_dig : Dig oF 16 := by
 have h : ∀ i : Fin 16, 0 ≤ oF i ∧ oF i < 65536 := by decide
 exact fun i hi => h ⟨i, hi⟩
theorem order_any (w : World) : Cs 15 #[] w (.agg (arr 16 oF)) := by
 go_enter Tryz.func15, Tryz.ntmps15
 go_wp2
 exact bodyPost_ret (v := .agg (arr 16 oF)) (by simp [results, Tryz.results15, go_sem]; rfl) rfl ⟨rfl, (Below.refl _ _).alloc (Nat.le_refl _) _⟩
def tc (a : Nat → Int) (one : Int) : Nat → Int
 | 0 => one
 | k + 1 => (2 * a k + tc a one k) / 65536
def tl (a : Nat → Int) (one : Int) : Nat → Int := fun k => (2 * a k + tc a one k) % 65536
theorem tc_bd {a : Nat → Int} {one : Int} (ha : Dig a 16) (h0 : 0 ≤ one) (h1 : one ≤ 1) : ∀ k, k ≤ 16 → 0 ≤ tc a one k ∧ tc a one k ≤ 1
 | 0, _ => ⟨h0, h1⟩
 | k + 1, h => by
  have ih := tc_bd ha h0 h1 k (by omega)
  have := ha k (by omega)
  simp only [tc]
  omega
theorem tl_dig (a : Nat → Int) (one : Int) (n : Nat) : Dig (tl a one) n := fun i _ => by unfold tl; omega
theorem tl_S (a : Nat → Int) (one : Int) : ∀ k, S (tl a one) k + tc a one k * 65536 ^ k = 2 * S a k + one
 | 0 => by simp [S, tc]
 | k + 1 => by
  have ih := tl_S a one k
  have e : tc a one (k + 1) * 65536 ^ (k + 1) = 65536 * tc a one (k + 1) * 65536 ^ k := by rw [p16s, ← Int.mul_assoc, Int.mul_comm (tc a one (k + 1)) 65536]
  have e2 : tl a one k = 2 * a k + tc a one k - 65536 * tc a one (k + 1) := by
   simp only [tl, tc]
   omega
  simp only [S]
  rw [e, e2, Int.sub_mul, Int.add_mul, Int.mul_add, ← Int.mul_assoc]
  omega
theorem twice_gen (a : Nat → Int) (one : Int) (w : World) (ha : Dig a 16) (h0 : 0 ≤ one) (h1 : one ≤ 1) :
  Cs 49 #[.agg (arr 16 a), .int .u64 one] w (.agg (arr 16 (tl a one))) := by
 go_enter Tryz.func49, Tryz.ntmps49
 go_wp2
 rw [show #[Value.int IntKind.u64 0, Value.int IntKind.u64 0, Value.int IntKind.u64 0, Value.int IntKind.u64 0, Value.int IntKind.u64 0, Value.int IntKind.u64 0, Value.int IntKind.u64 0, Value.int IntKind.u64 0, Value.int IntKind.u64 0, Value.int IntKind.u64 0, Value.int IntKind.u64 0, Value.int IntKind.u64 0, Value.int IntKind.u64 0, Value.int IntKind.u64 0, Value.int IntKind.u64 0, Value.int IntKind.u64 0] = arr 16 (fun _ => 0) from rfl]
 have R1 : Row (((w.alloc (.cells (arr 16 a) 36)).alloc (.cells (arr 16 fun _ => 0) 36)).alloc (.cells (arr 16 fun _ => 0) 36)) w.heap.size 36 16 a := ((Row.new w 36 16 a).alloc _).alloc _
 have R2 : Row (((w.alloc (.cells (arr 16 a) 36)).alloc (.cells (arr 16 fun _ => 0) 36)).alloc (.cells (arr 16 fun _ => 0) 36)) (w.heap.size + 1) 36 16 (fun _ => 0) := (Row.new' _ 36 16 _ (by simp)).alloc _
 have R3 : Row (((w.alloc (.cells (arr 16 a) 36)).alloc (.cells (arr 16 fun _ => 0) 36)).alloc (.cells (arr 16 fun _ => 0) 36)) (w.heap.size + 1 + 1) 36 16 (fun _ => 0) := Row.new' _ 36 16 _ (by simp)
 have O : Below w.heap.size w (((w.alloc (.cells (arr 16 a) 36)).alloc (.cells (arr 16 fun _ => 0) 36)).alloc (.cells (arr 16 fun _ => 0) 36)) := (((Below.refl _ _).alloc (Nat.le_refl _) _).alloc (by simp) _).alloc (by simp; omega) _
 generalize (((w.alloc (.cells (arr 16 a) 36)).alloc (.cells (arr 16 fun _ => 0) 36)).alloc (.cells (arr 16 fun _ => 0) 36)) = W at R1 R2 R3 O ⊢
 go_loopw [6, 7] (fun c i wr => ∃ k : Nat, k ≤ 16 ∧ c = .int .u64 (tc a one k) ∧ i = .int .i64 k ∧ Row wr w.heap.size 36 16 a ∧ Row wr (w.heap.size + 1) 36 16 (fun _ => 0) ∧ Row wr (w.heap.size + 1 + 1) 36 16 (upto k (tl a one) (fun _ => 0)) ∧ Below w.heap.size w wr) (fun _ i _ => 16 - (intOf i).toNat)
 case atStart => exact ⟨0, by omega, rfl, rfl, R1, R2, R3.congr (fun i _ => upto_zero (tl a one) (fun _ => 0) i), O⟩
 case round =>
  clear R1 R2 R3 O
  obtain ⟨k, hk, rfl, rfl, R1, R2, R3, O⟩ := hrel
  by_cases hlt : k < 16
  ·have c := R1.cell hlt
   have d := R3.cell (i := k) hlt
   have e := R3.free k
   obtain ⟨a0, a1⟩ := ha k hlt
   obtain ⟨b0, b1⟩ := tc_bd ha h0 h1 k hk
   have ea := and16 (x := 2 * a k + tc a one k) (by omega) (by omega)
   have HN := hide (show tc a one (k + 1) = (2 * a k + tc a one k) / 65536 from rfl)
   have RR := hide ((R3.set k ((2 * a k + tc a one k) % 65536)).congr (fun i _ => upto_next k (tl a one) (fun _ => 0) rfl i))
   have R1' := hide (R1.other (a := ⟨w.heap.size + 1 + 1, k, none⟩) (by simp <;> omega) (.int .u64 ((2 * a k + tc a one k) % 65536)))
   have R2' := hide (R2.other (a := ⟨w.heap.size + 1 + 1, k, none⟩) (by simp) (.int .u64 ((2 * a k + tc a one k) % 65536)))
   have O' := hide (O.setCell (p := ⟨w.heap.size + 1 + 1, k, none⟩) (by simp; omega) (.int .u64 ((2 * a k + tc a one k) % 65536)))
   clear R1 R2 R3 O
   go_wp2
   go_roundw
   case rel => exact ⟨k + 1, by omega, by rw [HN.out], by go_num, R1'.out, R2'.out, RR.out, O'.out⟩
   case measure => simp [intOf]; omega
  ·have hk' : k = 16 := by omega
   subst hk'
   replace R3 := R3.congr (f' := tl a one) (fun i hi => upto_end _ _ i hi)
   have RR := hide (R2.setAll (tl a one))
   have OO := hide (below_setCells (g := w.heap.size + 1) (by omega) (arr 16 (tl a one)).toList 0 O)
   have HX := hide R3
   clear R3 O R1
   go_wp2_with (first | (refine wpList_load_row rfl 36 _ rfl (w.heap.size + 1 + 1) rfl 36 (arr 16 (tl a one)) (0, 0) _ HX.out Tryz.underlying36 rfl (info36 _) ?_) | (refine wpList_store_mid rfl 36 _ _ rfl (w.heap.size + 1) 0 (arr 16 (tl a one)) rfl rfl ?tht (info36 _) (arr_one _ _) ?_))
   case tht => rw [arr_size]; exact R2.there
   exact bodyPost_ret (v := .agg (arr 16 (tl a one))) (results_cell_row Tryz.results49 _ _ (w.heap.size + 1) 36 (arr 16 (tl a one)) (0, 0) _ rfl RR.out Tryz.underlying36 rfl (info36 _)) rfl ⟨rfl, OO.out⟩
theorem L16 : 2 * Lm + 1 < 65536 ^ 16 := by decide
theorem dSL {N : Int} (h0 : 0 ≤ N) (h1 : N < 65536 ^ 16) : S (d16 N) 16 = N := by rw [d16_S _ h0, Int.emod_eq_of_lt h0 h1]
theorem twice_any (N one : Int) (w : World) (hN : 0 ≤ N ∧ N < Lm) (h0 : 0 ≤ one) (h1 : one ≤ 1) :
  Cs 49 #[.agg (arr 16 (d16 N)), .int .u64 one] w (.agg (arr 16 (d16 (2 * N + one)))) := by
 have hL := L16
 have e := tl_S (d16 N) one 16
 have hc := tc_bd (d16_dig N 16) h0 h1 16 (by omega)
 have hb := S_bd (tl_dig (d16 N) one 16)
 rw [dSL hN.1 (by omega)] at e
 have hs : S (tl (d16 N) one) 16 = 2 * N + one := by
  rcases (show tc (d16 N) one 16 = 0 ∨ tc (d16 N) one 16 = 1 by omega) with h | h
  ·rw [h] at e; omega
  ·rw [h] at e; omega
 have := twice_gen (d16 N) one w (d16_dig N 16) h0 h1
 rwa [arr_congr (S_inj (tl_dig (d16 N) one 16) (d16_dig (2 * N + one) 16) (by rw [hs, dSL (by omega) (by omega)]))] at this
theorem low_any (f : Nat → Int) (w : World) :
  Cs 83 #[.agg (arr 8 f)] w (.agg (arr 4 f)) := by
 have R1 : Row ((w.alloc (.cells (arr 8 f) 96)).alloc (.cells #[Value.int IntKind.u64 0, Value.int IntKind.u64 0, Value.int IntKind.u64 0, Value.int IntKind.u64 0] 42)) w.heap.size 96 8 f := (Row.new w 96 8 f).alloc _
 have c0 := R1.cell (i := 0) (by omega)
 have c1 := R1.cell (i := 1) (by omega)
 have c2 := R1.cell (i := 2) (by omega)
 have c3 := R1.cell (i := 3) (by omega)
 clear R1
 have har : ∀ w', (Instr.arrayAt 42 (.slice (some ⟨w.heap.size, 0, none⟩) 4 8)).run Tryz.prog w' = .ok (.pointer (some ⟨w.heap.size, 0, none⟩)) w' := fun _ => by kernel_rfl
 go_enter Tryz.func83, Tryz.ntmps83
 go_wp2
 exact bodyPost_ret (v := .agg (arr 4 f)) (by simp [results, Tryz.results83, go_sem]; rfl) rfl ⟨rfl, ((Below.refl _ _).alloc (Nat.le_refl _) _).alloc (by simp) _⟩
def bt (s : ByteArray) (i : Nat) : Int := ((s.data[i]?.getD 0).toNat : Int)
theorem bt_bd (s : ByteArray) (i : Nat) : 0 ≤ bt s i ∧ bt s i < 256 := by
 unfold bt
 have := (s.data[i]?.getD 0).toNat_lt
 omega
theorem bt_at (s : ByteArray) (i : Nat) (h : i < s.size) : ((s[i]'h).toNat : Int) = bt s i := by
 unfold bt
 have h' : i < s.data.size := h
 rw [Array.getElem?_eq_getElem h']
 rfl
def sw (s : ByteArray) (j : Nat) : Nat → Int
 | 0 => 0
 | r + 1 => sw s j r + bt s (8 * j + r) * 256 ^ r
theorem sw_bd (s : ByteArray) (j r : Nat) : 0 ≤ sw s j r ∧ sw s j r < 256 ^ r := by
 induction r with
 | zero => simp [sw]
 | succ r ih =>
  have hb := bt_bd s (8 * j + r)
  have hp : (0 : Int) < 256 ^ r := Int.pow_pos (by decide)
  have h1 : bt s (8 * j + r) * 256 ^ r ≤ 255 * 256 ^ r := Int.mul_le_mul_of_nonneg_right (by omega) (by omega)
  have h2 : 0 ≤ bt s (8 * j + r) * 256 ^ r := Int.mul_nonneg hb.1 (by omega)
  have h3 : (256 : Int) ^ (r + 1) = 256 * 256 ^ r := by rw [Int.pow_succ, Int.mul_comm]
  simp only [sw]
  omega
theorem swor0 (s : ByteArray) (j i : Nat) (hi : i = 8 * j + 0) : bits BinOp.or IntKind.u64 0 (bt s i) = sw s j 1 := by
 have hb := bt_bd s i
 rw [or_join 8 256 (by decide) ⟨by decide, by decide⟩ ⟨hb.1, by omega⟩ (by decide) (by omega)]
 simp [sw, hi]
theorem swor1 (s : ByteArray) (j i : Nat) (hi : i = 8 * j + 1) : bits BinOp.or IntKind.u64 (sw s j 1) (bt s i * 256) = sw s j 2 := by
 have hb := bt_bd s i
 have hs := sw_bd s j 1
 have e : (256 : Int) ^ 1 = 256 := by decide
 rw [e] at hs
 rw [or_join' 8 256 (by decide) ⟨hs.1, by omega⟩ ⟨by omega, by omega⟩ (by omega) (by omega)]
 show _ = sw s j 1 + bt s (8 * j + 1) * 256 ^ 1
 rw [e, hi]
theorem swor2 (s : ByteArray) (j i : Nat) (hi : i = 8 * j + 2) : bits BinOp.or IntKind.u64 (sw s j 2) (bt s i * 65536) = sw s j 3 := by
 have hb := bt_bd s i
 have hs := sw_bd s j 2
 have e : (256 : Int) ^ 2 = 65536 := by decide
 rw [e] at hs
 rw [or_join' 16 65536 (by decide) ⟨hs.1, by omega⟩ ⟨by omega, by omega⟩ (by omega) (by omega)]
 show _ = sw s j 2 + bt s (8 * j + 2) * 256 ^ 2
 rw [e, hi]
theorem swor3 (s : ByteArray) (j i : Nat) (hi : i = 8 * j + 3) : bits BinOp.or IntKind.u64 (sw s j 3) (bt s i * 16777216) = sw s j 4 := by
 have hb := bt_bd s i
 have hs := sw_bd s j 3
 have e : (256 : Int) ^ 3 = 16777216 := by decide
 rw [e] at hs
 rw [or_join' 24 16777216 (by decide) ⟨hs.1, by omega⟩ ⟨by omega, by omega⟩ (by omega) (by omega)]
 show _ = sw s j 3 + bt s (8 * j + 3) * 256 ^ 3
 rw [e, hi]
theorem swor4 (s : ByteArray) (j i : Nat) (hi : i = 8 * j + 4) : bits BinOp.or IntKind.u64 (sw s j 4) (bt s i * 4294967296) = sw s j 5 := by
 have hb := bt_bd s i
 have hs := sw_bd s j 4
 have e : (256 : Int) ^ 4 = 4294967296 := by decide
 rw [e] at hs
 rw [or_join' 32 4294967296 (by decide) ⟨hs.1, by omega⟩ ⟨by omega, by omega⟩ (by omega) (by omega)]
 show _ = sw s j 4 + bt s (8 * j + 4) * 256 ^ 4
 rw [e, hi]
theorem swor5 (s : ByteArray) (j i : Nat) (hi : i = 8 * j + 5) : bits BinOp.or IntKind.u64 (sw s j 5) (bt s i * 1099511627776) = sw s j 6 := by
 have hb := bt_bd s i
 have hs := sw_bd s j 5
 have e : (256 : Int) ^ 5 = 1099511627776 := by decide
 rw [e] at hs
 rw [or_join' 40 1099511627776 (by decide) ⟨hs.1, by omega⟩ ⟨by omega, by omega⟩ (by omega) (by omega)]
 show _ = sw s j 5 + bt s (8 * j + 5) * 256 ^ 5
 rw [e, hi]
theorem swor6 (s : ByteArray) (j i : Nat) (hi : i = 8 * j + 6) : bits BinOp.or IntKind.u64 (sw s j 6) (bt s i * 281474976710656) = sw s j 7 := by
 have hb := bt_bd s i
 have hs := sw_bd s j 6
 have e : (256 : Int) ^ 6 = 281474976710656 := by decide
 rw [e] at hs
 rw [or_join' 48 281474976710656 (by decide) ⟨hs.1, by omega⟩ ⟨by omega, by omega⟩ (by omega) (by omega)]
 show _ = sw s j 6 + bt s (8 * j + 6) * 256 ^ 6
 rw [e, hi]
theorem swor7 (s : ByteArray) (j i : Nat) (hi : i = 8 * j + 7) : bits BinOp.or IntKind.u64 (sw s j 7) (bt s i * 72057594037927936) = sw s j 8 := by
 have hb := bt_bd s i
 have hs := sw_bd s j 7
 have e : (256 : Int) ^ 7 = 72057594037927936 := by decide
 rw [e] at hs
 rw [or_join' 56 72057594037927936 (by decide) ⟨hs.1, by omega⟩ ⟨by omega, by omega⟩ (by omega) (by omega)]
 show _ = sw s j 7 + bt s (8 * j + 7) * 256 ^ 7
 rw [e, hi]
def val (s : ByteArray) : Int := sw s 0 8 + 18446744073709551616 * sw s 1 8 + 340282366920938463463374607431768211456 * sw s 2 8 + 6277101735386680763835789423207666416102355444464034512896 * sw s 3 8
end Go.Proofs.YtmhfmhmpoobmlaaGreatDoor.Ord
