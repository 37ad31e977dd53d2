/- Part 10 of the walks and facts. -/
import Derived.Test.YtffimigpbcilbaaGreatDoorCnDef
import Derived.Test.YtffimigpbcilbaaGreatDoorCn1
import Derived.Test.YtffimigpbcilbaaGreatDoorCn2
import Derived.Test.YtffimigpbcilbaaGreatDoorCn3
import Derived.Test.YtffimigpbcilbaaGreatDoorCn4
import Derived.Test.YtffimigpbcilbaaGreatDoorCn5
import Derived.Test.YtffimigpbcilbaaGreatDoorCn6
import Derived.Test.YtffimigpbcilbaaGreatDoorCn7
import Derived.Test.YtffimigpbcilbaaGreatDoorCn8
import Derived.Test.YtffimigpbcilbaaGreatDoorCn9
import Derived.Test.YtffimigpbcilbaaGreatDoorCn11
import Derived.RegionTactic
set_option maxHeartbeats 16000000
set_option maxRecDepth 100000
namespace Go.Proofs.YtffimigpbcilbaaGreatDoor
open Go.RowKit
def fc {α : Type} (n : Nat) (f : Nat → α) : α := match n with
 | 0 => f 0
 | m + 1 => f (m + 1)
theorem fc_eq {α : Type} (n : Nat) (f : Nat → α) : fc n f = f n := by cases n <;> rfl
def fcL {α : Type} : List Nat → (List Nat → α) → α
 | [], f => f []
 | x :: t, f => fc x fun y => fcL t fun s => f (y :: s)
theorem fcL_eq {α : Type} : ∀ (l : List Nat) (f : List Nat → α), fcL l f = f l
 | [], _ => rfl
 | x :: t, f => by
  unfold fcL
  rw [fc_eq, fcL_eq t]
def rlN (x n : Nat) : Nat := (x * 2 ^ n % 4294967296) ||| (x / 2 ^ (32 - n))
def nl (V : List Nat) : Nat → Int := fun i => ((V.getD i 0 : Nat) : Int)
theorem va_n (x y : Nat) : va (x : Int) (y : Int) = (((x + y) % 4294967296 : Nat) : Int) := by
 unfold va
 simp [IntKind.wrap, IntKind.signed, IntKind.bits]
theorem vx_n {x y : Nat} (hx : x < 4294967296) (hy : y < 4294967296) : vx (x : Int) (y : Int) = ((x ^^^ y : Nat) : Int) := by
 have h : x ^^^ y < 2 ^ 32 := Nat.xor_lt_two_pow hx hy
 unfold vx
 simp only [IntKind.wrap, IntKind.signed, IntKind.bits, BitVec.toNat_xor, BitVec.toNat_ofInt]
 rw [show (((x : Int) % ((2 ^ 32 : Nat) : Int)).toNat) = x by omega, show (((y : Int) % ((2 ^ 32 : Nat) : Int)).toNat) = y by omega]
 simp only [Bool.false_and, Bool.false_eq_true, if_false]
 omega
theorem vx_lt {x y : Nat} (hx : x < 4294967296) (hy : y < 4294967296) : x ^^^ y < 4294967296 := Nat.xor_lt_two_pow (n := 32) hx hy
theorem rlN_lt {x n : Nat} (hx : x < 4294967296) : rlN x n < 4294967296 := Nat.or_lt_two_pow (n := 32) (Nat.mod_lt _ (by decide)) (Nat.lt_of_le_of_lt (Nat.div_le_self _ _) hx)
theorem sr_n (x n : Nat) : sr (x : Int) n = ((x / 2 ^ n : Nat) : Int) := by
 unfold sr
 rw [Int.fdiv_eq_ediv_of_nonneg _ (Int.pow_nonneg (by decide))]
 simp
theorem vl_n (x n : Nat) : vl (x : Int) n = ((x * 2 ^ n % 4294967296 : Nat) : Int) := by
 unfold vl
 simp [IntKind.wrap, IntKind.signed, IntKind.bits]
theorem rl_n {x n : Nat} (hx : x < 4294967296) : vo (vl (x : Int) n) (sr (x : Int) (32 - n)) = ((rlN x n : Nat) : Int) := by
 rw [vl_n, sr_n, Bla.vo_nat _ _ (Nat.mod_lt _ (by decide)) (Nat.lt_of_le_of_lt (Nat.div_le_self _ _) hx)]
 rfl
structure Wk (V : List Nat) : Prop where
 n : V.length = 16
 lt : ∀ i, V.getD i 0 < 4294967296
theorem nl_set (V : List Nat) {i : Nat} (h : i < V.length) (v : Nat) : upd (nl V) i (v : Int) = nl (V.set i v) := by
 funext t
 unfold upd nl
 simp only [List.getD_eq_getElem?_getD, List.getElem?_set]
 by_cases e : t = i
 ·subst e
  rw [if_pos rfl, if_pos rfl, if_pos h]
  rfl
 ·rw [if_neg e, if_neg (fun h => e h.symm)]
theorem Wk.set {V : List Nat} (h : Wk V) (i : Nat) {v : Nat} (hv : v < 4294967296) : Wk (V.set i v) := ⟨by rw [List.length_set]; exact h.n, fun t => by
 rw [List.getD_eq_getElem?_getD, List.getElem?_set]
 by_cases e : i = t
 ·rw [if_pos e]
  split
  ·exact hv
  ·decide
 ·rw [if_neg e, ← List.getD_eq_getElem?_getD]
  exact h.lt t⟩
def mx4 {α : Type} (r s t u a b c d x y : Nat) (f : Nat → Nat → Nat → Nat → α) : α :=
 fc ((a + (b + x) % 4294967296) % 4294967296) fun a1 => fc (rlN (d ^^^ a1) r) fun d1 => fc ((c + d1) % 4294967296) fun c1 => fc (rlN (b ^^^ c1) s) fun b1 =>
 fc ((a1 + (b1 + y) % 4294967296) % 4294967296) fun a2 => fc (rlN (d1 ^^^ a2) t) fun d2 => fc ((c1 + d2) % 4294967296) fun c2 => fc (rlN (b1 ^^^ c2) u) fun b2 => f a2 b2 c2 d2
def rlF (x n m : Nat) : Nat := Nat.lor (Nat.mod (Nat.mul x n) 4294967296) (Nat.div x m)
def mx4f {α : Type} (r s t u a b c d x y : Nat) (f : Nat → Nat → Nat → Nat → α) : α :=
 fc (Nat.pow 2 r) fun r1 => fc (Nat.pow 2 (Nat.sub 32 r)) fun r2 => fc (Nat.pow 2 s) fun s1 => fc (Nat.pow 2 (Nat.sub 32 s)) fun s2 => fc (Nat.pow 2 t) fun t1 => fc (Nat.pow 2 (Nat.sub 32 t)) fun t2 => fc (Nat.pow 2 u) fun u1 => fc (Nat.pow 2 (Nat.sub 32 u)) fun u2 =>
 fc (Nat.mod (Nat.add a (Nat.mod (Nat.add b x) 4294967296)) 4294967296) fun a1 => fc (rlF (Nat.xor d a1) r1 r2) fun d1 => fc (Nat.mod (Nat.add c d1) 4294967296) fun c1 => fc (rlF (Nat.xor b c1) s1 s2) fun b1 =>
 fc (Nat.mod (Nat.add a1 (Nat.mod (Nat.add b1 y) 4294967296)) 4294967296) fun a2 => fc (rlF (Nat.xor d1 a2) t1 t2) fun d2 => fc (Nat.mod (Nat.add c1 d2) 4294967296) fun c2 => fc (rlF (Nat.xor b1 c2) u1 u2) fun b2 => f a2 b2 c2 d2
theorem mx4f_eq {α : Type} (r s t u a b c d x y : Nat) (f : Nat → Nat → Nat → Nat → α) : mx4f r s t u a b c d x y f = mx4 r s t u a b c d x y f := by
 unfold mx4f mx4
 simp only [fc_eq]
 rfl
def fMx (r s t u : Nat) (V : List Nat) (x y i j k l : Nat) : List Nat := mx4f r s t u (V.getD i 0) (V.getD j 0) (V.getD k 0) (V.getD l 0) x y fun a b c d => (((V.set i a).set j b).set k c).set l d
theorem wm (x : Nat) : x % 4294967296 < 4294967296 := Nat.mod_lt _ (by decide)
theorem fMx_bla {V : List Nat} (h : Wk V) {x y i j k l : Nat} (hi : i < 16) (hj : j < 16) (hk : k < 16) (hl : l < 16) : Bla.mxF (nl V) (x : Int) (y : Int) i j k l = nl (fMx 16 20 24 25 V x y i j k l) ∧ Wk (fMx 16 20 24 25 V x y i j k l) := by
 have ha := h.lt i
 have hb := h.lt j
 have hc := h.lt k
 have hd := h.lt l
 unfold fMx
 rw [mx4f_eq]
 unfold mx4
 simp only [fc_eq]
 obtain ⟨a1, q1⟩ : ∃ z, (V.getD i 0 + (V.getD j 0 + x) % 4294967296) % 4294967296 = z := ⟨_, rfl⟩
 have w1 : a1 < 4294967296 := q1 ▸ wm _
 have e1 : Bla.mA1 (nl V) x i j = (a1 : Int) := by rw [← q1]; unfold Bla.mA1 nl; rw [va_n, va_n]
 obtain ⟨d1, q2⟩ : ∃ z, rlN (V.getD l 0 ^^^ a1) 16 = z := ⟨_, rfl⟩
 have w2 : d1 < 4294967296 := q2 ▸ rlN_lt (vx_lt hd w1)
 have e2 : Bla.mD1 (nl V) x i j l = (d1 : Int) := by rw [← q2]; unfold Bla.mD1; rw [e1]; unfold nl; rw [vx_n hd w1]; exact rl_n (vx_lt hd w1)
 obtain ⟨c1, q3⟩ : ∃ z, (V.getD k 0 + d1) % 4294967296 = z := ⟨_, rfl⟩
 have w3 : c1 < 4294967296 := q3 ▸ wm _
 have e3 : Bla.mC1 (nl V) x i j k l = (c1 : Int) := by rw [← q3]; unfold Bla.mC1; rw [e2]; unfold nl; rw [va_n]
 obtain ⟨b1, q4⟩ : ∃ z, rlN (V.getD j 0 ^^^ c1) 20 = z := ⟨_, rfl⟩
 have w4 : b1 < 4294967296 := q4 ▸ rlN_lt (vx_lt hb w3)
 have e4 : Bla.mB1 (nl V) x i j k l = (b1 : Int) := by rw [← q4]; unfold Bla.mB1; rw [e3]; unfold nl; rw [vx_n hb w3]; exact rl_n (vx_lt hb w3)
 obtain ⟨a2, q5⟩ : ∃ z, (a1 + (b1 + y) % 4294967296) % 4294967296 = z := ⟨_, rfl⟩
 have w5 : a2 < 4294967296 := q5 ▸ wm _
 have e5 : Bla.mA2 (nl V) x y i j k l = (a2 : Int) := by rw [← q5]; unfold Bla.mA2; rw [e1, e4]; rw [va_n, va_n]
 obtain ⟨d2, q6⟩ : ∃ z, rlN (d1 ^^^ a2) 24 = z := ⟨_, rfl⟩
 have w6 : d2 < 4294967296 := q6 ▸ rlN_lt (vx_lt w2 w5)
 have e6 : Bla.mD2 (nl V) x y i j k l = (d2 : Int) := by rw [← q6]; unfold Bla.mD2; rw [e2, e5, vx_n w2 w5]; exact rl_n (vx_lt w2 w5)
 obtain ⟨c2, q7⟩ : ∃ z, (c1 + d2) % 4294967296 = z := ⟨_, rfl⟩
 have w7 : c2 < 4294967296 := q7 ▸ wm _
 have e7 : Bla.mC2 (nl V) x y i j k l = (c2 : Int) := by rw [← q7]; unfold Bla.mC2; rw [e3, e6, va_n]
 obtain ⟨b2, q8⟩ : ∃ z, rlN (b1 ^^^ c2) 25 = z := ⟨_, rfl⟩
 have w8 : b2 < 4294967296 := q8 ▸ rlN_lt (vx_lt w4 w7)
 have e8 : Bla.mB2 (nl V) x y i j k l = (b2 : Int) := by rw [← q8]; unfold Bla.mB2; rw [e4, e7, vx_n w4 w7]; exact rl_n (vx_lt w4 w7)
 have n0 := h.n
 rw [q1, q2, q3, q4, q5, q6, q7, q8]
 constructor
 ·unfold Bla.mxF
  rw [e5, e6, e7, e8, nl_set V (by omega), nl_set _ (by rw [List.length_set]; omega), nl_set _ (by rw [List.length_set, List.length_set]; omega), nl_set _ (by rw [List.length_set, List.length_set, List.length_set]; omega)]
 ·exact (((h.set i w5).set j w8).set k w7).set l w6
theorem fMx_cha {V : List Nat} (h : Wk V) {i j k l : Nat} (hi : i < 16) (hj : j < 16) (hk : k < 16) (hl : l < 16) : mxF (nl V) i j k l = nl (fMx 16 12 8 7 V 0 0 i j k l) ∧ Wk (fMx 16 12 8 7 V 0 0 i j k l) := by
 have ha := h.lt i
 have hb := h.lt j
 have hc := h.lt k
 have hd := h.lt l
 unfold fMx
 rw [mx4f_eq]
 unfold mx4
 simp only [fc_eq]
 obtain ⟨a1, q1⟩ : ∃ z, (V.getD i 0 + (V.getD j 0 + 0) % 4294967296) % 4294967296 = z := ⟨_, rfl⟩
 have w1 : a1 < 4294967296 := q1 ▸ wm _
 have e1 : mA1 (nl V) i j = (a1 : Int) := by rw [← q1]; unfold mA1 nl; rw [va_n, Nat.add_zero, Nat.mod_eq_of_lt hb]
 obtain ⟨d1, q2⟩ : ∃ z, rlN (V.getD l 0 ^^^ a1) 16 = z := ⟨_, rfl⟩
 have w2 : d1 < 4294967296 := q2 ▸ rlN_lt (vx_lt hd w1)
 have e2 : mD1 (nl V) i j l = (d1 : Int) := by rw [← q2]; unfold mD1; rw [e1]; unfold nl; rw [vx_n hd w1]; exact rl_n (vx_lt hd w1)
 obtain ⟨c1, q3⟩ : ∃ z, (V.getD k 0 + d1) % 4294967296 = z := ⟨_, rfl⟩
 have w3 : c1 < 4294967296 := q3 ▸ wm _
 have e3 : mC1 (nl V) i j k l = (c1 : Int) := by rw [← q3]; unfold mC1; rw [e2]; unfold nl; rw [va_n]
 obtain ⟨b1, q4⟩ : ∃ z, rlN (V.getD j 0 ^^^ c1) 12 = z := ⟨_, rfl⟩
 have w4 : b1 < 4294967296 := q4 ▸ rlN_lt (vx_lt hb w3)
 have e4 : mB1 (nl V) i j k l = (b1 : Int) := by rw [← q4]; unfold mB1; rw [e3]; unfold nl; rw [vx_n hb w3]; exact rl_n (vx_lt hb w3)
 obtain ⟨a2, q5⟩ : ∃ z, (a1 + (b1 + 0) % 4294967296) % 4294967296 = z := ⟨_, rfl⟩
 have w5 : a2 < 4294967296 := q5 ▸ wm _
 have e5 : mA2 (nl V) i j k l = (a2 : Int) := by rw [← q5]; unfold mA2; rw [e1, e4]; rw [va_n, Nat.add_zero, Nat.mod_eq_of_lt w4]
 obtain ⟨d2, q6⟩ : ∃ z, rlN (d1 ^^^ a2) 8 = z := ⟨_, rfl⟩
 have w6 : d2 < 4294967296 := q6 ▸ rlN_lt (vx_lt w2 w5)
 have e6 : mD2 (nl V) i j k l = (d2 : Int) := by rw [← q6]; unfold mD2; rw [e2, e5, vx_n w2 w5]; exact rl_n (vx_lt w2 w5)
 obtain ⟨c2, q7⟩ : ∃ z, (c1 + d2) % 4294967296 = z := ⟨_, rfl⟩
 have w7 : c2 < 4294967296 := q7 ▸ wm _
 have e7 : mC2 (nl V) i j k l = (c2 : Int) := by rw [← q7]; unfold mC2; rw [e3, e6, va_n]
 obtain ⟨b2, q8⟩ : ∃ z, rlN (b1 ^^^ c2) 7 = z := ⟨_, rfl⟩
 have w8 : b2 < 4294967296 := q8 ▸ rlN_lt (vx_lt w4 w7)
 have e8 : mB2 (nl V) i j k l = (b2 : Int) := by rw [← q8]; unfold mB2; rw [e4, e7, vx_n w4 w7]; exact rl_n (vx_lt w4 w7)
 have n0 := h.n
 rw [q1, q2, q3, q4, q5, q6, q7, q8]
 constructor
 ·unfold mxF
  rw [e5, e6, e7, e8, nl_set V (by omega), nl_set _ (by rw [List.length_set]; omega), nl_set _ (by rw [List.length_set, List.length_set]; omega), nl_set _ (by rw [List.length_set, List.length_set, List.length_set]; omega)]
 ·exact (((h.set i w5).set j w8).set k w7).set l w6
open Go.RowKit
def sg : Nat → List Nat
 | 0 => [0, 1, 2, 3, 4, 5, 6, 7, 8, 9, 10, 11, 12, 13, 14, 15]
 | 1 => [14, 10, 4, 8, 9, 15, 13, 6, 1, 12, 0, 2, 11, 7, 5, 3]
 | 2 => [11, 8, 12, 0, 5, 2, 15, 13, 10, 14, 3, 6, 7, 1, 9, 4]
 | 3 => [7, 9, 3, 1, 13, 12, 11, 14, 2, 6, 5, 10, 4, 0, 15, 8]
 | 4 => [9, 0, 5, 7, 2, 4, 10, 15, 14, 1, 11, 12, 6, 8, 3, 13]
 | 5 => [2, 12, 6, 10, 0, 11, 8, 3, 4, 13, 7, 5, 15, 14, 1, 9]
 | 6 => [12, 5, 1, 15, 14, 13, 4, 10, 0, 7, 6, 3, 9, 2, 8, 11]
 | 7 => [13, 11, 7, 14, 12, 1, 3, 9, 5, 0, 15, 4, 8, 6, 2, 10]
 | 8 => [6, 15, 14, 9, 11, 3, 0, 8, 12, 2, 13, 7, 1, 4, 10, 5]
 | 9 => [10, 2, 8, 4, 7, 6, 1, 5, 15, 11, 9, 14, 3, 12, 13, 0]
 | _ => []
theorem sg_eq : ∀ j, j < 10 → ∀ q, q < 16 → (sg j).getD q 0 = OF (j * 16 + q) := by decide
def fRn (m V : List Nat) (j : Nat) : List Nat :=
 fcL (fMx 16 20 24 25 V (m.getD ((sg j).getD 0 0) 0) (m.getD ((sg j).getD 1 0) 0) 0 4 8 12) fun V => fcL (fMx 16 20 24 25 V (m.getD ((sg j).getD 2 0) 0) (m.getD ((sg j).getD 3 0) 0) 1 5 9 13) fun V =>
 fcL (fMx 16 20 24 25 V (m.getD ((sg j).getD 4 0) 0) (m.getD ((sg j).getD 5 0) 0) 2 6 10 14) fun V => fcL (fMx 16 20 24 25 V (m.getD ((sg j).getD 6 0) 0) (m.getD ((sg j).getD 7 0) 0) 3 7 11 15) fun V =>
 fcL (fMx 16 20 24 25 V (m.getD ((sg j).getD 8 0) 0) (m.getD ((sg j).getD 9 0) 0) 0 5 10 15) fun V => fcL (fMx 16 20 24 25 V (m.getD ((sg j).getD 10 0) 0) (m.getD ((sg j).getD 11 0) 0) 1 6 11 12) fun V =>
 fcL (fMx 16 20 24 25 V (m.getD ((sg j).getD 12 0) 0) (m.getD ((sg j).getD 13 0) 0) 2 7 8 13) fun V => fMx 16 20 24 25 V (m.getD ((sg j).getD 14 0) 0) (m.getD ((sg j).getD 15 0) 0) 3 4 9 14
theorem fRn_eq (m : List Nat) {V : List Nat} (h : Wk V) (j : Nat) (hj : j < 10) : Bla.rn8 (nl m) (nl V) j = nl (fRn m V j) ∧ Wk (fRn m V j) := by
 unfold fRn
 simp only [fcL_eq, sg_eq j hj 0 (by decide), sg_eq j hj 1 (by decide), sg_eq j hj 2 (by decide), sg_eq j hj 3 (by decide), sg_eq j hj 4 (by decide), sg_eq j hj 5 (by decide), sg_eq j hj 6 (by decide), sg_eq j hj 7 (by decide), sg_eq j hj 8 (by decide), sg_eq j hj 9 (by decide), sg_eq j hj 10 (by decide), sg_eq j hj 11 (by decide), sg_eq j hj 12 (by decide), sg_eq j hj 13 (by decide), sg_eq j hj 14 (by decide), sg_eq j hj 15 (by decide)]
 obtain ⟨e0, k0⟩ := fMx_bla (V := V) h (x := m.getD (OF (j * 16 + 0)) 0) (y := m.getD (OF (j * 16 + 1)) 0) (i := 0) (j := 4) (k := 8) (l := 12) (by decide) (by decide) (by decide) (by decide)
 obtain ⟨e1, k1⟩ := fMx_bla (V := _) k0 (x := m.getD (OF (j * 16 + 2)) 0) (y := m.getD (OF (j * 16 + 3)) 0) (i := 1) (j := 5) (k := 9) (l := 13) (by decide) (by decide) (by decide) (by decide)
 obtain ⟨e2, k2⟩ := fMx_bla (V := _) k1 (x := m.getD (OF (j * 16 + 4)) 0) (y := m.getD (OF (j * 16 + 5)) 0) (i := 2) (j := 6) (k := 10) (l := 14) (by decide) (by decide) (by decide) (by decide)
 obtain ⟨e3, k3⟩ := fMx_bla (V := _) k2 (x := m.getD (OF (j * 16 + 6)) 0) (y := m.getD (OF (j * 16 + 7)) 0) (i := 3) (j := 7) (k := 11) (l := 15) (by decide) (by decide) (by decide) (by decide)
 obtain ⟨e4, k4⟩ := fMx_bla (V := _) k3 (x := m.getD (OF (j * 16 + 8)) 0) (y := m.getD (OF (j * 16 + 9)) 0) (i := 0) (j := 5) (k := 10) (l := 15) (by decide) (by decide) (by decide) (by decide)
 obtain ⟨e5, k5⟩ := fMx_bla (V := _) k4 (x := m.getD (OF (j * 16 + 10)) 0) (y := m.getD (OF (j * 16 + 11)) 0) (i := 1) (j := 6) (k := 11) (l := 12) (by decide) (by decide) (by decide) (by decide)
 obtain ⟨e6, k6⟩ := fMx_bla (V := _) k5 (x := m.getD (OF (j * 16 + 12)) 0) (y := m.getD (OF (j * 16 + 13)) 0) (i := 2) (j := 7) (k := 8) (l := 13) (by decide) (by decide) (by decide) (by decide)
 obtain ⟨e7, k7⟩ := fMx_bla (V := _) k6 (x := m.getD (OF (j * 16 + 14)) 0) (y := m.getD (OF (j * 16 + 15)) 0) (i := 3) (j := 4) (k := 9) (l := 14) (by decide) (by decide) (by decide) (by decide)
 refine ⟨?_, k7⟩
 unfold Bla.rn8 Bla.rn7 Bla.rn6 Bla.rn5 Bla.rn4 Bla.rn3 Bla.rn2 Bla.rn1
 have hm : ∀ i, nl m i = ((m.getD i 0 : Nat) : Int) := fun _ => rfl
 simp only [hm]
 rw [e0, e1, e2, e3, e4, e5, e6, e7]
def fRd (m V : List Nat) : Nat → List Nat
 | 0 => V
 | j + 1 => fcL (fRd m V j) fun V => fRn m V j
theorem fRd_eq (m : List Nat) {V : List Nat} (h : Wk V) : ∀ j, j ≤ 10 → Bla.rd (nl m) (nl V) j = nl (fRd m V j) ∧ Wk (fRd m V j)
 | 0, _ => ⟨rfl, h⟩
 | j + 1, hj => by
  obtain ⟨e, k⟩ := fRd_eq m h j (by omega)
  unfold Bla.rd fRd
  rw [e, fcL_eq]
  exact fRn_eq m k j (by omega)
def fSp (H : List Nat) (ct : Nat) (last : Bool) : List Nat := H ++ [1779033703, 3144134277, 1013904242, 2773480762, 1359893119 ^^^ (ct % 4294967296), 2600822924 ^^^ (ct / 4294967296), if last then 3766232660 else 528734635, 1541459225]
theorem fSp_eq {H : List Nat} (hn : H.length = 8) {ct : Nat} (hc : ct < 4294967296) (last : Bool) : ∀ t, t < 16 → Bla.spr (nl H) (ct : Int) last t = nl (fSp H ct last) t := by
 obtain ⟨a0, a1, a2, a3, a4, a5, a6, a7, rfl⟩ : ∃ a b c d e f g h, H = [a, b, c, d, e, f, g, h] := by
  match H, hn with
  | [a, b, c, d, e, f, g, h], _ => exact ⟨a, b, c, d, e, f, g, h, rfl⟩
 have c1 : cv .u32 (ct : Int) = (ct : Int) := by
  unfold cv
  simp [IntKind.wrap, IntKind.signed, IntKind.bits]
  omega
 have c2 : cv .u32 (sr (ct : Int) 32) = ((0 : Nat) : Int) := by
  rw [sr_n, Nat.div_eq_of_lt hc]
  decide
 have x1 : vx 1359893119 (ct : Int) = ((1359893119 ^^^ ct : Nat) : Int) := vx_n (x := 1359893119) (by decide) hc
 have x2 : vx 2600822924 ((0 : Nat) : Int) = ((2600822924 ^^^ 0 : Nat) : Int) := vx_n (x := 2600822924) (y := 0) (by decide) (by decide)
 intro t ht
 have e12 : Bla.spr (nl [a0, a1, a2, a3, a4, a5, a6, a7]) (ct : Int) last 12 = ((1359893119 ^^^ ct : Nat) : Int) := Eq.trans (b := vx 1359893119 (cv .u32 (ct : Int))) (by cases last <;> rfl) (by rw [c1, x1])
 have e13 : Bla.spr (nl [a0, a1, a2, a3, a4, a5, a6, a7]) (ct : Int) last 13 = ((2600822924 ^^^ 0 : Nat) : Int) := Eq.trans (b := vx 2600822924 (cv .u32 (sr (ct : Int) 32))) (by cases last <;> rfl) (by rw [c2, x2])
 have e14 : Bla.spr (nl [a0, a1, a2, a3, a4, a5, a6, a7]) (ct : Int) last 14 = (((if last then 3766232660 else 528734635 : Nat) : Nat) : Int) := by
  cases last
  ·rfl
  ·show vt 528734635 = _
   decide
 unfold fSp
 rw [Nat.mod_eq_of_lt hc, Nat.div_eq_of_lt hc]
 match t, ht with
 | 0, _ | 1, _ | 2, _ | 3, _ | 4, _ | 5, _ | 6, _ | 7, _ | 8, _ | 9, _ | 10, _ | 11, _ | 15, _ => cases last <;> rfl
 | 12, _ => exact e12
 | 13, _ => exact e13
 | 14, _ => exact e14
 | n + 16, h => exact absurd h (by omega)
structure Hk (H : List Nat) : Prop where
 n : H.length = 8
 lt : ∀ i, H.getD i 0 < 4294967296
theorem fSp_wk {H : List Nat} (h : Hk H) {ct : Nat} (hc : ct < 4294967296) (last : Bool) : Wk (fSp H ct last) := by
 have hn := h.n
 have hx : 1359893119 ^^^ (ct % 4294967296) < 4294967296 := vx_lt (by decide) (wm _)
 have hy : 2600822924 ^^^ (ct / 4294967296) < 4294967296 := vx_lt (by decide) (by rw [Nat.div_eq_of_lt hc]; decide)
 refine ⟨by unfold fSp; rw [List.length_append, hn]; rfl, fun i => ?_⟩
 unfold fSp
 rw [List.getD_eq_getElem?_getD]
 by_cases hi : i < 8
 ·rw [List.getElem?_append_left (by omega), ← List.getD_eq_getElem?_getD]
  exact h.lt i
 ·rw [List.getElem?_append_right (by omega), hn]
  obtain ⟨k, rfl⟩ : ∃ k, i = 8 + k := ⟨i - 8, by omega⟩
  rw [Nat.add_sub_cancel_left]
  match k with
  | 0 => exact (by decide : 1779033703 < 4294967296)
  | 1 => exact (by decide : 3144134277 < 4294967296)
  | 2 => exact (by decide : 1013904242 < 4294967296)
  | 3 => exact (by decide : 2773480762 < 4294967296)
  | 7 => exact (by decide : 1541459225 < 4294967296)
  | 4 => exact hx
  | 5 => exact hy
  | 6 =>
   cases last
   ·exact (by decide : 528734635 < 4294967296)
   ·exact (by decide : 3766232660 < 4294967296)
  | n + 8 => exact (by decide : (0 : Nat) < 4294967296)
def fMixL (H m : List Nat) (ct : Nat) (last : Bool) : List Nat := fcL m fun m => fcL (fRd m (fSp H ct last) 10) fun y => (List.range 8).map fun i => H.getD i 0 ^^^ (y.getD i 0 ^^^ y.getD (8 + i) 0)
theorem range8 (f : Nat → Nat) {i : Nat} (h : i < 8) : ((List.range 8).map f).getD i 0 = f i := by
 rw [List.getD_eq_getElem?_getD, List.getElem?_map, List.getElem?_range h]
 rfl
theorem fMix_eq {H m : List Nat} (h : Hk H) {ct : Nat} (hc : ct < 4294967296) (last : Bool) : (∀ i, i < 8 → Bla.mixW (nl H) (nl m) (ct : Int) last i = nl (fMixL H m ct last) i) ∧ Hk (fMixL H m ct last) := by
 have hw := fSp_wk h hc last
 obtain ⟨e, k⟩ := fRd_eq m hw 10 (by decide)
 unfold fMixL
 simp only [fcL_eq]
 refine ⟨fun i hi => ?_, ⟨by simp, fun i => ?_⟩⟩
 ·have c := fun t ht => Bla.rd_congr (m := nl m) (m' := nl m) (fun _ _ => rfl) (fSp_eq h.n hc last) 10 t ht
  unfold Bla.mixW
  rw [c i (by omega), c (8 + i) (by omega), e]
  unfold nl
  rw [vx_n (k.lt _) (k.lt _), vx_n (h.lt _) (vx_lt (k.lt _) (k.lt _)), range8 _ hi]
 ·by_cases hi : i < 8
  ·rw [range8 _ hi]
   exact vx_lt (h.lt _) (vx_lt (k.lt _) (k.lt _))
  ·rw [List.getD_eq_getElem?_getD, List.getElem?_eq_none (by simp; omega)]
   decide
def byL (l : List Nat) : ByteArray := ⟨(l.map UInt8.ofNat).toArray⟩
theorem byL_size (l : List Nat) : (byL l).size = l.length := by
 unfold byL
 show ((l.map UInt8.ofNat).toArray).size = _
 simp
theorem bt_byL (l : List Nat) (i : Nat) : bt (byL l) i = ((l.getD i 0 % 256 : Nat) : Int) := by
 unfold bt byL
 simp only [List.getElem?_toArray, List.getElem?_map, List.getD_eq_getElem?_getD]
 cases h : l[i]? with
 | none => rfl
 | some x => simp [UInt8.toNat_ofNat']
theorem byL_app (a b : List Nat) : byL a ++ byL b = byL (a ++ b) := by
 unfold byL
 apply ByteArray.ext
 rw [ByteArray.data_append, List.map_append, List.append_toArray]
theorem byL_ext (l : List Nat) (i j : Nat) : (byL l).extract i j = byL ((l.take j).drop i) := by
 unfold byL
 apply ByteArray.ext
 rw [ByteArray.data_extract]
 simp [List.extract_toArray, List.extract, ← List.map_drop, ← List.map_take, List.drop_take]
theorem bs_byL (l : List Nat) : bs (l.map fun (n : Nat) => (n : Int)) = byL l := by
 unfold bs byL
 rw [List.map_map]
 rfl
def wN (l : List Nat) : List Nat := (List.range 16).map fun t => l.getD (4 * t) 0 % 256 + 256 * (l.getD (4 * t + 1) 0 % 256) + 65536 * (l.getD (4 * t + 2) 0 % 256) + 16777216 * (l.getD (4 * t + 3) 0 % 256)
theorem wN_eq (l : List Nat) : ∀ t, t < 16 → Bla.wd (bt (byL l)) 64 t = nl (wN l) t := fun t ht => by
 rw [Bla.wd_p4 _ (fun i => bt_nn (byL l) i) t ht]
 unfold Bla.p4 nl wN
 rw [List.getD_eq_getElem?_getD, List.getElem?_map, List.getElem?_range ht]
 simp only [bt_byL, Option.map_some, Option.getD_some]
 omega
def H0 : List Nat := [1795745351, 3144134277, 1013904242, 2773480762, 1359893119, 2600822924, 528734635, 1541459225]
theorem H0_k : Hk H0 := ⟨rfl, fun i => by
 match i with
 | 0 | 1 | 2 | 3 | 4 | 5 | 6 | 7 => decide
 | n + 8 => exact (by decide : (0 : Nat) < 4294967296)⟩
theorem H0_eq : ∀ i, i < 8 → (Bla.hs0 32 0).ws i = nl H0 i := by decide
def outN (h : List Nat) : List Nat := (List.range 32).map fun j => h.getD (j / 4) 0 / 2 ^ (8 * (j % 4)) % 256
theorem outL_n {f : Nat → Int} {h : List Nat} (e : ∀ i, i < 8 → f i = nl h i) : ∀ j, j ≤ 32 → Bla.outL f j = ((List.range j).map fun j => h.getD (j / 4) 0 / 2 ^ (8 * (j % 4)) % 256).map fun (n : Nat) => (n : Int)
 | 0, _ => rfl
 | j + 1, hj => by
  unfold Bla.outL
  rw [outL_n e j (by omega), List.range_succ, List.map_append, List.map_append]
  congr 1
  simp only [List.map_cons, List.map_nil]
  rw [e (j / 4) (by omega)]
  unfold nl
  rw [sr_n]
  unfold cv
  simp [IntKind.wrap, IntKind.signed, IntKind.bits]
def padN (l : List Nat) : List Nat := l ++ List.replicate (64 - l.length) 0
def fD (l : List Nat) : List Nat := if l.length ≤ 64 then outN (fMixL H0 (wN (padN l)) l.length true) else outN (fMixL (fMixL H0 (wN (l.take 64)) 64 false) (wN (padN (l.drop 64))) l.length true)
theorem zs_byL (n : Nat) : Bla.zs n = byL (List.replicate n 0) := by
 unfold Bla.zs byL
 simp
theorem Bh_byL (l : List Nat) (hl : l.length ≤ 128) : Bh (byL l) = byL (fD l) := by
 have hz := byL_size l
 have he : Bla.strE.size = 0 := rfl
 unfold Bh
 rw [← Bla.doc_eq 32 (by decide) Bla.strE (byL l) (by omega) (by decide)]
 unfold Bla.docS Bla.docV Bla.allV
 rw [if_pos he, he]
 have key : ∀ h : List Nat, (∀ i, i < 8 → Bla.dfin (byL l) (Bla.hs0 32 0).ws i = nl h i) → bs (Bla.outL (Bla.dfin (byL l) (Bla.hs0 32 0).ws) 32) = byL (outN h) := fun h e => by
  rw [outL_n e 32 (Nat.le_refl _), bs_byL]
  rfl
 have cc : cv .u64 (((byL l).size : Nat) : Int) = ((l.length : Nat) : Int) := by
  rw [hz]
  unfold cv
  simp [IntKind.wrap, IntKind.signed, IntKind.bits]
  omega
 unfold fD
 by_cases h : l.length ≤ 64
 ·rw [if_pos h]
  refine key _ fun i hi => ?_
  have hb : Bla.nbl (byL l) = 0 := by unfold Bla.nbl; omega
  have hr : Bla.rst (byL l) ++ Bla.zs (64 - (Bla.rst (byL l)).size) = byL (padN l) := by
   have h1 : Bla.rst (byL l) = byL l := by
    unfold Bla.rst
    rw [hb, byL_ext, hz]
    simp
   rw [h1, hz, zs_byL, byL_app]
   rfl
  unfold Bla.dfin
  rw [hb, hr, cc]
  show Bla.mixW (Bla.hs0 32 0).ws _ _ true i = _
  rw [Bla.mixW_congr H0_eq (wN_eq _) _ true i hi]
  exact (fMix_eq H0_k (by omega) true).1 i hi
 ·rw [if_neg h]
  refine key _ fun i hi => ?_
  have hb : Bla.nbl (byL l) = 1 := by unfold Bla.nbl; omega
  have hr : Bla.rst (byL l) ++ Bla.zs (64 - (Bla.rst (byL l)).size) = byL (padN (l.drop 64)) := by
   have h1 : Bla.rst (byL l) = byL (l.drop 64) := by
    unfold Bla.rst
    rw [hb, byL_ext, hz]
    simp
   rw [h1, byL_size, zs_byL, byL_app]
   rfl
  obtain ⟨e1, k1⟩ := fMix_eq H0_k (m := wN (l.take 64)) (ct := 64) (by decide) false
  unfold Bla.dfin
  rw [hb, hr, cc]
  have e2 : ∀ i, i < 8 → Bla.pcs (byL l) (Bla.hs0 32 0).ws 1 i = nl (fMixL H0 (wN (l.take 64)) 64 false) i := fun i hi => by
   rw [← e1 i hi]
   show Bla.mixW (Bla.hs0 32 0).ws (Bla.wd (bt ((byL l).extract 0 64)) 64) 64 false i = _
   rw [byL_ext, List.drop_zero]
   exact Bla.mixW_congr H0_eq (wN_eq _) _ false i hi
  rw [Bla.mixW_congr e2 (wN_eq _) _ true i hi]
  exact (fMix_eq k1 (by omega) true).1 i hi
open Go.RowKit
theorem xb_n {x y : Nat} (hx : x < 256) (hy : y < 256) : IntKind.wrap .u8 (BitVec.ofInt 8 (x : Int) ^^^ BitVec.ofInt 8 (y : Int)).toNat = ((x ^^^ y : Nat) : Int) := by
 have h : x ^^^ y < 2 ^ 8 := Nat.xor_lt_two_pow hx hy
 simp only [IntKind.wrap, IntKind.signed, IntKind.bits, BitVec.toNat_xor, BitVec.toNat_ofInt]
 rw [show (((x : Int) % ((2 ^ 8 : Nat) : Int)).toNat) = x by omega, show (((y : Int) % ((2 ^ 8 : Nat) : Int)).toNat) = y by omega]
 simp only [Bool.false_and, Bool.false_eq_true, if_false]
 omega
def mkN (k : List Nat) (m : Nat) : List Nat := (List.range 64).map fun i => k.getD i 0 % 256 ^^^ m
theorem mkN_eq (k : List Nat) {m : Nat} (hm : m < 256) : Bla.mk (bt (byL k)) (m : Int) = byL (mkN k m) := by
 unfold Bla.mk mkN
 refine Eq.trans (congrArg bs (List.map_congr_left (g := fun i => ((k.getD i 0 % 256 ^^^ m : Nat) : Int)) fun i _ => ?_)) ?_
 ·rw [bt_byL]
  exact xb_n (Nat.mod_lt _ (by decide)) hm
 ·rw [← bs_byL, List.map_map]
  rfl
theorem fD_length (l : List Nat) : (fD l).length = 32 := by
 unfold fD outN
 split <;> simp
def fT (k s : List Nat) : List Nat := fcL (fD (mkN k 54 ++ s)) fun d => fD (mkN k 92 ++ d)
theorem fT_eq (k s : List Nat) (hs : s.length ≤ 64) : Bla.tagV (bt (byL k)) (byL s) = byL (fT k s) := by
 have h1 : (mkN k 54).length = 64 := by simp [mkN]
 have h2 : (mkN k 92).length = 64 := by simp [mkN]
 unfold Bla.tagV fT
 rw [fcL_eq, show (92 : Int) = ((92 : Nat) : Int) from rfl, show (54 : Int) = ((54 : Nat) : Int) from rfl, mkN_eq k (by decide), mkN_eq k (by decide), byL_app]
 have e : Bla.blV 32 Bla.strE (byL (mkN k 54 ++ s)) = byL (fD (mkN k 54 ++ s)) := Bh_byL _ (by rw [List.length_append]; omega)
 rw [e, byL_app]
 exact Bh_byL _ (by rw [List.length_append, fD_length]; omega)
theorem fT_length (k s : List Nat) : (fT k s).length = 32 := by
 unfold fT
 rw [fcL_eq]
 exact fD_length _
theorem keyV_s (c : List Nat) (hc : c.length ≤ 64) : Bla.keyV (byL c) = byL c := if_neg (by rw [byL_size]; omega)
theorem hmV_n (c t : List Nat) (hc : c.length ≤ 64) (ht : t.length ≤ 64) : Bla.hmV (byL c) (byL t) = byL (fT c t) := by
 unfold Bla.hmV
 rw [keyV_s c hc]
 exact fT_eq c t ht
def fA (c t : List Nat) : List Nat := fcL (fT c t) fun T => fT T [1]
def fB (c t : List Nat) : List Nat := fcL (fT c t) fun T => fT T (fT T [1] ++ [2])
theorem one_n : Bla.strE ++ Bla.strE ++ bs [((0 + 1 : Nat) : Int)] = byL [1] := by decide
theorem nxA_n (c t : List Nat) (hc : c.length ≤ 64) (ht : t.length ≤ 64) : nxA (byL c) (byL t) = byL (fA c t) := by
 unfold nxA Bla.txt fA
 rw [fcL_eq, hmV_n c t hc ht, keyV_s _ (by rw [fT_length]; decide)]
 show Bla.tagV _ (Bla.strE ++ Bla.strE ++ bs [((0 + 1 : Nat) : Int)]) = _
 rw [one_n]
 exact fT_eq _ _ (by decide)
theorem nxB_n (c t : List Nat) (hc : c.length ≤ 64) (ht : t.length ≤ 64) : nxB (byL c) (byL t) = byL (fB c t) := by
 unfold nxB Bla.txt fB
 rw [fcL_eq, hmV_n c t hc ht, keyV_s _ (by rw [fT_length]; decide)]
 show Bla.tagV _ (Bla.tagV _ (Bla.strE ++ Bla.strE ++ bs [((0 + 1 : Nat) : Int)]) ++ Bla.strE ++ bs [((1 + 1 : Nat) : Int)]) = _
 rw [one_n, fT_eq _ [1] (by decide), show Bla.strE = byL [] from rfl, show bs [((1 + 1 : Nat) : Int)] = byL [2] by decide, byL_app, byL_app, List.append_nil]
 exact fT_eq _ _ (by rw [List.length_append, fT_length]; decide)
def fCr (V : List Nat) : List Nat := fcL (fMx 16 12 8 7 V 0 0 0 4 8 12) fun V => fcL (fMx 16 12 8 7 V 0 0 1 5 9 13) fun V => fcL (fMx 16 12 8 7 V 0 0 2 6 10 14) fun V => fcL (fMx 16 12 8 7 V 0 0 3 7 11 15) fun V => fcL (fMx 16 12 8 7 V 0 0 0 5 10 15) fun V => fcL (fMx 16 12 8 7 V 0 0 1 6 11 12) fun V => fcL (fMx 16 12 8 7 V 0 0 2 7 8 13) fun V => fMx 16 12 8 7 V 0 0 3 4 9 14
theorem fCr_eq {V : List Nat} (h : Wk V) : rn8 (nl V) = nl (fCr V) ∧ Wk (fCr V) := by
 unfold fCr
 simp only [fcL_eq]
 obtain ⟨e0, k0⟩ := fMx_cha (V := V) h (i := 0) (j := 4) (k := 8) (l := 12) (by decide) (by decide) (by decide) (by decide)
 obtain ⟨e1, k1⟩ := fMx_cha (V := _) k0 (i := 1) (j := 5) (k := 9) (l := 13) (by decide) (by decide) (by decide) (by decide)
 obtain ⟨e2, k2⟩ := fMx_cha (V := _) k1 (i := 2) (j := 6) (k := 10) (l := 14) (by decide) (by decide) (by decide) (by decide)
 obtain ⟨e3, k3⟩ := fMx_cha (V := _) k2 (i := 3) (j := 7) (k := 11) (l := 15) (by decide) (by decide) (by decide) (by decide)
 obtain ⟨e4, k4⟩ := fMx_cha (V := _) k3 (i := 0) (j := 5) (k := 10) (l := 15) (by decide) (by decide) (by decide) (by decide)
 obtain ⟨e5, k5⟩ := fMx_cha (V := _) k4 (i := 1) (j := 6) (k := 11) (l := 12) (by decide) (by decide) (by decide) (by decide)
 obtain ⟨e6, k6⟩ := fMx_cha (V := _) k5 (i := 2) (j := 7) (k := 8) (l := 13) (by decide) (by decide) (by decide) (by decide)
 obtain ⟨e7, k7⟩ := fMx_cha (V := _) k6 (i := 3) (j := 4) (k := 9) (l := 14) (by decide) (by decide) (by decide) (by decide)
 refine ⟨?_, k7⟩
 unfold rn8 rn7 rn6 rn5 rn4 rn3 rn2 rn1
 rw [e0, e1, e2, e3, e4, e5, e6, e7]
def fCd (V : List Nat) : Nat → List Nat
 | 0 => V
 | j + 1 => fcL (fCd V j) fCr
theorem fCd_eq {V : List Nat} (h : Wk V) : ∀ j, rd (nl V) j = nl (fCd V j) ∧ Wk (fCd V j)
 | 0 => ⟨rfl, h⟩
 | j + 1 => by
  obtain ⟨e, k⟩ := fCd_eq h j
  unfold rd fCd
  rw [e, fcL_eq]
  exact fCr_eq k
def fBl (V : List Nat) : List Nat := fcL (fCd V 10) fun y => (List.range 64).map fun i => (y.getD (i / 4) 0 + V.getD (i / 4) 0) % 4294967296 / 2 ^ (i % 4 * 8) % 256
theorem fBl_eq {V : List Nat} (h : Wk V) {i : Nat} (hi : i < 64) : bl (nl V) i = (((fBl V).getD i 0 : Nat) : Int) := by
 unfold bl fBl
 rw [fcL_eq, (fCd_eq h 10).1, List.getD_eq_getElem?_getD, List.getElem?_map, List.getElem?_range hi]
 simp only [nl, Option.map_some, Option.getD_some]
 rw [va_n, sr_n]
 unfold cv
 simp [IntKind.wrap, IntKind.signed, IntKind.bits]
theorem bl_map {V : List Nat} (h : Wk V) (n : Nat) (hn : n ≤ 64) : (List.range n).map (bl (nl V)) = ((List.range n).map fun i => (fBl V).getD i 0).map fun (x : Nat) => (x : Int) := by
 rw [List.map_map]
 exact List.map_congr_left fun i hi => fBl_eq h (by have := List.mem_range.1 hi; omega)
def cK : List Nat := [45, 173, 220, 235, 183, 206, 125, 69, 122, 170, 130, 7, 105, 165, 60, 190, 18, 162, 171, 19, 2, 94, 130, 161, 83, 84, 134, 111, 237, 7, 93, 70]
def cW0 : List Nat := [1634760805, 857760878, 2036477234, 1797285236, 3957108013, 1165872823, 126003834, 3191645545, 330015250, 2709675522, 1871074387, 1180501997, 0, 0, 0, 0]
def cW1 : List Nat := [1634760805, 857760878, 2036477234, 1797285236, 3957108013, 1165872823, 126003834, 3191645545, 330015250, 2709675522, 1871074387, 1180501997, 1, 0, 0, 0]
theorem wk_of (V : List Nat) (h : (V.length == 16 && V.all (· < 4294967296)) = true) : Wk V := by
 simp only [Bool.and_eq_true, beq_iff_eq, List.all_eq_true, decide_eq_true_eq] at h
 refine ⟨h.1, fun i => ?_⟩
 rw [List.getD_eq_getElem?_getD]
 cases e : V[i]? with
 | none => decide
 | some x => exact h.2 x (List.mem_of_getElem? e)
theorem cK_size : (byL cK).size = 32 := byL_size _
theorem alc0 : alS (byL cK) n0 0 = byL [101, 120, 112, 97, 110, 100, 32, 51, 50, 45, 98, 121, 116, 101, 32, 107, 45, 173, 220, 235, 183, 206, 125, 69, 122, 170, 130, 7, 105, 165, 60, 190, 18, 162, 171, 19, 2, 94, 130, 161, 83, 84, 134, 111, 237, 7, 93, 70, 0, 0, 0, 0, 0, 0, 0, 0, 0, 0, 0, 0, 0, 0, 0, 0] := by decide +kernel
theorem alc1 : alS (byL cK) n0 1 = byL [101, 120, 112, 97, 110, 100, 32, 51, 50, 45, 98, 121, 116, 101, 32, 107, 45, 173, 220, 235, 183, 206, 125, 69, 122, 170, 130, 7, 105, 165, 60, 190, 18, 162, 171, 19, 2, 94, 130, 161, 83, 84, 134, 111, 237, 7, 93, 70, 1, 0, 0, 0, 0, 0, 0, 0, 0, 0, 0, 0, 0, 0, 0, 0] := by decide +kernel
theorem fw_0 : fw (byL cK) n0 0 = nl cW0 := by
 rw [fw_dx (byL cK) n0 0 cK_size n0_size (by decide) (by decide)]
 funext i
 by_cases hi : i < 16
 ·rw [dx_n4 _ (by rw [alc0, byL_size]; rfl) i hi, alc0]
  exact (by decide +kernel : ∀ i, i < 16 → n4 (bt (byL [101, 120, 112, 97, 110, 100, 32, 51, 50, 45, 98, 121, 116, 101, 32, 107, 45, 173, 220, 235, 183, 206, 125, 69, 122, 170, 130, 7, 105, 165, 60, 190, 18, 162, 171, 19, 2, 94, 130, 161, 83, 84, 134, 111, 237, 7, 93, 70, 0, 0, 0, 0, 0, 0, 0, 0, 0, 0, 0, 0, 0, 0, 0, 0]) (4 * i)) (bt (byL [101, 120, 112, 97, 110, 100, 32, 51, 50, 45, 98, 121, 116, 101, 32, 107, 45, 173, 220, 235, 183, 206, 125, 69, 122, 170, 130, 7, 105, 165, 60, 190, 18, 162, 171, 19, 2, 94, 130, 161, 83, 84, 134, 111, 237, 7, 93, 70, 0, 0, 0, 0, 0, 0, 0, 0, 0, 0, 0, 0, 0, 0, 0, 0]) (4 * i + 1)) (bt (byL [101, 120, 112, 97, 110, 100, 32, 51, 50, 45, 98, 121, 116, 101, 32, 107, 45, 173, 220, 235, 183, 206, 125, 69, 122, 170, 130, 7, 105, 165, 60, 190, 18, 162, 171, 19, 2, 94, 130, 161, 83, 84, 134, 111, 237, 7, 93, 70, 0, 0, 0, 0, 0, 0, 0, 0, 0, 0, 0, 0, 0, 0, 0, 0]) (4 * i + 2)) (bt (byL [101, 120, 112, 97, 110, 100, 32, 51, 50, 45, 98, 121, 116, 101, 32, 107, 45, 173, 220, 235, 183, 206, 125, 69, 122, 170, 130, 7, 105, 165, 60, 190, 18, 162, 171, 19, 2, 94, 130, 161, 83, 84, 134, 111, 237, 7, 93, 70, 0, 0, 0, 0, 0, 0, 0, 0, 0, 0, 0, 0, 0, 0, 0, 0]) (4 * i + 3)) = nl cW0 i) i hi
 ·rw [dx_out _ 16 i (by omega)]
  unfold nl
  rw [List.getD_eq_getElem?_getD, List.getElem?_eq_none (by show 16 ≤ i; omega)]
  rfl
theorem fw_1 : fw (byL cK) n0 1 = nl cW1 := by
 rw [fw_dx (byL cK) n0 1 cK_size n0_size (by decide) (by decide)]
 funext i
 by_cases hi : i < 16
 ·rw [dx_n4 _ (by rw [alc1, byL_size]; rfl) i hi, alc1]
  exact (by decide +kernel : ∀ i, i < 16 → n4 (bt (byL [101, 120, 112, 97, 110, 100, 32, 51, 50, 45, 98, 121, 116, 101, 32, 107, 45, 173, 220, 235, 183, 206, 125, 69, 122, 170, 130, 7, 105, 165, 60, 190, 18, 162, 171, 19, 2, 94, 130, 161, 83, 84, 134, 111, 237, 7, 93, 70, 1, 0, 0, 0, 0, 0, 0, 0, 0, 0, 0, 0, 0, 0, 0, 0]) (4 * i)) (bt (byL [101, 120, 112, 97, 110, 100, 32, 51, 50, 45, 98, 121, 116, 101, 32, 107, 45, 173, 220, 235, 183, 206, 125, 69, 122, 170, 130, 7, 105, 165, 60, 190, 18, 162, 171, 19, 2, 94, 130, 161, 83, 84, 134, 111, 237, 7, 93, 70, 1, 0, 0, 0, 0, 0, 0, 0, 0, 0, 0, 0, 0, 0, 0, 0]) (4 * i + 1)) (bt (byL [101, 120, 112, 97, 110, 100, 32, 51, 50, 45, 98, 121, 116, 101, 32, 107, 45, 173, 220, 235, 183, 206, 125, 69, 122, 170, 130, 7, 105, 165, 60, 190, 18, 162, 171, 19, 2, 94, 130, 161, 83, 84, 134, 111, 237, 7, 93, 70, 1, 0, 0, 0, 0, 0, 0, 0, 0, 0, 0, 0, 0, 0, 0, 0]) (4 * i + 2)) (bt (byL [101, 120, 112, 97, 110, 100, 32, 51, 50, 45, 98, 121, 116, 101, 32, 107, 45, 173, 220, 235, 183, 206, 125, 69, 122, 170, 130, 7, 105, 165, 60, 190, 18, 162, 171, 19, 2, 94, 130, 161, 83, 84, 134, 111, 237, 7, 93, 70, 1, 0, 0, 0, 0, 0, 0, 0, 0, 0, 0, 0, 0, 0, 0, 0]) (4 * i + 3)) = nl cW1 i) i hi
 ·rw [dx_out _ 16 i (by omega)]
  unfold nl
  rw [List.getD_eq_getElem?_getD, List.getElem?_eq_none (by show 16 ≤ i; omega)]
  rfl
theorem bl_lt (V : List Nat) (i : Nat) : (fBl V).getD i 0 < 256 := by
 unfold fBl
 rw [fcL_eq, List.getD_eq_getElem?_getD, List.getElem?_map]
 cases h : (List.range 64)[i]? with
 | none => exact (by decide : (0 : Nat) < 256)
 | some x => exact Nat.mod_lt _ (by decide)
theorem otk_c : otk (byL cK) n0 = byL [41, 150, 18, 155, 193, 10, 71, 61, 20, 138, 219, 12, 154, 204, 93, 182, 30, 161, 14, 91, 101, 162, 119, 174, 176, 239, 106, 83, 128, 91, 44, 206] := by
 unfold otk blk
 rw [fw_0, bl_map (wk_of cW0 (by decide)) 64 (by decide), bs_byL, byL_ext, show ((List.range 64).map fun i => (fBl cW0).getD i 0) = [41, 150, 18, 155, 193, 10, 71, 61, 20, 138, 219, 12, 154, 204, 93, 182, 30, 161, 14, 91, 101, 162, 119, 174, 176, 239, 106, 83, 128, 91, 44, 206, 161, 207, 180, 154, 149, 66, 202, 23, 115, 86, 236, 156, 99, 36, 175, 213, 11, 176, 249, 142, 247, 119, 83, 70, 75, 62, 255, 155, 45, 135, 22, 191] by decide +kernel]
 decide
theorem ct_c : tn (byL cK) n0 (byL [25, 60, 77, 103, 59, 0, 42, 221, 148, 203, 36, 3, 232, 147, 223, 114, 73, 166, 100, 172, 210, 123, 165, 125, 210, 35, 39, 239, 153, 207, 163, 36]) = byL [198, 128, 44, 247, 7, 101, 173, 251, 10, 202, 183, 85, 77, 20, 11, 241, 103, 9, 107, 98, 106, 47, 108, 122, 141, 99, 241, 155, 255, 145, 40, 165] := by
 unfold tn
 rw [oS_bs, byL_size]
 have e : (List.range 32).map (ob (fw (byL cK) n0 1) (byL [25, 60, 77, 103, 59, 0, 42, 221, 148, 203, 36, 3, 232, 147, 223, 114, 73, 166, 100, 172, 210, 123, 165, 125, 210, 35, 39, 239, 153, 207, 163, 36])) = [198, 128, 44, 247, 7, 101, 173, 251, 10, 202, 183, 85, 77, 20, 11, 241, 103, 9, 107, 98, 106, 47, 108, 122, 141, 99, 241, 155, 255, 145, 40, 165].map fun (x : Nat) => (x : Int) := by
  refine Eq.trans (List.map_congr_left (g := fun i => ((([25, 60, 77, 103, 59, 0, 42, 221, 148, 203, 36, 3, 232, 147, 223, 114, 73, 166, 100, 172, 210, 123, 165, 125, 210, 35, 39, 239, 153, 207, 163, 36].getD i 0 % 256) ^^^ (fBl cW1).getD i 0 : Nat) : Int)) fun i hi => ?_) ?_
  ·have hi := List.mem_range.1 hi
   unfold ob
   rw [show i / 64 = 0 by omega, show i % 64 = i by omega, bt_byL]
   rw [show sw (fw (byL cK) n0 1) 0 = nl cW1 from fw_1, fBl_eq (wk_of cW1 (by decide)) (by omega)]
   exact xb_n (Nat.mod_lt _ (by decide)) (bl_lt _ _)
  ·rw [show (List.range 32).map (fun i => ((([25, 60, 77, 103, 59, 0, 42, 221, 148, 203, 36, 3, 232, 147, 223, 114, 73, 166, 100, 172, 210, 123, 165, 125, 210, 35, 39, 239, 153, 207, 163, 36].getD i 0 % 256) ^^^ (fBl cW1).getD i 0 : Nat) : Int)) = ((List.range 32).map fun i => ([25, 60, 77, 103, 59, 0, 42, 221, 148, 203, 36, 3, 232, 147, 223, 114, 73, 166, 100, 172, 210, 123, 165, 125, 210, 35, 39, 239, 153, 207, 163, 36].getD i 0 % 256) ^^^ (fBl cW1).getD i 0).map fun (x : Nat) => (x : Int) by rw [List.map_map]; rfl]
   exact congrArg (List.map fun (x : Nat) => (x : Int)) (by decide +kernel)
 show bs ((List.range 32).map _) = _
 rw [e, bs_byL]
def hP : List Nat := [6, 239, 145, 85, 31, 50, 220, 196, 185, 97, 81, 166, 238, 4, 177, 41, 225, 21, 20, 59, 184, 0, 58, 239, 160, 19, 211, 76, 67, 118, 170, 192]
def hQ : List Nat := [47, 181, 222, 28, 131, 35, 5, 143, 60, 145, 11, 159, 87, 203, 190, 209, 147, 58, 63, 167, 115, 4, 236, 220, 68, 31, 55, 141, 205, 198, 79, 157]
theorem tags_c : tgO (byL cK) n0 (byL hQ) (byL [198, 128, 44, 247, 7, 101, 173, 251, 10, 202, 183, 85, 77, 20, 11, 241, 103, 9, 107, 98, 106, 47, 108, 122, 141, 99, 241, 155, 255, 145, 40, 165]) ≠ tgO (byL cK) n0 (byL hP) (byL [198, 128, 44, 247, 7, 101, 173, 251, 10, 202, 183, 85, 77, 20, 11, 241, 103, 9, 107, 98, 106, 47, 108, 122, 141, 99, 241, 155, 255, 145, 40, 165]) := by
 unfold tgO
 rw [otk_c]
 decide +kernel
open Go.RowKit
section
variable (q : Mon.RS)
def yA : Int := (q.x2 + q.z2) % Mon.Pm
def yAA : Int := yA q * yA q % Mon.Pm
def yD : Int := (q.x2 - q.z2) % Mon.Pm
def yDD : Int := yD q * yD q % Mon.Pm
def yE : Int := (yAA q - yDD q) % Mon.Pm
def yU : Int := (q.x3 - q.z3) % Mon.Pm
def yDA : Int := yU q * yA q % Mon.Pm
def yV : Int := (q.x3 + q.z3) % Mon.Pm
def yCB : Int := yV q * yD q % Mon.Pm
def yS : Int := (yDA q + yCB q) % Mon.Pm
def yT : Int := (yDA q - yCB q) % Mon.Pm
def yTT : Int := yT q * yT q % Mon.Pm
def yX3 : Int := yS q * yS q % Mon.Pm
def yX2 : Int := yAA q * yDD q % Mon.Pm
def yF : Int := 121665 * yE q % Mon.Pm
def yG : Int := (yAA q + yF q) % Mon.Pm
def yZ2 : Int := yE q * yG q % Mon.Pm
def yZ3 (x : Int) : Int := x * yTT q % Mon.Pm
end
abbrev nF (X : Int) : Nat → Value := w64 (Mon.d16 X)
abbrev BdP (X : Int) : Prop := 0 ≤ X ∧ X < Mon.Pm
section
variable {X Y : Int}
theorem l_add (hx : BdP X) (hy : BdP Y) (w : World) : Cs 40 #[.agg (av 16 (nF X)), .agg (av 16 (nF Y))] w (.agg (av 16 (nF ((X + Y) % Mon.Pm)))) := by
 have h := Mon.radd_any (Mon.d16 X) (Mon.d16 Y) w (Mon.d16_dig _ 16) (Mon.d16_dig _ 16)
 rwa [Mon.dSP hx, Mon.dSP hy] at h
theorem l_sub (hx : BdP X) (hy : BdP Y) (w : World) : Cs 42 #[.agg (av 16 (nF X)), .agg (av 16 (nF Y))] w (.agg (av 16 (nF ((X - Y) % Mon.Pm)))) := by
 have h := Mon.rsub_any (Mon.d16 X) (Mon.d16 Y) w (Mon.d16_dig _ 16) (Mon.d16_dig _ 16) (by rw [Mon.dSP hy]; exact hy.2)
 rwa [Mon.dSP hx, Mon.dSP hy] at h
theorem l_mul (hx : BdP X) (hy : BdP Y) (w : World) : Cs 41 #[.agg (av 16 (nF X)), .agg (av 16 (nF Y))] w (.agg (av 16 (nF (X * Y % Mon.Pm)))) := by
 have h := Mon.rmul_any (Mon.d16 X) (Mon.d16 Y) w (Mon.d16_dig _ 16) (Mon.d16_dig _ 16)
 rwa [Mon.dSP hx, Mon.dSP hy] at h
theorem l_inv (hx : BdP X) (w : World) : Cs 43 #[.agg (av 16 (nF X))] w (.agg (av 16 (nF (Mon.pwm X (Mon.xbit 255 21) 255)))) := by
 have h := Mon.rinv_any (Mon.d16 X) w (Mon.d16_dig _ 16)
 rwa [Mon.dSP hx] at h
end
theorem l_small (n : Int) (w : World) (h0 : 0 ≤ n) (h1 : n < 4294967296) : Cs 39 #[.int .u32 n] w (.agg (av 16 (nF n))) := Mon.rsmall_any n w h0 h1
theorem l_bytes (X : Int) (w : World) : Cs 44 #[.agg (av 16 (nF X))] w (.string (Mon.bs (Mon.rb (Mon.d16 X) 32))) := Mon.rbytes_any _ w (Mon.d16_dig _ 16)
theorem l_of {u : ByteArray} {x : Int} (h : Mon.val (Mon.mkS u) % Mon.Pm = x) (w : World) : Cs 38 #[.string (Mon.mkS u)] w (.agg (av 16 (nF x))) := by
 subst h
 exact Mon.rof_any (Mon.mkS u) w (Mon.mkS_size u)
theorem l_clamp {s K : ByteArray} (h : Mon.clS s = K) (hs : s.size = 32) (w : World) : Cs 37 #[.string s] w (.string K) := h ▸ Mon.rclamp_yes s w hs
theorem run_shr8 {P : Program} {a : Act} {o : Oper} (t rt : TypeId) (x y : Operand) (ho : o.op = .binOp .shr t x y rt) (k : Int) (ky : IntKind) (m : Nat) (hx : a.eval x = .int .u8 k) (hy : a.eval y = .int ky (m : Int)) (_hm : m ≤ 8) (w : World) :
  (execOp a.eval o).run P w = .ok (.value (.int .u8 (k / 2 ^ m))) w := by
 unfold execOp
 simp [ho, hx, hy, eqGuard, binOp]
theorem run_remM {P : Program} {a : Act} {o : Oper} (t rt : TypeId) (x y : Operand) (ho : o.op = .binOp .rem t x y rt) (m d : Nat) (hx : a.eval x = .int .i64 (m : Int)) (hy : a.eval y = .int .i64 (d : Int)) (hd : 0 < d) (w : World) :
  (execOp a.eval o).run P w = .ok (.value (.int .i64 ((m % d : Nat) : Int))) w := by
 have h0 : ¬ d = 0 := by omega
 have e : Int.tmod (m : Int) (d : Int) = (m : Int) % (d : Int) := rfl
 unfold execOp
 simp [ho, hx, hy, eqGuard, binOp, Op.intDiv, h0, e]
theorem quo8 (j : Nat) (hj : j < 1000000) : IntKind.wrap .i64 ((j : Int).tdiv 8) = ((j / 8 : Nat) : Int) := by
 rw [Int.tdiv_eq_ediv_of_nonneg (by omega), wrap64 (by omega) (by omega)]
 omega
theorem mk_set {u : ByteArray} (h : u.size = 32) : bs ((sb u).set 31 (bits .and .u8 (bt u 31) 127)) = Mon.mkS u := by
 show _ = bs ((List.range 32).map (Mon.mkF u))
 congr 1
 apply List.ext_getElem?
 intro i
 rw [List.getElem?_set, List.getElem?_map, sb_length, h]
 by_cases h31 : 31 = i
 ·subst h31
  simp [Mon.mkF, Mon.upd]
  rfl
 ·rw [if_neg h31]
  by_cases hi : i < 32
  ·rw [sb_get u i (by omega), List.getElem?_range hi]
   simp [Mon.mkF, Mon.upd, Ne.symm h31]
   rfl
  ·rw [List.getElem?_eq_none (by rw [sb_length]; omega), List.getElem?_eq_none (by rw [List.length_range]; omega)]
   rfl
theorem wrapU {x : Int} (h0 : 0 ≤ x) (h1 : x < 18446744073709551616) : IntKind.wrap .u64 x = x := by
 unfold IntKind.wrap
 simp [IntKind.bits, IntKind.signed]
 omega
theorem bd127 (x : Int) : 0 ≤ bits .and .u8 x 127 ∧ bits .and .u8 x 127 < 256 := cv8_nn _
theorem bit_eq (K : ByteArray) (p : Nat) : bits .and .u8 (bt K (p / 8) / 2 ^ (p % 8)) 1 = Mon.bit K p := by
 have h := bt_nn K (p / 8)
 have h2 : bt K (p / 8) / 2 ^ (p % 8) ≤ bt K (p / 8) := Int.ediv_le_self _ h.1
 have h3 : 0 ≤ bt K (p / 8) / 2 ^ (p % 8) := Int.ediv_nonneg h.1 (Int.le_of_lt (Int.pow_pos (by decide)))
 exact Mon.and1u h3 (by omega)
theorem l_ladder (sec u K : ByteArray) (x1 : Int) (hsec : sec.size = 32) (hu : u.size = 32) (hK : Mon.clS sec = K) (h1 : Mon.val (Mon.mkS u) % Mon.Pm = x1) (w : World) (hL : Laid w)  : Cs 20 #[.string sec, .string u] w (.string (Mon.bs (Mon.rb (Mon.d16 ((Mon.rladF K x1 255).x2 * Mon.pwm (Mon.rladF K x1 255).z2 (Mon.xbit 255 21) 255 % Mon.Pm)) 32))) := by
 go_enter Tryz.func20, Tryz.ntmps20
 have M := Mem.start hL
 have hX : BdP x1 := h1 ▸ Mon.pmod _
 have hKs : K.size = 32 := hK ▸ Mon.clS_size sec
 refine sq <| sR <| rV 1 ?_
 refine pC M 24 37 #[.string sec] (.string K) (fun w M => l_clamp hK hsec w) fun u1 M => ?_
 refine rV 1 <| nT <| sR <| rV 1 ?_
 refine pl_conv M (want_no rfl) (some 26) rfl _ rfl u (by kernel_rfl) ?_
 intro g1 cpg1 Zg1 u2 hZg1 M
 replace M := M.nf
 refine rV 1 <| nT <| sR <| rV 2 ?_
 refine pH 29 (.pointer (some ⟨g1, 31, none⟩)) (run_ix0 61 5 Tryz.underlying61 inz5 _ _ rfl g1 u.size cpg1 (by kernel_rfl) .i64 31 (by kernel_rfl) (by omega)) ?_
 refine pE M 30 g1 31 (.int .u8 (bt u 31)) (fun w M => hZg1.cell (M.get 0 rfl) (by unfold vs8; rw [List.getElem?_map, sb_get _ _ (by omega)]; rfl)) ?_
 refine rV 1 ?_
 refine pH 32 (.pointer (some ⟨g1, 31, none⟩)) (run_ix0 61 5 Tryz.underlying61 inz5 _ _ rfl g1 u.size cpg1 (by kernel_rfl) .i64 31 (by kernel_rfl) (by omega)) ?_
 refine pl_putS M (want_no rfl) rfl 5 _ _ rfl 0 g1 31 (by kernel_rfl) _ rfl cpg1 _ hZg1 (by rw [vs8_length, sb_length]; omega) (.int .u8 (bits .and .u8 (bt u 31) 127)) (by kernel_rfl) inz5 rfl rfl ?_
 intro ZA u3 hZA M
 rw [show (vs8 (sb u)).set 31 (.int .u8 (bits .and .u8 (bt u 31) 127)) = vs8 ((sb u).set 31 (bits .and .u8 (bt u 31) 127)) by unfold vs8; rw [List.map_set]] at hZA
 replace M := M.nf
 refine nT <| sR <| rV 1 ?_
 refine pl_back M (want_no rfl) (some 34) rfl _ rfl 0 g1 u.size cpg1 (by kernel_rfl) _ rfl ((sb u).set 31 (bits .and .u8 (bt u 31) 127)) cpg1 hZA (by rw [List.length_set, sb_length]) (fun y hy => by rcases List.mem_or_eq_of_mem_set hy with h | h; exact sb_nn u y h; rw [h]; exact bd127 _) ?_
 rw [mk_set hu]
 refine pC M 35 38 #[.string (Mon.mkS u)] (.agg (av 16 (nF x1))) (fun w M => l_of h1 w) fun u4 M => ?_
 refine pN M 7 (.cells (av 16 (w64 (fun _ => 0))) 88) fun g2 u5 M => ?_
 replace M := M.nf
 refine ZG M 1 16 (nF x1) fun u6 M => ?_
 replace M := M.nf
 refine nT <| sR ?_
 refine pC M 36 39 #[.int .u32 1] (.agg (av 16 (nF 1))) (fun w M => l_small 1 w (by decide) (by decide)) fun u7 M => ?_
 refine pN M 8 (.cells (av 16 (w64 (fun _ => 0))) 88) fun g3 u8 M => ?_
 replace M := M.nf
 refine ZG M 2 16 (nF 1) fun u9 M => ?_
 replace M := M.nf
 refine nT <| sR <| rV 1 ?_
 refine pN M 9 (.cells (av 16 (w64 (fun _ => 0))) 88) fun g4 u10 M => ?_
 replace M := M.nf
 refine ZG M 3 16 (nF 0) fun u11 M => ?_
 replace M := M.nf
 refine nT <| sR ?_
 refine pA M 38 1 16 (nF x1) ?_
 refine pN M 10 (.cells (av 16 (w64 (fun _ => 0))) 88) fun g5 u12 M => ?_
 replace M := M.nf
 refine ZG M 4 16 (nF x1) fun u13 M => ?_
 replace M := M.nf
 refine nT <| sR ?_
 refine pC M 39 39 #[.int .u32 1] (.agg (av 16 (nF 1))) (fun w M => l_small 1 w (by decide) (by decide)) fun u14 M => ?_
 refine pN M 11 (.cells (av 16 (w64 (fun _ => 0))) 88) fun g6 u15 M => ?_
 replace M := M.nf
 refine ZG M 5 16 (nF 1) fun u16 M => ?_
 replace M := M.nf
 refine nT <| wp_seq <| sq ?_
 refine wp_block ?_
 refine au_loop (fun j a w' => ∃ v1 : Nat → Value, a = (fm ([.string sec, .string u, undef, undef, .string ⟨#[]⟩, .string K, .slice (some ⟨g1, 0, none⟩) u.size cpg1, .pointer (some ⟨g2, 0, none⟩), .pointer (some ⟨g3, 0, none⟩), .pointer (some ⟨g4, 0, none⟩), .pointer (some ⟨g5, 0, none⟩), .pointer (some ⟨g6, 0, none⟩), .int .i64 (254 - ((j : Nat) : Int))] ++ vr v1 13 10 ++ [.string sec, .string K, .string u, .slice (some ⟨g1, 0, none⟩) u.size cpg1, .slice (some ⟨g1, 0, none⟩) u.size cpg1, .slice (some ⟨g1, 0, none⟩) u.size cpg1, .pointer (some ⟨g1, 31, none⟩), .int .u8 (bt u 31), .int .u8 (bits .and .u8 (bt u 31) 127), .pointer (some ⟨g1, 31, none⟩), .slice (some ⟨g1, 0, none⟩) u.size cpg1, .string (Mon.mkS u), .agg (av 16 (nF x1)), .agg (av 16 (nF 1)), .agg (av 16 (nF 0)), .agg (av 16 (nF x1)), .agg (av 16 (nF 1))] ++ vr v1 40 73 ++ und 5)) ∧ Mem ⟨w, []⟩ [⟨g1, ZA⟩, ⟨g2, .cells (av 16 (nF x1)) 88⟩, ⟨g3, .cells (av 16 (nF (Mon.rladF K x1 j).x2)) 88⟩, ⟨g4, .cells (av 16 (nF (Mon.rladF K x1 j).z2)) 88⟩, ⟨g5, .cells (av 16 (nF (Mon.rladF K x1 j).x3)) 88⟩, ⟨g6, .cells (av 16 (nF (Mon.rladF K x1 j).z3)) 88⟩] w') 255 (exS M) ?_ ?_
 ·intro j a u0 hj hI
  obtain ⟨v1, rfl, M⟩ := hI
  obtain ⟨q, hqe⟩ : ∃ q, Mon.rladF K x1 j = q := ⟨_, rfl⟩
  have hq : q.Ok := hqe ▸ Mon.rladF_ok K hX j
  rw [hqe] at M
  obtain ⟨p, hp⟩ : ∃ p : Nat, 254 - j = p := ⟨_, rfl⟩
  have hpi : (254 : Int) - ((j : Nat) : Int) = (p : Int) := by omega
  rw [hpi]
  refine wp_seq <| sR <| rV 1 ?_
  refine ZT 41 ((0 : Int) ≤ (p : Int)) ?_
  refine nT <| cT <| wp_skip <| au_then <| wp_seq ?_
  refine wp_block ?_
  refine sR <| rV 2 ?_
  refine ZQ 46 .i64 (IntKind.wrap .i64 ((p : Int).tdiv 8)) (quo8 p (by omega)) ?_
  refine pH 47 (.int .u8 (bt K (p / 8))) (run_ixS 9 Tryz.underlying9 _ _ rfl K (by kernel_rfl) .i64 (p / 8) (by kernel_rfl) (by omega)) ?_
  refine rV 1 ?_
  refine pH 49 (.int .i64 ((p % 8 : Nat) : Int)) (run_remM 3 3 _ _ rfl p 8 (by kernel_rfl) (by kernel_rfl) (by decide)) ?_
  refine pH 50 (.int .u64 ((p % 8 : Nat) : Int)) (fun w => Eq.trans (b := .ok (.value (.int .u64 (IntKind.wrap .u64 ((p % 8 : Nat) : Int)))) w) (by kernel_rfl) (by rw [show IntKind.wrap .u64 ((p % 8 : Nat) : Int) = ((p % 8 : Nat) : Int) from wrapU (by omega) (by omega)])) ?_
  refine pH 51 (.int .u8 (bt K (p / 8) / 2 ^ (p % 8))) (run_shr8 5 92 _ _ rfl (bt K (p / 8)) .u64 (p % 8) (by kernel_rfl) (by kernel_rfl) (by omega)) ?_
  refine rV 1 ?_
  by_cases c0 : (Mon.bit K p) = 0
  ·refine pH 53 (.bool false) (fun w => Eq.trans (b := .ok (.value (.bool (decide (bits .and .u8 (bt K (p / 8) / 2 ^ (p % 8)) 1 = 1)))) w) (by kernel_rfl) (by rw [bit_eq, decide_eq_false (by have := Mon.bit_two K p; omega)])) ?_
   refine rV 1 <| nT <| wp_seq <| sq <| cF ?_
   refine wp_skip <| au_then <| sR ?_
   refine pA M 59 2 16 (nF q.x2) ?_
   refine pA M 60 3 16 (nF q.z2) ?_
   refine pC M 61 40 #[.agg (av 16 (nF q.x2)), .agg (av 16 (nF q.z2))] (.agg (av 16 (nF (yA q)))) (fun w M => l_add hq.x2 hq.z2 w) fun u17 M => ?_
   refine pN M 14 (.cells (av 16 (w64 (fun _ => 0))) 88) fun g7 u18 M => ?_
   replace M := M.nf
   refine ZG M 6 16 (nF (yA q)) fun u19 M => ?_
   replace M := M.nf
   refine nT <| sR ?_
   refine pA M 62 6 16 (nF (yA q)) ?_
   refine pA M 63 6 16 (nF (yA q)) ?_
   refine pC M 64 41 #[.agg (av 16 (nF (yA q))), .agg (av 16 (nF (yA q)))] (.agg (av 16 (nF (yAA q)))) (fun w M => l_mul (Mon.pmod _) (Mon.pmod _) w) fun u20 M => ?_
   refine pN M 15 (.cells (av 16 (w64 (fun _ => 0))) 88) fun g8 u21 M => ?_
   replace M := M.nf
   refine ZG M 7 16 (nF (yAA q)) fun u22 M => ?_
   replace M := M.nf
   refine nT <| sR ?_
   refine pA M 65 2 16 (nF q.x2) ?_
   refine pA M 66 3 16 (nF q.z2) ?_
   refine pC M 67 42 #[.agg (av 16 (nF q.x2)), .agg (av 16 (nF q.z2))] (.agg (av 16 (nF (yD q)))) (fun w M => l_sub hq.x2 hq.z2 w) fun u23 M => ?_
   refine pN M 16 (.cells (av 16 (w64 (fun _ => 0))) 88) fun g9 u24 M => ?_
   replace M := M.nf
   refine ZG M 8 16 (nF (yD q)) fun u25 M => ?_
   replace M := M.nf
   refine nT <| sR ?_
   refine pA M 68 8 16 (nF (yD q)) ?_
   refine pA M 69 8 16 (nF (yD q)) ?_
   refine pC M 70 41 #[.agg (av 16 (nF (yD q))), .agg (av 16 (nF (yD q)))] (.agg (av 16 (nF (yDD q)))) (fun w M => l_mul (Mon.pmod _) (Mon.pmod _) w) fun u26 M => ?_
   refine pN M 17 (.cells (av 16 (w64 (fun _ => 0))) 88) fun g10 u27 M => ?_
   replace M := M.nf
   refine ZG M 9 16 (nF (yDD q)) fun u28 M => ?_
   replace M := M.nf
   refine nT <| sR ?_
   refine pA M 71 7 16 (nF (yAA q)) ?_
   refine pA M 72 9 16 (nF (yDD q)) ?_
   refine pC M 73 42 #[.agg (av 16 (nF (yAA q))), .agg (av 16 (nF (yDD q)))] (.agg (av 16 (nF (yE q)))) (fun w M => l_sub (Mon.pmod _) (Mon.pmod _) w) fun u29 M => ?_
   refine pN M 18 (.cells (av 16 (w64 (fun _ => 0))) 88) fun g11 u30 M => ?_
   replace M := M.nf
   refine ZG M 10 16 (nF (yE q)) fun u31 M => ?_
   replace M := M.nf
   refine nT <| wp_seq ?_
   refine rg_allocs M 5 [(19, fun g => .pointer (some ⟨g, 0, none⟩), .cells (av 16 (w64 (fun _ => 0))) 88)] (by kernel_rfl) (by kernel_rfl) (⟨rfl, rfl, fun _ _ => by kernel_rfl, trivial⟩) (by decide) ?_
   simp only [List.take_succ_cons, List.take_zero]
   refine kA M 74 4 16 (nF q.x3) ?_
   refine kA M 75 5 16 (nF q.z3) ?_
   refine kC M 76 42 #[.agg (av 16 (nF q.x3)), .agg (av 16 (nF q.z3))] (.agg (av 16 (nF (yU q)))) (fun w M => l_sub hq.x3 hq.z3 w) ?_
   refine kA M 77 6 16 (nF (yA q)) ?_
   refine kC M 78 41 #[.agg (av 16 (nF (yU q))), .agg (av 16 (nF (yA q)))] (.agg (av 16 (nF (yDA q)))) (fun w M => l_mul (Mon.pmod _) (Mon.pmod _) w) ?_
   refine kl_nil fun u32 g12 M => ?_
   replace M := M.nf
   refine ZG M 11 16 (nF (yDA q)) fun u33 M => ?_
   replace M := M.nf
   refine nT <| wp_seq ?_
   refine rg_allocs M 5 [(20, fun g => .pointer (some ⟨g, 0, none⟩), .cells (av 16 (w64 (fun _ => 0))) 88)] (by kernel_rfl) (by kernel_rfl) (⟨rfl, rfl, fun _ _ => by kernel_rfl, trivial⟩) (by decide) ?_
   simp only [List.take_succ_cons, List.take_zero]
   refine kA M 79 4 16 (nF q.x3) ?_
   refine kA M 80 5 16 (nF q.z3) ?_
   refine kC M 81 40 #[.agg (av 16 (nF q.x3)), .agg (av 16 (nF q.z3))] (.agg (av 16 (nF (yV q)))) (fun w M => l_add hq.x3 hq.z3 w) ?_
   refine kA M 82 8 16 (nF (yD q)) ?_
   refine kC M 83 41 #[.agg (av 16 (nF (yV q))), .agg (av 16 (nF (yD q)))] (.agg (av 16 (nF (yCB q)))) (fun w M => l_mul (Mon.pmod _) (Mon.pmod _) w) ?_
   refine kl_nil fun u34 g13 M => ?_
   replace M := M.nf
   refine ZG M 12 16 (nF (yCB q)) fun u35 M => ?_
   replace M := M.nf
   refine nT <| sR ?_
   refine pA M 84 11 16 (nF (yDA q)) ?_
   refine pA M 85 12 16 (nF (yCB q)) ?_
   refine pC M 86 40 #[.agg (av 16 (nF (yDA q))), .agg (av 16 (nF (yCB q)))] (.agg (av 16 (nF (yS q)))) (fun w M => l_add (Mon.pmod _) (Mon.pmod _) w) fun u36 M => ?_
   refine pN M 21 (.cells (av 16 (w64 (fun _ => 0))) 88) fun g14 u37 M => ?_
   replace M := M.nf
   refine ZG M 13 16 (nF (yS q)) fun u38 M => ?_
   replace M := M.nf
   refine nT <| sR ?_
   refine pA M 87 13 16 (nF (yS q)) ?_
   refine pA M 88 13 16 (nF (yS q)) ?_
   refine pC M 89 41 #[.agg (av 16 (nF (yS q))), .agg (av 16 (nF (yS q)))] (.agg (av 16 (nF (yX3 q)))) (fun w M => l_mul (Mon.pmod _) (Mon.pmod _) w) fun u39 M => ?_
   refine ZG M 4 16 (nF (yX3 q)) fun u40 M => ?_
   replace M := M.nf
   refine nT <| sR ?_
   refine pA M 90 11 16 (nF (yDA q)) ?_
   refine pA M 91 12 16 (nF (yCB q)) ?_
   refine pC M 92 42 #[.agg (av 16 (nF (yDA q))), .agg (av 16 (nF (yCB q)))] (.agg (av 16 (nF (yT q)))) (fun w M => l_sub (Mon.pmod _) (Mon.pmod _) w) fun u41 M => ?_
   refine pN M 22 (.cells (av 16 (w64 (fun _ => 0))) 88) fun g15 u42 M => ?_
   replace M := M.nf
   refine ZG M 14 16 (nF (yT q)) fun u43 M => ?_
   replace M := M.nf
   refine nT <| wp_seq ?_
   refine rg_tail M 5 (by kernel_rfl) (by kernel_rfl) ?_
   simp only [List.take_succ_cons, List.take_zero]
   refine kA M 93 1 16 (nF x1) ?_
   refine kA M 94 14 16 (nF (yT q)) ?_
   refine kA M 95 14 16 (nF (yT q)) ?_
   refine kC M 96 41 #[.agg (av 16 (nF (yT q))), .agg (av 16 (nF (yT q)))] (.agg (av 16 (nF (yTT q)))) (fun w M => l_mul (Mon.pmod _) (Mon.pmod _) w) ?_
   refine kC M 97 41 #[.agg (av 16 (nF x1)), .agg (av 16 (nF (yTT q)))] (.agg (av 16 (nF (yZ3 q x1)))) (fun w M => l_mul hX (Mon.pmod _) w) ?_
   refine kl_nil fun u44 M => ?_
   replace M := M.nf
   refine ZG M 5 16 (nF (yZ3 q x1)) fun u45 M => ?_
   replace M := M.nf
   refine nT <| sR ?_
   refine pA M 98 7 16 (nF (yAA q)) ?_
   refine pA M 99 9 16 (nF (yDD q)) ?_
   refine pC M 100 41 #[.agg (av 16 (nF (yAA q))), .agg (av 16 (nF (yDD q)))] (.agg (av 16 (nF (yX2 q)))) (fun w M => l_mul (Mon.pmod _) (Mon.pmod _) w) fun u46 M => ?_
   refine ZG M 2 16 (nF (yX2 q)) fun u47 M => ?_
   replace M := M.nf
   refine nT <| wp_seq ?_
   refine rg_tail M 7 (by kernel_rfl) (by kernel_rfl) ?_
   simp only [List.take_succ_cons, List.take_zero]
   refine kA M 101 10 16 (nF (yE q)) ?_
   refine kA M 102 7 16 (nF (yAA q)) ?_
   refine kC M 103 39 #[.int .u32 121665] (.agg (av 16 (nF 121665))) (fun w M => l_small 121665 w (by decide) (by decide)) ?_
   refine kA M 104 10 16 (nF (yE q)) ?_
   refine kC M 105 41 #[.agg (av 16 (nF 121665)), .agg (av 16 (nF (yE q)))] (.agg (av 16 (nF (yF q)))) (fun w M => l_mul ⟨by decide, by decide⟩ (Mon.pmod _) w) ?_
   refine kC M 106 40 #[.agg (av 16 (nF (yAA q))), .agg (av 16 (nF (yF q)))] (.agg (av 16 (nF (yG q)))) (fun w M => l_add (Mon.pmod _) (Mon.pmod _) w) ?_
   refine kC M 107 41 #[.agg (av 16 (nF (yE q))), .agg (av 16 (nF (yG q)))] (.agg (av 16 (nF (yZ2 q)))) (fun w M => l_mul (Mon.pmod _) (Mon.pmod _) w) ?_
   refine kl_nil fun u48 M => ?_
   replace M := M.nf
   refine ZG M 3 16 (nF (yZ2 q)) fun u49 M => ?_
   replace M := M.nf
   refine nT <| sq <| cF <| wp_skip ?_
   refine au_block ?_
   refine au_then ?_
   refine rg_lit ?_
   refine rV 1 ?_
   refine ZI 43 ((p : Int) - 1) (254 - ((j + 1 : Nat) : Int)) ?_
   refine rV 1 <| nT ?_
   have e0 : Mon.rladF K x1 (j + 1) = ⟨(yX2 q), (yZ2 q), (yX3 q), (yZ3 q x1)⟩ := by
    show (if Mon.bit K (254 - j) = 0 then _ else _) = _
    rw [hp, if_pos c0, hqe]
    rfl
   exact ⟨fun k_ => ([.bool false, .pointer (some ⟨g7, 0, none⟩), .pointer (some ⟨g8, 0, none⟩), .pointer (some ⟨g9, 0, none⟩), .pointer (some ⟨g10, 0, none⟩), .pointer (some ⟨g11, 0, none⟩), .pointer (some ⟨g12, 0, none⟩), .pointer (some ⟨g13, 0, none⟩), .pointer (some ⟨g14, 0, none⟩), .pointer (some ⟨g15, 0, none⟩), undef, undef, undef, undef, undef, undef, undef, undef, undef, undef, undef, undef, undef, undef, undef, undef, undef, .int .i64 (p : Int), .bool true, .int .i64 (p : Int), .int .i64 (254 - ((j + 1 : Nat) : Int)), .string K, .int .i64 (p : Int), .int .i64 ((p / 8 : Nat) : Int), .int .u8 (bt K (p / 8)), .int .i64 (p : Int), .int .i64 ((p % 8 : Nat) : Int), .int .u64 ((p % 8 : Nat) : Int), .int .u8 (bt K (p / 8) / 2 ^ (p % 8)), .int .u8 (bits .and .u8 (bt K (p / 8) / 2 ^ (p % 8)) 1), .bool false, .bool false, v1 55, v1 56, v1 57, v1 58, .agg (av 16 (nF q.x2)), .agg (av 16 (nF q.z2)), .agg (av 16 (nF (yA q))), .agg (av 16 (nF (yA q))), .agg (av 16 (nF (yA q))), .agg (av 16 (nF (yAA q))), .agg (av 16 (nF q.x2)), .agg (av 16 (nF q.z2)), .agg (av 16 (nF (yD q))), .agg (av 16 (nF (yD q))), .agg (av 16 (nF (yD q))), .agg (av 16 (nF (yDD q))), .agg (av 16 (nF (yAA q))), .agg (av 16 (nF (yDD q))), .agg (av 16 (nF (yE q))), .agg (av 16 (nF q.x3)), .agg (av 16 (nF q.z3)), .agg (av 16 (nF (yU q))), .agg (av 16 (nF (yA q))), .agg (av 16 (nF (yDA q))), .agg (av 16 (nF q.x3)), .agg (av 16 (nF q.z3)), .agg (av 16 (nF (yV q))), .agg (av 16 (nF (yD q))), .agg (av 16 (nF (yCB q))), .agg (av 16 (nF (yDA q))), .agg (av 16 (nF (yCB q))), .agg (av 16 (nF (yS q))), .agg (av 16 (nF (yS q))), .agg (av 16 (nF (yS q))), .agg (av 16 (nF (yX3 q))), .agg (av 16 (nF (yDA q))), .agg (av 16 (nF (yCB q))), .agg (av 16 (nF (yT q))), .agg (av 16 (nF x1)), .agg (av 16 (nF (yT q))), .agg (av 16 (nF (yT q))), .agg (av 16 (nF (yTT q))), .agg (av 16 (nF (yZ3 q x1))), .agg (av 16 (nF (yAA q))), .agg (av 16 (nF (yDD q))), .agg (av 16 (nF (yX2 q))), .agg (av 16 (nF (yE q))), .agg (av 16 (nF (yAA q))), .agg (av 16 (nF 121665)), .agg (av 16 (nF (yE q))), .agg (av 16 (nF (yF q))), .agg (av 16 (nF (yG q))), .agg (av 16 (nF (yZ2 q))), .bool false, v1 109, v1 110, v1 111, v1 112] : List Value).getD (k_ - 13) undef, by kernel_rfl, (by rw [e0]; exact M.drop (.cons_cons _ (.cons_cons _ (.cons_cons _ (.cons_cons _ (.cons_cons _ (.cons_cons _ (.cons _ (.cons _ (.cons _ (.cons _ (.cons _ (.cons _ (.cons _ (.cons _ (.cons _ (.slnil)))))))))))))))))⟩
  ·refine pH 53 (.bool true) (fun w => Eq.trans (b := .ok (.value (.bool (decide (bits .and .u8 (bt K (p / 8) / 2 ^ (p % 8)) 1 = 1)))) w) (by kernel_rfl) (by rw [bit_eq, decide_eq_true (by have := Mon.bit_two K p; omega)])) ?_
   refine rV 1 <| nT <| wp_seq <| sq <| cT ?_
   refine sR ?_
   refine pA M 55 4 16 (nF q.x3) ?_
   refine pA M 56 2 16 (nF q.x2) ?_
   refine ZG M 2 16 (nF q.x3) fun u17 M => ?_
   replace M := M.nf
   refine ZG M 4 16 (nF q.x2) fun u18 M => ?_
   replace M := M.nf
   refine nT ?_
   refine rg_lit ?_
   refine pA M 57 5 16 (nF q.z3) ?_
   refine pA M 58 3 16 (nF q.z2) ?_
   refine ZG M 3 16 (nF q.z3) fun u19 M => ?_
   replace M := M.nf
   refine ZG M 5 16 (nF q.z2) fun u20 M => ?_
   replace M := M.nf
   refine nT <| sR ?_
   refine pA M 59 2 16 (nF q.x3) ?_
   refine pA M 60 3 16 (nF q.z3) ?_
   refine pC M 61 40 #[.agg (av 16 (nF q.x3)), .agg (av 16 (nF q.z3))] (.agg (av 16 (nF (yA q.swap)))) (fun w M => l_add hq.x3 hq.z3 w) fun u21 M => ?_
   refine pN M 14 (.cells (av 16 (w64 (fun _ => 0))) 88) fun g7 u22 M => ?_
   replace M := M.nf
   refine ZG M 6 16 (nF (yA q.swap)) fun u23 M => ?_
   replace M := M.nf
   refine nT <| sR ?_
   refine pA M 62 6 16 (nF (yA q.swap)) ?_
   refine pA M 63 6 16 (nF (yA q.swap)) ?_
   refine pC M 64 41 #[.agg (av 16 (nF (yA q.swap))), .agg (av 16 (nF (yA q.swap)))] (.agg (av 16 (nF (yAA q.swap)))) (fun w M => l_mul (Mon.pmod _) (Mon.pmod _) w) fun u24 M => ?_
   refine pN M 15 (.cells (av 16 (w64 (fun _ => 0))) 88) fun g8 u25 M => ?_
   replace M := M.nf
   refine ZG M 7 16 (nF (yAA q.swap)) fun u26 M => ?_
   replace M := M.nf
   refine nT <| sR ?_
   refine pA M 65 2 16 (nF q.x3) ?_
   refine pA M 66 3 16 (nF q.z3) ?_
   refine pC M 67 42 #[.agg (av 16 (nF q.x3)), .agg (av 16 (nF q.z3))] (.agg (av 16 (nF (yD q.swap)))) (fun w M => l_sub hq.x3 hq.z3 w) fun u27 M => ?_
   refine pN M 16 (.cells (av 16 (w64 (fun _ => 0))) 88) fun g9 u28 M => ?_
   replace M := M.nf
   refine ZG M 8 16 (nF (yD q.swap)) fun u29 M => ?_
   replace M := M.nf
   refine nT <| sR ?_
   refine pA M 68 8 16 (nF (yD q.swap)) ?_
   refine pA M 69 8 16 (nF (yD q.swap)) ?_
   refine pC M 70 41 #[.agg (av 16 (nF (yD q.swap))), .agg (av 16 (nF (yD q.swap)))] (.agg (av 16 (nF (yDD q.swap)))) (fun w M => l_mul (Mon.pmod _) (Mon.pmod _) w) fun u30 M => ?_
   refine pN M 17 (.cells (av 16 (w64 (fun _ => 0))) 88) fun g10 u31 M => ?_
   replace M := M.nf
   refine ZG M 9 16 (nF (yDD q.swap)) fun u32 M => ?_
   replace M := M.nf
   refine nT <| sR ?_
   refine pA M 71 7 16 (nF (yAA q.swap)) ?_
   refine pA M 72 9 16 (nF (yDD q.swap)) ?_
   refine pC M 73 42 #[.agg (av 16 (nF (yAA q.swap))), .agg (av 16 (nF (yDD q.swap)))] (.agg (av 16 (nF (yE q.swap)))) (fun w M => l_sub (Mon.pmod _) (Mon.pmod _) w) fun u33 M => ?_
   refine pN M 18 (.cells (av 16 (w64 (fun _ => 0))) 88) fun g11 u34 M => ?_
   replace M := M.nf
   refine ZG M 10 16 (nF (yE q.swap)) fun u35 M => ?_
   replace M := M.nf
   refine nT <| wp_seq ?_
   refine rg_allocs M 5 [(19, fun g => .pointer (some ⟨g, 0, none⟩), .cells (av 16 (w64 (fun _ => 0))) 88)] (by kernel_rfl) (by kernel_rfl) (⟨rfl, rfl, fun _ _ => by kernel_rfl, trivial⟩) (by decide) ?_
   simp only [List.take_succ_cons, List.take_zero]
   refine kA M 74 4 16 (nF q.x2) ?_
   refine kA M 75 5 16 (nF q.z2) ?_
   refine kC M 76 42 #[.agg (av 16 (nF q.x2)), .agg (av 16 (nF q.z2))] (.agg (av 16 (nF (yU q.swap)))) (fun w M => l_sub hq.x2 hq.z2 w) ?_
   refine kA M 77 6 16 (nF (yA q.swap)) ?_
   refine kC M 78 41 #[.agg (av 16 (nF (yU q.swap))), .agg (av 16 (nF (yA q.swap)))] (.agg (av 16 (nF (yDA q.swap)))) (fun w M => l_mul (Mon.pmod _) (Mon.pmod _) w) ?_
   refine kl_nil fun u36 g12 M => ?_
   replace M := M.nf
   refine ZG M 11 16 (nF (yDA q.swap)) fun u37 M => ?_
   replace M := M.nf
   refine nT <| wp_seq ?_
   refine rg_allocs M 5 [(20, fun g => .pointer (some ⟨g, 0, none⟩), .cells (av 16 (w64 (fun _ => 0))) 88)] (by kernel_rfl) (by kernel_rfl) (⟨rfl, rfl, fun _ _ => by kernel_rfl, trivial⟩) (by decide) ?_
   simp only [List.take_succ_cons, List.take_zero]
   refine kA M 79 4 16 (nF q.x2) ?_
   refine kA M 80 5 16 (nF q.z2) ?_
   refine kC M 81 40 #[.agg (av 16 (nF q.x2)), .agg (av 16 (nF q.z2))] (.agg (av 16 (nF (yV q.swap)))) (fun w M => l_add hq.x2 hq.z2 w) ?_
   refine kA M 82 8 16 (nF (yD q.swap)) ?_
   refine kC M 83 41 #[.agg (av 16 (nF (yV q.swap))), .agg (av 16 (nF (yD q.swap)))] (.agg (av 16 (nF (yCB q.swap)))) (fun w M => l_mul (Mon.pmod _) (Mon.pmod _) w) ?_
   refine kl_nil fun u38 g13 M => ?_
   replace M := M.nf
   refine ZG M 12 16 (nF (yCB q.swap)) fun u39 M => ?_
   replace M := M.nf
   refine nT <| sR ?_
   refine pA M 84 11 16 (nF (yDA q.swap)) ?_
   refine pA M 85 12 16 (nF (yCB q.swap)) ?_
   refine pC M 86 40 #[.agg (av 16 (nF (yDA q.swap))), .agg (av 16 (nF (yCB q.swap)))] (.agg (av 16 (nF (yS q.swap)))) (fun w M => l_add (Mon.pmod _) (Mon.pmod _) w) fun u40 M => ?_
   refine pN M 21 (.cells (av 16 (w64 (fun _ => 0))) 88) fun g14 u41 M => ?_
   replace M := M.nf
   refine ZG M 13 16 (nF (yS q.swap)) fun u42 M => ?_
   replace M := M.nf
   refine nT <| sR ?_
   refine pA M 87 13 16 (nF (yS q.swap)) ?_
   refine pA M 88 13 16 (nF (yS q.swap)) ?_
   refine pC M 89 41 #[.agg (av 16 (nF (yS q.swap))), .agg (av 16 (nF (yS q.swap)))] (.agg (av 16 (nF (yX3 q.swap)))) (fun w M => l_mul (Mon.pmod _) (Mon.pmod _) w) fun u43 M => ?_
   refine ZG M 4 16 (nF (yX3 q.swap)) fun u44 M => ?_
   replace M := M.nf
   refine nT <| sR ?_
   refine pA M 90 11 16 (nF (yDA q.swap)) ?_
   refine pA M 91 12 16 (nF (yCB q.swap)) ?_
   refine pC M 92 42 #[.agg (av 16 (nF (yDA q.swap))), .agg (av 16 (nF (yCB q.swap)))] (.agg (av 16 (nF (yT q.swap)))) (fun w M => l_sub (Mon.pmod _) (Mon.pmod _) w) fun u45 M => ?_
   refine pN M 22 (.cells (av 16 (w64 (fun _ => 0))) 88) fun g15 u46 M => ?_
   replace M := M.nf
   refine ZG M 14 16 (nF (yT q.swap)) fun u47 M => ?_
   replace M := M.nf
   refine nT <| wp_seq ?_
   refine rg_tail M 5 (by kernel_rfl) (by kernel_rfl) ?_
   simp only [List.take_succ_cons, List.take_zero]
   refine kA M 93 1 16 (nF x1) ?_
   refine kA M 94 14 16 (nF (yT q.swap)) ?_
   refine kA M 95 14 16 (nF (yT q.swap)) ?_
   refine kC M 96 41 #[.agg (av 16 (nF (yT q.swap))), .agg (av 16 (nF (yT q.swap)))] (.agg (av 16 (nF (yTT q.swap)))) (fun w M => l_mul (Mon.pmod _) (Mon.pmod _) w) ?_
   refine kC M 97 41 #[.agg (av 16 (nF x1)), .agg (av 16 (nF (yTT q.swap)))] (.agg (av 16 (nF (yZ3 q.swap x1)))) (fun w M => l_mul hX (Mon.pmod _) w) ?_
   refine kl_nil fun u48 M => ?_
   replace M := M.nf
   refine ZG M 5 16 (nF (yZ3 q.swap x1)) fun u49 M => ?_
   replace M := M.nf
   refine nT <| sR ?_
   refine pA M 98 7 16 (nF (yAA q.swap)) ?_
   refine pA M 99 9 16 (nF (yDD q.swap)) ?_
   refine pC M 100 41 #[.agg (av 16 (nF (yAA q.swap))), .agg (av 16 (nF (yDD q.swap)))] (.agg (av 16 (nF (yX2 q.swap)))) (fun w M => l_mul (Mon.pmod _) (Mon.pmod _) w) fun u50 M => ?_
   refine ZG M 2 16 (nF (yX2 q.swap)) fun u51 M => ?_
   replace M := M.nf
   refine nT <| wp_seq ?_
   refine rg_tail M 7 (by kernel_rfl) (by kernel_rfl) ?_
   simp only [List.take_succ_cons, List.take_zero]
   refine kA M 101 10 16 (nF (yE q.swap)) ?_
   refine kA M 102 7 16 (nF (yAA q.swap)) ?_
   refine kC M 103 39 #[.int .u32 121665] (.agg (av 16 (nF 121665))) (fun w M => l_small 121665 w (by decide) (by decide)) ?_
   refine kA M 104 10 16 (nF (yE q.swap)) ?_
   refine kC M 105 41 #[.agg (av 16 (nF 121665)), .agg (av 16 (nF (yE q.swap)))] (.agg (av 16 (nF (yF q.swap)))) (fun w M => l_mul ⟨by decide, by decide⟩ (Mon.pmod _) w) ?_
   refine kC M 106 40 #[.agg (av 16 (nF (yAA q.swap))), .agg (av 16 (nF (yF q.swap)))] (.agg (av 16 (nF (yG q.swap)))) (fun w M => l_add (Mon.pmod _) (Mon.pmod _) w) ?_
   refine kC M 107 41 #[.agg (av 16 (nF (yE q.swap))), .agg (av 16 (nF (yG q.swap)))] (.agg (av 16 (nF (yZ2 q.swap)))) (fun w M => l_mul (Mon.pmod _) (Mon.pmod _) w) ?_
   refine kl_nil fun u52 M => ?_
   replace M := M.nf
   refine ZG M 3 16 (nF (yZ2 q.swap)) fun u53 M => ?_
   replace M := M.nf
   refine nT <| sq <| cT <| sR ?_
   refine pA M 109 4 16 (nF (yX3 q.swap)) ?_
   refine pA M 110 2 16 (nF (yX2 q.swap)) ?_
   refine ZG M 2 16 (nF (yX3 q.swap)) fun u54 M => ?_
   replace M := M.nf
   refine ZG M 4 16 (nF (yX2 q.swap)) fun u55 M => ?_
   replace M := M.nf
   refine nT ?_
   refine rg_lit ?_
   refine pA M 111 5 16 (nF (yZ3 q.swap x1)) ?_
   refine pA M 112 3 16 (nF (yZ2 q.swap)) ?_
   refine ZG M 3 16 (nF (yZ3 q.swap x1)) fun u56 M => ?_
   replace M := M.nf
   refine ZG M 5 16 (nF (yZ2 q.swap)) fun u57 M => ?_
   replace M := M.nf
   refine pl_nil ?_
   refine au_block ?_
   refine au_then ?_
   refine rg_lit ?_
   refine rV 1 ?_
   refine ZI 43 ((p : Int) - 1) (254 - ((j + 1 : Nat) : Int)) ?_
   refine rV 1 <| nT ?_
   have e0 : Mon.rladF K x1 (j + 1) = ⟨(yX3 q.swap), (yZ3 q.swap x1), (yX2 q.swap), (yZ2 q.swap)⟩ := by
    show (if Mon.bit K (254 - j) = 0 then _ else _) = _
    rw [hp, if_neg c0, hqe]
    rfl
   exact ⟨fun k_ => ([.bool true, .pointer (some ⟨g7, 0, none⟩), .pointer (some ⟨g8, 0, none⟩), .pointer (some ⟨g9, 0, none⟩), .pointer (some ⟨g10, 0, none⟩), .pointer (some ⟨g11, 0, none⟩), .pointer (some ⟨g12, 0, none⟩), .pointer (some ⟨g13, 0, none⟩), .pointer (some ⟨g14, 0, none⟩), .pointer (some ⟨g15, 0, none⟩), undef, undef, undef, undef, undef, undef, undef, undef, undef, undef, undef, undef, undef, undef, undef, undef, undef, .int .i64 (p : Int), .bool true, .int .i64 (p : Int), .int .i64 (254 - ((j + 1 : Nat) : Int)), .string K, .int .i64 (p : Int), .int .i64 ((p / 8 : Nat) : Int), .int .u8 (bt K (p / 8)), .int .i64 (p : Int), .int .i64 ((p % 8 : Nat) : Int), .int .u64 ((p % 8 : Nat) : Int), .int .u8 (bt K (p / 8) / 2 ^ (p % 8)), .int .u8 (bits .and .u8 (bt K (p / 8) / 2 ^ (p % 8)) 1), .bool true, .bool true, .agg (av 16 (nF q.x3)), .agg (av 16 (nF q.x2)), .agg (av 16 (nF q.z3)), .agg (av 16 (nF q.z2)), .agg (av 16 (nF q.x3)), .agg (av 16 (nF q.z3)), .agg (av 16 (nF (yA q.swap))), .agg (av 16 (nF (yA q.swap))), .agg (av 16 (nF (yA q.swap))), .agg (av 16 (nF (yAA q.swap))), .agg (av 16 (nF q.x3)), .agg (av 16 (nF q.z3)), .agg (av 16 (nF (yD q.swap))), .agg (av 16 (nF (yD q.swap))), .agg (av 16 (nF (yD q.swap))), .agg (av 16 (nF (yDD q.swap))), .agg (av 16 (nF (yAA q.swap))), .agg (av 16 (nF (yDD q.swap))), .agg (av 16 (nF (yE q.swap))), .agg (av 16 (nF q.x2)), .agg (av 16 (nF q.z2)), .agg (av 16 (nF (yU q.swap))), .agg (av 16 (nF (yA q.swap))), .agg (av 16 (nF (yDA q.swap))), .agg (av 16 (nF q.x2)), .agg (av 16 (nF q.z2)), .agg (av 16 (nF (yV q.swap))), .agg (av 16 (nF (yD q.swap))), .agg (av 16 (nF (yCB q.swap))), .agg (av 16 (nF (yDA q.swap))), .agg (av 16 (nF (yCB q.swap))), .agg (av 16 (nF (yS q.swap))), .agg (av 16 (nF (yS q.swap))), .agg (av 16 (nF (yS q.swap))), .agg (av 16 (nF (yX3 q.swap))), .agg (av 16 (nF (yDA q.swap))), .agg (av 16 (nF (yCB q.swap))), .agg (av 16 (nF (yT q.swap))), .agg (av 16 (nF x1)), .agg (av 16 (nF (yT q.swap))), .agg (av 16 (nF (yT q.swap))), .agg (av 16 (nF (yTT q.swap))), .agg (av 16 (nF (yZ3 q.swap x1))), .agg (av 16 (nF (yAA q.swap))), .agg (av 16 (nF (yDD q.swap))), .agg (av 16 (nF (yX2 q.swap))), .agg (av 16 (nF (yE q.swap))), .agg (av 16 (nF (yAA q.swap))), .agg (av 16 (nF 121665)), .agg (av 16 (nF (yE q.swap))), .agg (av 16 (nF (yF q.swap))), .agg (av 16 (nF (yG q.swap))), .agg (av 16 (nF (yZ2 q.swap))), .bool true, .agg (av 16 (nF (yX3 q.swap))), .agg (av 16 (nF (yX2 q.swap))), .agg (av 16 (nF (yZ3 q.swap x1))), .agg (av 16 (nF (yZ2 q.swap)))] : List Value).getD (k_ - 13) undef, by kernel_rfl, (by rw [e0]; exact M.drop (.cons_cons _ (.cons_cons _ (.cons_cons _ (.cons_cons _ (.cons_cons _ (.cons_cons _ (.cons _ (.cons _ (.cons _ (.cons _ (.cons _ (.cons _ (.cons _ (.cons _ (.cons _ (.slnil)))))))))))))))))⟩
 ·intro a u0 hI
  obtain ⟨v1, rfl, M⟩ := hI
  refine wp_seq <| sR <| rV 1 ?_
  refine ZF 41 ((0 : Int) ≤ (254 - ((255 : Nat) : Int))) ?_
  refine nT <| cF ?_
  refine wp_exit ?_
  refine au_then_exit ?_
  refine au_then_exit ?_
  refine au_block_exit ?_
  refine au_then <| wp_seq ?_
  refine rg_tail M 5 (by kernel_rfl) (by kernel_rfl) ?_
  simp only [List.take_succ_cons, List.take_zero]
  refine kA M 113 2 16 (nF (Mon.rladF K x1 255).x2) ?_
  refine kA M 114 3 16 (nF (Mon.rladF K x1 255).z2) ?_
  refine kC M 115 43 #[.agg (av 16 (nF (Mon.rladF K x1 255).z2))] (.agg (av 16 (nF (Mon.pwm (Mon.rladF K x1 255).z2 (Mon.xbit 255 21) 255)))) (fun w M => l_inv (Mon.rladF_ok K hX 255).z2 w) ?_
  refine kC M 116 41 #[.agg (av 16 (nF (Mon.rladF K x1 255).x2)), .agg (av 16 (nF (Mon.pwm (Mon.rladF K x1 255).z2 (Mon.xbit 255 21) 255)))] (.agg (av 16 (nF ((Mon.rladF K x1 255).x2 * (Mon.pwm (Mon.rladF K x1 255).z2 (Mon.xbit 255 21) 255) % Mon.Pm)))) (fun w M => l_mul (Mon.rladF_ok K hX 255).x2 (Mon.pwm_bd _ _ _) w) ?_
  refine kC M 117 44 #[.agg (av 16 (nF ((Mon.rladF K x1 255).x2 * (Mon.pwm (Mon.rladF K x1 255).z2 (Mon.xbit 255 21) 255) % Mon.Pm)))] (.string (Mon.bs (Mon.rb (Mon.d16 ((Mon.rladF K x1 255).x2 * (Mon.pwm (Mon.rladF K x1 255).z2 (Mon.xbit 255 21) 255) % Mon.Pm)) 32))) (fun w M => l_bytes ((Mon.rladF K x1 255).x2 * (Mon.pwm (Mon.rladF K x1 255).z2 (Mon.xbit 255 21) 255) % Mon.Pm) w) ?_
  refine kl_nil fun u17 M => ?_
  replace M := M.nf
  refine rV 1 <| nT <| wp_ret ?_
  exact b1 M
end Go.Proofs.YtffimigpbcilbaaGreatDoor
namespace Go.Proofs.YtffimigpbcilbaaGreatDoor.Mon
open Go.RowKit
theorem rladL (s p : ByteArray) (w : World) (hL : Laid w) (V : Int) (hs : s.size = 32) (hp : p.size = 32) (hV : shV (clS s) (val (mkS p) % Pm) = V) : Cs 20 #[.string s, .string p] w (.string (lebytes V)) := by
 have h := l_ladder s p (clS s) (val (mkS p) % Pm) hs hp rfl rfl w hL
 have e : lebytes V = bs (rb (d16 ((rladF (clS s) (val (mkS p) % Pm) 255).x2 * pwm (rladF (clS s) (val (mkS p) % Pm) 255).z2 (xbit 255 21) 255 % Pm)) 32) := by
  rw [← hV]
  exact leb_rb (shV_bd _ _)
 rwa [← e] at h
theorem rpub_genL (s S : ByteArray) (w : World) (hL : Laid w) (hs : s.size = 32) (H : ∀ w, Laid w → Cs 20 #[.string s, .string nineS] w (.string S)) : Cs 9 #[.string s] w (.tuple #[.string S, .int .i64 0]) := by
 have n1 : ((s.size : Int) != 32) = false := by simp [hs]
 clear hs
 have H1 := hide H
 clear H
 have m1 := mk32 w
 have B := bc32 w
 have c0 := B.c 0 (by omega)
 have f0 := B.fz 0 (by omega)
 have gl := B.lt
 have hbk := conv_back (B.set (k := 0) (by omega) 9) 32 (fun i _ => by unfold upd; by_cases h : i = 0 <;> simp [h])
 rw [nine_bs] at hbk
 have O := hide ((new_below w (.cells #[Value.int IntKind.u8 0, Value.int IntKind.u8 0, Value.int IntKind.u8 0, Value.int IntKind.u8 0, Value.int IntKind.u8 0, Value.int IntKind.u8 0, Value.int IntKind.u8 0, Value.int IntKind.u8 0, Value.int IntKind.u8 0, Value.int IntKind.u8 0, Value.int IntKind.u8 0, Value.int IntKind.u8 0, Value.int IntKind.u8 0, Value.int IntKind.u8 0, Value.int IntKind.u8 0, Value.int IntKind.u8 0, Value.int IntKind.u8 0, Value.int IntKind.u8 0, Value.int IntKind.u8 0, Value.int IntKind.u8 0, Value.int IntKind.u8 0, Value.int IntKind.u8 0, Value.int IntKind.u8 0, Value.int IntKind.u8 0, Value.int IntKind.u8 0, Value.int IntKind.u8 0, Value.int IntKind.u8 0, Value.int IntKind.u8 0, Value.int IntKind.u8 0, Value.int IntKind.u8 0, Value.int IntKind.u8 0, Value.int IntKind.u8 0] 5)).setCell (p := ⟨w.heap.size, 0, none⟩) (Nat.le_refl _) (.int .u8 9))
 clear B
 generalize nineS = N at *
 generalize w.alloc (.cells #[Value.int IntKind.u8 0, Value.int IntKind.u8 0, Value.int IntKind.u8 0, Value.int IntKind.u8 0, Value.int IntKind.u8 0, Value.int IntKind.u8 0, Value.int IntKind.u8 0, Value.int IntKind.u8 0, Value.int IntKind.u8 0, Value.int IntKind.u8 0, Value.int IntKind.u8 0, Value.int IntKind.u8 0, Value.int IntKind.u8 0, Value.int IntKind.u8 0, Value.int IntKind.u8 0, Value.int IntKind.u8 0, Value.int IntKind.u8 0, Value.int IntKind.u8 0, Value.int IntKind.u8 0, Value.int IntKind.u8 0, Value.int IntKind.u8 0, Value.int IntKind.u8 0, Value.int IntKind.u8 0, Value.int IntKind.u8 0, Value.int IntKind.u8 0, Value.int IntKind.u8 0, Value.int IntKind.u8 0, Value.int IntKind.u8 0, Value.int IntKind.u8 0, Value.int IntKind.u8 0, Value.int IntKind.u8 0, Value.int IntKind.u8 0] 5) = W1 at *
 go_enter Tryz.func9, Tryz.ntmps9
 go_wp2_with fail
 refine (H1.out _ (below_laid O.out hL)).mono ?_
 rintro _ w3 ⟨rfl, hb⟩
 have O2 := O.out.trans (hb.mono O.out.size)
 clear hb H1
 go_wp2_with fail
 exact bodyPost_ret (v := .tuple #[.string S, .int .i64 0]) (by simp [results, Tryz.results9, go_sem]) rfl ⟨rfl, O2⟩
theorem rpubL (s : ByteArray) (w : World) (hL : Laid w) (hs : s.size = 32) : Cs 9 #[.string s] w (.tuple #[.string (lebytes (shV (clS s) 9)), .int .i64 0]) :=
 rpub_genL s _ w hL hs fun w hL => rladL s nineS w hL _ hs nineS_size (by rw [v9])
end Go.Proofs.YtffimigpbcilbaaGreatDoor.Mon
